import PyProof.Rows.All
import Wide.All
import OpenK.AllK
import Wide.FinOn
import HandS.ForMost
import HandS.Flow
import HandS.IsInst
import HandS.Conv
import HandS.Style
import HandS.TupLe
import HandS.TupMul
import HandS.TupAny
import HandS.NoneIn
import HandS.Evl
import KE.IntBitsLaws
import HandS.WideBits
import HandS.SortKw
import HandS.Zip
import KE.DatumOrd
import KE.GoesNew
import HandS.Deep
import HandS.Strs
import KE.DataCmp
import KE.SortData
import PyProof.WalkInts
import HandS.SetFor
import KE.KStateDown
import HandS.Defaults
import HandS.Head0
import HandS.Head1
import HandS.Head2
import HandS.HeadEnd
import HandS.HeadHook1
import HandS.HeadHook2
import PySem.Challenge.RW_eighthturns_k01_whole_rays_by_worths_rou
set_option Elab.async false
section
set_option Elab.async false
set_option linter.all false
set_option maxRecDepth 100000
set_option maxHeartbeats 4000000
namespace L2
open PySem PySem.Spec PyProof.Rows
theorem tuple_mul1 (l : Addr) (items : Array Value) (n : Nat) (dd : Option Addr) (sl : Array (Option Value)) (u : Tok) :
    Meets (Builtin.«tuple.__mul__» ⟨[.ref l, .int 1 u], []⟩) (fun _ R s => s.heap.get? l = some { cls := .type "tuple", dict := dd, data := .seq items n, slots := sl } ∧ R (.ok (.ret (Value.ref l))) s) :=
  .of_wp fun prog w A R s h => by
    obtain ⟨hp, g, d, tk, os⟩ := s
    obtain ⟨hl, h⟩ := h
    have f1 := AutoSeq1.idx_int
    have c1 : (items.isEmpty || (1 : Int) == 1) = true := by simp
    wp_walk using wpAny_loadPart' hl
    exact ⟨_, rfl, h⟩
theorem tuple_mul0 (l : Addr) (items : Array Value) (n : Nat) (dd : Option Addr) (sl : Array (Option Value)) (u : Tok) (hi : items.isEmpty = false) :
    Meets (Builtin.«tuple.__mul__» ⟨[.ref l, .int 0 u], []⟩) (fun _ R s => s.heap.get? l = some { cls := .type "tuple", dict := dd, data := .seq items n, slots := sl } ∧
      R (.ok (.ret (Value.ref s.heap.objs.size))) { s with heap := s.heap.push { cls := Value.type "tuple", data := Data.seq #[] }, toks := s.toks }) :=
  .of_wp fun prog w A R s h => by
    obtain ⟨hp, g, d, tk, os⟩ := s
    obtain ⟨hl, h⟩ := h
    have f1 := AutoSeq1.idx_int
    wp_walk using wpAny_loadPart' hl
    exact ⟨_, rfl, h⟩
end L2
namespace Pd
open PySem PySem.Spec PyProof.Rows L2 Evl
/-! tuples that are made with no dict of their own: rules that tell so -/
section
variable {X : Cx} {es : List Expr} {t : TA} {pos : Pos}
def tTupN (t : TA) : TE := fun σ H Q => t σ H fun xs H1 => xs.length ≤ sizeLine ∧ ∀ (p : Addr) (o : Obj), H1 p = none → o.dict = none → Q (.ref p) (upd H1 p (.frz o (.tup xs)))
theorem frz_new {P : Program} {w : World} {H : Hp} {h' : Heap} {p : Addr} {xs : List V} {its : List Value} (z : xs.length ≤ sizeLine) (r : Vals xs its) (o : Obj) (e : h'.get? p = some o) (hc : o.cls = .type "tuple") (n : Nat) (hd : o.data = .seq its.toArray n) :
    ObjOk P w H h' p (.frz o (.tup xs)) := ⟨e, z, its, r, ⟨o, e, hc, n, hd⟩⟩
theorem laidT {pins : List (Addr × Obj)} {s : Shared} {σ : L2.St} {H : Hp} {Q : VK} {xs : List V} {its : List Value} (I : L2.Inv X pins σ H s) (z : xs.length ≤ sizeLine) (r : Vals xs its) (q : ∀ (p : Addr) (o : Obj), H p = none → o.dict = none → Q (.ref p) (upd H p (.frz o (.tup xs)))) :
    EP X pins σ Q (.ref s.heap.objs.size) { s with heap := s.heap.push { cls := .type "tuple", data := .seq its.toArray } } :=
  ⟨.ref s.heap.objs.size, upd H s.heap.objs.size (.frz { cls := .type "tuple", data := .seq its.toArray } (.tup xs)), I.laid (t' := s.toks) (fun b u e => Heap.get?_push_of_some _ e) (Nat.le_refl _) (frz_new z r _ (Heap.get?_push_size _ rfl) rfl _ rfl), rfl, q _ _ (I.hok.fresh (Nat.le_refl _)) rfl⟩
theorem pe_tupN {x1} (h : PA X es t) : PE X (.Tuple es x1 pos) (tTupN t) := by
  refine ⟨fun pins s σ H Q I hq => ?_⟩
  refine wpAny_Tuple_spliced (thn (h.run pos pins s σ H _ I hq) fun us s1 ⟨xs, H1, I1, r, z, q⟩ => ⟨by rw [← r.length]; exact z, ?_⟩)
  have hf : H1 s1.heap.objs.size = none := I1.hok.fresh (Nat.le_refl _)
  refine ⟨.ref s1.heap.objs.size, upd H1 s1.heap.objs.size (.frz _ (.tup xs)), I1.laid (t' := s1.toks) (fun b u e => Heap.get?_push_of_some _ e) (Nat.le_refl _) (frz_new z r _ (Heap.get?_push_size _ rfl) rfl _ rfl), rfl, q _ _ hf rfl⟩
theorem call_tuple_ofN : CallR X (.type "tuple") (fun xs H Q => ∃ p ys, xs = [.ref p] ∧ ((SqL X.K H p ys ∧ ∀ (l : Addr) (o : Obj), H l = none → o.dict = none → Q (.ref l) (upd H l (.frz o (.tup ys)))) ∨ (SqT X.K H p ys ∧ Q (.ref p) H))) := by
  intro pins s σ H xs us Q I r h
  obtain ⟨p, ys, rfl, h⟩ := h
  obtain ⟨u, rfl, rx⟩ := vals1 r
  cases rx
  rcases h with ⟨hq, q⟩ | ⟨hq, q⟩
  · obtain ⟨its, r', pl, hz⟩ := I.list hq
    have hlen := r'.length
    refine call_tuple_list pl.isList (fun h' kp => ?_) (by simp only [List.size_toArray] <;> omega)
    have I1 : Inv X pins σ H { s with heap := h' } := I.kept (t' := s.toks) kp
    have I2 : Inv X pins σ (upd H h'.objs.size (.frz { cls := .type "tuple", data := .seq its.toArray } (.tup ys))) { s with heap := h'.push { cls := .type "tuple", data := .seq its.toArray } } :=
      I1.laid (t' := s.toks) (fun b o e => Heap.get?_push_of_some _ e) (Nat.le_refl _) (frz_new hz r' _ (Heap.get?_push_size _ rfl) rfl _ rfl)
    exact ⟨.ref h'.objs.size, _, I2, rfl, q _ _ (I1.hok.fresh (Nat.le_refl _)) rfl⟩
  · obtain ⟨its, r', pl, hz⟩ := I.tuple hq
    exact call_tuple_same pl ⟨.ref p, H, I, rfl, q⟩
/-- t + u -/
def rCatN (K : PySem.W.Frag) : R2 := fun x y H Q => ∃ a b xs ys, x = .ref a ∧ y = .ref b ∧ SqT K H a xs ∧ SqT K H b ys ∧ xs.length + ys.length ≤ sizeLine ∧
  (xs = [] → Q (.ref b) H) ∧ (xs ≠ [] → ys = [] → Q (.ref a) H) ∧ (xs ≠ [] → ys ≠ [] → ∀ (p : Addr) (o : Obj), H p = none → o.dict = none → Q (.ref p) (upd H p (.frz o (.tup (xs ++ ys)))))
theorem op_catN : OpR X (binaryOp .Add) (rCatN X.K) := by
  intro pins s σ H x y v u Q I rx ry h
  obtain ⟨a, b, xs, ys, rfl, rfl, ha, hb, hz, q0, q1, q2⟩ := h
  cases rx
  cases ry
  obtain ⟨its, r1, p1, _⟩ := I.tuple ha
  obtain ⟨its2, r2, p2, _⟩ := I.tuple hb
  by_cases hx : xs = []
  · subst hx
    cases r1
    exact cat_tup0 p1 p2 ⟨.ref b, H, I, rfl, q0 rfl⟩
  · refine HT.cat_tup p1 p2 (fun z => hx (r1.nil_iff.mp z)) (fun z => ⟨.ref a, H, I, rfl, q1 hx (r2.nil_iff.mp z)⟩) (fun z => ?_) (by rw [← r1.length, ← r2.length]; exact hz)
    exact laidT I (by rw [List.length_append]; exact hz) (r1.append r2) (q2 hx fun w => z (r2.nil_iff.mpr w))
/-- t[lo:hi] -/
def rSlN (K : PySem.W.Frag) : V → Option Int → Option Int → Hp → VK → Prop := fun x lo hi H Q => ∃ a xs, x = .ref a ∧ SqT K H a xs ∧
  (HT.sIx xs.length 0 lo = 0 ∧ HT.sIx xs.length xs.length hi = xs.length → Q (.ref a) H) ∧ (¬ (HT.sIx xs.length 0 lo = 0 ∧ HT.sIx xs.length xs.length hi = xs.length) → ∀ (p : Addr) (o : Obj), H p = none → o.dict = none → Q (.ref p) (upd H p (.frz o (.tup (cutV xs lo hi)))))
theorem sl_tupN : SlR X (rSlN X.K) := by
  intro pins s σ H x v vl vu lo hi sl Q I rx hs pl pu h
  obtain ⟨a, xs, rfl, hx, q1, q2⟩ := h
  cases rx
  obtain ⟨its, r, ht, hz⟩ := I.tuple hx
  have hlen : its.toArray.size = xs.length := by rw [List.size_toArray]; exact r.length.symm
  refine ⟨"tuple", _, PyProof.Rows.slot_tuple_getitem.lookup, ht.typeIs, ?_⟩
  by_cases hw : HT.sIx xs.length 0 lo = 0 ∧ HT.sIx xs.length xs.length hi = xs.length
  · exact getItem_tuple_whole ht hs pl pu (by rw [hlen]; exact hw) ⟨.ref a, H, I, rfl, q1 hw⟩
  · refine HT.getItem_tuple_cut ht hs pl pu (by rw [hlen]; exact hw) ?_ (by rw [hlen]; exact hz)
    rw [hlen]
    exact laidT I (Nat.le_trans (cutV_length xs lo hi) hz) ((r.drop (HT.sIx xs.length 0 lo)).take (HT.sIx xs.length xs.length hi - HT.sIx xs.length 0 lo)) (q2 hw)
/-- t * k -/
def rRepN (K : PySem.W.Frag) : R2 := fun x y H Q => ∃ l k xs, x = .ref l ∧ y = .int k ∧ SqT K H l xs ∧ xs ≠ [] ∧ 0 ≤ k ∧ k ≤ 1000 ∧ xs.length ≤ 1000 ∧
  (k = 1 → Q (.ref l) H) ∧ (k ≠ 1 → ∀ (p : Addr) (o : Obj), H p = none → o.dict = none → Q (.ref p) (upd H p (.frz o (.tup (List.replicate k.toNat xs).flatten))))
theorem op_repN : OpR X (binaryOp .Mult) (rRepN X.K) := by
  intro pins s σ H x y v u Q I rx ry h
  obtain ⟨l, k, xs, rfl, rfl, hT, hne, h1, h2, hz, q1, q⟩ := h
  cases rx
  obtain ⟨t, rfl⟩ := ry
  obtain ⟨its, r, ⟨⟨cls, dd, data, sl⟩, ho, hc, n, hd⟩, hs⟩ := I.tuple hT
  simp only at hc hd
  subst hc hd
  have hle : its.length = xs.length := r.length.symm
  have hn : its ≠ [] := fun e => hne (by
    rw [e] at hle
    exact List.eq_nil_of_length_eq_zero hle.symm)
  have hi : its.toArray.isEmpty = false := by
    cases its with
    | nil => exact absurd rfl hn
    | cons a b => rfl
  have hsz0 : its.toArray.size = xs.length := by rw [List.size_toArray, hle]
  refine wpAny_binaryOp_repeat_ref (T := "tuple") (U := "int") (by decide) ⟨_, ho, rfl⟩ (fun s' => typeIs_int s' k t) noFill_tuple_mul F.fills_int_mul F.slot_int_rmul repeat_tuple F.slot_int_index.lookup
    (call_meets F.slot_int_rmul (typeIs_int s k t) F.entry_int_rmul (F.args_int_rmul_2 _ _) (int_rmul_tuple k t l its.toArray n dd sl)
      ⟨ho, rfl, ⟨_, ho, rfl⟩, ?_⟩)
  by_cases k1 : k = 1
  · subst k1
    exact call_meets F.slot_tuple_mul ⟨_, ho, rfl⟩ F.entry_tuple_mul (F.args_tuple_mul_2 _ _) (tuple_mul1 l its.toArray n dd sl t) ⟨ho, ⟨.ref l, H, I, rfl, q1 rfl⟩⟩
  by_cases k0 : k = 0
  · subst k0
    exact call_meets F.slot_tuple_mul ⟨_, ho, rfl⟩ F.entry_tuple_mul (F.args_tuple_mul_2 _ _) (tuple_mul0 l its.toArray n dd sl t hi) ⟨ho, laidT (its := []) I (Nat.zero_le _) .nil (q k1)⟩
  have hm : ((its.toArray.size : Nat) : Int) * k ≤ 1000000 := by
    rw [hsz0]
    have a1 : ((xs.length : Nat) : Int) * k ≤ 1000 * k := Int.mul_le_mul_of_nonneg_right (by omega) (by omega)
    omega
  have flen : (List.replicate k.toNat its).flatten.length ≤ sizeLine := by
    rw [PyProof.Rows.lm_len_rep_flat, hle, sizeLine_eq]
    have a1 : k.toNat * xs.length ≤ 1000 * 1000 := Nat.mul_le_mul (by omega) hz
    omega
  have c0 : (decide (k < -(2 ^ 63)) || decide (k ≥ 2 ^ 63)) = false := by
    rw [decide_eq_false (by omega), decide_eq_false (by omega)] <;> rfl
  have c1 : (its.toArray.isEmpty || k == 1) = false := by
    rw [hi, Bool.false_or]
    exact beq_eq_false_iff_ne.mpr (by omega)
  have c2 : (decide (k ≤ 0) || its.toArray.isEmpty) = false := by
    rw [hi, Bool.or_false]
    exact decide_eq_false (by omega)
  have c4 : Builtin.Tuple.tupleTooMany (((its.toArray.size : Nat) : Int) * k) = false := by
    unfold Builtin.Tuple.tupleTooMany
    rw [sizeLine_eq]
    exact decide_eq_false (by omega)
  refine call_meets F.slot_tuple_mul ⟨_, ho, rfl⟩ F.entry_tuple_mul (F.args_tuple_mul_2 _ _) (tuple_mulW l its.toArray n dd sl k t c0 c1 c2 (by omega) c4 (by rw [size_rep, List.size_toArray]; exact flen)) ⟨ho, ?_⟩
  rw [size_rep]
  exact laidT I (by rw [PyProof.Rows.lm_len_rep_flat, sizeLine_eq]; have a1 : k.toNat * xs.length ≤ 1000 * 1000 := Nat.mul_le_mul (by omega) hz; omega) (r.rep k.toNat) (q k1)
end
end Pd
end
section
set_option Elab.async false
set_option linter.all false
set_option maxRecDepth 100000
set_option maxHeartbeats 1000000
namespace Pd
open PySem PySem.Spec PyProof.Rows L2 Evl

/-- data, by value -/
inductive D where
  | non | bl (b : Bool) | int (i : Int) | str (x : Str) | tup (l : List D) | lst (l : List D) | ro (l : List D) | tw (l : List D)

/-- known to have no dict of its own -/
def NoD (K : PySem.W.Frag) (G : Hp) (a : Addr) : Prop := (∃ (o : Obj) (u : HO), G a = some (.frz o u) ∧ o.dict = none) ∨ ∃ o : Obj, K.lookup a = some o ∧ o.cls = .type "tuple" ∧ o.dict = none
def TupN (K : PySem.W.Frag) (G : Hp) (a : Addr) (vs : List V) : Prop := SqT K G a vs ∧ NoD K G a
theorem TupN.mono {K : PySem.W.Frag} {G G' : Hp} {a : Addr} {vs : List V} (e : Ex G G') (h : TupN K G a vs) : TupN K G' a vs := by
  refine ⟨ex_t e h.1, ?_⟩
  rcases h.2 with ⟨o, u, h1, h2⟩ | h
  · exact .inl ⟨o, u, e _ _ h1, h2⟩
  · exact .inr h
theorem TupN.of {K : PySem.W.Frag} {G : Hp} {a : Addr} {vs : List V} {o : Obj} (h : G a = some (.frz o (.tup vs))) (hd : o.dict = none) : TupN K G a vs := ⟨.inl (.inr ⟨o, h⟩), .inl ⟨o, _, h, hd⟩⟩
mutual
/-- what stands for a datum in a heap -/
inductive Rep (K : PySem.W.Frag) (G : Hp) : D → V → Prop
  | non : Rep K G .non .non
  | bl (b : Bool) : Rep K G (.bl b) (.bl b)
  | int (i : Int) : Rep K G (.int i) (.int i)
  | str (x : Str) : Rep K G (.str x) (.str x)
  | tup {a : Addr} {vs : List V} {ds : List D} : TupN K G a vs → Reps K G ds vs → Rep K G (.tup ds) (.ref a)
  | tw {a : Addr} {vs : List V} {ds : List D} : SqT K G a vs → Reps K G ds vs → Rep K G (.tw ds) (.ref a)
  | lst {a : Addr} {vs : List V} {ds : List D} : G a = some (.lst vs) → Reps K G ds vs → Rep K G (.lst ds) (.ref a)
  | ro {a : Addr} {vs : List V} {ds : List D} : SqL K G a vs → Reps K G ds vs → Rep K G (.ro ds) (.ref a)
inductive Reps (K : PySem.W.Frag) (G : Hp) : List D → List V → Prop
  | nil : Reps K G [] []
  | cons {d : D} {v : V} {ds : List D} {vs : List V} : Rep K G d v → Reps K G ds vs → Reps K G (d :: ds) (v :: vs)
end

section
variable {K : PySem.W.Frag} {G G' H H' F : Hp}
mutual
theorem Rep.mono (e : Ex G G') : ∀ {d : D} {v : V}, Rep K G d v → Rep K G' d v
  | _, _, .non => .non
  | _, _, .bl b => .bl b
  | _, _, .int i => .int i
  | _, _, .str x => .str x
  | _, _, .tup h r => .tup (h.mono e) (Reps.mono e r)
  | _, _, .tw h r => .tw (ex_t e h) (Reps.mono e r)
  | _, _, .lst h r => .lst (e _ _ h) (Reps.mono e r)
  | _, _, .ro h r => .ro (ex_l e h) (Reps.mono e r)
theorem Reps.mono (e : Ex G G') : ∀ {ds : List D} {vs : List V}, Reps K G ds vs → Reps K G' ds vs
  | _, _, .nil => .nil
  | _, _, .cons h r => .cons (Rep.mono e h) (Reps.mono e r)
end
theorem Reps.length : ∀ {ds : List D} {vs : List V}, Reps K G ds vs → ds.length = vs.length
  | _, _, .nil => rfl
  | _, _, .cons _ r => by simp [Reps.length r]
theorem Reps.get : ∀ {ds : List D} {vs : List V} {i : Nat} {d : D}, Reps K G ds vs → ds[i]? = some d → ∃ v, vs[i]? = some v ∧ Rep K G d v
  | _, _, _, _, .nil, e => by simp at e
  | _, _, 0, _, .cons h _, e => by simp at e; subst e; exact ⟨_, rfl, h⟩
  | _, _, i + 1, _, .cons _ r, e => by
    obtain ⟨v, h1, h2⟩ := Reps.get (i := i) r (by simpa using e)
    exact ⟨v, by simpa using h1, h2⟩
theorem Reps.back : ∀ {ds : List D} {vs : List V} {i : Nat} {v : V}, Reps K G ds vs → vs[i]? = some v → ∃ d, ds[i]? = some d ∧ Rep K G d v
  | _, _, _, _, .nil, e => by simp at e
  | _, _, 0, _, .cons h _, e => by simp at e; subst e; exact ⟨_, rfl, h⟩
  | _, _, i + 1, _, .cons _ r, e => by
    obtain ⟨v, h1, h2⟩ := Reps.back (i := i) r (by simpa using e)
    exact ⟨v, by simpa using h1, h2⟩
theorem Reps.append : ∀ {ds es : List D} {vs us : List V}, Reps K G ds vs → Reps K G es us → Reps K G (ds ++ es) (vs ++ us)
  | _, _, _, _, .nil, q => q
  | _, _, _, _, .cons h r, q => .cons h (Reps.append r q)
theorem Reps.take : ∀ {ds : List D} {vs : List V} (n : Nat), Reps K G ds vs → Reps K G (ds.take n) (vs.take n)
  | _, _, 0, _ => .nil
  | _, _, _ + 1, .nil => .nil
  | _, _, n + 1, .cons h r => .cons h (Reps.take n r)
theorem Reps.drop : ∀ {ds : List D} {vs : List V} (n : Nat), Reps K G ds vs → Reps K G (ds.drop n) (vs.drop n)
  | _, _, 0, r => r
  | _, _, _ + 1, .nil => .nil
  | _, _, n + 1, .cons _ r => Reps.drop n r
theorem Reps.reverse : ∀ {ds : List D} {vs : List V}, Reps K G ds vs → Reps K G ds.reverse vs.reverse
  | _, _, .nil => .nil
  | _, _, .cons h r => by
    rw [List.reverse_cons, List.reverse_cons]
    exact Reps.append (Reps.reverse r) (.cons h .nil)
theorem Reps.set : ∀ {ds : List D} {vs : List V} {d : D} {v : V} (i : Nat), Rep K G d v → Reps K G ds vs → Reps K G (ds.set i d) (vs.set i v)
  | _, _, _, _, _, _, .nil => .nil
  | _, _, _, _, 0, q, .cons _ r => .cons q r
  | _, _, _, _, i + 1, q, .cons h r => .cons h (Reps.set i q r)
theorem Reps.replicate {ds : List D} {vs : List V} (r : Reps K G ds vs) : ∀ n : Nat, Reps K G (List.replicate n ds).flatten (List.replicate n vs).flatten
  | 0 => .nil
  | n + 1 => by
    rw [List.replicate_succ, List.replicate_succ, List.flatten_cons, List.flatten_cons]
    exact Reps.append r (Reps.replicate r n)
end

/-! ### what a name holds; what an expression gives -/
inductive Sl where
  | none | val (d : D) | own (b : Bool) (ds : List D)
abbrev DEnv := List Sl
inductive R where
  | val (d : D) | tmp (ds : List D) | slot (i : Nat)
inductive Ctl where
  | nxt | brk | cnt | ret (r : R)
abbrev EM := DEnv → Option (R × DEnv)
abbrev TM := DEnv → Option (Bool × DEnv)
abbrev AM := DEnv → Option (List R × DEnv)
abbrev SM := DEnv → Option (Ctl × DEnv)

structure Stt (K : PySem.W.Frag) (F : Hp) (pa : Addr) (G : Hp) (σ : L2.St) (δ : DEnv) (H : Hp) : Prop where
  fr : Ex F H
  gr : Ex G H
  len : σ.length = δ.length
  val : ∀ (i : Nat) (d : D), δ[i]? = some (Sl.val d) → ∃ v, σ[i]? = some (some v) ∧ Rep K G d v
  own : ∀ (i : Nat) (b : Bool) (ds : List D), δ[i]? = some (Sl.own b ds) → ∃ p vs, σ[i]? = some (some (V.ref p)) ∧ G p = none ∧ F p = none ∧ (b = true → p = pa) ∧ H p = some (.lst vs) ∧ Reps K G ds vs
  inj : ∀ (i j : Nat) (b c : Bool) (ds es : List D) (p : Addr), δ[i]? = some (Sl.own b ds) → δ[j]? = some (Sl.own c es) → σ[i]? = some (some (V.ref p)) → σ[j]? = some (some (V.ref p)) → i = j

/-- the ground grows, but not at what the frame holds -/
def GEx (F G G' : Hp) : Prop := Ex G G' ∧ ∀ a, F a ≠ none → G' a = G a
theorem GEx.refl (F G : Hp) : GEx F G G := ⟨Ex.refl G, fun _ _ => rfl⟩
theorem GEx.trans {F G G1 G2 : Hp} (a : GEx F G G1) (b : GEx F G1 G2) : GEx F G G2 := ⟨a.1.trans b.1, fun x h => (b.2 x h).trans (a.2 x h)⟩
theorem GEx.new {F G : Hp} {p : Addr} {o : HO} (hG : G p = none) (hF : F p = none) : GEx F G (upd G p o) := ⟨Ex.new hG, fun a h => upd_ne fun e => h (by rw [e]; exact hF)⟩
theorem none_of_ex {G H : Hp} {p : Addr} (e : Ex G H) (h : H p = none) : G p = none := fresh_back e h

def RelR (K : PySem.W.Frag) (F G : Hp) (σ : L2.St) (δ : DEnv) (H : Hp) : R → V → Prop
  | .val d, v => Rep K G d v
  | .tmp ds, v => ∃ p vs, v = .ref p ∧ G p = none ∧ F p = none ∧ H p = some (.lst vs) ∧ Reps K G ds vs ∧ ∀ (i : Nat) b es, δ[i]? = some (Sl.own b es) → σ[i]? ≠ some (some (.ref p))
  | .slot i, v => σ[i]? = some (some v)
inductive RelRs (K : PySem.W.Frag) (F G : Hp) (σ : L2.St) (δ : DEnv) (H : Hp) : List R → List V → Prop
  | nil : RelRs K F G σ δ H [] []
  | cons {r v rs vs} : RelR K F G σ δ H r v → RelRs K F G σ δ H rs vs → RelRs K F G σ δ H (r :: rs) (v :: vs)

section
variable {K : PySem.W.Frag} {F G G' H H' : Hp} {pa : Addr} {σ : L2.St} {δ δ' : DEnv} {v : V} {r : R}

/-- the ground laid wider by an address that the heap has, which no name owns -/
theorem Stt.freeze {p : Addr} {o : HO} (S : Stt K F pa G σ δ H) (hG : G p = none) (hF : F p = none) (hH : H p = some o) (ho : ∀ (i : Nat) b es, δ[i]? = some (Sl.own b es) → σ[i]? ≠ some (some (.ref p))) : Stt K F pa (upd G p o) σ δ H := by
  have e : Ex G (upd G p o) := Ex.new hG
  refine ⟨S.fr, fun a u q => ?_, S.len, fun i d hi => ?_, fun i b ds hi => ?_, S.inj⟩
  · by_cases ha : a = p
    · subst ha; rw [upd_same] at q; cases q; exact hH
    · rw [upd_ne ha] at q; exact S.gr a u q
  · obtain ⟨v, h1, h2⟩ := S.val i d hi
    exact ⟨v, h1, h2.mono e⟩
  · obtain ⟨q, vs, h1, h2, h3, h4, h5, h6⟩ := S.own i b ds hi
    refine ⟨q, vs, h1, ?_, h3, h4, h5, h6.mono e⟩
    rw [upd_ne (fun z => ho i b ds hi (by rw [h1, z]))]
    exact h2
/-- a new object in the heap, not in the ground -/
theorem Stt.newH {p : Addr} {o : HO} (S : Stt K F pa G σ δ H) (hp : H p = none) : Stt K F pa G σ δ (upd H p o) := by
  have e : Ex H (upd H p o) := Ex.new hp
  refine ⟨S.fr.trans e, S.gr.trans e, S.len, S.val, fun i b ds hi => ?_, S.inj⟩
  obtain ⟨q, vs, h1, h2, h3, h4, h5, h6⟩ := S.own i b ds hi
  exact ⟨q, vs, h1, h2, h3, h4, e _ _ h5, h6⟩
theorem Stt.notOwned {p : Addr} (S : Stt K F pa G σ δ H) (hp : H p = none) : ∀ (i : Nat) b es, δ[i]? = some (Sl.own b es) → σ[i]? ≠ some (some (.ref p)) := fun i b es hi z => by
  obtain ⟨q, vs, h1, h2, h3, h4, h5, h6⟩ := S.own i b es hi
  rw [h1] at z
  cases z
  rw [hp] at h5
  cases h5
/-- a new object in both -/
theorem Stt.newG {p : Addr} {o : HO} (S : Stt K F pa G σ δ H) (hp : H p = none) : Stt K F pa (upd G p o) σ δ (upd H p o) :=
  (S.newH hp).freeze (none_of_ex S.gr hp) (none_of_ex S.fr hp) upd_same (S.notOwned hp)
theorem Stt.gexNew {p : Addr} {o : HO} (S : Stt K F pa G σ δ H) (hp : H p = none) : GEx F G (upd G p o) := GEx.new (none_of_ex S.gr hp) (none_of_ex S.fr hp)

/-! ### reading, holding, keeping -/
@[simp] def rd : R → DEnv → Option D
  | .val d, _ => some d
  | .tmp ds, _ => some (.lst ds)
  | .slot i, δ => match δ[i]? with
    | some (.own _ ds) => some (.lst ds)
    | some (.val d) => some d
    | _ => none
@[simp] def rdAll : List R → DEnv → Option (List D)
  | [], _ => some []
  | r :: rs, δ => match rd r δ with
    | none => none
    | some d => match rdAll rs δ with
      | none => none
      | some ds => some (d :: ds)
@[simp] def hold : R → R
  | .tmp ds => .val (.lst ds)
  | r => r
@[simp] def fix : R → DEnv → Option (D × DEnv)
  | .val d, δ => some (d, δ)
  | .tmp ds, δ => some (.lst ds, δ)
  | .slot i, δ => match δ[i]? with
    | some (.own false ds) => some (.lst ds, δ.set i (.val (.lst ds)))
    | some (.val d) => some (d, δ)
    | _ => none

/-- a datum as it stands now: its own object in the heap, its parts in the ground -/
def RepN (K : PySem.W.Frag) (G H : Hp) : D → V → Prop
  | .lst ds, v => ∃ a vs, v = .ref a ∧ H a = some (.lst vs) ∧ Reps K G ds vs
  | d, v => Rep K G d v
theorem Rep.now (e : Ex G H) {d : D} (h : Rep K G d v) : RepN K G H d v := by
  cases h with
  | non => exact .non
  | bl b => exact .bl b
  | int i => exact .int i
  | str x => exact .str x
  | tup h r => exact .tup h r
  | tw h r => exact .tw h r
  | lst h r => exact ⟨_, _, rfl, e _ _ h, r⟩
  | ro h r => exact .ro h r
theorem RepN.rep (e : Ex G H) {d : D} (h : RepN K G H d v) : Rep K H d v := by
  cases d with
  | lst ds => obtain ⟨a, vs, rfl, h, r⟩ := h; exact .lst h (r.mono e)
  | tup ds => exact Rep.mono e h
  | tw ds => exact Rep.mono e h
  | ro ds => exact Rep.mono e h
  | non => exact Rep.mono e h
  | bl b => exact Rep.mono e h
  | int i => exact Rep.mono e h
  | str x => exact Rep.mono e h
inductive RepNs (K : PySem.W.Frag) (G H : Hp) : List D → List V → Prop
  | nil : RepNs K G H [] []
  | cons {d v ds vs} : RepN K G H d v → RepNs K G H ds vs → RepNs K G H (d :: ds) (v :: vs)
theorem rd_ok {d : D} (S : Stt K F pa G σ δ H) (h : RelR K F G σ δ H r v) (e : rd r δ = some d) : RepN K G H d v := by
  cases r with
  | val d' => simp only [rd, Option.some.injEq] at e; subst e; exact Rep.now S.gr h
  | tmp ds => simp only [rd, Option.some.injEq] at e; subst e; obtain ⟨p, vs, e1, h1, h2, h3, h4, _⟩ := h; exact ⟨p, vs, e1, h3, h4⟩
  | slot i =>
    simp only [rd] at e
    split at e
    · rename_i b ds hi
      cases e
      obtain ⟨p, vs, h1, h2, h3, h4, h5, h6⟩ := S.own i b ds hi
      have : v = .ref p := by
        have h : σ[i]? = some (some v) := h
        rw [h1] at h; cases h; rfl
      exact ⟨p, vs, this, h5, h6⟩
    · rename_i d' hi
      cases e
      obtain ⟨u, h1, h2⟩ := S.val i d hi
      have : u = v := by
        have h : σ[i]? = some (some v) := h
        rw [h1] at h; cases h; rfl
      subst this
      exact Rep.now S.gr h2
    · cases e
theorem rdAll_ok : ∀ {rs : List R} {vs : List V} {ds : List D}, Stt K F pa G σ δ H → RelRs K F G σ δ H rs vs → rdAll rs δ = some ds → RepNs K G H ds vs
  | [], _, _, _, .nil, e => by simp only [rdAll, Option.some.injEq] at e; subst e; exact .nil
  | r :: rs, _, ds, S, .cons h t, e => by
    unfold rdAll at e
    split at e
    · cases e
    · rename_i d hd
      split at e
      · cases e
      · rename_i ds' hds
        cases e
        exact .cons (rd_ok S h hd) (rdAll_ok S t hds)
/-- a result held while other things happen -/
theorem hold_ok (S : Stt K F pa G σ δ H) (h : RelR K F G σ δ H r v) : ∃ G', GEx F G G' ∧ Stt K F pa G' σ δ H ∧ RelR K F G' σ δ H (hold r) v := by
  cases r with
  | val d => exact ⟨G, GEx.refl F G, S, h⟩
  | slot i => exact ⟨G, GEx.refl F G, S, h⟩
  | tmp ds =>
    obtain ⟨p, vs, e1, h1, h2, h3, h4, h5⟩ := h
    refine ⟨upd G p (.lst vs), GEx.new h1 h2, S.freeze h1 h2 h3 h5, ?_⟩
    subst e1
    exact Rep.lst upd_same (h4.mono (Ex.new h1))
theorem hold_stays {δ' : DEnv} {H' : Hp} (e : Ex G G') (h : RelR K F G σ δ H (hold r) v) : RelR K F G' σ δ' H' (hold r) v := by
  cases r with
  | val d => exact Rep.mono e h
  | slot i => exact h
  | tmp ds => exact Rep.mono e h
theorem hold_hold : hold (hold r) = hold r := by cases r <;> rfl
theorem get_set_self {α : Type} {l : List α} {i : Nat} {x y : α} (h : l[i]? = some y) : (l.set i x)[i]? = some x := by
  obtain ⟨hi, _⟩ := List.getElem?_eq_some_iff.mp h
  rw [List.getElem?_set_self hi]
theorem get_set_ne {α : Type} {l : List α} {i j : Nat} {x : α} (h : i ≠ j) : (l.set i x)[j]? = l[j]? := List.getElem?_set_ne h
/-- an owned list is kept for good -/
theorem Stt.give {i : Nat} {ds : List D} (S : Stt K F pa G σ δ H) (hi : δ[i]? = some (.own false ds)) : ∃ G' p, GEx F G G' ∧ σ[i]? = some (some (.ref p)) ∧ Stt K F pa G' σ (δ.set i (.val (.lst ds))) H ∧ Rep K G' (.lst ds) (.ref p) := by
  obtain ⟨p, vs, h1, h2, h3, h4, h5, h6⟩ := S.own i false ds hi
  have e : Ex G (upd G p (.lst vs)) := Ex.new h2
  have rp : Rep K (upd G p (.lst vs)) (.lst ds) (.ref p) := Rep.lst upd_same (h6.mono e)
  refine ⟨upd G p (.lst vs), p, GEx.new h2 h3, h1, ⟨S.fr, fun a u q => ?_, by rw [List.length_set]; exact S.len, fun j d hj => ?_, fun j b es hj => ?_, fun j k b c es fs q hj hk => ?_⟩, rp⟩
  · by_cases ha : a = p
    · subst ha; rw [upd_same] at q; cases q; exact h5
    · rw [upd_ne ha] at q; exact S.gr a u q
  · by_cases hij : i = j
    · subst hij
      rw [get_set_self hi] at hj
      cases hj
      exact ⟨_, h1, rp⟩
    · rw [get_set_ne hij] at hj
      obtain ⟨v, q1, q2⟩ := S.val j d hj
      exact ⟨v, q1, q2.mono e⟩
  · by_cases hij : i = j
    · subst hij
      rw [get_set_self hi] at hj
      cases hj
    · rw [get_set_ne hij] at hj
      obtain ⟨q, us, q1, q2, q3, q4, q5, q6⟩ := S.own j b es hj
      have hqp : q ≠ p := fun z => hij (S.inj i j false b ds es p hi hj h1 (by rw [q1, z]))
      exact ⟨q, us, q1, by rw [upd_ne hqp]; exact q2, q3, q4, q5, q6.mono e⟩
  · by_cases hij : i = j
    · subst hij; rw [get_set_self hi] at hj; cases hj
    · rw [get_set_ne hij] at hj
      by_cases hik : i = k
      · subst hik; rw [get_set_self hi] at hk; cases hk
      · rw [get_set_ne hik] at hk
        exact S.inj j k b c es fs q hj hk
theorem fix_ok {d : D} (S : Stt K F pa G σ δ H) (h : RelR K F G σ δ H r v) (e : fix r δ = some (d, δ')) : ∃ G', GEx F G G' ∧ Stt K F pa G' σ δ' H ∧ Rep K G' d v := by
  cases r with
  | val d' =>
    simp only [fix, Option.some.injEq, Prod.mk.injEq] at e
    obtain ⟨e1, e2⟩ := e
    subst e1 e2
    exact ⟨G, GEx.refl F G, S, h⟩
  | tmp ds =>
    simp only [fix, Option.some.injEq, Prod.mk.injEq] at e
    obtain ⟨e1, e2⟩ := e
    subst e1 e2
    obtain ⟨G', g1, g2, g3⟩ := hold_ok S h
    exact ⟨G', g1, g2, g3⟩
  | slot i =>
    have h : σ[i]? = some (some v) := h
    simp only [fix] at e
    split at e
    · rename_i ds hi
      cases e
      obtain ⟨G', p, g1, g2, g3, g4⟩ := S.give hi
      rw [g2] at h
      cases h
      exact ⟨G', g1, g3, g4⟩
    · rename_i d' hi
      cases e
      obtain ⟨u, h1, h2⟩ := S.val i d hi
      rw [h1] at h; cases h
      exact ⟨G, GEx.refl F G, S, h2⟩
    · cases e
end
end Pd
end
section
set_option Elab.async false
set_option linter.all false
set_option maxRecDepth 100000
set_option maxHeartbeats 1000000
namespace Pd
open PySem PySem.Spec PyProof.Rows L2 Evl

def Sd (K : PySem.W.Frag) (t : TE) (m : EM) : Prop := ∀ F pa G σ δ H, Stt K F pa G σ δ H → ∀ r δ', m δ = some (r, δ') → ∀ Q : VK, (∀ G' v H', GEx F G G' → Stt K F pa G' σ δ' H' → RelR K F G' σ δ' H' r v → Q v H') → t σ H Q
def SdT (K : PySem.W.Frag) (t : TT) (m : TM) : Prop := ∀ F pa G σ δ H, Stt K F pa G σ δ H → ∀ b δ', m δ = some (b, δ') → ∀ Q : Bool → Hp → Prop, (∀ G' H', GEx F G G' → Stt K F pa G' σ δ' H' → Q b H') → t σ H Q
def SdA (K : PySem.W.Frag) (t : TA) (m : AM) : Prop := ∀ F pa G σ δ H, Stt K F pa G σ δ H → ∀ rs δ', m δ = some (rs, δ') → ∀ Q : List V → Hp → Prop, (∀ G' vs H', GEx F G G' → Stt K F pa G' σ δ' H' → RelRs K F G' σ δ' H' rs vs → Q vs H') → t σ H Q

/-! ### operations on data -/
inductive OR where
  | v (d : D) | l (ds : List D) | t (ds : List D)
@[simp] def OR.r : OR → R
  | .v d => .val d
  | .l ds => .tmp ds
  | .t ds => .val (.tup ds)
def Fin (K : PySem.W.Frag) (G H : Hp) (o : OR) (Q : VK) : Prop := match o with
  | .v d => ∀ v, Rep K G d v → Q v H
  | .l ds => ∀ p vs, H p = none → Reps K G ds vs → Q (.ref p) (upd H p (.lst vs))
  | .t ds => ∀ (p : Addr) (o : Obj) vs, H p = none → o.dict = none → Reps K G ds vs → Q (.ref p) (upd H p (.frz o (.tup vs)))
def Ob (K : PySem.W.Frag) (r : R2) (f : D → D → Option OR) : Prop := ∀ G H x y a b o, Ex G H → RepN K G H a x → RepN K G H b y → f a b = some o → ∀ Q : VK, Fin K G H o Q → r x y H Q
def Uo (K : PySem.W.Frag) (r : V → Hp → VK → Prop) (f : D → Option OR) : Prop := ∀ G H x a o, Ex G H → RepN K G H a x → f a = some o → ∀ Q : VK, Fin K G H o Q → r x H Q
def Co (K : PySem.W.Frag) (r : List V → Hp → VK → Prop) (f : List D → Option OR) : Prop := ∀ G H xs as o, Ex G H → RepNs K G H as xs → f as = some o → ∀ Q : VK, Fin K G H o Q → r xs H Q

section
variable {K : PySem.W.Frag} {F G G' H H' : Hp} {pa : Addr} {σ : L2.St} {δ δ' : DEnv} {v : V} {r : R} {ta tb te tc : TE} {ma mb me mc : EM} {t u : TT} {mt mu : TM}

theorem fin_ok {o : OR} {Q : VK} (S : Stt K F pa G σ δ H) (q : ∀ G' v H', GEx F G G' → Stt K F pa G' σ δ H' → RelR K F G' σ δ H' o.r v → Q v H') : Fin K G H o Q := by
  cases o with
  | v d => exact fun v h => q G v H (GEx.refl F G) S h
  | l ds => exact fun p vs hp h => q G _ _ (GEx.refl F G) (S.newH hp) ⟨p, vs, rfl, none_of_ex S.gr hp, none_of_ex S.fr hp, upd_same, h, S.notOwned hp⟩
  | t ds => exact fun p o vs hp hd h => q _ _ _ (S.gexNew hp) (S.newG hp) (Rep.tup (TupN.of upd_same hd) (h.mono (Ex.new (none_of_ex S.gr hp))))

theorem bind_some' {α β : Type} {x : Option α} {f : α → Option β} {y : β} (e : x.bind f = some y) : ∃ a, x = some a ∧ f a = some y := Option.bind_eq_some_iff.mp e

/-! ### expressions -/
def eVar (i : Nat) : EM := fun δ => match δ[i]? with
  | some (.val d) => some (.val d, δ)
  | some (.own _ _) => some (.slot i, δ)
  | _ => none
theorem sd_var {i : Nat} : Sd K (tVar i) (eVar i) := fun F pa G σ δ H S r δ' e Q q => by
  simp only [eVar] at e
  split at e
  · rename_i d hi
    simp only [Option.some.injEq, Prod.mk.injEq] at e
    obtain ⟨e1, e2⟩ := e
    subst e1 e2
    obtain ⟨v, h1, h2⟩ := S.val i d hi
    exact ⟨v, h1, q G v H (GEx.refl F G) S h2⟩
  · rename_i b ds hi
    simp only [Option.some.injEq, Prod.mk.injEq] at e
    obtain ⟨e1, e2⟩ := e
    subst e1 e2
    obtain ⟨p, vs, h1, _⟩ := S.own i b ds hi
    exact ⟨_, h1, q G _ H (GEx.refl F G) S h1⟩
  · cases e
def eC (d : D) : EM := fun δ => some (.val d, δ)
theorem sd_c {d : D} {v : V} (h : ∀ G, Rep K G d v) : Sd K (tC v) (eC d) := fun F pa G σ δ H S r δ' e Q q => by
  simp only [eC, Option.some.injEq, Prod.mk.injEq] at e
  obtain ⟨e1, e2⟩ := e
  subst e1 e2
  exact q G v H (GEx.refl F G) S (h G)
theorem sd_int {i : Int} : Sd K (tC (.int i)) (eC (.int i)) := sd_c fun _ => .int i
theorem sd_bl {i : Bool} : Sd K (tC (.bl i)) (eC (.bl i)) := sd_c fun _ => .bl i
theorem sd_non : Sd K (tC .non) (eC .non) := sd_c fun _ => .non
theorem sd_str {i : Str} : Sd K (tC (.str i)) (eC (.str i)) := sd_c fun _ => .str i

def eOp (f : D → D → Option OR) (ma mb : EM) : EM := fun δ => (ma δ).bind fun p => (mb p.2).bind fun q => (rd (hold p.1) q.2).bind fun a => (rd q.1 q.2).bind fun b => (f a b).bind fun o => some (o.r, q.2)
theorem sd_op {r : R2} {f : D → D → Option OR} (hr : Ob K r f) (ha : Sd K ta ma) (hb : Sd K tb mb) : Sd K (tOp r ta tb) (eOp f ma mb) := fun F pa G σ δ H S r' δ' e Q q => by
  obtain ⟨p, h1, e⟩ := bind_some' e
  obtain ⟨p2, h2, e⟩ := bind_some' e
  obtain ⟨a, h3, e⟩ := bind_some' e
  obtain ⟨b, h4, e⟩ := bind_some' e
  obtain ⟨o, h5, e⟩ := bind_some' e
  simp only [Option.some.injEq, Prod.mk.injEq] at e
  obtain ⟨e1, e2⟩ := e
  subst e1 e2
  refine ha F pa G σ δ H S _ _ h1 _ fun G1 x H1 g1 S1 r1 => ?_
  obtain ⟨G1', g1', S1', r1'⟩ := hold_ok S1 r1
  refine hb F pa G1' σ _ H1 S1' _ _ h2 _ fun G2 y H2 g2 S2 r2 => ?_
  exact hr G2 H2 x y a b o S2.gr (rd_ok S2 (hold_stays g2.1 r1') h3) (rd_ok S2 r2 h4) h5 Q (fin_ok S2 fun G' v H' g S' r' => q G' v H' (((g1.trans g1').trans g2).trans g) S' r')
def eUn (f : D → Option OR) (ma : EM) : EM := fun δ => (ma δ).bind fun p => (rd p.1 p.2).bind fun a => (f a).bind fun o => some (o.r, p.2)
theorem sd_un {r : V → Hp → VK → Prop} {f : D → Option OR} (hr : Uo K r f) (ha : Sd K ta ma) : Sd K (tUn r ta) (eUn f ma) := fun F pa G σ δ H S r' δ' e Q q => by
  obtain ⟨p, h1, e⟩ := bind_some' e
  obtain ⟨a, h3, e⟩ := bind_some' e
  obtain ⟨o, h5, e⟩ := bind_some' e
  simp only [Option.some.injEq, Prod.mk.injEq] at e
  obtain ⟨e1, e2⟩ := e
  subst e1 e2
  refine ha F pa G σ δ H S _ _ h1 _ fun G1 x H1 g1 S1 r1 => ?_
  exact hr G1 H1 x a o S1.gr (rd_ok S1 r1 h3) h5 Q (fin_ok S1 fun G' v H' g S' r' => q G' v H' (g1.trans g) S' r')
/-- other readings that take a value and go on -/
theorem sd_then {k : V → Hp → VK → Prop} {f : D → Option OR} (hr : Uo K k f) (ha : Sd K ta ma) : Sd K (tThen ta k) (eUn f ma) := sd_un (r := k) hr ha

/-! ### truth, and, or, not, if -/
@[simp] def truth : D → Option Bool
  | .non => some false
  | .bl b => some b
  | .int i => some (i != 0)
  | .tup ds => some (!ds.isEmpty)
  | .lst ds => some (!ds.isEmpty)
  | .ro ds => some (!ds.isEmpty)
  | .str _ => none
  | .tw _ => none
theorem isEmpty_reps {ds : List D} {vs : List V} (h : Reps K G ds vs) : ds.isEmpty = vs.isEmpty := by cases h <;> rfl
theorem truth_ok {d : D} {b : Bool} (e : Ex G H) (h : RepN K G H d v) (ht : truth d = some b) : TruV K v H b := by
  have h' := h.rep e
  cases h' with
  | non => simp only [truth, Option.some.injEq] at ht; exact ht.symm
  | bl b => simp only [truth, Option.some.injEq] at ht; exact ht.symm
  | int i => simp only [truth, Option.some.injEq] at ht; exact ht.symm
  | str x => simp [truth] at ht
  | tw h1 r => simp [truth] at ht
  | tup h1 r => simp only [truth, Option.some.injEq] at ht; exact .inr (.inl ⟨_, h1.1, by rw [← ht, isEmpty_reps r]⟩)
  | lst h1 r => simp only [truth, Option.some.injEq] at ht; exact .inl ⟨_, SqL.of h1, by rw [← ht, isEmpty_reps r]⟩
  | ro h1 r => simp only [truth, Option.some.injEq] at ht; exact .inl ⟨_, h1, by rw [← ht, isEmpty_reps r]⟩
def eAnd (ma mb : EM) : EM := fun δ => (ma δ).bind fun p => (rd p.1 p.2).bind fun a => (truth a).bind fun k => match k with
  | true => mb p.2
  | false => some p
def eOr (ma mb : EM) : EM := fun δ => (ma δ).bind fun p => (rd p.1 p.2).bind fun a => (truth a).bind fun k => match k with
  | true => some p
  | false => mb p.2
theorem sd_and (ha : Sd K ta ma) (hb : Sd K tb mb) : Sd K (tAndT K ta tb) (eAnd ma mb) := fun F pa G σ δ H S r' δ' e Q q => by
  obtain ⟨p, h1, e⟩ := bind_some' e
  obtain ⟨a, h2, e⟩ := bind_some' e
  obtain ⟨k, h3, e⟩ := bind_some' e
  refine ha F pa G σ δ H S _ _ h1 _ fun G1 x H1 g1 S1 r1 => ⟨k, truth_ok S1.gr (rd_ok S1 r1 h2) h3, ?_⟩
  cases k with
  | true => exact iteT (hb F pa G1 σ _ H1 S1 _ _ e _ fun G2 y H2 g2 S2 r2 => q G2 y H2 (g1.trans g2) S2 r2)
  | false =>
    simp only [Option.some.injEq] at e
    subst e
    exact iteF (q G1 x H1 g1 S1 r1)
theorem sd_or (ha : Sd K ta ma) (hb : Sd K tb mb) : Sd K (tOrT K ta tb) (eOr ma mb) := fun F pa G σ δ H S r' δ' e Q q => by
  obtain ⟨p, h1, e⟩ := bind_some' e
  obtain ⟨a, h2, e⟩ := bind_some' e
  obtain ⟨k, h3, e⟩ := bind_some' e
  refine ha F pa G σ δ H S _ _ h1 _ fun G1 x H1 g1 S1 r1 => ⟨k, truth_ok S1.gr (rd_ok S1 r1 h2) h3, ?_⟩
  cases k with
  | false => exact iteF (hb F pa G1 σ _ H1 S1 _ _ e _ fun G2 y H2 g2 S2 r2 => q G2 y H2 (g1.trans g2) S2 r2)
  | true =>
    simp only [Option.some.injEq] at e
    subst e
    exact iteT (q G1 x H1 g1 S1 r1)
def eNot (ma : EM) : EM := fun δ => (ma δ).bind fun p => (rd p.1 p.2).bind fun a => (truth a).bind fun k => some (.val (.bl (!k)), p.2)
theorem sd_not (ha : Sd K ta ma) : Sd K (tNotT K ta) (eNot ma) := fun F pa G σ δ H S r' δ' e Q q => by
  obtain ⟨p, h1, e⟩ := bind_some' e
  obtain ⟨a, h2, e⟩ := bind_some' e
  obtain ⟨k, h3, e⟩ := bind_some' e
  simp only [Option.some.injEq, Prod.mk.injEq] at e
  obtain ⟨e1, e2⟩ := e
  subst e1 e2
  exact ha F pa G σ δ H S _ _ h1 _ fun G1 x H1 g1 S1 r1 => ⟨k, truth_ok S1.gr (rd_ok S1 r1 h2) h3, q G1 _ H1 g1 S1 (Rep.bl _)⟩
def eIf (mt : TM) (ma mb : EM) : EM := fun δ => (mt δ).bind fun p => match p.1 with
  | true => ma p.2
  | false => mb p.2
theorem sd_if (ht : SdT K t mt) (ha : Sd K ta ma) (hb : Sd K tb mb) : Sd K (tIf t ta tb) (eIf mt ma mb) := fun F pa G σ δ H S r' δ' e Q q => by
  obtain ⟨⟨b, δ1⟩, h1, e⟩ := bind_some' e
  refine ht F pa G σ δ H S _ _ h1 _ fun G1 H1 g1 S1 => ?_
  cases b with
  | true => exact iteT (ha F pa G1 σ _ H1 S1 _ _ e _ fun G2 y H2 g2 S2 r2 => q G2 y H2 (g1.trans g2) S2 r2)
  | false => exact iteF (hb F pa G1 σ _ H1 S1 _ _ e _ fun G2 y H2 g2 S2 r2 => q G2 y H2 (g1.trans g2) S2 r2)
/-! ### tests -/
def mVal (ma : EM) : TM := fun δ => (ma δ).bind fun p => match p.1 with
  | .val (.bl b) => some (b, p.2)
  | _ => none
theorem mVal_ok {b : Bool} {δ1 : DEnv} (e : mVal ma δ = some (b, δ1)) : ma δ = some (.val (.bl b), δ1) := by
  obtain ⟨⟨r, δ2⟩, h1, e⟩ := bind_some' e
  simp only at e
  split at e
  · rename_i b' h
    simp only [Option.some.injEq, Prod.mk.injEq] at e
    obtain ⟨e1, e2⟩ := e
    subst e1 e2
    rw [h1]
  · cases e
theorem st_tB (ha : Sd K ta ma) : SdT K (tB ta) (mVal ma) := fun F pa G σ δ H S b δ' e Q q => by
  refine ha F pa G σ δ H S _ _ (mVal_ok e) _ fun G1 x H1 g1 S1 r1 => ?_
  cases r1
  exact ⟨b, rfl, q G1 H1 g1 S1⟩
theorem st_tTest (ha : Sd K ta ma) : SdT K (tTest ta) (mVal ma) := st_tB ha
def tTrue (K : PySem.W.Frag) (ta : TE) : TT := fun σ H Q => ta σ H fun x H' => ∃ k, TruV K x H' k ∧ Q k H'
def mTru (ma : EM) : TM := fun δ => (ma δ).bind fun p => (rd p.1 p.2).bind fun a => (truth a).bind fun k => some (k, p.2)
theorem st_tru (ha : Sd K ta ma) : SdT K (tTrue K ta) (mTru ma) := fun F pa G σ δ H S b δ' e Q q => by
  obtain ⟨p, h1, e⟩ := bind_some' e
  obtain ⟨a, h2, e⟩ := bind_some' e
  obtain ⟨k, h3, e⟩ := bind_some' e
  simp only [Option.some.injEq, Prod.mk.injEq] at e
  obtain ⟨e1, e2⟩ := e
  subst e1 e2
  exact ha F pa G σ δ H S _ _ h1 _ fun G1 x H1 g1 S1 r1 => ⟨k, truth_ok S1.gr (rd_ok S1 r1 h2) h3, q G1 H1 g1 S1⟩
def mAnd (mt mu : TM) : TM := fun δ => (mt δ).bind fun p => match p.1 with
  | true => mu p.2
  | false => some (false, p.2)
def mOr (mt mu : TM) : TM := fun δ => (mt δ).bind fun p => match p.1 with
  | true => some (true, p.2)
  | false => mu p.2
def mNot (mt : TM) : TM := fun δ => (mt δ).bind fun p => some (!p.1, p.2)
theorem st_and (ht : SdT K t mt) (hu : SdT K u mu) : SdT K (tAnd t u) (mAnd mt mu) := fun F pa G σ δ H S b δ' e Q q => by
  obtain ⟨⟨k, δ1⟩, h1, e⟩ := bind_some' e
  refine ht F pa G σ δ H S _ _ h1 _ fun G1 H1 g1 S1 => ?_
  cases k with
  | true => exact iteT (hu F pa G1 σ _ H1 S1 _ _ e _ fun G2 H2 g2 S2 => q G2 H2 (g1.trans g2) S2)
  | false =>
    simp only [Option.some.injEq, Prod.mk.injEq] at e
    obtain ⟨e1, e2⟩ := e
    subst e1 e2
    exact iteF (q G1 H1 g1 S1)
theorem st_or (ht : SdT K t mt) (hu : SdT K u mu) : SdT K (tOr t u) (mOr mt mu) := fun F pa G σ δ H S b δ' e Q q => by
  obtain ⟨⟨k, δ1⟩, h1, e⟩ := bind_some' e
  refine ht F pa G σ δ H S _ _ h1 _ fun G1 H1 g1 S1 => ?_
  cases k with
  | false => exact iteF (hu F pa G1 σ _ H1 S1 _ _ e _ fun G2 H2 g2 S2 => q G2 H2 (g1.trans g2) S2)
  | true =>
    simp only [Option.some.injEq, Prod.mk.injEq] at e
    obtain ⟨e1, e2⟩ := e
    subst e1 e2
    exact iteT (q G1 H1 g1 S1)
theorem st_not (ht : SdT K t mt) : SdT K (tNot t) (mNot mt) := fun F pa G σ δ H S b δ' e Q q => by
  obtain ⟨⟨k, δ1⟩, h1, e⟩ := bind_some' e
  simp only [Option.some.injEq, Prod.mk.injEq] at e
  obtain ⟨e1, e2⟩ := e
  subst e1 e2
  exact ht F pa G σ δ H S _ _ h1 _ fun G1 H1 g1 S1 => q G1 H1 g1 S1
/-! ### arguments -/
def aNil : AM := fun δ => some ([], δ)
def aOne (ma : EM) : AM := fun δ => (ma δ).bind fun p => some ([p.1], p.2)
def aCons (ma : EM) (mr : AM) : AM := fun δ => (ma δ).bind fun p => (mr p.2).bind fun q => some (hold p.1 :: q.1, q.2)
theorem sa_nil : SdA K tNil aNil := fun F pa G σ δ H S rs δ' e Q q => by
  simp only [aNil, Option.some.injEq, Prod.mk.injEq] at e
  obtain ⟨e1, e2⟩ := e
  subst e1 e2
  exact q G _ H (GEx.refl F G) S .nil
theorem sa_one (ha : Sd K ta ma) : SdA K (tCons ta tNil) (aOne ma) := fun F pa G σ δ H S rs δ' e Q q => by
  obtain ⟨p, h1, e⟩ := bind_some' e
  simp only [Option.some.injEq, Prod.mk.injEq] at e
  obtain ⟨e1, e2⟩ := e
  subst e1 e2
  exact ha F pa G σ δ H S _ _ h1 _ fun G1 x H1 g1 S1 r1 => q G1 _ H1 g1 S1 (.cons r1 .nil)
theorem sa_cons {tr : TA} {mr : AM} (ha : Sd K ta ma) (hr : SdA K tr mr) : SdA K (tCons ta tr) (aCons ma mr) := fun F pa G σ δ H S rs δ' e Q q => by
  obtain ⟨p, h1, e⟩ := bind_some' e
  obtain ⟨p2, h2, e⟩ := bind_some' e
  simp only [Option.some.injEq, Prod.mk.injEq] at e
  obtain ⟨e1, e2⟩ := e
  subst e1 e2
  refine ha F pa G σ δ H S _ _ h1 _ fun G1 x H1 g1 S1 r1 => ?_
  obtain ⟨G1', g1', S1', r1'⟩ := hold_ok S1 r1
  exact hr F pa G1' σ _ H1 S1' _ _ h2 _ fun G2 vs H2 g2 S2 r2 => q G2 _ H2 ((g1.trans g1').trans g2) S2 (.cons (hold_stays g2.1 r1') r2)
/-- all kept -/
@[simp] def fixAll : List R → DEnv → Option (List D × DEnv)
  | [], δ => some ([], δ)
  | r :: rs, δ => (fix r δ).bind fun p => (fixAll rs p.2).bind fun q => some (p.1 :: q.1, q.2)
theorem relR_fixed {d : D} {r : R} {v : V} {s : R} {u : V} (e : fix s δ = some (d, δ')) (S : Stt K F pa G σ δ H) (hs : RelR K F G σ δ H s u) (h : RelR K F G σ δ H r v) :
    ∃ G', GEx F G G' ∧ Stt K F pa G' σ δ' H ∧ Rep K G' d u := fix_ok S hs e
/-- results that are held: values, or names -/
@[simp] def heldR : R → Bool
  | .tmp _ => false
  | _ => true
theorem relR_move {δ1 : DEnv} {H1 : Hp} {r : R} (hh : heldR r = true) (e : Ex G G') (h : RelR K F G σ δ H r v) : RelR K F G' σ δ1 H1 r v := by
  cases r with
  | val d => exact Rep.mono e h
  | slot i => exact h
  | tmp ds => cases hh
/-- a list of held results, but for the last -/
@[simp] def heldRs : List R → Bool
  | [] => true
  | [_] => true
  | r :: rs => heldR r && heldRs rs
theorem relRs_move {δ1 : DEnv} {H1 : Hp} : ∀ {rs : List R} {vs : List V}, rs.all heldR = true → Ex G G' → RelRs K F G σ δ H rs vs → RelRs K F G' σ δ1 H1 rs vs
  | [], _, _, _, .nil => .nil
  | r :: rs, _, hh, e, .cons h t => by
    rw [List.all_cons, Bool.and_eq_true] at hh
    exact .cons (relR_move hh.1 e h) (relRs_move hh.2 e t)
@[simp] def holdAll (rs : List R) : List R := rs.map hold
theorem held_hold (r : R) : heldR (hold r) = true := by cases r <;> rfl
theorem fixAll_ok : ∀ {rs : List R} {vs : List V} {ds : List D} {δ δ' : DEnv} {G : Hp}, rs.all heldR = true → Stt K F pa G σ δ H → RelRs K F G σ δ H rs vs → fixAll rs δ = some (ds, δ') → ∃ G', GEx F G G' ∧ Stt K F pa G' σ δ' H ∧ Reps K G' ds vs
  | [], _, ds, δ, δ', G, _, S, .nil, e => by
    simp only [fixAll, Option.some.injEq, Prod.mk.injEq] at e
    obtain ⟨e1, e2⟩ := e
    subst e1 e2
    exact ⟨G, GEx.refl F G, S, .nil⟩
  | r :: rs, _, ds, δ, δ', G, hh, S, .cons h t, e => by
    rw [List.all_cons, Bool.and_eq_true] at hh
    obtain ⟨p, h1, e⟩ := bind_some' e
    obtain ⟨p2, h2, e⟩ := bind_some' e
    simp only [Option.some.injEq, Prod.mk.injEq] at e
    obtain ⟨e1, e2⟩ := e
    subst e1 e2
    obtain ⟨G1, g1, S1, q1⟩ := fix_ok S h h1
    obtain ⟨G2, g2, S2, q2⟩ := fixAll_ok hh.2 S1 (relRs_move hh.2 g1.1 t) h2
    exact ⟨G2, g1.trans g2, S2, .cons (q1.mono g2.1) q2⟩
/-- the last one of a list may be new: it is held first -/
theorem holdLast_ok : ∀ {rs : List R} {vs : List V} {G : Hp}, Stt K F pa G σ δ H → heldRs rs = true → RelRs K F G σ δ H rs vs → ∃ G', GEx F G G' ∧ Stt K F pa G' σ δ H ∧ RelRs K F G' σ δ H (holdAll rs) vs
  | [], _, G, S, _, .nil => ⟨G, GEx.refl F G, S, .nil⟩
  | [r], _, G, S, _, .cons h .nil => by
    obtain ⟨G', g1, S1, q1⟩ := hold_ok S h
    exact ⟨G', g1, S1, .cons q1 .nil⟩
  | r :: s :: rs, _, G, S, hh, .cons h t => by
    have hh' : (heldR r && heldRs (s :: rs)) = true := hh
    rw [Bool.and_eq_true] at hh'
    obtain ⟨G', g1, S1, q1⟩ := holdLast_ok S hh'.2 t
    have e : hold r = r := by
      cases r with
      | tmp ds => cases hh'.1
      | val d => rfl
      | slot i => rfl
    refine ⟨G', g1, S1, ?_⟩
    show RelRs K F G' σ δ H (hold r :: holdAll (s :: rs)) _
    rw [e]
    exact .cons (relR_move hh'.1 g1.1 h) q1
theorem all_held (rs : List R) : (holdAll rs).all heldR = true := by
  unfold holdAll
  rw [List.all_map, List.all_eq_true]
  exact fun r _ => held_hold r
/-- a list of results kept for good -/
@[simp] def keep (rs : List R) (δ : DEnv) : Option (List D × DEnv) := match heldRs rs with
  | true => fixAll (holdAll rs) δ
  | false => none
theorem keep_ok {rs : List R} {vs : List V} {ds : List D} {G : Hp} (S : Stt K F pa G σ δ H) (t : RelRs K F G σ δ H rs vs) (e : keep rs δ = some (ds, δ')) : ∃ G', GEx F G G' ∧ Stt K F pa G' σ δ' H ∧ Reps K G' ds vs := by
  unfold keep at e
  split at e
  · rename_i hh
    obtain ⟨G1, g1, S1, q1⟩ := holdLast_ok S hh t
    obtain ⟨G2, g2, S2, q2⟩ := fixAll_ok (all_held rs) S1 q1 e
    exact ⟨G2, g1.trans g2, S2, q2⟩
  · cases e
/-! ### displays, calls of built-ins -/
def eTup (ma : AM) : EM := fun δ => (ma δ).bind fun p => (keep p.1 p.2).bind fun q => if q.1.length ≤ 100000 then some (.val (.tup q.1), q.2) else none
def eLst (ma : AM) : EM := fun δ => (ma δ).bind fun p => (keep p.1 p.2).bind fun q => if q.1.length ≤ 100000 then some (.tmp q.1, q.2) else none
theorem sd_tup {ta : TA} {ma : AM} (ha : SdA K ta ma) : Sd K (tTupN ta) (eTup ma) := fun F pa G σ δ H S r' δ' e Q q => by
  obtain ⟨p, h1, e⟩ := bind_some' e
  obtain ⟨p2, h2, e⟩ := bind_some' e
  split at e
  · rename_i hl
    simp only [Option.some.injEq, Prod.mk.injEq] at e
    obtain ⟨e1, e2⟩ := e
    subst e1 e2
    refine ha F pa G σ δ H S _ _ h1 _ fun G1 vs H1 g1 S1 r1 => ?_
    obtain ⟨G2, g2, S2, q2⟩ := keep_ok S1 r1 h2
    refine ⟨sz_of (by rw [← q2.length]; exact hl), fun a o hp hd => q _ _ _ ((g1.trans g2).trans (S2.gexNew hp)) (S2.newG hp) (Rep.tup (TupN.of upd_same hd) (q2.mono (Ex.new (none_of_ex S2.gr hp))))⟩
  · cases e
theorem sd_lst {ta : TA} {ma : AM} (ha : SdA K ta ma) : Sd K (tLst ta) (eLst ma) := fun F pa G σ δ H S r' δ' e Q q => by
  obtain ⟨p, h1, e⟩ := bind_some' e
  obtain ⟨p2, h2, e⟩ := bind_some' e
  split at e
  · rename_i hl
    simp only [Option.some.injEq, Prod.mk.injEq] at e
    obtain ⟨e1, e2⟩ := e
    subst e1 e2
    refine ha F pa G σ δ H S _ _ h1 _ fun G1 vs H1 g1 S1 r1 => ?_
    obtain ⟨G2, g2, S2, q2⟩ := keep_ok S1 r1 h2
    refine ⟨sz_of (by rw [← q2.length]; exact hl), fun a hp => q _ _ _ (g1.trans g2) (S2.newH hp) ⟨a, vs, rfl, none_of_ex S2.gr hp, none_of_ex S2.fr hp, upd_same, q2, S2.notOwned hp⟩⟩
  · cases e
def eCall (f : List D → Option OR) (ma : AM) : EM := fun δ => (ma δ).bind fun p => (rdAll p.1 p.2).bind fun as => (f as).bind fun o => some (o.r, p.2)
theorem sd_cb {r : List V → Hp → VK → Prop} {f : List D → Option OR} {ta : TA} {ma : AM} (hr : Co K r f) (ha : SdA K ta ma) : Sd K (tCB r ta) (eCall f ma) := fun F pa G σ δ H S r' δ' e Q q => by
  obtain ⟨p, h1, e⟩ := bind_some' e
  obtain ⟨as, h2, e⟩ := bind_some' e
  obtain ⟨o, h3, e⟩ := bind_some' e
  simp only [Option.some.injEq, Prod.mk.injEq] at e
  obtain ⟨e1, e2⟩ := e
  subst e1 e2
  refine ha F pa G σ δ H S _ _ h1 _ fun G1 vs H1 g1 S1 r1 => ?_
  exact hr G1 H1 vs as o S1.gr (rdAll_ok S1 r1 h2) h3 Q (fin_ok S1 fun G' v H' g S' r' => q G' v H' (g1.trans g) S' r')
end
end Pd
end
section
set_option Elab.async false
set_option linter.all false
set_option maxRecDepth 100000
set_option maxHeartbeats 1000000
namespace Pd
open PySem PySem.Spec PyProof.Rows L2 Evl

def EndsOk (K : PySem.W.Frag) (F : Hp) (pa : Addr) (G : Hp) (δ' : DEnv) (c : Ctl) (D : Ends) : Prop := match c with
  | .nxt => ∀ G' σ' H', GEx F G G' → Stt K F pa G' σ' δ' H' → D.nx σ' H'
  | .brk => ∀ G' σ' H', GEx F G G' → Stt K F pa G' σ' δ' H' → D.bk σ' H'
  | .cnt => ∀ G' σ' H', GEx F G G' → Stt K F pa G' σ' δ' H' → D.ct σ' H'
  | .ret r => ∀ G' σ' v H', GEx F G G' → Stt K F pa G' σ' δ' H' → RelR K F G' σ' δ' H' r v → D.rt v H'
def SdS (K : PySem.W.Frag) (t : TS) (m : SM) : Prop := ∀ F pa G σ δ H, Stt K F pa G σ δ H → ∀ c δ', m δ = some (c, δ') → ∀ D : Ends, EndsOk K F pa G δ' c D → t D σ H
/-- a target -/
abbrev GM := D → DEnv → Option DEnv
def Sg (K : PySem.W.Frag) (g : TG) (tg : GM) (ts : List Nat) : Prop := ∀ F pa G σ δ H, Stt K F pa G σ δ H → ∀ d x, Rep K G d x → ∀ δ', tg d δ = some δ' → ∀ Q : L2.St → Hp → Prop,
  (∀ σ', (∀ vs : List Nat, (∀ j ∈ ts, j ∈ vs) → wipe σ' vs = wipe σ vs) → Stt K F pa G σ' δ' H → Q σ' H) → g x σ H Q
/-- what is walked -/
def Wk (K : PySem.W.Frag) (G : Hp) (J : It) (ds : List D) : Prop := ∀ F pa i G2 σ2 δ2 H2, Ex G G2 → Stt K F pa G2 σ2 δ2 H2 →
  (∀ d, ds[i]? = some d → J.go i H2 ∧ ∀ x H', J.yld i H2 x H' → ∃ G3, GEx F G2 G3 ∧ Stt K F pa G3 σ2 δ2 H' ∧ Rep K G3 d x) ∧ (i = ds.length → J.stop i H2)
abbrev IM := DEnv → Option (List D × DEnv)
def SdI (K : PySem.W.Frag) (wi : TI) (mi : IM) : Prop := ∀ F pa G σ δ H, Stt K F pa G σ δ H → ∀ ds δ', mi δ = some (ds, δ') → ∀ R : It → Hp → Prop, (∀ G' J H', GEx F G G' → Stt K F pa G' σ δ' H' → Wk K G' J ds → R J H') → wi σ H R
abbrev OM := DEnv → Option (Option Int × DEnv)
def SdO (K : PySem.W.Frag) (to : TO) (mo : OM) : Prop := ∀ F pa G σ δ H, Stt K F pa G σ δ H → ∀ x δ', mo δ = some (x, δ') → ∀ Q : Option Int → Hp → Prop, (∀ G' H', GEx F G G' → Stt K F pa G' σ δ' H' → Q x H') → to σ H Q

section
variable {K : PySem.W.Frag} {F G G' H H' : Hp} {pa : Addr} {σ : L2.St} {δ δ' : DEnv} {v : V} {r : R} {ta tb te tc : TE} {ma mb me mc : EM} {t u : TT} {mt mu : TM} {ts us : TS} {ms ns : SM} {g : TG} {tg : GM} {js : List Nat}

theorem EndsOk.mono {c : Ctl} {D : Ends} (e : GEx F G G') (h : EndsOk K F pa G δ' c D) : EndsOk K F pa G' δ' c D := by
  cases c with
  | nxt => exact fun G2 σ' H' g S => h G2 σ' H' (e.trans g) S
  | brk => exact fun G2 σ' H' g S => h G2 σ' H' (e.trans g) S
  | cnt => exact fun G2 σ' H' g S => h G2 σ' H' (e.trans g) S
  | ret r => exact fun G2 σ' v H' g S q => h G2 σ' v H' (e.trans g) S q

/-! ### a name is stored -/
theorem Stt.setVal {i : Nat} {d : D} (S : Stt K F pa G σ δ H) (h : Rep K G d v) : Stt K F pa G (σ.set i (some v)) (δ.set i (.val d)) H := by
  refine ⟨S.fr, S.gr, by rw [List.length_set, List.length_set]; exact S.len, fun j e hj => ?_, fun j b es hj => ?_, fun j k b c es fs q hj hk h1 h2 => ?_⟩
  · by_cases hij : i = j
    · subst hij
      have hl : i < (δ.set i (Sl.val d)).length := (List.getElem?_eq_some_iff.mp hj).1
      rw [List.length_set] at hl
      rw [List.getElem?_set_self hl] at hj
      cases hj
      exact ⟨v, List.getElem?_set_self (by rw [S.len]; exact hl), h⟩
    · rw [get_set_ne hij] at hj
      rw [get_set_ne hij]
      exact S.val j e hj
  · by_cases hij : i = j
    · subst hij
      have hl : i < (δ.set i (Sl.val d)).length := (List.getElem?_eq_some_iff.mp hj).1
      rw [List.length_set] at hl
      rw [List.getElem?_set_self hl] at hj
      cases hj
    · rw [get_set_ne hij] at hj
      rw [get_set_ne hij]
      exact S.own j b es hj
  · have n1 : ∀ {j b es}, (δ.set i (Sl.val d))[j]? = some (Sl.own b es) → i ≠ j ∧ δ[j]? = some (Sl.own b es) := fun {j b es} hj => by
      by_cases hij : i = j
      · subst hij
        have hl : i < (δ.set i (Sl.val d)).length := (List.getElem?_eq_some_iff.mp hj).1
        rw [List.length_set] at hl
        rw [List.getElem?_set_self hl] at hj
        cases hj
      · rw [get_set_ne hij] at hj
        exact ⟨hij, hj⟩
    obtain ⟨a1, b1⟩ := n1 hj
    obtain ⟨a2, b2⟩ := n1 hk
    rw [get_set_ne a1] at h1
    rw [get_set_ne a2] at h2
    exact S.inj j k b c es fs q b1 b2 h1 h2
theorem Stt.setOwn {i : Nat} {ds : List D} {p : Addr} {vs : List V} (S : Stt K F pa G σ δ H) (h1 : G p = none) (h2 : F p = none) (h3 : H p = some (.lst vs)) (h4 : Reps K G ds vs)
    (ho : ∀ (i : Nat) b es, δ[i]? = some (Sl.own b es) → σ[i]? ≠ some (some (.ref p))) : Stt K F pa G (σ.set i (some (.ref p))) (δ.set i (.own false ds)) H := by
  have cs : ∀ {j : Nat} {b es}, (δ.set i (Sl.own false ds))[j]? = some (Sl.own b es) → (i = j ∧ b = false ∧ es = ds ∧ i < σ.length) ∨ (i ≠ j ∧ δ[j]? = some (Sl.own b es)) := fun {j b es} hj => by
    by_cases hij : i = j
    · subst hij
      have hl : i < (δ.set i (Sl.own false ds)).length := (List.getElem?_eq_some_iff.mp hj).1
      rw [List.length_set] at hl
      rw [List.getElem?_set_self hl] at hj
      cases hj
      exact .inl ⟨rfl, rfl, rfl, by rw [S.len]; exact hl⟩
    · rw [get_set_ne hij] at hj
      exact .inr ⟨hij, hj⟩
  refine ⟨S.fr, S.gr, by rw [List.length_set, List.length_set]; exact S.len, fun j e hj => ?_, fun j b es hj => ?_, fun j k b c es fs q hj hk e1 e2 => ?_⟩
  · by_cases hij : i = j
    · subst hij
      have hl : i < (δ.set i (Sl.own false ds)).length := (List.getElem?_eq_some_iff.mp hj).1
      rw [List.length_set] at hl
      rw [List.getElem?_set_self hl] at hj
      cases hj
    · rw [get_set_ne hij] at hj
      rw [get_set_ne hij]
      exact S.val j e hj
  · rcases cs hj with ⟨rfl, rfl, rfl, hl⟩ | ⟨hij, hj⟩
    · exact ⟨p, vs, List.getElem?_set_self hl, h1, h2, (fun z => nomatch z), h3, h4⟩
    · rw [get_set_ne hij]
      exact S.own j b es hj
  · rcases cs hj with ⟨a1, a2, a3, hl⟩ | ⟨hij, hj'⟩
    · rcases cs hk with ⟨b1, b2, b3, hl2⟩ | ⟨hik, hk'⟩
      · exact a1.symm.trans b1
      · rw [← a1, List.getElem?_set_self hl] at e1
        cases e1
        rw [get_set_ne hik] at e2
        exact absurd e2 (ho k c fs hk')
    · rcases cs hk with ⟨b1, b2, b3, hl2⟩ | ⟨hik, hk'⟩
      · rw [← b1, List.getElem?_set_self hl2] at e2
        cases e2
        rw [get_set_ne hij] at e1
        exact absurd e1 (ho j b es hj')
      · rw [get_set_ne hij] at e1
        rw [get_set_ne hik] at e2
        exact S.inj j k b c es fs q hj' hk' e1 e2
/-- an owned list is changed -/
theorem Stt.mutOwn {i : Nat} {b : Bool} {ds es : List D} {p : Addr} {vs : List V} (S : Stt K F pa G σ δ H) (hi : δ[i]? = some (.own b ds)) (hp : σ[i]? = some (some (.ref p))) (h : Reps K G es vs) :
    Stt K F pa G σ (δ.set i (.own b es)) (upd H p (.lst vs)) := by
  obtain ⟨p', us, h1, h2, h3, h4, h5, h6⟩ := S.own i b ds hi
  rw [hp] at h1
  cases h1
  have cs : ∀ {j : Nat} {c fs}, (δ.set i (Sl.own b es))[j]? = some (Sl.own c fs) → (i = j ∧ c = b ∧ fs = es) ∨ (i ≠ j ∧ δ[j]? = some (Sl.own c fs)) := fun {j c fs} hj => by
    by_cases hij : i = j
    · subst hij
      rw [get_set_self hi] at hj
      cases hj
      exact .inl ⟨rfl, rfl, rfl⟩
    · rw [get_set_ne hij] at hj
      exact .inr ⟨hij, hj⟩
  have keepE : ∀ {A : Hp}, A p = none → Ex A H → Ex A (upd H p (.lst vs)) := fun {A} hA e a o q => by
    rw [upd_ne (fun z => by rw [z, hA] at q; cases q)]
    exact e a o q
  refine ⟨keepE h3 S.fr, keepE h2 S.gr, by rw [List.length_set]; exact S.len, fun j e hj => ?_, fun j c fs hj => ?_, fun j k c c' fs fs' q hj hk e1 e2 => ?_⟩
  · by_cases hij : i = j
    · subst hij
      rw [get_set_self hi] at hj
      cases hj
    · rw [get_set_ne hij] at hj
      exact S.val j e hj
  · rcases cs hj with ⟨rfl, rfl, rfl⟩ | ⟨hij, hj⟩
    · exact ⟨p, vs, hp, h2, h3, h4, upd_same, h⟩
    · obtain ⟨q, ws, q1, q2, q3, q4, q5, q6⟩ := S.own j c fs hj
      refine ⟨q, ws, q1, q2, q3, q4, ?_, q6⟩
      rw [upd_ne (fun z => hij (S.inj i j b c ds fs p hi hj hp (by rw [q1, z])))]
      exact q5
  · have a1 : ∃ d', δ[j]? = some (Sl.own c d') := by
      rcases cs hj with ⟨rfl, rfl, rfl⟩ | ⟨_, hj⟩
      · exact ⟨_, hi⟩
      · exact ⟨_, hj⟩
    have a2 : ∃ d', δ[k]? = some (Sl.own c' d') := by
      rcases cs hk with ⟨rfl, rfl, rfl⟩ | ⟨_, hk⟩
      · exact ⟨_, hi⟩
      · exact ⟨_, hk⟩
    obtain ⟨d1, b1⟩ := a1
    obtain ⟨d2, b2⟩ := a2
    exact S.inj j k c c' d1 d2 q b1 b2 e1 e2

/-! ### statements -/
def sNext : SM := fun δ => some (.nxt, δ)
theorem ss_next : SdS K tNext sNext := fun F pa G σ δ H S c δ' e D q => by
  simp only [sNext, Option.some.injEq, Prod.mk.injEq] at e
  obtain ⟨e1, e2⟩ := e
  subst e1 e2
  exact q G σ H (GEx.refl F G) S
def sBreak : SM := fun δ => some (.brk, δ)
theorem ss_break : SdS K tBreak sBreak := fun F pa G σ δ H S c δ' e D q => by
  simp only [sBreak, Option.some.injEq, Prod.mk.injEq] at e
  obtain ⟨e1, e2⟩ := e
  subst e1 e2
  exact q G σ H (GEx.refl F G) S
def sCont : SM := fun δ => some (.cnt, δ)
theorem ss_cont : SdS K tCont sCont := fun F pa G σ δ H S c δ' e D q => by
  simp only [sCont, Option.some.injEq, Prod.mk.injEq] at e
  obtain ⟨e1, e2⟩ := e
  subst e1 e2
  exact q G σ H (GEx.refl F G) S
def sNever : SM := fun _ => none
theorem ss_never : SdS K tNever sNever := fun F pa G σ δ H S c δ' e D q => nomatch e
def sSeq (ms ns : SM) : SM := fun δ => (ms δ).bind fun p => match p.1 with
  | .nxt => ns p.2
  | c => some (c, p.2)
theorem ss_seq (h1 : SdS K ts ms) (h2 : SdS K us ns) : SdS K (tSeq ts us) (sSeq ms ns) := fun F pa G σ δ H S c δ' e D q => by
  obtain ⟨⟨c1, δ1⟩, e1, e⟩ := bind_some' e
  refine h1 F pa G σ δ H S _ _ e1 _ ?_
  cases c1 with
  | nxt => exact fun G1 σ1 H1 g1 S1 => h2 F pa G1 σ1 δ1 H1 S1 _ _ e D (q.mono g1)
  | brk =>
    simp only [Option.some.injEq, Prod.mk.injEq] at e
    obtain ⟨rfl, rfl⟩ := e
    exact q
  | cnt =>
    simp only [Option.some.injEq, Prod.mk.injEq] at e
    obtain ⟨rfl, rfl⟩ := e
    exact q
  | ret r =>
    simp only [Option.some.injEq, Prod.mk.injEq] at e
    obtain ⟨rfl, rfl⟩ := e
    exact q
def sDrop (me : EM) : SM := fun δ => (me δ).bind fun p => some (.nxt, p.2)
theorem ss_drop (h : Sd K te me) : SdS K (tDrop te) (sDrop me) := fun F pa G σ δ H S c δ' e D q => by
  obtain ⟨p, h1, e⟩ := bind_some' e
  simp only [Option.some.injEq, Prod.mk.injEq] at e
  obtain ⟨rfl, rfl⟩ := e
  exact h F pa G σ δ H S _ _ h1 _ fun G1 x H1 g1 S1 r1 => q G1 σ H1 g1 S1
def sRet (me : EM) : SM := fun δ => (me δ).bind fun p => some (.ret p.1, p.2)
theorem ss_ret (h : Sd K te me) : SdS K (tRet te) (sRet me) := fun F pa G σ δ H S c δ' e D q => by
  obtain ⟨p, h1, e⟩ := bind_some' e
  simp only [Option.some.injEq, Prod.mk.injEq] at e
  obtain ⟨rfl, rfl⟩ := e
  exact h F pa G σ δ H S _ _ h1 _ fun G1 x H1 g1 S1 r1 => q G1 σ x H1 g1 S1 r1
def sRetN : SM := fun δ => some (.ret (.val .non), δ)
theorem ss_retN : SdS K tRetN sRetN := fun F pa G σ δ H S c δ' e D q => by
  simp only [sRetN, Option.some.injEq, Prod.mk.injEq] at e
  obtain ⟨rfl, rfl⟩ := e
  exact q G σ .non H (GEx.refl F G) S Rep.non
def sIf (mt : TM) (ms ns : SM) : SM := fun δ => (mt δ).bind fun p => match p.1 with
  | true => ms p.2
  | false => ns p.2
theorem ss_if (ht : SdT K t mt) (h1 : SdS K ts ms) (h2 : SdS K us ns) : SdS K (tIfS t ts us) (sIf mt ms ns) := fun F pa G σ δ H S c δ' e D q => by
  obtain ⟨⟨b, δ1⟩, e1, e⟩ := bind_some' e
  refine ht F pa G σ δ H S _ _ e1 _ fun G1 H1 g1 S1 => ?_
  cases b with
  | true => exact iteT (h1 F pa G1 σ δ1 H1 S1 _ _ e D (q.mono g1))
  | false => exact iteF (h2 F pa G1 σ δ1 H1 S1 _ _ e D (q.mono g1))
/-- name = e -/
def sSet (i : Nat) (me : EM) : SM := fun δ => (me δ).bind fun p => match p.1 with
  | .val d => some (.nxt, p.2.set i (.val d))
  | .tmp ds => some (.nxt, p.2.set i (.own false ds))
  | .slot j => (fix (.slot j) p.2).bind fun q => some (.nxt, q.2.set i (.val q.1))
theorem ss_set {i : Nat} (h : Sd K te me) : SdS K (tAsg te (gName i)) (sSet i me) := fun F pa G σ δ H S c δ' e D q => by
  obtain ⟨⟨r, δ1⟩, h1, e⟩ := bind_some' e
  refine h F pa G σ δ H S _ _ h1 _ fun G1 x H1 g1 S1 r1 => ?_
  cases r with
  | val d =>
    simp only [Option.some.injEq, Prod.mk.injEq] at e
    obtain ⟨rfl, rfl⟩ := e
    exact q G1 _ H1 g1 (S1.setVal r1)
  | tmp ds =>
    simp only [Option.some.injEq, Prod.mk.injEq] at e
    obtain ⟨rfl, rfl⟩ := e
    obtain ⟨p, vs, rfl, a1, a2, a3, a4, a5⟩ := r1
    exact q G1 _ H1 g1 (S1.setOwn a1 a2 a3 a4 a5)
  | slot j =>
    obtain ⟨⟨d, δ2⟩, h2, e⟩ := bind_some' e
    simp only [Option.some.injEq, Prod.mk.injEq] at e
    obtain ⟨rfl, rfl⟩ := e
    obtain ⟨G2, g2, S2, q2⟩ := fix_ok S1 r1 h2
    exact q G2 _ H1 (g1.trans g2) (S2.setVal q2)
/-! ### targets -/
theorem wipe_comm (σ : L2.St) (x : Option V) : ∀ (vs : List Nat) (j : Nat), j ∈ vs → wipe (σ.set j x) vs = wipe σ vs
  | [], j, h => by cases h
  | v :: vs, j, h => by
    unfold wipe
    by_cases hm : j ∈ vs
    · rw [wipe_comm σ x vs j hm]
    · have e : j = v := by
        rcases List.mem_cons.mp h with e | e
        · exact e
        · exact absurd e hm
      subst e
      have : ∀ (τ : L2.St) (ws : List Nat), wipe (τ.set j x) ws = (wipe τ ws).set j (if j ∈ ws then none else x) ∨ True := fun _ _ => .inr trivial
      clear this
      have key : ∀ (τ : L2.St) (ws : List Nat), j ∉ ws → wipe (τ.set j x) ws = (wipe τ ws).set j x := by
        intro τ ws
        induction ws with
        | nil => intro _; rfl
        | cons w ws ih =>
          intro hw
          unfold wipe
          rw [ih (fun z => hw (List.mem_cons_of_mem _ z)), List.set_comm _ _ (fun z => hw (by rw [z]; exact List.mem_cons_self))]
      rw [key σ vs hm, List.set_set]
def gN (j : Nat) : GM := fun d δ => some (δ.set j (.val d))
theorem sg_name {j : Nat} : Sg K (gName j) (gN j) [j] := fun F pa G σ δ H S d x h δ' e Q q => by
  have hw : ∀ vs : List Nat, (∀ k ∈ [j], k ∈ vs) → wipe (σ.set j (some x)) vs = wipe σ vs := fun vs hv => wipe_comm σ _ vs j (hv j (by simp))
  simp only [gN, Option.some.injEq] at e
  subst e
  exact q _ hw (S.setVal h)
/-- several targets, item by item -/
abbrev GsM := List D → DEnv → Option DEnv
def SgS (K : PySem.W.Frag) (g : TGs) (tg : GsM) (ts : List Nat) : Prop := ∀ F pa G σ δ H, Stt K F pa G σ δ H → ∀ ds xs, Reps K G ds xs → ∀ δ', tg ds δ = some δ' → ∀ Q : L2.St → Hp → Prop,
  (∀ σ', (∀ vs : List Nat, (∀ j ∈ ts, j ∈ vs) → wipe σ' vs = wipe σ vs) → Stt K F pa G σ' δ' H → Q σ' H) → g xs σ H Q
def gsNil : GsM := fun ds δ => match ds with
  | [] => some δ
  | _ => none
def gsCons (tg : GM) (th : GsM) : GsM := fun ds δ => match ds with
  | [] => none
  | d :: ds => (tg d δ).bind fun δ1 => th ds δ1
theorem sgs_nil : SgS K gNil gsNil [] := fun F pa G σ δ H S ds xs h δ' e Q q => by
  cases h with
  | nil =>
    simp only [gsNil, Option.some.injEq] at e
    subst e
    exact ⟨rfl, q σ (fun _ _ => rfl) S⟩
  | cons _ _ => cases e
theorem sgs_cons {gs : TGs} {th : GsM} {ks : List Nat} (h1 : Sg K g tg js) (h2 : SgS K gs th ks) : SgS K (gCons g gs) (gsCons tg th) (js ++ ks) := fun F pa G σ δ H S ds xs h δ' e Q q => by
  cases h with
  | nil => cases e
  | cons r rs =>
    obtain ⟨δ1, e1, e⟩ := bind_some' e
    refine ⟨_, _, rfl, h1 F pa G σ δ H S _ _ r _ e1 _ fun σ1 w1 S1 => ?_⟩
    exact h2 F pa G σ1 δ1 H S1 _ _ rs _ e _ fun σ2 w2 S2 => q σ2 (fun vs hv => (w2 vs fun j hj => hv j (List.mem_append_right _ hj)).trans (w1 vs fun j hj => hv j (List.mem_append_left _ hj))) S2
def gU (n : Nat) (th : GsM) : GM := fun d δ => match d with
  | .tup ds => if ds.length = n then th ds δ else none
  | .lst ds => if ds.length = n then th ds δ else none
  | .ro ds => if ds.length = n then th ds δ else none
  | .tw ds => if ds.length = n then th ds δ else none
  | _ => none
/-- a tuple or a list taken apart -/
def gAny (K : PySem.W.Frag) (n : Nat) (t : TGs) : TG := fun v σ H Q => gTup K n t v σ H Q ∨ gUnl K n t v σ H Q
theorem pg_any {X : Cx} {pos : Pos} {es : List Expr} {k : Nat} {t : TGs} {n : Nat} (hc : X.calm = true) (h : PGs X es t)
    (hn : (assignEach es X.env).length = n := by rfl) (hst : (assignEach es X.env).findIdx? (·.1) = none := by rfl) : PG X (.Tuple es k pos) (gAny X.K n t) := by
  refine ⟨fun pins s σ H v u Q I r hw => ?_⟩
  rcases hw with hw | hw
  · exact (pg_tup hc h hn hst).run pins s σ H v u Q I r hw
  · exact (pg_unl hc h hn hst).run pins s σ H v u Q I r hw
theorem sg_any {n : Nat} {gs : TGs} {th : GsM} (h : SgS K gs th js) : Sg K (gAny K n gs) (gU n th) js := fun F pa G σ δ H S d x r δ' e Q q => by
  cases r with
  | tup a rs =>
    simp only [gU] at e
    split at e
    · rename_i hl
      exact .inl ⟨_, _, rfl, ex_t S.gr a.1, by rw [← rs.length]; exact hl, h F pa G σ δ H S _ _ rs _ e Q q⟩
    · cases e
  | tw a rs =>
    simp only [gU] at e
    split at e
    · rename_i hl
      exact .inl ⟨_, _, rfl, ex_t S.gr a, by rw [← rs.length]; exact hl, h F pa G σ δ H S _ _ rs _ e Q q⟩
    · cases e
  | lst a rs =>
    simp only [gU] at e
    split at e
    · rename_i hl
      exact .inr ⟨_, _, rfl, SqL.of (S.gr _ _ a), by rw [← rs.length]; exact hl, h F pa G σ δ H S _ _ rs _ e Q q⟩
    · cases e
  | ro a rs =>
    simp only [gU] at e
    split at e
    · rename_i hl
      exact .inr ⟨_, _, rfl, ex_l S.gr a, by rw [← rs.length]; exact hl, h F pa G σ δ H S _ _ rs _ e Q q⟩
    · cases e
  | non => cases e
  | bl b => cases e
  | int b => cases e
  | str b => cases e
/-- targets = e, the value kept -/
def sAsg (tg : GM) (me : EM) : SM := fun δ => (me δ).bind fun p => (fix p.1 p.2).bind fun q => (tg q.1 q.2).bind fun δ1 => some (.nxt, δ1)
theorem ss_asg (h : Sd K te me) (hg : Sg K g tg js) : SdS K (tAsg te g) (sAsg tg me) := fun F pa G σ δ H S c δ' e D q => by
  obtain ⟨p, h1, e⟩ := bind_some' e
  obtain ⟨p2, h2, e⟩ := bind_some' e
  obtain ⟨δ1, h3, e⟩ := bind_some' e
  simp only [Option.some.injEq, Prod.mk.injEq] at e
  obtain ⟨rfl, rfl⟩ := e
  refine h F pa G σ δ H S _ _ h1 _ fun G1 x H1 g1 S1 r1 => ?_
  obtain ⟨G2, g2, S2, q2⟩ := fix_ok S1 r1 h2
  exact hg F pa G2 σ _ H1 S2 _ _ q2 _ h3 _ fun σ' _ S3 => q G2 σ' H1 (g1.trans g2) S3
/-- name op= e, ints -/
def sAug (i : Nat) (f : Int → Int → Int) (me : EM) : SM := fun δ => match δ[i]? with
  | some (.val (.int a)) => (me δ).bind fun p => match p.1 with
    | .val (.int b) => some (.nxt, p.2.set i (.val (.int (f a b))))
    | _ => none
  | _ => none
theorem ss_aug {i : Nat} {f : Int → Int → Int} (h : Sd K te me) : SdS K (tAug i te (ipI f)) (sAug i f me) := fun F pa G σ δ H S c δ' e D q => by
  simp only [sAug] at e
  split at e
  · rename_i a hi
    obtain ⟨⟨r, δ1⟩, h1, e⟩ := bind_some' e
    obtain ⟨v, a1, a2⟩ := S.val i _ hi
    refine ⟨v, a1, ?_⟩
    refine h F pa G σ δ H S _ _ h1 _ fun G1 x H1 g1 S1 r1 => ?_
    simp only at e
    split at e
    · rename_i b0 b
      simp only [Option.some.injEq, Prod.mk.injEq] at e
      obtain ⟨rfl, rfl⟩ := e
      cases a2
      cases r1
      exact ⟨a, b, rfl, rfl, q G1 _ H1 g1 (S1.setVal (Rep.int _))⟩
    · cases e
  · cases e
/-- name[k] = e, the list the name's own -/
def sSub (i : Nat) (me mi : EM) : SM := fun δ => (me δ).bind fun p => match p.2[i]? with
  | some (.own _ _) => (mi p.2).bind fun q => (fix (hold p.1) q.2).bind fun z => match q.1 with
    | .val (.int k) => match z.2[i]? with
      | some (.own b ds) => (ixN ds.length k).bind fun j => some (.nxt, z.2.set i (.own b (ds.set j z.1)))
      | _ => none
    | _ => none
  | _ => none
theorem ss_sub {i : Nat} {ti : TE} {mi : EM} (h : Sd K te me) (hi : Sd K ti mi) : SdS K (tAsg te (gSub (tVar i) ti rSetL)) (sSub i me mi) := fun F pa G σ δ H S c δ' e D q => by
  obtain ⟨⟨r, δ1⟩, h1, e⟩ := bind_some' e
  simp only at e
  split at e
  · rename_i b0 ds0 hb0
    obtain ⟨⟨r2, δ2⟩, h2, e⟩ := bind_some' e
    obtain ⟨⟨d, δ3⟩, h3, e⟩ := bind_some' e
    simp only at e h2 h3
    split at e
    · rename_i k
      split at e
      · rename_i b ds hb
        obtain ⟨j, h4, e⟩ := bind_some' e
        simp only [Option.some.injEq, Prod.mk.injEq] at e
        obtain ⟨rfl, rfl⟩ := e
        refine h F pa G σ δ H S _ _ h1 _ fun G1 x H1 g1 S1 r1 => ?_
        obtain ⟨G1', g1', S1', r1'⟩ := hold_ok S1 r1
        obtain ⟨p, vs0, o1, _⟩ := S1'.own i b0 ds0 hb0
        refine ⟨_, o1, ?_⟩
        refine hi F pa G1' σ _ H1 S1' _ _ h2 _ fun G2 y H2 g2 S2 q2 => ?_
        obtain ⟨G3, g3, S3, q3⟩ := fix_ok S2 (hold_stays g2.1 r1') h3
        obtain ⟨p', vs, o2, o3, o4, o5, o6, o7⟩ := S3.own i b ds hb
        rw [o1] at o2
        cases o2
        cases q2
        refine ⟨p, vs, _, j, rfl, rfl, o6, by rw [← o7.length]; exact h4, ?_⟩
        exact q G3 σ _ (((g1.trans g1').trans g2).trans g3) (S3.mutOwn hb o1 (Reps.set j q3 o7))
      · cases e
    · cases e
  · cases e
/-- name.append(e), the list the name's own -/
def sApp (i : Nat) (me : EM) : SM := fun δ => match δ[i]? with
  | some (.own _ _) => (me δ).bind fun p => (fix (hold p.1) p.2).bind fun z => match z.2[i]? with
    | some (.own b ds) => if ds.length < 100000 then some (.nxt, z.2.set i (.own b (ds ++ [z.1]))) else none
    | _ => none
  | _ => none
theorem ss_app {i : Nat} (h : Sd K te me) : SdS K (tDrop (tBM K "list" rAppend (tVar i) (tCons te tNil))) (sApp i me) := fun F pa G σ δ H S c δ' e D q => by
  simp only [sApp] at e
  split at e
  · rename_i b0 ds0 hb0
    obtain ⟨⟨r, δ1⟩, h1, e⟩ := bind_some' e
    obtain ⟨⟨d, δ2⟩, h2, e⟩ := bind_some' e
    simp only at e h2
    split at e
    · rename_i b ds hb
      split at e
      · rename_i hl
        simp only [Option.some.injEq, Prod.mk.injEq] at e
        obtain ⟨rfl, rfl⟩ := e
        obtain ⟨p, vs0, o1, o2, o3, o4, o5, o6⟩ := S.own i b0 ds0 hb0
        refine ⟨_, o1, .inl ⟨rfl, _, SqL.of o5⟩, ?_⟩
        refine h F pa G σ δ H S _ _ h1 _ fun G1 x H1 g1 S1 r1 => ?_
        obtain ⟨G1', g1', S1', r1'⟩ := hold_ok S1 r1
        obtain ⟨G2, g2, S2, q2⟩ := fix_ok S1' r1' h2
        obtain ⟨p', vs, w1, w2, w3, w4, w5, w6⟩ := S2.own i b ds hb
        rw [o1] at w1
        cases w1
        exact ⟨p, vs, x, rfl, rfl, w5, sz_lt (by rw [← w6.length]; exact hl), q G2 σ _ ((g1.trans g1').trans g2) (S2.mutOwn hb o1 (w6.append (.cons q2 .nil)))⟩
      · cases e
    · cases e
  · cases e

/-! ### loops -/
def sWhile (mt : TM) (mb : SM) : Nat → SM
  | 0, _ => none
  | n + 1, δ => (mt δ).bind fun p => match p.1 with
    | false => some (.nxt, p.2)
    | true => (mb p.2).bind fun q => match q.1 with
      | .nxt => sWhile mt mb n q.2
      | .cnt => sWhile mt mb n q.2
      | .brk => some (.nxt, q.2)
      | .ret r => some (.ret r, q.2)
theorem ss_while {n : Nat} (ht : SdT K t mt) (hb : SdS K ts ms) : SdS K (tWhile t ts) (sWhile mt ms n) := fun F pa G σ δ H S c δ' e D q => by
  refine ⟨fun m σ' H' => ∃ Gm δm, GEx F G Gm ∧ Stt K F pa Gm σ' δm H' ∧ sWhile mt ms m δm = some (c, δ'), ⟨n, G, δ, GEx.refl F G, S, e⟩, ?_⟩
  rintro m σ' H' ⟨Gm, δm, gm, Sm, em⟩
  cases m with
  | zero => cases em
  | succ m =>
    obtain ⟨⟨b, δ1⟩, h1, em⟩ := bind_some' em
    refine ht F pa Gm σ' δm H' Sm _ _ h1 _ fun G1 H1 g1 S1 => ?_
    cases b with
    | false =>
      simp only [Option.some.injEq, Prod.mk.injEq] at em
      obtain ⟨rfl, rfl⟩ := em
      exact iteF (q G1 σ' H1 (gm.trans g1) S1)
    | true =>
      obtain ⟨⟨c1, δ2⟩, h2, em⟩ := bind_some' em
      refine iteT ⟨fun σ2 H2 => ∃ Gm δm, GEx F G Gm ∧ Stt K F pa Gm σ2 δm H2 ∧ sWhile mt ms m δm = some (c, δ'), fun σ2 H2 h => ⟨m, Nat.lt_succ_self m, h⟩, ?_⟩
      refine hb F pa G1 σ' δ1 H1 S1 _ _ h2 _ ?_
      cases c1 with
      | nxt => exact fun G2 σ2 H2 g2 S2 => ⟨G2, δ2, (gm.trans g1).trans g2, S2, em⟩
      | cnt => exact fun G2 σ2 H2 g2 S2 => ⟨G2, δ2, (gm.trans g1).trans g2, S2, em⟩
      | brk =>
        simp only [Option.some.injEq, Prod.mk.injEq] at em
        obtain ⟨rfl, rfl⟩ := em
        exact fun G2 σ2 H2 g2 S2 => q G2 σ2 H2 ((gm.trans g1).trans g2) S2
      | ret r =>
        simp only [Option.some.injEq, Prod.mk.injEq] at em
        obtain ⟨rfl, rfl⟩ := em
        exact fun G2 σ2 v H2 g2 S2 r2 => q G2 σ2 v H2 ((gm.trans g1).trans g2) S2 r2
def forD (tg : GM) (mb : SM) : List D → SM
  | [], δ => some (.nxt, δ)
  | d :: ds, δ => (tg d δ).bind fun δ1 => (mb δ1).bind fun q => match q.1 with
    | .nxt => forD tg mb ds q.2
    | .cnt => forD tg mb ds q.2
    | .brk => some (.nxt, q.2)
    | .ret r => some (.ret r, q.2)
def sFor (mi : IM) (tg : GM) (mb : SM) : SM := fun δ => (mi δ).bind fun p => forD tg mb p.1 p.2
theorem ss_for {wi : TI} {mi : IM} (hi : SdI K wi mi) (hg : Sg K g tg js) (hb : SdS K ts ms) : SdS K (tFor wi g ts) (sFor mi tg ms) := fun F pa G σ δ H S c δ' e D q => by
  obtain ⟨⟨ds, δ0⟩, h1, e⟩ := bind_some' e
  refine hi F pa G σ δ H S _ _ h1 _ fun G0 J H0 g0 S0 wk => ?_
  refine ⟨fun i m σ' H' => m = ds.length - i ∧ i ≤ ds.length ∧ ∃ Gi δi, GEx F G0 Gi ∧ Stt K F pa Gi σ' δi H' ∧ forD tg ms (ds.drop i) δi = some (c, δ'), ⟨ds.length, rfl, Nat.zero_le _, G0, δ0, GEx.refl F G0, S0, e⟩, ?_⟩
  rintro i m σ' H' ⟨rfl, hi, Gi, δi, gi, Si, ei⟩
  obtain ⟨go, stop⟩ := wk F pa i Gi σ' δi H' gi.1 Si
  by_cases hlt : i < ds.length
  · obtain ⟨go1, go2⟩ := go ds[i] (List.getElem?_eq_getElem hlt)
    rw [List.drop_eq_getElem_cons hlt] at ei
    obtain ⟨δ1, h2, ei⟩ := bind_some' ei
    obtain ⟨⟨c1, δ2⟩, h3, ei⟩ := bind_some' ei
    refine .inr ⟨go1, fun σ2 H2 => ∃ Gi δi, GEx F G0 Gi ∧ Stt K F pa Gi σ2 δi H2 ∧ forD tg ms (ds.drop (i + 1)) δi = some (c, δ'), fun σ2 H2 h => ⟨ds.length - (i + 1), by omega, rfl, hlt, h⟩, fun x H2 y => ?_⟩
    obtain ⟨G3, g3, S3, r3⟩ := go2 x H2 y
    refine hg F pa G3 σ' δi H2 S3 _ _ r3 _ h2 _ fun σ4 _ S4 => ?_
    refine hb F pa G3 σ4 δ1 H2 S4 _ _ h3 _ ?_
    cases c1 with
    | nxt => exact fun G5 σ5 H5 g5 S5 => ⟨G5, δ2, (gi.trans g3).trans g5, S5, ei⟩
    | cnt => exact fun G5 σ5 H5 g5 S5 => ⟨G5, δ2, (gi.trans g3).trans g5, S5, ei⟩
    | brk =>
      simp only [Option.some.injEq, Prod.mk.injEq] at ei
      obtain ⟨rfl, rfl⟩ := ei
      exact fun G5 σ5 H5 g5 S5 => q G5 σ5 H5 (((g0.trans gi).trans g3).trans g5) S5
    | ret r =>
      simp only [Option.some.injEq, Prod.mk.injEq] at ei
      obtain ⟨rfl, rfl⟩ := ei
      exact fun G5 σ5 v H5 g5 S5 r5 => q G5 σ5 v H5 (((g0.trans gi).trans g3).trans g5) S5 r5
  · have e1 : i = ds.length := by omega
    subst e1
    rw [List.drop_length] at ei
    simp only [forD, Option.some.injEq, Prod.mk.injEq] at ei
    obtain ⟨rfl, rfl⟩ := ei
    exact .inl ⟨stop rfl, q Gi σ' H' (g0.trans gi) Si⟩
end
end Pd
end
section
set_option Elab.async false
set_option linter.all false
set_option maxRecDepth 100000
set_option maxHeartbeats 1000000
namespace Pd
open PySem PySem.Spec PyProof.Rows L2 Evl

section
variable {K : PySem.W.Frag} {F G G' H H' : Hp} {pa : Addr} {σ : L2.St} {δ δ' : DEnv} {v : V} {r : R} {ta tb te tc : TE} {ma mb me mc : EM} {t u : TT} {mt mu : TM} {ts us : TS} {ms ns : SM} {g : TG} {tg : GM} {js : List Nat}

/-! ### comprehensions -/
/-- the slots at vs forgotten; put back as they were -/
@[simp] def blk : List Nat → DEnv → DEnv
  | [], δ => δ
  | v :: vs, δ => (blk vs δ).set v .none
@[simp] def back (δ : DEnv) : List Nat → DEnv → DEnv
  | [], δ2 => δ2
  | v :: vs, δ2 => (back δ vs δ2).set v (match δ[v]? with | some x => x | none => .none)
@[simp] def noOwn (δ : DEnv) (vs : List Nat) : Bool := vs.all fun v => match δ[v]? with
  | some (.own _ _) => false
  | _ => true
theorem blk_len : ∀ (vs : List Nat) (δ : DEnv), (blk vs δ).length = δ.length
  | [], _ => rfl
  | v :: vs, δ => by unfold blk; rw [List.length_set, blk_len vs δ]
theorem back_len (δ : DEnv) : ∀ (vs : List Nat) (δ2 : DEnv), (back δ vs δ2).length = δ2.length
  | [], _ => rfl
  | v :: vs, δ2 => by unfold back; rw [List.length_set, back_len δ vs δ2]
theorem blk_get {i : Nat} : ∀ {vs : List Nat} {δ : DEnv}, i ∉ vs → (blk vs δ)[i]? = δ[i]?
  | [], _, _ => rfl
  | v :: vs, δ, h => by
    unfold blk
    rw [get_set_ne (fun z => h (by rw [z]; exact List.mem_cons_self))]
    exact blk_get (fun z => h (List.mem_cons_of_mem _ z))
theorem blk_none {i : Nat} : ∀ {vs : List Nat} {δ : DEnv} {x : Sl}, i ∈ vs → (blk vs δ)[i]? = some x → x = .none
  | [], _, _, h, _ => by cases h
  | v :: vs, δ, x, h, e => by
    unfold blk at e
    by_cases hv : v = i
    · subst hv
      have hl : v < ((blk vs δ).set v Sl.none).length := (List.getElem?_eq_some_iff.mp e).1
      rw [List.length_set] at hl
      rw [List.getElem?_set_self hl] at e
      exact (Option.some.inj e).symm
    · rw [get_set_ne hv] at e
      rcases List.mem_cons.mp h with z | z
      · exact absurd z.symm hv
      · exact blk_none z e
theorem back_get {i : Nat} {δ : DEnv} : ∀ {vs : List Nat} {δ2 : DEnv}, i ∉ vs → (back δ vs δ2)[i]? = δ2[i]?
  | [], _, _ => rfl
  | v :: vs, δ2, h => by
    unfold back
    rw [get_set_ne (fun z => h (by rw [z]; exact List.mem_cons_self))]
    exact back_get (fun z => h (List.mem_cons_of_mem _ z))
theorem back_in {i : Nat} {δ : DEnv} : ∀ {vs : List Nat} {δ2 : DEnv} {x : Sl}, i ∈ vs → (back δ vs δ2)[i]? = some x → (match δ[i]? with | some x => x | none => Sl.none) = x
  | [], _, _, h, _ => by cases h
  | v :: vs, δ2, x, h, e => by
    unfold back at e
    by_cases hv : v = i
    · subst hv
      have hl := (List.getElem?_eq_some_iff.mp e).1
      rw [List.length_set] at hl
      rw [List.getElem?_set_self hl] at e
      exact Option.some.inj e
    · rw [get_set_ne hv] at e
      rcases List.mem_cons.mp h with z | z
      · exact absurd z.symm hv
      · exact back_in z e
theorem wipe_get {i : Nat} : ∀ {vs : List Nat} {σ : L2.St}, i ∉ vs → (wipe σ vs)[i]? = σ[i]?
  | [], _, _ => rfl
  | v :: vs, σ, h => by
    unfold wipe
    rw [get_set_ne (fun z => h (by rw [z]; exact List.mem_cons_self))]
    exact wipe_get (fun z => h (List.mem_cons_of_mem _ z))
theorem wipe_wipe (σ : L2.St) : ∀ vs : List Nat, ∀ ws : List Nat, (∀ j ∈ ws, j ∈ vs) → wipe (wipe σ ws) vs = wipe σ vs
  | vs, [], _ => rfl
  | vs, w :: ws, h => by
    show wipe ((wipe σ ws).set w none) vs = wipe σ vs
    rw [wipe_comm _ _ vs w (h w List.mem_cons_self)]
    exact wipe_wipe σ vs ws fun j hj => h j (List.mem_cons_of_mem _ hj)
theorem Stt.blk (S : Stt K F pa G σ δ H) (vs : List Nat) : Stt K F pa G (wipe σ vs) (Pd.blk vs δ) H := by
  refine ⟨S.fr, S.gr, by rw [wipe_length, blk_len]; exact S.len, fun i d hi => ?_, fun i b ds hi => ?_, fun i j b c ds es p hi hj h1 h2 => ?_⟩
  · by_cases hm : i ∈ vs
    · cases blk_none hm hi
    · rw [blk_get hm] at hi
      rw [wipe_get hm]
      exact S.val i d hi
  · by_cases hm : i ∈ vs
    · cases blk_none hm hi
    · rw [blk_get hm] at hi
      rw [wipe_get hm]
      exact S.own i b ds hi
  · by_cases hm : i ∈ vs
    · cases blk_none hm hi
    · by_cases hm' : j ∈ vs
      · cases blk_none hm' hj
      · rw [blk_get hm] at hi
        rw [blk_get hm'] at hj
        rw [wipe_get hm] at h1
        rw [wipe_get hm'] at h2
        exact S.inj i j b c ds es p hi hj h1 h2
/-- behind a block: the outer names as they were, but for owned lists -/
theorem Stt.back {F' : Hp} {σ2 : L2.St} {δ2 : DEnv} {vs : List Nat} (S : Stt K F pa G σ δ H) (S2 : Stt K F' pa G' σ2 δ2 H') (e : Ex G G') (hw : wipe σ2 vs = wipe σ vs) (no : noOwn δ vs = true) : Stt K F' pa G' σ (Pd.back δ vs δ2) H' := by
  have out : ∀ {i : Nat}, i ∉ vs → σ2[i]? = σ[i]? := fun {i} hm => by
    have z : (wipe σ2 vs)[i]? = (wipe σ vs)[i]? := by rw [hw]
    rw [wipe_get hm, wipe_get hm] at z
    exact z
  have hlen : σ2.length = σ.length := by
    have z := congrArg List.length hw
    rw [wipe_length, wipe_length] at z
    exact z
  have ow : ∀ {i b ds}, (Pd.back δ vs δ2)[i]? = some (Sl.own b ds) → i ∉ vs ∧ δ2[i]? = some (Sl.own b ds) := fun {i b ds} hi => by
    by_cases hm : i ∈ vs
    · have z := back_in hm hi
      have q := (List.all_eq_true.mp no) i hm
      cases h : δ[i]? with
      | none => rw [h] at z; cases z
      | some x =>
        rw [h] at z q
        simp only at z
        subst z
        cases q
    · rw [back_get hm] at hi
      exact ⟨hm, hi⟩
  refine ⟨S2.fr, S2.gr, by rw [back_len, ← S2.len, hlen], fun i d hi => ?_, fun i b ds hi => ?_, fun i j b c ds es p hi hj h1 h2 => ?_⟩
  · by_cases hm : i ∈ vs
    · have z := back_in hm hi
      cases h : δ[i]? with
      | none => rw [h] at z; cases z
      | some x =>
        rw [h] at z
        simp only at z
        subst z
        obtain ⟨v, a1, a2⟩ := S.val i d h
        exact ⟨v, a1, a2.mono e⟩
    · rw [back_get hm] at hi
      obtain ⟨v, a1, a2⟩ := S2.val i d hi
      rw [out hm] at a1
      exact ⟨v, a1, a2⟩
  · obtain ⟨hm, hi⟩ := ow hi
    obtain ⟨p, us, a1, a2⟩ := S2.own i b ds hi
    rw [out hm] at a1
    exact ⟨p, us, a1, a2⟩
  · obtain ⟨hm, hi⟩ := ow hi
    obtain ⟨hm', hj⟩ := ow hj
    rw [← out hm] at h1
    rw [← out hm'] at h2
    exact S2.inj i j b c ds es p hi hj h1 h2
/-- a list that a comprehension fills stands in the frame meanwhile -/
theorem Stt.frame {Dl : Addr} {xs : List V} (S : Stt K F pa G σ δ H) (hn : H Dl = none) : Stt K (upd F Dl (.lst xs)) pa G σ δ (upd H Dl (.lst xs)) := by
  have e : Ex H (upd H Dl (.lst xs)) := Ex.new hn
  refine ⟨fun a o q => ?_, S.gr.trans e, S.len, S.val, fun i b ds hi => ?_, S.inj⟩
  · by_cases ha : a = Dl
    · subst ha
      rw [upd_same] at q ⊢
      exact q
    · rw [upd_ne ha] at q ⊢
      exact S.fr a o q
  · obtain ⟨p, us, h1, h2, h3, h4, h5, h6⟩ := S.own i b ds hi
    have hp : p ≠ Dl := ne_of_none h5 hn
    exact ⟨p, us, h1, h2, by rw [upd_ne hp]; exact h3, h4, e _ _ h5, h6⟩
theorem Stt.reframe {Dl : Addr} {xs ys : List V} (S : Stt K (upd F Dl (.lst xs)) pa G σ δ H) (hG : G Dl = none) : Stt K (upd F Dl (.lst ys)) pa G σ δ (upd H Dl (.lst ys)) := by
  refine ⟨fun a o q => ?_, fun a o q => ?_, S.len, S.val, fun i b ds hi => ?_, S.inj⟩
  · by_cases ha : a = Dl
    · subst ha
      rw [upd_same] at q ⊢
      exact q
    · rw [upd_ne ha] at q ⊢
      exact S.fr a o (by rw [upd_ne ha]; exact q)
  · rw [upd_ne (ne_of_none q hG)]
    exact S.gr a o q
  · obtain ⟨p, us, h1, h2, h3, h4, h5, h6⟩ := S.own i b ds hi
    have hp : p ≠ Dl := fun z => by rw [z, upd_same] at h3; cases h3
    rw [upd_ne hp] at h3
    exact ⟨p, us, h1, h2, by rw [upd_ne hp]; exact h3, h4, by rw [upd_ne hp]; exact h5, h6⟩
theorem Stt.unframe {Dl : Addr} {xs : List V} (S : Stt K (upd F Dl (.lst xs)) pa G σ δ H) (hF : F Dl = none) : Stt K F pa G σ δ H := by
  refine ⟨(Ex.new hF).trans S.fr, S.gr, S.len, S.val, fun i b ds hi => ?_, S.inj⟩
  obtain ⟨p, us, h1, h2, h3, h4, h5, h6⟩ := S.own i b ds hi
  have hp : p ≠ Dl := fun z => by rw [z, upd_same] at h3; cases h3
  rw [upd_ne hp] at h3
  exact ⟨p, us, h1, h2, h3, h4, h5, h6⟩
theorem GEx.unframe {Dl : Addr} {o : HO} (e : GEx (upd F Dl o) G G') : GEx F G G' := ⟨e.1, fun a h => e.2 a (by
  by_cases ha : a = Dl
  · subst ha; rw [upd_same]; exact fun z => nomatch z
  · rw [upd_ne ha]; exact h)⟩
theorem GEx.at {Dl : Addr} {o : HO} (e : GEx (upd F Dl o) G G') (h : G Dl = none) : G' Dl = none := (e.2 Dl (by rw [upd_same]; exact fun z => nomatch z)).trans h

def lcD (tg : GM) (mt : TM) (me : EM) (vs : List Nat) : List D → DEnv → List D → Option (R × DEnv)
  | [], δ, acc => some (.tmp acc, δ)
  | d :: ds, δ, acc => (tg d (blk vs δ)).bind fun δ1 => (mt δ1).bind fun p => match p.1 with
    | true => (me p.2).bind fun q => (fix (hold q.1) q.2).bind fun z => if acc.length < 100000 then lcD tg mt me vs ds (back δ vs z.2) (acc ++ [z.1]) else none
    | false => lcD tg mt me vs ds (back δ vs p.2) acc
def eLc (mi : IM) (tg : GM) (mt : TM) (me : EM) (vs : List Nat) : EM := fun δ => (mi δ).bind fun p => if noOwn p.2 vs = true then lcD tg mt me vs p.1 p.2 [] else none
theorem noOwn_back {δ2 : DEnv} {vs : List Nat} (h : noOwn δ vs = true) : noOwn (back δ vs δ2) vs = true := by
  refine List.all_eq_true.mpr fun v hv => ?_
  have q := (List.all_eq_true.mp h) v hv
  cases e : (back δ vs δ2)[v]? with
  | none => rfl
  | some x =>
    have z := back_in hv e
    cases h : δ[v]? with
    | none => rw [h] at z; subst z; rfl
    | some y =>
      rw [h] at z q
      simp only at z
      subst z
      exact q
theorem sd_lc {wi : TI} {mi : IM} {vs : List Nat} (hi : SdI K wi mi) (hg : Sg K g tg js) (ht : SdT K t mt) (he : Sd K te me) (hj : ∀ j ∈ js, j ∈ vs) : Sd K (tLc wi g t te vs) (eLc mi tg mt me vs) := fun F pa G σ δ H S r' δ' e Q q => by
  obtain ⟨⟨ds, δ0⟩, h1, e⟩ := bind_some' e
  simp only at e
  split at e
  · rename_i no
    refine hi F pa G σ δ H S _ _ h1 _ fun G0 J H0 g0 S0 wk => ?_
    intro Dl hD
    have hFD : F Dl = none := none_of_ex S0.fr hD
    have hGD : G0 Dl = none := none_of_ex S0.gr hD
    refine ⟨fun i m H' => m = ds.length - i ∧ i ≤ ds.length ∧ ∃ Gi δi acc accV, GEx F G0 Gi ∧ Gi Dl = none ∧ Stt K (upd F Dl (.lst accV)) pa Gi σ δi H' ∧ Reps K Gi acc accV ∧ acc.length ≤ 100000 ∧ noOwn δi vs = true ∧ lcD tg mt me vs (ds.drop i) δi acc = some (r', δ'),
      ⟨ds.length, rfl, Nat.zero_le _, G0, δ0, [], [], GEx.refl F G0, hGD, S0.frame hD, .nil, Nat.zero_le _, no, e⟩, ?_⟩
    rintro i m H' ⟨rfl, hi, Gi, δi, acc, accV, gi, hGi, Si, ra, hl, noi, ei⟩
    obtain ⟨go, stop⟩ := wk _ pa i Gi σ δi H' gi.1 Si
    by_cases hlt : i < ds.length
    · obtain ⟨go1, go2⟩ := go ds[i] (List.getElem?_eq_getElem hlt)
      rw [List.drop_eq_getElem_cons hlt] at ei
      obtain ⟨δ1, h2, ei⟩ := bind_some' ei
      obtain ⟨⟨b, δ2⟩, h3, ei⟩ := bind_some' ei
      refine .inr ⟨go1, fun H2 => ∃ Gi δi acc accV, GEx F G0 Gi ∧ Gi Dl = none ∧ Stt K (upd F Dl (.lst accV)) pa Gi σ δi H2 ∧ Reps K Gi acc accV ∧ acc.length ≤ 100000 ∧ noOwn δi vs = true ∧ lcD tg mt me vs (ds.drop (i + 1)) δi acc = some (r', δ'),
        fun H2 h => ⟨ds.length - (i + 1), by omega, rfl, hlt, h⟩, fun x H2 y => ?_⟩
      -- the walk's step may lay a new object
      obtain ⟨G3, g3, S3, r3⟩ := (wk _ pa i Gi _ _ H' gi.1 (Si.blk vs)).1 ds[i] (List.getElem?_eq_getElem hlt) |>.2 x H2 y
      obtain ⟨G3', g3', S3', _⟩ := go2 x H2 y
      refine hg _ pa G3 (wipe σ vs) (blk vs δi) H2 S3 _ _ r3 _ h2 _ fun σ4 w4 S4 => ?_
      have hw : wipe σ4 vs = wipe σ vs := (w4 vs hj).trans (wipe_wipe σ vs vs fun _ h => h)
      refine ⟨by rw [hw], ?_⟩
      refine ht _ pa G3 σ4 δ1 H2 S4 _ _ h3 _ fun G5 H5 g5 S5 => ?_
      cases b with
      | true =>
        obtain ⟨⟨r, δ3⟩, h4, ei⟩ := bind_some' ei
        obtain ⟨⟨d, δ4⟩, h5, ei⟩ := bind_some' ei
        simp only at h4 h5 ei
        split at ei
        · rename_i hacc
          refine iteT ?_
          refine he _ pa G5 σ4 δ2 H5 S5 _ _ h4 _ fun G6 yv H6 g6 S6 r6 => ?_
          obtain ⟨G6', g6', S6', r6'⟩ := hold_ok S6 r6
          obtain ⟨G7, g7, S7, r7⟩ := fix_ok S6' r6' h5
          have gall := ((((g3.trans g5).trans g6).trans g6').trans g7)
          have hG7 : G7 Dl = none := gall.at hGi
          refine ⟨accV, S7.fr Dl _ upd_same, sz_lt (by rw [← ra.length]; exact hacc), ?_⟩
          refine ⟨G7, _, _, _, gi.trans gall.unframe, hG7, (Si.back S7 gall.1 hw noi).reframe hG7, (ra.mono gall.1).append (.cons r7 .nil), ?_, noOwn_back noi, ei⟩
          rw [List.length_append]
          show acc.length + 1 ≤ 100000
          omega
        · cases ei
      | false =>
        refine iteF ?_
        have gall := g3.trans g5
        exact ⟨G5, _, acc, accV, gi.trans gall.unframe, gall.at hGi, Si.back S5 gall.1 hw noi, ra.mono gall.1, hl, noOwn_back noi, ei⟩
    · have e1 : i = ds.length := by omega
      subst e1
      rw [List.drop_length] at ei
      simp only [lcD, Option.some.injEq, Prod.mk.injEq] at ei
      obtain ⟨rfl, rfl⟩ := ei
      refine .inl ⟨stop rfl, ?_⟩
      refine q Gi _ H' (g0.trans gi) (Si.unframe hFD) ⟨Dl, accV, rfl, hGi, hFD, Si.fr Dl _ upd_same, ra, fun k b es hk z => ?_⟩
      obtain ⟨p, us, a1, a2, a3, _⟩ := Si.own k b es hk
      rw [z] at a1
      cases a1
      rw [upd_same] at a3
      cases a3
  · cases e
def mYes : TM := fun δ => some (true, δ)
theorem st_yes' : SdT K tYes mYes := fun F pa G σ δ H S b δ' e Q q => by
  simp only [mYes, Option.some.injEq, Prod.mk.injEq] at e
  obtain ⟨rfl, rfl⟩ := e
  exact q G H (GEx.refl F G) S
end
end Pd
end
section
set_option Elab.async false
set_option linter.all false
set_option maxRecDepth 100000
set_option maxHeartbeats 1000000
namespace Pd
open PySem PySem.Spec PyProof.Rows L2 Evl

section
variable {K : PySem.W.Frag} {F G G' H H' : Hp} {pa : Addr} {σ : L2.St} {δ δ' : DEnv} {v : V} {r : R} {ta tb te tc : TE} {ma mb me mc : EM} {t u : TT} {mt mu : TM} {ts us : TS} {ms ns : SM} {g : TG} {tg : GM} {js : List Nat}

/-! ### what is walked -/
def iAny (K : PySem.W.Frag) (tl : TE) : TI := fun σ H R => iList K tl σ H R ∨ iTup K tl σ H R
theorem pi_any {X : Cx} {tg l : Expr} {tl : TE} (hl : PE X l tl) : PI X tg l (iAny X.K tl) := by
  refine ⟨fun pins s σ H R I h => ?_⟩
  rcases h with h | h
  · exact (pi_list hl).run pins s σ H R I h
  · exact (pi_tup hl).run pins s σ H R I h
def iSeq (me : EM) : IM := fun δ => (me δ).bind fun p => (fix p.1 p.2).bind fun q => match q.1 with
  | .lst ds => some (ds, q.2)
  | .tup ds => some (ds, q.2)
  | .ro ds => some (ds, q.2)
  | _ => none
theorem wk_list {a : Addr} {ds : List D} {vs : List V} (h : SqL K G a vs) (r : Reps K G ds vs) : Wk K G (Itl K a) ds := fun F pa i G2 σ2 δ2 H2 e S => by
  have hq : SqL K H2 a vs := ex_l (e.trans S.gr) h
  refine ⟨fun d hd => ?_, fun hn => ⟨vs, hq, ?_⟩⟩
  · obtain ⟨v, hv, rv⟩ := r.get hd
    refine ⟨⟨vs, v, hq, hv⟩, fun x H' y => ?_⟩
    obtain ⟨rfl, y⟩ := y
    have e1 : x = v := by
      have := y vs hq
      rw [hv] at this
      exact (Option.some.inj this).symm
    subst e1
    exact ⟨G2, GEx.refl F G2, S, rv.mono e⟩
  · rw [← r.length, hn]
    exact Nat.le_refl _
theorem wk_tup {a : Addr} {ds : List D} {vs : List V} (h : SqT K G a vs) (r : Reps K G ds vs) : Wk K G (Itt K a) ds := fun F pa i G2 σ2 δ2 H2 e S => by
  have hq : SqT K H2 a vs := ex_t (e.trans S.gr) h
  refine ⟨fun d hd => ?_, fun hn => ⟨vs, hq, ?_⟩⟩
  · obtain ⟨v, hv, rv⟩ := r.get hd
    refine ⟨⟨vs, v, hq, hv⟩, fun x H' y => ?_⟩
    obtain ⟨rfl, y⟩ := y
    have e1 : x = v := by
      have := y vs hq
      rw [hv] at this
      exact (Option.some.inj this).symm
    subst e1
    exact ⟨G2, GEx.refl F G2, S, rv.mono e⟩
  · rw [← r.length, hn]
    exact Nat.le_refl _
theorem si_any (h : Sd K te me) : SdI K (iAny K te) (iSeq me) := fun F pa G σ δ H S ds δ' e R q => by
  obtain ⟨p, h1, e⟩ := bind_some' e
  obtain ⟨⟨d, δ1⟩, h2, e⟩ := bind_some' e
  simp only at e
  have go : ∀ (Q : VK), (∀ G' x H', GEx F G G' → Stt K F pa G' σ δ1 H' → Rep K G' d x → Q x H') → te σ H Q := fun Q k => by
    refine h F pa G σ δ H S _ _ h1 _ fun G1 x H1 g1 S1 r1 => ?_
    obtain ⟨G2, g2, S2, q2⟩ := fix_ok S1 r1 h2
    exact k G2 x H1 (g1.trans g2) S2 q2
  cases d with
  | lst l =>
    simp only [Option.some.injEq, Prod.mk.injEq] at e
    obtain ⟨rfl, rfl⟩ := e
    refine .inl (go _ fun G1 x H1 g1 S1 r1 => ?_)
    cases r1 with
    | lst a rs => exact ⟨_, rfl, ⟨_, SqL.of (S1.gr _ _ a)⟩, q G1 _ H1 g1 S1 (wk_list (SqL.of a) rs)⟩
  | ro l =>
    simp only [Option.some.injEq, Prod.mk.injEq] at e
    obtain ⟨rfl, rfl⟩ := e
    refine .inl (go _ fun G1 x H1 g1 S1 r1 => ?_)
    cases r1 with
    | ro a rs => exact ⟨_, rfl, ⟨_, ex_l S1.gr a⟩, q G1 _ H1 g1 S1 (wk_list a rs)⟩
  | tup l =>
    simp only [Option.some.injEq, Prod.mk.injEq] at e
    obtain ⟨rfl, rfl⟩ := e
    refine .inr (go _ fun G1 x H1 g1 S1 r1 => ?_)
    cases r1 with
    | tup a rs => exact ⟨_, rfl, ⟨_, ex_t S1.gr a.1⟩, q G1 _ H1 g1 S1 (wk_tup a.1 rs)⟩
  | non => cases e
  | bl b => cases e
  | int b => cases e
  | str b => cases e
  | tw b => cases e
@[simp] def rangeD : Int → Nat → List D
  | _, 0 => []
  | lo, n + 1 => .int lo :: rangeD (lo + 1) n
theorem rangeD_len : ∀ (n : Nat) (lo : Int), (rangeD lo n).length = n
  | 0, _ => rfl
  | n + 1, lo => by
    show (rangeD (lo + 1) n).length + 1 = n + 1
    rw [rangeD_len n]
theorem rangeD_get : ∀ (n : Nat) (lo : Int) (i : Nat), i < n → (rangeD lo n)[i]? = some (.int (lo + i))
  | 0, _, _, h => by omega
  | n + 1, lo, 0, _ => by
    show some (Pd.D.int lo) = _
    rw [show lo + ((0 : Nat) : Int) = lo by omega]
  | n + 1, lo, i + 1, h => by
    show (rangeD (lo + 1) n)[i]? = _
    rw [rangeD_get n (lo + 1) i (by omega)]
    congr 2
    omega
theorem wk_range {lo : Int} {n : Nat} : Wk K G (Itr lo n) (rangeD lo n) := fun F pa i G2 σ2 δ2 H2 e S => by
  refine ⟨fun d hd => ?_, fun hn => ?_⟩
  · have hi : i < n := by
      have := (List.getElem?_eq_some_iff.mp hd).1
      rw [rangeD_len] at this
      exact this
    rw [rangeD_get n lo i hi] at hd
    cases hd
    refine ⟨hi, fun x H' y => ?_⟩
    obtain ⟨rfl, rfl⟩ := y
    exact ⟨G2, GEx.refl F G2, S, .int _⟩
  · rw [rangeD_len] at hn
    subst hn
    exact Nat.le_refl _
def iR1 (ma : AM) : IM := fun δ => (ma δ).bind fun p => match p.1 with
  | [.val (.int j)] => if -4611686018427387904 ≤ j ∧ j < 4611686018427387904 then some (rangeD 0 j.toNat, p.2) else none
  | _ => none
theorem si_r1 {ta : TA} {ma : AM} (h : SdA K ta ma) : SdI K (iRng1 ta) (iR1 ma) := fun F pa G σ δ H S ds δ' e R q => by
  obtain ⟨⟨rs, δ1⟩, h1, e⟩ := bind_some' e
  simp only at e
  split at e
  · rename_i j
    split at e
    · rename_i hj
      simp only [Option.some.injEq, Prod.mk.injEq] at e
      obtain ⟨rfl, rfl⟩ := e
      refine h F pa G σ δ H S _ _ h1 _ fun G1 vs H1 g1 S1 r1 => ?_
      cases r1 with
      | cons a b =>
        cases b
        cases a
        exact ⟨_, rfl, hj.1, hj.2, q G1 _ H1 g1 S1 wk_range⟩
    · cases e
  · cases e
def iR2 (ma : AM) : IM := fun δ => (ma δ).bind fun p => match p.1 with
  | [.val (.int i), .val (.int j)] => if -4611686018427387904 ≤ i ∧ i < 4611686018427387904 ∧ -4611686018427387904 ≤ j ∧ j < 4611686018427387904 then some (rangeD i (j - i).toNat, p.2) else none
  | _ => none
theorem si_r2 {ta : TA} {ma : AM} (h : SdA K ta ma) : SdI K (iRng2 ta) (iR2 ma) := fun F pa G σ δ H S ds δ' e R q => by
  obtain ⟨⟨rs, δ1⟩, h1, e⟩ := bind_some' e
  simp only at e
  split at e
  · rename_i i j
    split at e
    · rename_i hj
      simp only [Option.some.injEq, Prod.mk.injEq] at e
      obtain ⟨rfl, rfl⟩ := e
      refine h F pa G σ δ H S _ _ h1 _ fun G1 vs H1 g1 S1 r1 => ?_
      cases r1 with
      | cons a b =>
        cases b with
        | cons c d =>
          cases d
          cases a
          cases c
          exact ⟨_, _, rfl, hj, q G1 _ H1 g1 S1 wk_range⟩
    · cases e
  · cases e
/-- enumerate of a list -/
@[simp] def enumD : Int → List D → List D
  | _, [] => []
  | i, d :: ds => .tw [.int i, d] :: enumD (i + 1) ds
theorem enumD_len : ∀ (ds : List D) (i : Int), (enumD i ds).length = ds.length
  | [], _ => rfl
  | d :: ds, i => by
    show (enumD (i + 1) ds).length + 1 = ds.length + 1
    rw [enumD_len ds]
theorem enumD_get : ∀ (ds : List D) (k : Int) (i : Nat) (d : D), ds[i]? = some d → (enumD k ds)[i]? = some (.tw [.int (k + i), d])
  | [], _, _, _, h => by simp at h
  | e :: ds, k, 0, d, h => by
    have h' : e = d := Option.some.inj h
    subst h'
    show some (Pd.D.tw [.int k, e]) = _
    rw [show k + ((0 : Nat) : Int) = k by omega]
  | e :: ds, k, i + 1, d, h => by
    show (enumD (k + 1) ds)[i]? = _
    rw [enumD_get ds (k + 1) i d (by simpa using h)]
    congr 4
    omega
theorem wk_enum {a : Addr} {ds : List D} {vs : List V} (h : SqL K G a vs) (r : Reps K G ds vs) : Wk K G (Ite K a) (enumD 0 ds) := fun F pa i G2 σ2 δ2 H2 e S => by
  have hq : SqL K H2 a vs := ex_l (e.trans S.gr) h
  refine ⟨fun d hd => ?_, fun hn => ⟨vs, hq, ?_⟩⟩
  · have hl : i < ds.length := by
      have := (List.getElem?_eq_some_iff.mp hd).1
      rw [enumD_len] at this
      exact this
    rw [enumD_get ds 0 i _ (List.getElem?_eq_getElem hl)] at hd
    obtain ⟨v, hv, rv⟩ := r.get (List.getElem?_eq_getElem hl)
    refine ⟨⟨vs, v, hq, hv⟩, fun x H' y => ?_⟩
    cases hd
    obtain ⟨T, x', rfl, hT, rfl, y⟩ := y
    have e1 : x' = v := by
      have := y vs hq
      rw [hv] at this
      exact (Option.some.inj this).symm
    subst e1
    refine ⟨_, S.gexNew hT, S.newG hT, Rep.tw (SqT.of upd_same) (.cons ?_ (.cons (rv.mono (e.trans (S.gexNew (F := F) hT).1)) .nil))⟩
    rw [show (0 : Int) + (i : Int) = (i : Int) by omega]
    exact .int _
  · rw [← r.length, hn, enumD_len]
    exact Nat.le_refl _
def iEn (ma : AM) : IM := fun δ => (ma δ).bind fun p => (keep p.1 p.2).bind fun q => match q.1 with
  | [.lst ds] => some (enumD 0 ds, q.2)
  | [.ro ds] => some (enumD 0 ds, q.2)
  | _ => none
theorem si_enum {ta : TA} {ma : AM} (h : SdA K ta ma) : SdI K (iEnum K ta) (iEn ma) := fun F pa G σ δ H S ds δ' e R q => by
  obtain ⟨p, h1, e⟩ := bind_some' e
  obtain ⟨⟨es, δ1⟩, h2, e⟩ := bind_some' e
  simp only at e
  split at e
  · simp only [Option.some.injEq, Prod.mk.injEq] at e
    obtain ⟨rfl, rfl⟩ := e
    refine h F pa G σ δ H S _ _ h1 _ fun G1 vs H1 g1 S1 r1 => ?_
    obtain ⟨G2, g2, S2, q2⟩ := keep_ok S1 r1 h2
    cases q2 with
    | cons a b =>
      cases b
      cases a with
      | lst ha rs => exact ⟨_, _, rfl, SqL.of (S2.gr _ _ ha), q G2 _ H1 (g1.trans g2) S2 (wk_enum (SqL.of ha) rs)⟩
  · simp only [Option.some.injEq, Prod.mk.injEq] at e
    obtain ⟨rfl, rfl⟩ := e
    refine h F pa G σ δ H S _ _ h1 _ fun G1 vs H1 g1 S1 r1 => ?_
    obtain ⟨G2, g2, S2, q2⟩ := keep_ok S1 r1 h2
    cases q2 with
    | cons a b =>
      cases b
      cases a with
      | ro ha rs => exact ⟨_, _, rfl, ex_l S2.gr ha, q G2 _ H1 (g1.trans g2) S2 (wk_enum ha rs)⟩
  · cases e

/-! ### slices -/
def So (K : PySem.W.Frag) (r : V → Option Int → Option Int → Hp → VK → Prop) (f : D → Option Int → Option Int → Option OR) : Prop := ∀ G H x lo hi a o, Ex G H → RepN K G H a x → f a lo hi = some o → ∀ Q : VK, Fin K G H o Q → r x lo hi H Q
def oNo : OM := fun δ => some (none, δ)
def oPart (me : EM) : OM := fun δ => (me δ).bind fun p => match p.1 with
  | .val (.int i) => some (some i, p.2)
  | _ => none
theorem so_no : SdO K tNoPart oNo := fun F pa G σ δ H S x δ' e Q q => by
  simp only [oNo, Option.some.injEq, Prod.mk.injEq] at e
  obtain ⟨rfl, rfl⟩ := e
  exact q G H (GEx.refl F G) S
theorem so_part (h : Sd K te me) : SdO K (tPart te) (oPart me) := fun F pa G σ δ H S x δ' e Q q => by
  obtain ⟨⟨r, δ1⟩, h1, e⟩ := bind_some' e
  simp only at e
  split at e
  · rename_i i
    simp only [Option.some.injEq, Prod.mk.injEq] at e
    obtain ⟨rfl, rfl⟩ := e
    refine h F pa G σ δ H S _ _ h1 _ fun G1 x H1 g1 S1 r1 => ?_
    cases r1
    exact ⟨_, rfl, q G1 H1 g1 S1⟩
  · cases e
def eSl (f : D → Option Int → Option Int → Option OR) (me : EM) (ml mh : OM) : EM := fun δ => (me δ).bind fun p => (ml p.2).bind fun l => (mh l.2).bind fun h => (rd (hold p.1) h.2).bind fun a => (f a l.1 h.1).bind fun o => some (o.r, h.2)
theorem sd_sl {r : V → Option Int → Option Int → Hp → VK → Prop} {f : D → Option Int → Option Int → Option OR} {tl th : TO} {ml mh : OM} (hr : So K r f) (he : Sd K te me) (hl : SdO K tl ml) (hh : SdO K th mh) : Sd K (tSl r te tl th) (eSl f me ml mh) := fun F pa G σ δ H S r' δ' e Q q => by
  obtain ⟨p, h1, e⟩ := bind_some' e
  obtain ⟨l, h2, e⟩ := bind_some' e
  obtain ⟨h, h3, e⟩ := bind_some' e
  obtain ⟨a, h4, e⟩ := bind_some' e
  obtain ⟨o, h5, e⟩ := bind_some' e
  simp only [Option.some.injEq, Prod.mk.injEq] at e
  obtain ⟨rfl, rfl⟩ := e
  refine he F pa G σ δ H S _ _ h1 _ fun G1 x H1 g1 S1 r1 => ?_
  obtain ⟨G1', g1', S1', r1'⟩ := hold_ok S1 r1
  refine hl F pa G1' σ _ H1 S1' _ _ h2 _ fun G2 H2 g2 S2 => ?_
  refine hh F pa G2 σ _ H2 S2 _ _ h3 _ fun G3 H3 g3 S3 => ?_
  exact hr G3 H3 x _ _ a o S3.gr (rd_ok S3 (hold_stays (g2.trans g3).1 r1') h4) h5 Q (fin_ok S3 fun G' v H' g S' r' => q G' v H' ((((g1.trans g1').trans g2).trans g3).trans g) S' r')

/-! ### own defs -/
def ResR (K : PySem.W.Frag) (H G' H' : Hp) : OR → V → Prop
  | .v d, v => Rep K G' d v
  | .t ds, v => Rep K G' (.tup ds) v
  | .l ds, v => ∃ p vs, v = .ref p ∧ H p = none ∧ G' p = none ∧ H' p = some (.lst vs) ∧ Reps K G' ds vs
/-- a def that changes nothing -/
def spP (K : PySem.W.Frag) (m : List D → Option OR) : Sp := fun vs H Q E => ∃ G ds o, Ex G H ∧ Reps K G ds vs ∧ m ds = some o ∧ ∀ G' v H', GEx H G G' → Ex H H' → Ex G' H' → ResR K H G' H' o v → Q v H'
/-- a def that changes the list that is its first argument -/
def spM (K : PySem.W.Frag) (m : List D → List D → Option (OR × List D)) : Sp := fun vs H Q E => ∃ G a vs0 ds0 us ds o ds', vs = .ref a :: us ∧ Ex G H ∧ G a = none ∧ H a = some (.lst vs0) ∧ Reps K G ds0 vs0 ∧ Reps K G ds us ∧ m ds0 ds = some (o, ds') ∧
  ∀ G' v H' vs', GEx H G G' → (∀ b u, b ≠ a → H b = some u → H' b = some u) → Ex G' H' → H' a = some (.lst vs') → Reps K G' ds' vs' → ResR K H G' H' o v → Q v H'
/-- behind a call that keeps all that was -/
theorem Stt.called {H' : Hp} (S : Stt K F pa G σ δ H) (g : GEx H G G') (e : Ex H H') (e' : Ex G' H') : GEx F G G' ∧ Stt K F pa G' σ δ H' := by
  refine ⟨⟨g.1, fun a h => g.2 a fun z => h ?_⟩, S.fr.trans e, e', S.len, fun i d hi => ?_, fun i b ds hi => ?_, S.inj⟩
  · exact none_of_ex S.fr z
  · obtain ⟨v, h1, h2⟩ := S.val i d hi
    exact ⟨v, h1, h2.mono g.1⟩
  · obtain ⟨p, us, h1, h2, h3, h4, h5, h6⟩ := S.own i b ds hi
    exact ⟨p, us, h1, (g.2 p (by rw [h5]; exact fun z => nomatch z)).trans h2, h3, h4, e _ _ h5, h6.mono g.1⟩
theorem ResR.to {H' : Hp} {o : OR} (S : Stt K F pa G σ δ H) (h : ResR K H G' H' o v) : RelR K F G' σ δ H' o.r v := by
  cases o with
  | v d => exact h
  | t ds => exact h
  | l ds =>
    obtain ⟨p, vs, e1, h1, h2, h3, h4⟩ := h
    exact ⟨p, vs, e1, h2, none_of_ex S.fr h1, h3, h4, S.notOwned h1⟩
def eFn (m : List D → Option OR) (ma : AM) : EM := fun δ => (ma δ).bind fun p => (keep p.1 p.2).bind fun q => (m q.1).bind fun o => some (o.r, q.2)
theorem sd_fn {m : List D → Option OR} {ta : TA} {ma : AM} (ha : SdA K ta ma) : Sd K (tCall (spP K m) [] E0 ta) (eFn m ma) := fun F pa G σ δ H S r' δ' e Q q => by
  obtain ⟨p, h1, e⟩ := bind_some' e
  obtain ⟨p2, h2, e⟩ := bind_some' e
  obtain ⟨o, h3, e⟩ := bind_some' e
  simp only [Option.some.injEq, Prod.mk.injEq] at e
  obtain ⟨rfl, rfl⟩ := e
  refine ha F pa G σ δ H S _ _ h1 _ fun G1 vs H1 g1 S1 r1 => ?_
  obtain ⟨G2, g2, S2, q2⟩ := keep_ok S1 r1 h2
  refine ⟨G2, p2.1, o, S2.gr, by rw [List.append_nil]; exact q2, h3, fun G' v H' gg eH eG rr => ?_⟩
  obtain ⟨g3, S3⟩ := S2.called gg eH eG
  exact q G' v H' ((g1.trans g2).trans g3) S3 (rr.to S2)
/-- a call that changes the list that its first argument is -/
def eFnM (m : List D → List D → Option (OR × List D)) (ma : AM) : EM := fun δ => (ma δ).bind fun p => match p.1 with
  | [.tmp ds0] => (m ds0 []).bind fun o => some (o.1.r, p.2)
  | .slot i :: rs => (keep rs p.2).bind fun q => match q.2[i]? with
    | some (.own b ds0) => (m ds0 q.1).bind fun o => some (o.1.r, q.2.set i (.own b o.2))
    | _ => none
  | _ => none
theorem sd_fnM {m : List D → List D → Option (OR × List D)} {ta : TA} {ma : AM} (ha : SdA K ta ma) : Sd K (tCall (spM K m) [] E0 ta) (eFnM m ma) := fun F pa G σ δ H S r' δ' e Q q => by
  obtain ⟨⟨rs, δ1⟩, h1, e⟩ := bind_some' e
  refine ha F pa G σ δ H S _ _ h1 _ fun G1 vs H1 g1 S1 r1 => ?_
  simp only at e
  show spM K m (vs ++ []) H1 Q E0
  rw [List.append_nil]
  split at e
  · rename_i ds0
    obtain ⟨o, h2, e⟩ := bind_some' e
    simp only [Option.some.injEq, Prod.mk.injEq] at e
    obtain ⟨rfl, rfl⟩ := e
    cases r1 with
    | cons ra rb =>
      cases rb
      obtain ⟨a, vs0, rfl, a1, a2, a3, a4, a5⟩ := ra
      refine ⟨G1, a, vs0, ds0, [], [], o.1, o.2, rfl, S1.gr, a1, a3, a4, .nil, h2, fun G' v H' vs' gg hk eG hb hr rr => ?_⟩
      -- as if the frame had no such list
      have Fx : ∀ {A : Hp}, A a = none → Ex A H1 → Ex A H' := fun {A} hA e c u hu => hk c u (ne_of_none hu hA) (e c u hu)
      have gF : GEx F G1 G' := ⟨gg.1, fun c hc => gg.2 c (fun z => hc (none_of_ex S1.fr z))⟩
      refine q G' v H' (g1.trans gF) ⟨Fx a2 S1.fr, eG, S1.len, fun i d hi => ?_, fun i b ds hi => ?_, S1.inj⟩ ?_
      · obtain ⟨v, b1, b2⟩ := S1.val i d hi
        exact ⟨v, b1, b2.mono gg.1⟩
      · obtain ⟨p, us, b1, b2, b3, b4, b5, b6⟩ := S1.own i b ds hi
        have hpa : p ≠ a := fun z => a5 i b ds hi (by rw [b1, z])
        exact ⟨p, us, b1, (gg.2 p (by rw [b5]; exact fun z => nomatch z)).trans b2, b3, b4, hk p _ hpa b5, b6.mono gg.1⟩
      · exact rr.to S1
  · rename_i i rs'
    obtain ⟨⟨ds, δ2⟩, h2, e⟩ := bind_some' e
    simp only at e
    split at e
    · rename_i b ds0 hb
      obtain ⟨o, h3, e⟩ := bind_some' e
      simp only [Option.some.injEq, Prod.mk.injEq] at e
      obtain ⟨rfl, rfl⟩ := e
      cases r1 with
      | cons ra rb =>
        rename_i v0 vs1
        obtain ⟨G2, g2, S2, q2⟩ := keep_ok S1 rb h2
        obtain ⟨a, vs0, b1, b2, b3, b4, b5, b6⟩ := S2.own i b ds0 hb
        have ra : σ[i]? = some (some v0) := ra
        rw [b1] at ra
        cases ra
        refine ⟨G2, a, vs0, ds0, vs1, ds, o.1, o.2, rfl, S2.gr, b2, b5, b6, q2, h3, fun G' v H' vs' gg hk eG hb' hr rr => ?_⟩
        have Fx : ∀ {A : Hp}, A a = none → Ex A H1 → Ex A H' := fun {A} hA e c u hu => hk c u (ne_of_none hu hA) (e c u hu)
        have gF : GEx F G2 G' := ⟨gg.1, fun c hc => gg.2 c (fun z => hc (none_of_ex S2.fr z))⟩
        have hG'a : G' a = none := (gg.2 a (by rw [b5]; exact fun z => nomatch z)).trans b2
        have cs : ∀ {j : Nat} {c fs}, (δ2.set i (Sl.own b o.2))[j]? = some (Sl.own c fs) → (i = j ∧ c = b ∧ fs = o.2) ∨ (i ≠ j ∧ δ2[j]? = some (Sl.own c fs)) := fun {j c fs} hj => by
          by_cases hij : i = j
          · subst hij
            rw [get_set_self hb] at hj
            cases hj
            exact .inl ⟨rfl, rfl, rfl⟩
          · rw [get_set_ne hij] at hj
            exact .inr ⟨hij, hj⟩
        refine q G' v H' ((g1.trans g2).trans gF) ⟨Fx b3 S2.fr, eG, by rw [List.length_set]; exact S2.len, fun j d hj => ?_, fun j c fs hj => ?_, fun j k c c' fs fs' p hj hk' e1 e2 => ?_⟩ ?_
        · by_cases hij : i = j
          · subst hij
            rw [get_set_self hb] at hj
            cases hj
          · rw [get_set_ne hij] at hj
            obtain ⟨v, c1, c2⟩ := S2.val j d hj
            exact ⟨v, c1, c2.mono gg.1⟩
        · rcases cs hj with ⟨rfl, rfl, rfl⟩ | ⟨hij, hj'⟩
          · exact ⟨a, vs', b1, hG'a, b3, b4, hb', hr⟩
          · obtain ⟨p, us, c1, c2, c3, c4, c5, c6⟩ := S2.own j c fs hj'
            have hpa : p ≠ a := fun z => hij (S2.inj i j b c ds0 fs a hb hj' b1 (by rw [c1, z]))
            exact ⟨p, us, c1, (gg.2 p (by rw [c5]; exact fun z => nomatch z)).trans c2, c3, c4, hk p _ hpa c5, c6.mono gg.1⟩
        · have a1 : ∃ d', δ2[j]? = some (Sl.own c d') := by
            rcases cs hj with ⟨rfl, rfl, rfl⟩ | ⟨_, hj⟩
            · exact ⟨_, hb⟩
            · exact ⟨_, hj⟩
          have a2 : ∃ d', δ2[k]? = some (Sl.own c' d') := by
            rcases cs hk' with ⟨rfl, rfl, rfl⟩ | ⟨_, hk'⟩
            · exact ⟨_, hb⟩
            · exact ⟨_, hk'⟩
          obtain ⟨d1, f1⟩ := a1
          obtain ⟨d2, f2⟩ := a2
          exact S2.inj j k c c' d1 d2 p f1 f2 e1 e2
        · have r0 := rr.to S2
          generalize o.1 = oo at rr r0
          cases oo with
          | v d => exact r0
          | t d => exact r0
          | l d =>
            obtain ⟨p, us, e1, f1, f2, f3, f4⟩ := rr
            refine ⟨p, us, e1, f2, none_of_ex S2.fr f1, f3, f4, fun j c fs hj z => ?_⟩
            rcases cs hj with ⟨rfl, rfl, rfl⟩ | ⟨_, hj'⟩
            · rw [b1] at z
              cases z
              rw [f1] at b5
              cases b5
            · exact S2.notOwned f1 j c fs hj' z
    · cases e
  · cases e

/-! ### a def's body -/
@[simp] def runD (n L : Nat) (sm : SM) (ds : List D) : Option OR := if ds.length = n then (sm (ds.map Sl.val ++ List.replicate (L - n) Sl.none)).bind fun p => match p.1 with
  | .ret (.val d) => some (.v d)
  | .ret (.tmp l) => some (.l l)
  | .ret (.slot i) => match p.2[i]? with
    | some (.own false l) => some (.l l)
    | some (.val d) => some (.v d)
    | _ => none
  | .nxt => some (.v .non)
  | _ => none
  else none
@[simp] def runM (n L : Nat) (sm : SM) (ds0 ds : List D) : Option (OR × List D) := if ds.length + 1 = n then (sm (Sl.own true ds0 :: ds.map Sl.val ++ List.replicate (L - n) Sl.none)).bind fun p => match (p.2[0]? : Option Sl) with
  | some (Sl.own true ds') => match p.1 with
    | .ret (.val d) => some (.v d, ds')
    | .ret (.tmp l) => some (.l l, ds')
    | .ret (.slot i) => match (p.2[i]? : Option Sl) with
      | some (Sl.own false l) => some (.l l, ds')
      | some (Sl.val d) => some (.v d, ds')
      | _ => none
    | .nxt => some (.v .non, ds')
    | _ => none
  | _ => none
  else none
theorem start_eq {N : List Str} {vs : List V} : start N vs = vs.map some ++ List.replicate (N.length - vs.length) none := rfl
theorem get_app_val {ds : List D} {k : Nat} {i : Nat} {d : D} (h : (ds.map Sl.val ++ List.replicate k Sl.none)[i]? = some (Sl.val d)) : ds[i]? = some d := by
  rw [List.getElem?_append] at h
  split at h
  · rw [List.getElem?_map] at h
    cases e : ds[i]? with
    | none => rw [e] at h; cases h
    | some x => rw [e] at h; cases h; rfl
  · rw [List.getElem?_replicate] at h
    split at h
    · cases h
    · cases h
theorem get_app_own {ds : List D} {k : Nat} {i : Nat} {b : Bool} {l : List D} (h : (ds.map Sl.val ++ List.replicate k Sl.none)[i]? = some (Sl.own b l)) : False := by
  rw [List.getElem?_append] at h
  split at h
  · rw [List.getElem?_map] at h
    cases e : ds[i]? with
    | none => rw [e] at h; cases h
    | some x => rw [e] at h; cases h
  · rw [List.getElem?_replicate] at h
    split at h
    · cases h
    · cases h
theorem stt_start {N : List Str} {ds : List D} {vs : List V} (e : Ex G H) (h : Reps K G ds vs) (hl : vs.length ≤ N.length) : Stt K H 0 G (start N vs) (ds.map Sl.val ++ List.replicate (N.length - ds.length) Sl.none) H := by
  refine ⟨Ex.refl H, e, ?_, fun i d hi => ?_, fun i b l hi => (get_app_own hi).elim, fun i j b c l l' p hi => (get_app_own hi).elim⟩
  · rw [start_eq]
    simp [h.length]
  · obtain ⟨v, h1, h2⟩ := h.get (get_app_val hi)
    refine ⟨v, ?_, h2⟩
    have hi' : i < vs.length := (List.getElem?_eq_some_iff.mp h1).1
    rw [start_eq, List.getElem?_append_left (by rw [List.length_map]; exact hi'), List.getElem?_map, h1]
    rfl
theorem pure_body {N : List Str} {n : Nat} {t : TS} {sm : SM} (h : SdS K t sm) (hn : n ≤ N.length) {vs : List V} {Q : VK} {E : XK} (hs : spP K (runD n N.length sm) vs H Q E) : t { nx := fun _ H' => Q .non H', rt := Q } (start N vs) H := by
  obtain ⟨G, ds, o, e, hr, hm, q⟩ := hs
  unfold runD at hm
  split at hm
  · rename_i hl
    obtain ⟨⟨c, δ'⟩, h1, hm⟩ := bind_some' hm
    have S := stt_start (N := N) e hr (by rw [← hr.length, hl]; exact hn)
    rw [hl] at S
    refine h H 0 G _ _ H S _ _ h1 _ ?_
    have own : ∀ {G' σ' H'} , GEx H G G' → Stt K H 0 G' σ' δ' H' → ∀ {r v}, RelR K H G' σ' δ' H' r v → (∀ d, r = .val d → o = .v d) → (∀ l, r = .tmp l → o = .l l) → (∀ i, r = .slot i → (match δ'[i]? with | some (Sl.own false l) => some (OR.l l) | some (Sl.val d) => some (OR.v d) | _ => none) = some o) → Q v H' := by
      intro G' σ' H' g S' r v rr k1 k2 k3
      refine q G' v H' g S'.fr S'.gr ?_
      cases r with
      | val d => rw [k1 d rfl]; exact rr
      | tmp l =>
        rw [k2 l rfl]
        obtain ⟨p, us, e1, a1, a2, a3, a4, _⟩ := rr
        exact ⟨p, us, e1, a2, a1, a3, a4⟩
      | slot i =>
        have k := k3 i rfl
        have rr : σ'[i]? = some (some v) := rr
        split at k
        · rename_i l hi
          cases k
          obtain ⟨p, us, b1, b2, b3, b4, b5, b6⟩ := S'.own i _ _ hi
          rw [b1] at rr
          cases rr
          exact ⟨p, us, rfl, b3, b2, b5, b6⟩
        · rename_i d hi
          cases k
          obtain ⟨u, b1, b2⟩ := S'.val i _ hi
          rw [b1] at rr
          cases rr
          exact b2
        · cases k
    cases c with
    | nxt =>
      simp only [Option.some.injEq] at hm
      subst hm
      exact fun G' σ' H' g S' => q G' .non H' g S'.fr S'.gr Rep.non
    | brk => cases hm
    | cnt => cases hm
    | ret r =>
      refine fun G' σ' v H' g S' rr => own g S' rr (fun d hd => ?_) (fun l hd => ?_) (fun i hd => ?_)
      · subst hd; simp only [Option.some.injEq] at hm; exact hm.symm
      · subst hd; simp only [Option.some.injEq] at hm; exact hm.symm
      · subst hd; exact hm
  · cases hm
theorem fn_pure {P : Program} {w : World} {mg : Str → Option Value} {base : Heap} {x qual : Str} {st : Stmt} {f : Addr} {fd : FuncData} {N ps : List Str} {k : Nat} {sm : SM} {t : TS} (Fu : Fun K x qual st f fd) (Sc : FnScope N ps (defScope st)) (hn : ps.length ≤ N.length)
    (hsm : SdS K t sm) (hbody : ∀ (cdv : Value) (A : Around) (outer : List PySem.Env) (s : Shared) (H : Hp) (E : XK), Room k (A.deeper (envOfC qual (defScope st) s.heap.objs.size f cdv)) → PSs (cxOf CX0 P w K mg base N qual (defScope st) f cdv A outer s H E).nox (defBody st) t) :
    FnOk P w K mg base CX0 (k + 1) f fd ps (spP K (runD ps.length N.length sm)) := by
  refine Fu.ok Sc (fun vs H Q E h => ?_) (fun cdv A outer s H vs Q E hr h => ⟨t, hbody cdv A outer s H E hr, pure_body hsm hn h⟩)
  obtain ⟨G, ds, o, e, hr, hm, q⟩ := h
  unfold runD at hm
  split at hm
  · rename_i hl
    rw [← hr.length]
    exact hl
  · cases hm
end
end Pd
end
section
set_option Elab.async false
set_option linter.all false
set_option maxRecDepth 100000
set_option maxHeartbeats 1000000
namespace Pd
open PySem PySem.Spec PyProof.Rows L2 Evl

section
variable {K : PySem.W.Frag} {F G G' H H' : Hp} {pa : Addr} {σ : L2.St} {δ δ' : DEnv} {v : V} {r : R}
def del (H : Hp) (a : Addr) : Hp := fun b => if b = a then none else H b
theorem del_ne {H : Hp} {a b : Addr} (h : b ≠ a) : del H a b = H b := by unfold del; rw [if_neg h]
theorem del_at {H : Hp} {a : Addr} : del H a a = none := by unfold del; rw [if_pos rfl]
theorem mut_body {N : List Str} {n : Nat} {t : TS} {sm : SM} (h : SdS K t sm) (hn : n ≤ N.length) {vs : List V} {Q : VK} {E : XK} (hs : spM K (runM n N.length sm) vs H Q E) : t { nx := fun _ H' => Q .non H', rt := Q } (start N vs) H := by
  obtain ⟨G, a, vs0, ds0, us, ds, o, ds', rfl, e, hGa, hHa, h0, hr, hm, q⟩ := hs
  unfold runM at hm
  split at hm
  · rename_i hl
    obtain ⟨⟨c, δ'⟩, h1, hm⟩ := bind_some' hm
    have hul := hr.length
    have S : Stt K (del H a) a G (start N (.ref a :: us)) (Sl.own true ds0 :: ds.map Sl.val ++ List.replicate (N.length - n) Sl.none) H := by
      have st : start N (.ref a :: us) = some (.ref a) :: (us.map some ++ List.replicate (N.length - (us.length + 1)) none) := rfl
      have hcons : Sl.own true ds0 :: ds.map Sl.val ++ List.replicate (N.length - n) Sl.none = Sl.own true ds0 :: (ds.map Sl.val ++ List.replicate (N.length - n) Sl.none) := rfl
      rw [st, hcons]
      refine ⟨fun b o' z => ?_, e, ?_, fun i d hi => ?_, fun i b l hi => ?_, fun i j b c l l' p hi hj _ _ => ?_⟩
      · by_cases hb : b = a
        · rw [hb, del_at] at z; cases z
        · rw [del_ne hb] at z; exact z
      · simp [hul.symm]; omega
      · cases i with
        | zero => cases hi
        | succ i =>
          have hi : (ds.map Sl.val ++ List.replicate (N.length - n) Sl.none)[i]? = some (Sl.val d) := hi
          obtain ⟨u, b1, b2⟩ := hr.get (get_app_val hi)
          refine ⟨u, ?_, b2⟩
          have hi' : i < us.length := (List.getElem?_eq_some_iff.mp b1).1
          show (us.map some ++ List.replicate (N.length - (us.length + 1)) none)[i]? = some (some u)
          rw [List.getElem?_append_left (by rw [List.length_map]; exact hi'), List.getElem?_map, b1]
          rfl
      · cases i with
        | zero =>
          have hi : some (Sl.own true ds0) = some (Sl.own b l) := hi
          cases hi
          exact ⟨a, vs0, rfl, hGa, del_at, fun _ => rfl, hHa, h0⟩
        | succ i => exact (get_app_own (show (ds.map Sl.val ++ List.replicate (N.length - n) Sl.none)[i]? = some (Sl.own b l) from hi)).elim
      · cases i with
        | zero =>
          cases j with
          | zero => rfl
          | succ j => exact (get_app_own (show (ds.map Sl.val ++ List.replicate (N.length - n) Sl.none)[j]? = some (Sl.own c l') from hj)).elim
        | succ i => exact (get_app_own (show (ds.map Sl.val ++ List.replicate (N.length - n) Sl.none)[i]? = some (Sl.own b l) from hi)).elim
    refine h (del H a) a G _ _ H S _ _ h1 _ ?_
    simp only at hm
    split at hm
    · rename_i dsE hE
      -- what the end tells of the list and of the frame
      have fin : ∀ {G' : Hp} {σ' : L2.St} {H' : Hp}, GEx (del H a) G G' → Stt K (del H a) a G' σ' δ' H' → ∀ v, ResR K H G' H' o v → ds' = dsE → Q v H' := by
        intro G' σ' H' g S' v rr hd
        subst hd
        obtain ⟨p, ws, b1, b2, b3, b4, b5, b6⟩ := S'.own 0 true _ hE
        have e1 := b4 rfl
        subst e1
        refine q G' v H' ws ⟨g.1, fun b hb => ?_⟩ (fun b u hne hu => S'.fr b u (by rw [del_ne hne]; exact hu)) S'.gr b5 b6 rr
        by_cases hba : b = p
        · rw [hba, b2, hGa]
        · exact g.2 b (by rw [del_ne hba]; exact hb)
      have fresh : ∀ {p : Addr}, del H a p = none → p ≠ a → H p = none := fun {p} hp hne => by rw [del_ne hne] at hp; exact hp
      have notA : ∀ {G' : Hp} {σ' : L2.St} {H' : Hp}, Stt K (del H a) a G' σ' δ' H' → σ'[0]? = some (some (.ref a)) := fun S' => by
        obtain ⟨p, ws, b1, b2, b3, b4, b5, b6⟩ := S'.own 0 true _ hE
        have e1 := b4 rfl
        subst e1
        exact b1
      cases c with
      | nxt =>
        simp only [Option.some.injEq, Prod.mk.injEq] at hm
        obtain ⟨rfl, rfl⟩ := hm
        exact fun G' σ' H' g S' => fin g S' .non Rep.non rfl
      | brk => cases hm
      | cnt => cases hm
      | ret r =>
        refine fun G' σ' v H' g S' rr => ?_
        cases r with
        | val d =>
          simp only [Option.some.injEq, Prod.mk.injEq] at hm
          obtain ⟨rfl, rfl⟩ := hm
          exact fin g S' v rr rfl
        | tmp l =>
          simp only [Option.some.injEq, Prod.mk.injEq] at hm
          obtain ⟨rfl, rfl⟩ := hm
          obtain ⟨p, ws, e1, a1, a2, a3, a4, a5⟩ := rr
          refine fin g S' v ⟨p, ws, e1, fresh a2 (fun z => a5 0 true _ hE (by rw [notA S', z])), a1, a3, a4⟩ rfl
        | slot i =>
          simp only at hm
          have rr : σ'[i]? = some (some v) := rr
          split at hm
          · rename_i l hi
            simp only [Option.some.injEq, Prod.mk.injEq] at hm
            obtain ⟨rfl, rfl⟩ := hm
            obtain ⟨p, ws, b1, b2, b3, b4, b5, b6⟩ := S'.own i _ _ hi
            rw [b1] at rr
            cases rr
            refine fin g S' _ ⟨p, ws, rfl, fresh b3 (fun z => ?_), b2, b5, b6⟩ rfl
            have z2 := S'.inj 0 i true false _ _ a hE hi (notA S') (by rw [b1, z])
            subst z2
            rw [hE] at hi
            cases hi
          · rename_i d hi
            simp only [Option.some.injEq, Prod.mk.injEq] at hm
            obtain ⟨rfl, rfl⟩ := hm
            obtain ⟨u, b1, b2⟩ := S'.val i _ hi
            rw [b1] at rr
            cases rr
            exact fin g S' _ b2 rfl
          · cases hm
    · cases hm
  · cases hm
theorem fn_mut {P : Program} {w : World} {mg : Str → Option Value} {base : Heap} {x qual : Str} {st : Stmt} {f : Addr} {fd : FuncData} {N ps : List Str} {k : Nat} {sm : SM} {t : TS} (Fu : Fun K x qual st f fd) (Sc : FnScope N ps (defScope st)) (hn : ps.length ≤ N.length)
    (hsm : SdS K t sm) (hbody : ∀ (cdv : Value) (A : Around) (outer : List PySem.Env) (s : Shared) (H : Hp) (E : XK), Room k (A.deeper (envOfC qual (defScope st) s.heap.objs.size f cdv)) → PSs (cxOf CX0 P w K mg base N qual (defScope st) f cdv A outer s H E).nox (defBody st) t) :
    FnOk P w K mg base CX0 (k + 1) f fd ps (spM K (runM ps.length N.length sm)) := by
  refine Fu.ok Sc (fun vs H Q E h => ?_) (fun cdv A outer s H vs Q E hr h => ⟨t, hbody cdv A outer s H E hr, mut_body hsm hn h⟩)
  obtain ⟨G, a, vs0, ds0, us, ds, o, ds', rfl, e, hGa, hHa, h0, hr, hm, q⟩ := h
  unfold runM at hm
  split at hm
  · rename_i hl
    rw [← hl, List.length_cons, hr.length]
  · cases hm

/-! ### operations by value -/
theorem reps_nil {vs : List V} (h : Reps K G [] vs) : vs = [] := by cases h; rfl
@[simp] def lenOk (n : Nat) : Bool := decide (n ≤ 100000)
/-- + -/
@[simp] def dAdd : D → D → Option OR
  | .int i, .int j => some (.v (.int (i + j)))
  | .lst a, .lst b => if lenOk (a.length + b.length) = true then some (.l (a ++ b)) else none
  | .tup a, .tup b => if lenOk (a.length + b.length) = true then (match a, b with
    | [], b => some (.v (.tup b))
    | a, [] => some (.v (.tup a))
    | a, b => some (.t (a ++ b))) else none
  | _, _ => none
def rAddA (K : PySem.W.Frag) : R2 := fun x y H Q => rI0 (fun i j => .int (i + j)) x y H Q ∨ rCat x y H Q ∨ rCatN K x y H Q
theorem op_addA {X : Cx} : OpR X (binaryOp .Add) (rAddA X.K) := op_add.or (op_cat.or op_catN)
theorem lenOk_sz {n : Nat} (h : lenOk n = true) : n ≤ sizeLine := sz_of (of_decide_eq_true h)
theorem ob_add : Ob K (rAddA K) dAdd := fun G H x y a b o e ha hb hf Q q => by
  cases a with
  | int i =>
    cases b with
    | int j =>
      simp only [dAdd, Option.some.injEq] at hf
      subst hf
      cases (show Rep K G (.int i) x from ha)
      cases (show Rep K G (.int j) y from hb)
      exact .inl ⟨i, j, rfl, rfl, q _ (.int _)⟩
    | _ => cases hf
  | lst a =>
    cases b with
    | lst b =>
      simp only [dAdd] at hf
      split at hf
      · rename_i hl
        simp only [Option.some.injEq] at hf
        subst hf
        obtain ⟨p, vs, rfl, h1, h2⟩ := ha
        obtain ⟨p', vs', rfl, h1', h2'⟩ := hb
        refine .inr (.inl ⟨p, p', vs, vs', rfl, rfl, h1, h1', ?_, fun z hz => q z _ hz (h2.append h2')⟩)
        rw [← h2.length, ← h2'.length]
        exact lenOk_sz hl
      · cases hf
    | _ => cases hf
  | tup a =>
    cases b with
    | tup b =>
      simp only [dAdd] at hf
      split at hf
      · rename_i hl
        cases (show Rep K G (.tup a) x from ha) with
        | tup h1 h2 =>
          cases (show Rep K G (.tup b) y from hb) with
          | tup h1' h2' =>
            rename_i p vs p' vs'
            have hle : vs.length + vs'.length ≤ sizeLine := by rw [← h2.length, ← h2'.length]; exact lenOk_sz hl
            cases a with
            | nil =>
              simp only [Option.some.injEq] at hf
              subst hf
              cases h2
              exact .inr (.inr ⟨p, p', [], vs', rfl, rfl, ex_t e h1.1, ex_t e h1'.1, hle, fun _ => q _ (.tup h1' h2'), fun z => absurd rfl z, fun z => absurd rfl z⟩)
            | cons a0 a =>
              cases b with
              | nil =>
                simp only [Option.some.injEq] at hf
                subst hf
                cases h2'
                refine .inr (.inr ⟨p, p', vs, [], rfl, rfl, ex_t e h1.1, ex_t e h1'.1, hle, fun z => ?_, fun _ _ => q _ (.tup h1 h2), fun _ z => absurd rfl z⟩)
                subst z
                cases h2
              | cons b0 b =>
                simp only [Option.some.injEq] at hf
                subst hf
                refine .inr (.inr ⟨p, p', vs, vs', rfl, rfl, ex_t e h1.1, ex_t e h1'.1, hle, fun z => ?_, fun _ z => ?_, fun _ _ z o hz hd => q z o _ hz hd (h2.append h2')⟩)
                · subst z; cases h2
                · subst z; cases h2'
      · cases hf
    | _ => cases hf
  | _ => cases hf
/-- ints in, an int or a truth value out -/
@[simp] def dI (f : Int → Int → D) : D → D → Option OR
  | .int i, .int j => some (.v (f i j))
  | _, _ => none
@[simp] def dIc (c : Int → Int → Bool) (f : Int → Int → D) : D → D → Option OR
  | .int i, .int j => if c i j = true then some (.v (f i j)) else none
  | _, _ => none
theorem ob_i0 {f : Int → Int → Int} : Ob K (rI0 fun i j => .int (f i j)) (dI fun i j => .int (f i j)) := fun G H x y a b o e ha hb hf Q q => by
  cases a <;> cases b <;> first | (cases hf; done) | skip
  rename_i i j
  simp only [dI, Option.some.injEq] at hf
  subst hf
  cases (show Rep K G (.int i) x from ha)
  cases (show Rep K G (.int j) y from hb)
  exact ⟨i, j, rfl, rfl, q _ (.int _)⟩
theorem ob_b0 {f : Int → Int → Bool} : Ob K (rI0 fun i j => .bl (f i j)) (dI fun i j => .bl (f i j)) := fun G H x y a b o e ha hb hf Q q => by
  cases a <;> cases b <;> first | (cases hf; done) | skip
  rename_i i j
  simp only [dI, Option.some.injEq] at hf
  subst hf
  cases (show Rep K G (.int i) x from ha)
  cases (show Rep K G (.int j) y from hb)
  exact ⟨i, j, rfl, rfl, q _ (.bl _)⟩
theorem ob_ic {C : Int → Int → Prop} {c : Int → Int → Bool} {f : Int → Int → Int} (hc : ∀ i j, c i j = true → C i j) : Ob K (rI C fun i j => .int (f i j)) (dIc c fun i j => .int (f i j)) := fun G H x y a b o e ha hb hf Q q => by
  cases a <;> cases b <;> first | (cases hf; done) | skip
  rename_i i j
  simp only [dIc] at hf
  split at hf
  · rename_i h
    simp only [Option.some.injEq] at hf
    subst hf
    cases (show Rep K G (.int i) x from ha)
    cases (show Rep K G (.int j) y from hb)
    exact ⟨i, j, rfl, rfl, hc i j h, q _ (.int _)⟩
  · cases hf
/-- a whole number that is not too great to be multiplied, shifted -/
def sm (i : Int) : Bool := decide (i.natAbs < 2 ^ 4000)
theorem sm_bits {i : Int} (h : sm i = true) : Builtin.Int.intBits i ≤ 4000 := PySem.intBits_le_iff.mpr (of_decide_eq_true h)
@[simp] def cMod (_ j : Int) : Bool := decide (0 < j)
@[simp] def cDiv (_ j : Int) : Bool := decide (0 < j ∧ j < 1073741824)
def cPow (i j : Int) : Bool := decide (0 ≤ j ∧ j ≤ 1000000 ∧ i.natAbs < 2 ^ 64)
def cShl (i j : Int) : Bool := sm i && decide (0 ≤ j ∧ j ≤ 100000)
@[simp] def cShr (_ j : Int) : Bool := decide (0 ≤ j)
def b64 (i : Int) : Bool := decide (i.natAbs < 18446744073709551616)
theorem b64_ok {i : Int} (h : b64 i = true) : -(2 ^ 64) < i ∧ i < 2 ^ 64 := by
  have h := of_decide_eq_true h
  omega
theorem b64_of {i : Int} (h : -(2 ^ 64) < i ∧ i < 2 ^ 64) : b64 i = true := decide_eq_true (by omega)
def cMul (i j : Int) : Bool := b64 i || b64 j || (sm i && sm j)
theorem ob_mod : Ob K (rI (fun _ j => 0 < j) fun i j => .int (i % j)) (dIc cMod fun i j => .int (i % j)) := ob_ic fun i j h => by first | exact of_decide_eq_true h | (unfold CDiv; exact of_decide_eq_true h) | (unfold CPow; exact of_decide_eq_true h)
theorem ob_fdiv : Ob K (rI CDiv fun i j => .int (i / j)) (dIc cDiv fun i j => .int (i / j)) := ob_ic fun i j h => by first | exact of_decide_eq_true h | (unfold CDiv; exact of_decide_eq_true h) | (unfold CPow; exact of_decide_eq_true h)
theorem ob_pow : Ob K (rI CPow fun i j => .int (i ^ j.toNat)) (dIc cPow fun i j => .int (i ^ j.toNat)) := ob_ic fun i j h => by first | exact of_decide_eq_true h | (unfold CDiv; exact of_decide_eq_true h) | (unfold CPow; exact of_decide_eq_true h)
theorem ob_shl : Ob K (rI CShl fun i j => .int (i * 2 ^ j.toNat)) (dIc cShl fun i j => .int (i * 2 ^ j.toNat)) := ob_ic fun i j h => by
  unfold cShl at h
  rw [Bool.and_eq_true] at h
  have h1 := sm_bits h.1
  have h2 := of_decide_eq_true h.2
  have h3 : (2 : Int) ^ 27 = 134217728 := by decide
  exact ⟨h2.1, by rw [h3]; omega⟩
theorem ob_shr : Ob K (rI (fun _ j => 0 ≤ j) fun i j => .int (i / 2 ^ j.toNat)) (dIc cShr fun i j => .int (i / 2 ^ j.toNat)) := ob_ic fun i j h => by first | exact of_decide_eq_true h | (unfold CDiv; exact of_decide_eq_true h) | (unfold CPow; exact of_decide_eq_true h)
theorem ob_and : Ob K (rI0 fun i j => .int (Builtin.bitAnd i j)) (dI fun i j => .int (Builtin.bitAnd i j)) := ob_i0
theorem ob_or : Ob K (rI0 fun i j => .int (Builtin.bitOr i j)) (dI fun i j => .int (Builtin.bitOr i j)) := ob_i0
theorem ob_sub : Ob K (rI0 fun i j => .int (i - j)) (dI fun i j => .int (i - j)) := ob_i0
theorem ob_lt : Ob K (rI0 fun i j => .bl (decide (i < j))) (dI fun i j => .bl (decide (i < j))) := ob_b0
theorem ob_le : Ob K (rI0 fun i j => .bl (decide (i ≤ j))) (dI fun i j => .bl (decide (i ≤ j))) := ob_b0
theorem ob_gt : Ob K (rI0 fun i j => .bl (decide (j < i))) (dI fun i j => .bl (decide (j < i))) := ob_b0
theorem ob_ge : Ob K (rI0 fun i j => .bl (decide (j ≤ i))) (dI fun i j => .bl (decide (j ≤ i))) := ob_b0
/-- * -/
@[simp] def dMul : D → D → Option OR
  | .int i, .int j => if cMul i j = true then some (.v (.int (i * j))) else none
  | .lst a, .int k => if decide (0 ≤ k ∧ k ≤ 100000) = true then (if lenOk (a.length * k.toNat) = true then some (.l (List.replicate k.toNat a).flatten) else none) else none
  | .tup a, .int k => if decide (0 ≤ k ∧ k ≤ 1000 ∧ a.length ≤ 1000) = true then (match a with
    | [] => none
    | a0 :: a => if k = 1 then some (.v (.tup (a0 :: a))) else some (.t (List.replicate k.toNat (a0 :: a)).flatten)) else none
  | _, _ => none
def rMulA (K : PySem.W.Frag) : R2 := fun x y H Q => rI CMul (fun i j => .int (i * j)) x y H Q ∨ rI CMulX (fun i j => .int (i * j)) x y H Q ∨ rRep x y H Q ∨ rRepN K x y H Q
theorem op_mulA {X : Cx} : OpR X (binaryOp .Mult) (rMulA X.K) := op_mul.or (op_mulX.or (op_rep.or op_repN))
theorem ob_mul : Ob K (rMulA K) dMul := fun G H x y a b o e ha hb hf Q q => by
  cases a with
  | int i =>
    cases b with
    | int j =>
      simp only [dMul] at hf
      split at hf
      · rename_i h
        simp only [Option.some.injEq] at hf
        subst hf
        cases (show Rep K G (.int i) x from ha)
        cases (show Rep K G (.int j) y from hb)
        unfold cMul at h
        rw [Bool.or_eq_true, Bool.or_eq_true] at h
        rcases h with (h | h) | h
        · exact .inl ⟨i, j, rfl, rfl, .inl (b64_ok h), q _ (.int _)⟩
        · exact .inl ⟨i, j, rfl, rfl, .inr (b64_ok h), q _ (.int _)⟩
        · rw [Bool.and_eq_true] at h
          have h1 := sm_bits h.1
          have h2 := sm_bits h.2
          refine .inr (.inl ⟨i, j, rfl, rfl, ?_, q _ (.int _)⟩)
          show (Builtin.Int.intBits i : Int) + (Builtin.Int.intBits j : Int) ≤ 134217728
          omega
      · cases hf
    | _ => cases hf
  | lst a =>
    cases b with
    | int k =>
      simp only [dMul] at hf
      split at hf
      · rename_i hk
        split at hf
        · rename_i hl
          simp only [Option.some.injEq] at hf
          subst hf
          have hk' := of_decide_eq_true hk
          obtain ⟨p, vs, rfl, h1, h2⟩ := ha
          cases (show Rep K G (.int k) y from hb)
          refine .inr (.inr (.inl ⟨p, k, vs, rfl, rfl, h1, by omega, by omega, ?_, fun z hz => q z _ hz (h2.replicate _)⟩))
          rw [← h2.length]
          exact lenOk_sz hl
        · cases hf
      · cases hf
    | _ => cases hf
  | tup a =>
    cases b with
    | int k =>
      simp only [dMul] at hf
      split at hf
      · rename_i hk
        have hk' := of_decide_eq_true hk
        cases (show Rep K G (.int k) y from hb)
        cases (show Rep K G (.tup a) x from ha) with
        | tup h1 h2 =>
          cases a with
          | nil => cases hf
          | cons a0 a =>
            have hne : ∀ {vs : List V}, Reps K G (a0 :: a) vs → vs ≠ [] := fun {vs} h z => by subst z; cases h
            refine .inr (.inr (.inr ⟨_, k, _, rfl, rfl, ex_t e h1.1, hne h2, hk'.1, hk'.2.1, by rw [← h2.length]; exact hk'.2.2, fun k1 => ?_, fun k1 p o hp hd => ?_⟩))
            · simp only [k1, if_true, Option.some.injEq] at hf
              subst hf
              exact q _ (.tup h1 h2)
            · simp only [k1, if_false, Option.some.injEq] at hf
              subst hf
              exact q p o _ hp hd (h2.replicate _)
      · cases hf
    | _ => cases hf
  | _ => cases hf
/-! == of data -/
mutual
def toP : D → PyData
  | .non => .none
  | .bl b => .bool b
  | .int i => .int i
  | .str x => .str x
  | .tup l => .tuple (toPs l)
  | .lst l => .list (toPs l)
  | .ro l => .list (toPs l)
  | .tw l => .tuple (toPs l)
def toPs : List D → List PyData
  | [] => []
  | d :: ds => toP d :: toPs ds
end
mutual
theorem Rep.dp : ∀ {d : D} {v : V}, Rep K H d v → Dp K H v (toP d)
  | _, _, .non => .non
  | _, _, .bl b => .bl b
  | _, _, .int i => .int i
  | _, _, .str x => .str x
  | _, _, .tup h r => .tup h.1 (Reps.dp r)
  | _, _, .tw h r => .tup h (Reps.dp r)
  | _, _, .lst h r => .lst (SqL.of h) (Reps.dp r)
  | _, _, .ro h r => .lst h (Reps.dp r)
theorem Reps.dp : ∀ {ds : List D} {vs : List V}, Reps K H ds vs → DpAll K H vs (toPs ds)
  | _, _, .nil => .nil
  | _, _, .cons h r => .cons (Rep.dp h) (Reps.dp r)
end
def shp (d : D) : Bool := SeqAt.shaped (toP d)
def eqD (a b : D) : Bool := PyData.eqv (toP a) (toP b)
@[simp] def dEq : D → D → Option OR := fun a b => if (shp a && shp b) = true then some (.v (.bl (eqD a b))) else none
@[simp] def dNe : D → D → Option OR := fun a b => if (shp a && shp b) = true then some (.v (.bl (!eqD a b))) else none
theorem ob_eq : Ob K (rEqD K) dEq := fun G H x y a b o e ha hb hf Q q => by
  unfold dEq at hf
  split at hf
  · rename_i h
    rw [Bool.and_eq_true] at h
    simp only [Option.some.injEq] at hf
    subst hf
    exact ⟨_, _, (ha.rep e).dp, (hb.rep e).dp, h.1, h.2, q _ (.bl _)⟩
  · cases hf
theorem ob_ne : Ob K (rNeD K) dNe := fun G H x y a b o e ha hb hf Q q => by
  unfold dNe at hf
  split at hf
  · rename_i h
    rw [Bool.and_eq_true] at h
    simp only [Option.some.injEq] at hf
    subst hf
    exact ⟨_, _, (ha.rep e).dp, (hb.rep e).dp, h.1, h.2, q _ (.bl _)⟩
  · cases hf
/-- is None, is True -/
def rIsA : R2 := fun x y H Q => (y = .non ∧ Q (.bl (decide (x = .non))) H) ∨ ∃ a b, x = .bl a ∧ y = .bl b ∧ Q (.bl (decide (a = b))) H
def rNotA : R2 := fun x y H Q => (y = .non ∧ Q (.bl (!decide (x = .non))) H) ∨ ∃ a b, x = .bl a ∧ y = .bl b ∧ Q (.bl (!decide (a = b))) H
theorem op_isA {X : Cx} : OpR X (compareOp .Is) rIsA := op_isN.or op_is_bl
theorem op_notA {X : Cx} : OpR X (compareOp .IsNot) rNotA := op_notN.or op_isnot_bl
@[simp] def isNon : D → Bool
  | .non => true
  | _ => false
@[simp] def dIs : D → D → Option OR
  | a, .non => some (.v (.bl (isNon a)))
  | .bl a, .bl b => some (.v (.bl (a == b)))
  | _, _ => none
@[simp] def dIsnt : D → D → Option OR
  | a, .non => some (.v (.bl (!isNon a)))
  | .bl a, .bl b => some (.v (.bl (!(a == b))))
  | _, _ => none
theorem isNon_ok {d : D} (e : Ex G H) (h : RepN K G H d v) : decide (v = .non) = isNon d := by
  have h' := h.rep e
  cases h' <;> rfl
theorem ob_is : Ob K rIsA dIs := fun G H x y a b o e ha hb hf Q q => by
  cases b with
  | non =>
    cases (show Rep K G .non y from hb)
    have hf : some (OR.v (.bl (isNon a))) = some o := by cases a <;> exact hf
    simp only [Option.some.injEq] at hf
    subst hf
    exact .inl ⟨rfl, by rw [isNon_ok e ha]; exact q _ (.bl _)⟩
  | bl b =>
    cases a with
    | bl a =>
      simp only [dIs, Option.some.injEq] at hf
      subst hf
      cases (show Rep K G (.bl a) x from ha)
      cases (show Rep K G (.bl b) y from hb)
      refine .inr ⟨a, b, rfl, rfl, ?_⟩
      rw [show decide (a = b) = (a == b) by cases a <;> cases b <;> rfl]
      exact q _ (.bl _)
    | _ => cases hf
  | _ => cases a <;> cases hf
theorem ob_isnt : Ob K rNotA dIsnt := fun G H x y a b o e ha hb hf Q q => by
  cases b with
  | non =>
    cases (show Rep K G .non y from hb)
    have hf : some (OR.v (.bl (!isNon a))) = some o := by cases a <;> exact hf
    simp only [Option.some.injEq] at hf
    subst hf
    exact .inl ⟨rfl, by rw [isNon_ok e ha]; exact q _ (.bl _)⟩
  | bl b =>
    cases a with
    | bl a =>
      simp only [dIsnt, Option.some.injEq] at hf
      subst hf
      cases (show Rep K G (.bl a) x from ha)
      cases (show Rep K G (.bl b) y from hb)
      refine .inr ⟨a, b, rfl, rfl, ?_⟩
      rw [show decide (a = b) = (a == b) by cases a <;> cases b <;> rfl]
      exact q _ (.bl _)
    | _ => cases hf
  | _ => cases a <;> cases hf
end
end Pd
end
section
set_option Elab.async false
set_option linter.all false
set_option maxRecDepth 100000
set_option maxHeartbeats 1000000
namespace Pd
open PySem PySem.Spec PyProof.Rows L2 Evl

section
variable {K : PySem.W.Frag} {F G G' H H' : Hp} {pa : Addr} {σ : L2.St} {δ δ' : DEnv} {v : V} {r : R} {ta tb te tc : TE} {ma mb me mc : EM} {t u : TT} {mt mu : TM} {ts us : TS} {ms ns : SM} {g : TG} {tg : GM} {js : List Nat}

/-! ### isinstance -/
inductive Ty where
  | int | bool | str | list | tuple
def Ty.nm : Ty → String
  | .int => "int" | .bool => "bool" | .str => "str" | .list => "list" | .tuple => "tuple"
def tyN : D → String
  | .non => "NoneType" | .bl _ => "bool" | .int _ => "int" | .str _ => "str" | .tup _ => "tuple" | .lst _ => "list" | .ro _ => "list" | .tw _ => "tuple"
@[simp] def isi : D → Ty → Bool
  | .int _, .int => true
  | .bl _, .int => true
  | .bl _, .bool => true
  | .str _, .str => true
  | .tup _, .tuple => true
  | .lst _, .list => true
  | .ro _, .list => true
  | .tw _, .tuple => true
  | _, _ => false
def tyTab (n : String) (t : Ty) : Option Bool := kitB n t.nm
theorem isi_ok (d : D) (t : Ty) : kitB (tyN d) t.nm = some (isi d t) := by
  have k1 : ∀ t : Ty, kitB "NoneType" t.nm = some false := fun t => by cases t <;> decide +kernel
  have k2 : ∀ t : Ty, kitB "bool" t.nm = some (match t with | .int => true | .bool => true | _ => false) := fun t => by cases t <;> decide +kernel
  have k3 : ∀ t : Ty, kitB "int" t.nm = some (match t with | .int => true | _ => false) := fun t => by cases t <;> decide +kernel
  have k4 : ∀ t : Ty, kitB "str" t.nm = some (match t with | .str => true | _ => false) := fun t => by cases t <;> decide +kernel
  have k5 : ∀ t : Ty, kitB "tuple" t.nm = some (match t with | .tuple => true | _ => false) := fun t => by cases t <;> decide +kernel
  have k6 : ∀ t : Ty, kitB "list" t.nm = some (match t with | .list => true | _ => false) := fun t => by cases t <;> decide +kernel
  cases d with
  | non => show kitB "NoneType" t.nm = _; rw [k1]; cases t <;> rfl
  | bl b => show kitB "bool" t.nm = _; rw [k2]; cases t <;> rfl
  | int b => show kitB "int" t.nm = _; rw [k3]; cases t <;> rfl
  | str b => show kitB "str" t.nm = _; rw [k4]; cases t <;> rfl
  | tup b => show kitB "tuple" t.nm = _; rw [k5]; cases t <;> rfl
  | lst b => show kitB "list" t.nm = _; rw [k6]; cases t <;> rfl
  | ro b => show kitB "list" t.nm = _; rw [k6]; cases t <;> rfl
  | tw b => show kitB "tuple" t.nm = _; rw [k5]; cases t <;> rfl
theorem rep_ty {d : D} (h : Rep K H d v) : TyX K H v (.type (tyN d)) := by
  cases h with
  | non => exact .base .non
  | bl b => exact .base (.bl b)
  | int i => exact .base (.int i)
  | str x => exact .base (.str x)
  | tup h r =>
    rcases h.1 with (h | ⟨o, h⟩) | ⟨o, its, n, hk, hc, _⟩
    · exact .base (.tup h)
    · exact .fTuple h
    · exact .kTuple hk hc
  | tw h r =>
    rcases h with (h | ⟨o, h⟩) | ⟨o, its, n, hk, hc, _⟩
    · exact .base (.tup h)
    · exact .fTuple h
    · exact .kTuple hk hc
  | lst h r => exact .base (.lst h)
  | ro h r =>
    rcases h with (h | ⟨o, h⟩) | ⟨o, its, n, hk, hc, _⟩
    · exact .base (.lst h)
    · exact .base (.frz h)
    · exact .kList hk hc
@[simp] def fIsi (t : Ty) (d : D) : Option OR := some (.v (.bl (isi d t)))
theorem sd_isi {t : Ty} (ha : Sd K ta ma) : Sd K (tCB (rIsi K) (tCons ta (tCons (tC (.ty t.nm)) tNil))) (eUn (fIsi t) ma) := fun F pa G σ δ H S r' δ' e Q q => by
  obtain ⟨p, h1, e⟩ := bind_some' e
  obtain ⟨a, h3, e⟩ := bind_some' e
  simp only [fIsi, Option.bind_some, Option.some.injEq, Prod.mk.injEq] at e
  obtain ⟨rfl, rfl⟩ := e
  refine ha F pa G σ δ H S _ _ h1 _ fun G1 x H1 g1 S1 r1 => ?_
  exact ⟨x, .ty t.nm, _, _, isi a t, rfl, .ty _, rep_ty ((rd_ok S1 r1 h3).rep S1.gr), kit_ty (isi_ok a t), q G1 _ H1 g1 S1 (Rep.bl _)⟩
@[simp] def fIsi2 (t u : Ty) (d : D) : Option OR := some (.v (.bl (isi d t || isi d u)))
theorem sd_isi2 {t u : Ty} (ha : Sd K ta ma) : Sd K (tCB (rIsiT K) (tCons ta (tCons (tTup (tCons (tC (.ty t.nm)) (tCons (tC (.ty u.nm)) tNil))) tNil))) (eUn (fIsi2 t u) ma) := fun F pa G σ δ H S r' δ' e Q q => by
  obtain ⟨p, h1, e⟩ := bind_some' e
  obtain ⟨a, h3, e⟩ := bind_some' e
  simp only [fIsi2, Option.bind_some, Option.some.injEq, Prod.mk.injEq] at e
  obtain ⟨rfl, rfl⟩ := e
  refine ha F pa G σ δ H S _ _ h1 _ fun G1 x H1 g1 S1 r1 => ⟨sz_of (by show 2 ≤ 100000; decide), fun T hT => ?_⟩
  have e1 : Ex H1 (upd H1 T (.tup [.ty t.nm, .ty u.nm])) := Ex.new hT
  refine ⟨x, T, _, .type (tyN a), [.type t.nm, .type u.nm], (isi a t || isi a u), rfl, upd_same, .cons (.ty _) (.cons (.ty _) .nil), rep_ty (((rd_ok S1 r1 h3).rep S1.gr).mono e1), ?_, q _ _ _ (g1.trans (S1.gexNew hT)) (S1.newG hT) (Rep.bl _)⟩
  refine kitAny_cons (kit_ty (isi_ok a t)) (fun h => ?_) (fun h => ?_)
  · rw [h, Bool.false_or]
    exact kitAny_cons (kit_ty (isi_ok a u)) (fun h => by rw [h]; exact kitAny_nil) (fun h => h)
  · rw [h, Bool.true_or]

/-! ### built-in functions -/
@[simp] def fLen : List D → Option OR
  | [.tup ds] => some (.v (.int ds.length))
  | [.lst ds] => some (.v (.int ds.length))
  | [.ro ds] => some (.v (.int ds.length))
  | _ => none
theorem repNs_one {d : D} {xs : List V} (h : RepNs K G H [d] xs) : ∃ v, xs = [v] ∧ RepN K G H d v := by
  cases h with
  | cons h1 h2 => cases h2; exact ⟨_, rfl, h1⟩
theorem repNs_two {d d' : D} {xs : List V} (h : RepNs K G H [d, d'] xs) : ∃ v v', xs = [v, v'] ∧ RepN K G H d v ∧ RepN K G H d' v' := by
  cases h with
  | cons h1 h2 => obtain ⟨v', rfl, h3⟩ := repNs_one h2; exact ⟨_, v', rfl, h1, h3⟩
theorem co_len : Co K (fun xs H Q => ∃ p ys, xs = [.ref p] ∧ (SqL K H p ys ∨ SqT K H p ys) ∧ Q (.int ys.length) H) fLen := fun G H xs as o e h hf Q q => by
  unfold fLen at hf
  split at hf
  · simp only [Option.some.injEq] at hf
    subst hf
    obtain ⟨v, rfl, h1⟩ := repNs_one h
    cases (show Rep K G (.tup _) v from h1) with
    | tup a r => exact ⟨_, _, rfl, .inr (ex_t e a.1), by rw [← r.length]; exact q _ (.int _)⟩
  · simp only [Option.some.injEq] at hf
    subst hf
    obtain ⟨v, rfl, p, vs, rfl, a, r⟩ := repNs_one h
    exact ⟨_, _, rfl, .inl (SqL.of a), by rw [← r.length]; exact q _ (.int _)⟩
  · simp only [Option.some.injEq] at hf
    subst hf
    obtain ⟨v, rfl, h1⟩ := repNs_one h
    cases (show Rep K G (.ro _) v from h1) with
    | ro a r => exact ⟨_, _, rfl, .inl (ex_l e a), by rw [← r.length]; exact q _ (.int _)⟩
  · cases hf
@[simp] def fAbs : List D → Option OR
  | [.int i] => some (.v (.int (if i < 0 then -i else i)))
  | _ => none
theorem co_abs : Co K (fun xs H Q => ∃ i, xs = [.int i] ∧ Q (.int (if i < 0 then -i else i)) H) fAbs := fun G H xs as o e h hf Q q => by
  unfold fAbs at hf
  split at hf
  · rename_i i
    simp only [Option.some.injEq] at hf
    subst hf
    obtain ⟨v, rfl, h1⟩ := repNs_one h
    cases (show Rep K G (.int i) v from h1)
    exact ⟨i, rfl, q _ (.int _)⟩
  · cases hf
@[simp] def fInt : List D → Option OR
  | [.int i] => some (.v (.int i))
  | [.bl k] => some (.v (.int (if k then 1 else 0)))
  | _ => none
theorem co_int : Co K (fun xs H Q => (∃ i, xs = [.int i] ∧ Q (.int i) H) ∨ ∃ k, xs = [.bl k] ∧ Q (.int (if k then 1 else 0)) H) fInt := fun G H xs as o e h hf Q q => by
  unfold fInt at hf
  split at hf
  · rename_i i
    simp only [Option.some.injEq] at hf
    subst hf
    obtain ⟨v, rfl, h1⟩ := repNs_one h
    cases (show Rep K G (.int i) v from h1)
    exact .inl ⟨i, rfl, q _ (.int _)⟩
  · rename_i i
    simp only [Option.some.injEq] at hf
    subst hf
    obtain ⟨v, rfl, h1⟩ := repNs_one h
    cases (show Rep K G (.bl i) v from h1)
    exact .inr ⟨i, rfl, q _ (.int _)⟩
  · cases hf
@[simp] def fList : List D → Option OR
  | [.tup ds] => some (.l ds)
  | [.lst ds] => some (.l ds)
  | [.ro ds] => some (.l ds)
  | _ => none
theorem co_list : Co K (fun xs H Q => ∃ p ys, xs = [.ref p] ∧ (SqL K H p ys ∨ SqT K H p ys) ∧ ∀ l, H l = none → Q (.ref l) (upd H l (.lst ys))) fList := fun G H xs as o e h hf Q q => by
  unfold fList at hf
  split at hf
  · simp only [Option.some.injEq] at hf
    subst hf
    obtain ⟨v, rfl, h1⟩ := repNs_one h
    cases (show Rep K G (.tup _) v from h1) with
    | tup a r => exact ⟨_, _, rfl, .inr (ex_t e a.1), fun l hl => q l _ hl r⟩
  · simp only [Option.some.injEq] at hf
    subst hf
    obtain ⟨v, rfl, p, vs, rfl, a, r⟩ := repNs_one h
    exact ⟨_, _, rfl, .inl (SqL.of a), fun l hl => q l _ hl r⟩
  · simp only [Option.some.injEq] at hf
    subst hf
    obtain ⟨v, rfl, h1⟩ := repNs_one h
    cases (show Rep K G (.ro _) v from h1) with
    | ro a r => exact ⟨_, _, rfl, .inl (ex_l e a), fun l hl => q l _ hl r⟩
  · cases hf
@[simp] def fTuple : List D → Option OR
  | [.tup ds] => some (.v (.tup ds))
  | [.lst ds] => some (.t ds)
  | [.ro ds] => some (.t ds)
  | _ => none
theorem co_tuple : Co K (fun xs H Q => ∃ p ys, xs = [.ref p] ∧ ((SqL K H p ys ∧ ∀ (l : Addr) (o : Obj), H l = none → o.dict = none → Q (.ref l) (upd H l (.frz o (.tup ys)))) ∨ (SqT K H p ys ∧ Q (.ref p) H))) fTuple := fun G H xs as o e h hf Q q => by
  unfold fTuple at hf
  split at hf
  · simp only [Option.some.injEq] at hf
    subst hf
    obtain ⟨v, rfl, h1⟩ := repNs_one h
    cases (show Rep K G (.tup _) v from h1) with
    | tup a r => exact ⟨_, _, rfl, .inr ⟨ex_t e a.1, q _ (.tup a r)⟩⟩
  · simp only [Option.some.injEq] at hf
    subst hf
    obtain ⟨v, rfl, p, vs, rfl, a, r⟩ := repNs_one h
    exact ⟨_, _, rfl, .inl ⟨SqL.of a, fun l o hl hd => q l o _ hl hd r⟩⟩
  · simp only [Option.some.injEq] at hf
    subst hf
    obtain ⟨v, rfl, h1⟩ := repNs_one h
    cases (show Rep K G (.ro _) v from h1) with
    | ro a r => exact ⟨_, _, rfl, .inl ⟨ex_l e a, fun l o hl hd => q l o _ hl hd r⟩⟩
  · cases hf
@[simp] def blsOf : List D → Option (List Bool)
  | [] => some []
  | .bl b :: ds => (blsOf ds).bind fun bs => some (b :: bs)
  | _ :: _ => none
theorem blsOf_ok : ∀ {ds : List D} {bs : List Bool} {vs : List V}, blsOf ds = some bs → Reps K G ds vs → vs = bs.map V.bl
  | [], bs, _, h, .nil => by
    simp only [blsOf, Option.some.injEq] at h
    subst h
    rfl
  | .bl b :: ds, bs, _, h, .cons a r => by
    obtain ⟨bs', h1, h2⟩ := bind_some' h
    simp only [Option.some.injEq] at h2
    subst h2
    cases a
    rw [blsOf_ok h1 r]
    rfl
  | .non :: _, _, _, h, _ => nomatch h
  | .int _ :: _, _, _, h, _ => nomatch h
  | .str _ :: _, _, _, h, _ => nomatch h
  | .tup _ :: _, _, _, h, _ => nomatch h
  | .lst _ :: _, _, _, h, _ => nomatch h
  | .ro _ :: _, _, _, h, _ => nomatch h
  | .tw _ :: _, _, _, h, _ => nomatch h
@[simp] def fAll : List D → Option OR
  | [.lst ds] => (blsOf ds).bind fun bs => some (.v (.bl (bs.all id)))
  | _ => none
theorem co_all : Co K (rAll K) fAll := fun G H xs as o e h hf Q q => by
  unfold fAll at hf
  split at hf
  · obtain ⟨bs, h1, hf⟩ := bind_some' hf
    simp only [Option.some.injEq] at hf
    subst hf
    obtain ⟨v, rfl, p, vs, rfl, a, r⟩ := repNs_one h
    have e1 := blsOf_ok h1 r
    subst e1
    exact ⟨p, bs, rfl, SqL.of a, q _ (.bl _)⟩
  · cases hf
@[simp] def fAny : List D → Option OR
  | [.lst ds] => (blsOf ds).bind fun bs => some (.v (.bl (bs.any id)))
  | _ => none
theorem co_any : Co K (rAny K) fAny := fun G H xs as o e h hf Q q => by
  unfold fAny at hf
  split at hf
  · obtain ⟨bs, h1, hf⟩ := bind_some' hf
    simp only [Option.some.injEq] at hf
    subst hf
    obtain ⟨v, rfl, p, vs, rfl, a, r⟩ := repNs_one h
    have e1 := blsOf_ok h1 r
    subst e1
    exact ⟨p, bs, rfl, SqL.of a, q _ (.bl _)⟩
  · cases hf
@[simp] def intsOf : List D → Option (List Int)
  | [] => some []
  | .int b :: ds => (intsOf ds).bind fun bs => some (b :: bs)
  | _ :: _ => none
theorem intsOf_ok : ∀ {ds : List D} {bs : List Int} {vs : List V}, intsOf ds = some bs → Reps K G ds vs → vs = bs.map V.int
  | [], bs, _, h, .nil => by
    simp only [intsOf, Option.some.injEq] at h
    subst h
    rfl
  | .int b :: ds, bs, _, h, .cons a r => by
    obtain ⟨bs', h1, h2⟩ := bind_some' h
    simp only [Option.some.injEq] at h2
    subst h2
    cases a
    rw [intsOf_ok h1 r]
    rfl
  | .non :: _, _, _, h, _ => nomatch h
  | .bl _ :: _, _, _, h, _ => nomatch h
  | .str _ :: _, _, _, h, _ => nomatch h
  | .tup _ :: _, _, _, h, _ => nomatch h
  | .lst _ :: _, _, _, h, _ => nomatch h
  | .ro _ :: _, _, _, h, _ => nomatch h
  | .tw _ :: _, _, _, h, _ => nomatch h
@[simp] def fSum : List D → Option OR
  | [.lst ds] => (intsOf ds).bind fun bs => some (.v (.int bs.sum))
  | _ => none
theorem co_sum : Co K (rSum K) fSum := fun G H xs as o e h hf Q q => by
  unfold fSum at hf
  split at hf
  · obtain ⟨bs, h1, hf⟩ := bind_some' hf
    simp only [Option.some.injEq] at hf
    subst hf
    obtain ⟨v, rfl, p, vs, rfl, a, r⟩ := repNs_one h
    have e1 := intsOf_ok h1 r
    subst e1
    exact ⟨p, bs, rfl, SqL.of a, q _ (.int _)⟩
  · cases hf
/-- max(a list of ints, default=d) -/
def maxI (d : Int) : List Int → Int
  | [] => d
  | y :: ys => ys.foldl (fun a y => if a < y then y else a) y
def rMaxD (K : PySem.W.Frag) : List V → List V → Hp → VK → Prop := fun xs zs H Q => ∃ (a : Addr) (ns : List Int) (d : Int), xs = [.ref a] ∧ zs = [.int d] ∧ SqL K H a (ns.map V.int) ∧ Q (.int (maxI d ns)) H
theorem cr_maxD {X : Cx} (hc : X.calm = true) (hu : X.A.units + 64 < cLine) : CallRK X (.builtin "max") ["default"] (rMaxD X.K) := by
  intro pins s σ H xs zs us ws Q I r rz h
  obtain ⟨a, ns, d, rfl, rfl, hs, q⟩ := h
  obtain ⟨its, rv, hl, _⟩ := I.list hs
  obtain ⟨u, rfl, ru⟩ := vals1 rz
  rw [Vals.ref1 r]
  obtain ⟨tk, rfl⟩ := ru
  have hi := rv.ints
  have fold : ∀ (y : Int) (ys : List Int), PySem.W.maxOf y ys = ys.foldl (fun a y => if a < y then y else a) y := fun y ys => by
    unfold PySem.W.maxOf
    have e : (fun (a y : Int) => if PySem.W.DatumOrd.lt a y = true then y else a) = fun a y => if a < y then y else a := by
      funext a y
      by_cases h : a < y
      · rw [if_pos h, if_pos (show PySem.W.DatumOrd.lt a y = true from decide_eq_true h)]
      · rw [if_neg h, if_neg (show ¬ PySem.W.DatumOrd.lt a y = true from fun z => h (of_decide_eq_true z))]
    rw [e]
  refine PySem.W.max_list_datum_default (xs := ns) (d := .int d tk) (I.ok.hd hc) hl.isList (PySem.W.HoldAll.of_ints hi) (by show X.A.units + 1 + 0 < cLine; omega) (fun e h' tk' hk => ?_) (fun y ys i v h' tk' e hv hh hk => ?_)
  · subst e
    exact ⟨.int d, H, I.kept hk, ⟨tk, rfl⟩, q⟩
  · obtain ⟨t', rfl⟩ := PySem.W.int_of_holds hh
    refine ⟨.int (maxI d ns), H, I.kept hk, ⟨t', ?_⟩, q⟩
    rw [e, fold]
    rfl
def eMaxD (ma : AM) (k : Int) : EM := fun δ => (ma δ).bind fun p => (keep p.1 p.2).bind fun p' => match p'.1 with
  | [.lst ds] => (intsOf ds).bind fun ns => some (.val (.int (maxI k ns)), p'.2)
  | _ => none
theorem sd_maxD {ta : TA} {ma : AM} {k : Int} (ha : SdA K ta ma) : Sd K (tCKw (rMaxD K) ta (tCons (tC (.int k)) tNil)) (eMaxD ma k) := fun F pa G σ δ H S r' δ' e Q q => by
  obtain ⟨p, h1, e⟩ := bind_some' e
  obtain ⟨⟨ds0, δ1⟩, h2, e⟩ := bind_some' e
  simp only at e
  split at e
  · obtain ⟨ns, h3, e⟩ := bind_some' e
    simp only [Option.some.injEq, Prod.mk.injEq] at e
    obtain ⟨rfl, rfl⟩ := e
    refine ha F pa G σ δ H S _ _ h1 _ fun G1 vs H1 g1 S1 r1 => ?_
    obtain ⟨G2, g2, S2, q2⟩ := keep_ok S1 r1 h2
    cases q2 with
    | cons a b =>
      cases b
      cases a with
      | lst ha rs =>
        have e1 := intsOf_ok h3 rs
        subst e1
        exact ⟨_, ns, k, rfl, rfl, SqL.of (S2.gr _ _ ha), q G2 _ H1 (g1.trans g2) S2 (Rep.int _)⟩
  · cases e

/-! ### subscripts, slices, in, reversed -/
@[simp] def dIx : D → D → Option OR
  | .tup ds, .int i => (atI ds i).bind fun d => some (.v d)
  | .lst ds, .int i => (atI ds i).bind fun d => some (.v d)
  | .ro ds, .int i => (atI ds i).bind fun d => some (.v d)
  | _, _ => none
theorem at_reps {ds : List D} {vs : List V} {i : Int} {d : D} (r : Reps K G ds vs) (h : atI ds i = some d) : ∃ v, atI vs i = some v ∧ Rep K G d v := by
  unfold atI at h
  obtain ⟨j, h1, h2⟩ := bind_some' h
  obtain ⟨v, h3, h4⟩ := r.get h2
  refine ⟨v, ?_, h4⟩
  unfold atI
  rw [← r.length, h1]
  exact h3
theorem ob_ix : Ob K (rIx K) dIx := fun G H x y a b o e ha hb hf Q q => by
  unfold dIx at hf
  split at hf
  · obtain ⟨d, h1, hf⟩ := bind_some' hf
    simp only [Option.some.injEq] at hf
    subst hf
    cases (show Rep K G (.int _) y from hb)
    cases (show Rep K G (.tup _) x from ha) with
    | tup h r =>
      obtain ⟨v, h2, h3⟩ := at_reps r h1
      exact .inr (.inl ⟨_, _, _, v, rfl, rfl, ex_t e h.1, h2, q v h3⟩)
  · obtain ⟨d, h1, hf⟩ := bind_some' hf
    simp only [Option.some.injEq] at hf
    subst hf
    cases (show Rep K G (.int _) y from hb)
    obtain ⟨p, vs, rfl, h, r⟩ := ha
    obtain ⟨v, h2, h3⟩ := at_reps r h1
    exact .inl ⟨_, _, _, v, rfl, rfl, SqL.of h, h2, q v h3⟩
  · obtain ⟨d, h1, hf⟩ := bind_some' hf
    simp only [Option.some.injEq] at hf
    subst hf
    cases (show Rep K G (.int _) y from hb)
    cases (show Rep K G (.ro _) x from ha) with
    | ro h r =>
      obtain ⟨v, h2, h3⟩ := at_reps r h1
      exact .inl ⟨_, _, _, v, rfl, rfl, ex_l e h, h2, q v h3⟩
  · cases hf
@[simp] def cutD (ds : List D) (lo hi : Option Int) : List D := (ds.drop (HT.sIx ds.length 0 lo)).take (HT.sIx ds.length ds.length hi - HT.sIx ds.length 0 lo)
theorem cut_reps {ds : List D} {vs : List V} {lo hi : Option Int} (r : Reps K G ds vs) : Reps K G (cutD ds lo hi) (cutV vs lo hi) := by
  unfold cutD cutV
  rw [r.length]
  exact (r.drop _).take _
@[simp] def wholeD (ds : List D) (lo hi : Option Int) : Bool := decide (HT.sIx ds.length 0 lo = 0 ∧ HT.sIx ds.length ds.length hi = ds.length)
@[simp] def dSl : D → Option Int → Option Int → Option OR
  | .tup ds, lo, hi => if wholeD ds lo hi = true then some (.v (.tup ds)) else some (.t (cutD ds lo hi))
  | .lst ds, lo, hi => some (.l (cutD ds lo hi))
  | .ro ds, lo, hi => some (.l (cutD ds lo hi))
  | _, _, _ => none
def rSlAny (K : PySem.W.Frag) : V → Option Int → Option Int → Hp → VK → Prop := fun x lo hi H Q => rSlL K x lo hi H Q ∨ rSlN K x lo hi H Q
theorem sl_any {X : Cx} : SlR X (rSlAny X.K) := by
  intro pins s σ H x v vl vu lo hi sl Q I rx hs hl hh h
  rcases h with h | h
  · exact sl_list pins s σ H x v vl vu lo hi sl Q I rx hs hl hh h
  · exact sl_tupN pins s σ H x v vl vu lo hi sl Q I rx hs hl hh h
theorem so_any : So K (rSlAny K) dSl := fun G H x lo hi a o e ha hf Q q => by
  cases a with
  | tup ds =>
    simp only [dSl] at hf
    cases (show Rep K G (.tup _) x from ha) with
    | tup h r =>
      split at hf
      · rename_i hw
        simp only [Option.some.injEq] at hf
        subst hf
        have hw := of_decide_eq_true hw
        rw [r.length] at hw
        exact .inr ⟨_, _, rfl, ex_t e h.1, fun _ => q _ (.tup h r), fun z => absurd hw z⟩
      · rename_i hw
        simp only [Option.some.injEq] at hf
        subst hf
        refine .inr ⟨_, _, rfl, ex_t e h.1, fun z => ?_, fun _ p o hp hd => q p o _ hp hd (cut_reps r)⟩
        rw [← r.length] at z
        exact absurd (decide_eq_true z) hw
  | lst ds =>
    simp only [dSl, Option.some.injEq] at hf
    subst hf
    obtain ⟨p, vs, rfl, h, r⟩ := ha
    exact .inl ⟨_, _, rfl, SqL.of h, fun p hp => q p _ hp (cut_reps r)⟩
  | ro ds =>
    simp only [dSl, Option.some.injEq] at hf
    subst hf
    cases (show Rep K G (.ro _) x from ha) with
    | ro h r => exact .inl ⟨_, _, rfl, ex_l e h, fun p hp => q p _ hp (cut_reps r)⟩
  | _ => cases hf
@[simp] def fRev : D → Option OR
  | .lst ds => some (.l ds.reverse)
  | .ro ds => some (.l ds.reverse)
  | _ => none
theorem sd_revL (ha : Sd K ta ma) : Sd K (tRevL K ta) (eUn fRev ma) := sd_un (r := fun x H1 Q => ∃ a xs, x = V.ref a ∧ SqL K H1 a xs ∧ ∀ p, H1 p = none → Q (.ref p) (upd H1 p (.lst xs.reverse))) (fun G H x a o e h hf Q q => by
  unfold fRev at hf
  split at hf
  · simp only [Option.some.injEq] at hf
    subst hf
    obtain ⟨p, vs, rfl, h1, r⟩ := h
    exact ⟨_, _, rfl, SqL.of h1, fun p hp => q p _ hp r.reverse⟩
  · simp only [Option.some.injEq] at hf
    subst hf
    cases (show Rep K G (.ro _) x from h) with
    | ro h1 r => exact ⟨_, _, rfl, ex_l e h1, fun p hp => q p _ hp r.reverse⟩
  · cases hf) ha
@[simp] def vOf : D → Option V
  | .non => some .non
  | .bl b => some (.bl b)
  | .int i => some (.int i)
  | .str x => some (.str x)
  | _ => none
@[simp] def vsOf : List D → Option (List V)
  | [] => some []
  | d :: ds => (vOf d).bind fun v => (vsOf ds).bind fun vs => some (v :: vs)
theorem vOf_ok {d : D} {u : V} (h : vOf d = some u) (r : Rep K G d v) : v = u ∧ flatV u = true := by
  cases r with
  | non => cases h; exact ⟨rfl, rfl⟩
  | bl b => cases h; exact ⟨rfl, rfl⟩
  | int b => cases h; exact ⟨rfl, rfl⟩
  | str b => cases h; exact ⟨rfl, rfl⟩
  | _ => cases h
theorem vsOf_ok : ∀ {ds : List D} {us vs : List V}, vsOf ds = some us → Reps K G ds vs → vs = us ∧ us.all flatV = true
  | [], us, _, h, .nil => by
    cases h
    exact ⟨rfl, rfl⟩
  | d :: ds, us, _, h, .cons a r => by
    obtain ⟨u, h1, h⟩ := bind_some' h
    obtain ⟨us', h2, h⟩ := bind_some' h
    cases h
    obtain ⟨e1, f1⟩ := vOf_ok h1 a
    obtain ⟨e2, f2⟩ := vsOf_ok h2 r
    subst e1 e2
    exact ⟨rfl, by rw [List.all_cons, f1, f2]; rfl⟩
@[simp] def seqOf : D → Option (List D)
  | .tup ds => some ds
  | .lst ds => some ds
  | .ro ds => some ds
  | _ => none
@[simp] def dIn (neg : Bool) : D → D → Option OR := fun a b => (vOf a).bind fun x => (seqOf b).bind fun ds => (vsOf ds).bind fun xs => some (.v (.bl (if neg then !inV x xs else inV x xs)))
theorem ob_in {neg : Bool} : Ob K (rIn K neg) (dIn neg) := fun G H x y a b o e ha hb hf Q q => by
  obtain ⟨u, h1, hf⟩ := bind_some' hf
  obtain ⟨ds, h2, hf⟩ := bind_some' hf
  obtain ⟨us, h3, hf⟩ := bind_some' hf
  simp only [Option.some.injEq] at hf
  subst hf
  obtain ⟨e1, f1⟩ := vOf_ok h1 (ha.rep e)
  subst e1
  have hb' := hb.rep e
  cases hb' with
  | tup h r =>
    cases h2
    obtain ⟨e2, f2⟩ := vsOf_ok h3 r
    subst e2
    exact ⟨_, _, rfl, .inr h.1, f1, f2, q _ (.bl _)⟩
  | lst h r =>
    cases h2
    obtain ⟨e2, f2⟩ := vsOf_ok h3 r
    subst e2
    exact ⟨_, _, rfl, .inl (SqL.of h), f1, f2, q _ (.bl _)⟩
  | ro h r =>
    cases h2
    obtain ⟨e2, f2⟩ := vsOf_ok h3 r
    subst e2
    exact ⟨_, _, rfl, .inl h, f1, f2, q _ (.bl _)⟩
  | _ => cases h2
/-- a op b op' c -/
def eChain (f f' : D → D → Option OR) (ma mb mc : EM) : EM := fun δ => (ma δ).bind fun p => (mb p.2).bind fun p2 => (rd (hold p.1) p2.2).bind fun a => (rd p2.1 p2.2).bind fun b => (f a b).bind fun o => match o with
  | .v (.bl true) => (mc p2.2).bind fun p3 => (rd (hold p2.1) p3.2).bind fun b' => (rd p3.1 p3.2).bind fun c => (f' b' c).bind fun o' => some (o'.r, p3.2)
  | .v (.bl false) => some (.val (.bl false), p2.2)
  | _ => none
theorem sd_chain {r r' : R2} {f f' : D → D → Option OR} (hr : Ob K r f) (hr' : Ob K r' f') (ha : Sd K ta ma) (hb : Sd K tb mb) (hc : Sd K tc mc) : Sd K (tChain r r' ta tb tc) (eChain f f' ma mb mc) := fun F pa G σ δ H S rr δ' e Q q => by
  obtain ⟨p, h1, e⟩ := bind_some' e
  obtain ⟨p2, h2, e⟩ := bind_some' e
  obtain ⟨a, h3, e⟩ := bind_some' e
  obtain ⟨b, h4, e⟩ := bind_some' e
  obtain ⟨o, h5, e⟩ := bind_some' e
  refine ha F pa G σ δ H S _ _ h1 _ fun G1 x H1 g1 S1 r1 => ?_
  obtain ⟨G1', g1', S1', r1'⟩ := hold_ok S1 r1
  refine hb F pa G1' σ _ H1 S1' _ _ h2 _ fun G2 y H2 g2 S2 r2 => ?_
  split at e
  · obtain ⟨p3, h6, e⟩ := bind_some' e
    obtain ⟨b', h7, e⟩ := bind_some' e
    obtain ⟨c, h8, e⟩ := bind_some' e
    obtain ⟨o', h9, e⟩ := bind_some' e
    simp only [Option.some.injEq, Prod.mk.injEq] at e
    obtain ⟨rfl, rfl⟩ := e
    refine hr G2 H2 x y a b _ S2.gr (rd_ok S2 (hold_stays g2.1 r1') h3) (rd_ok S2 r2 h4) h5 _ fun v hv => ?_
    cases hv
    refine ⟨true, rfl, iteT ?_⟩
    obtain ⟨G2', g2', S2', r2'⟩ := hold_ok S2 r2
    refine hc F pa G2' σ _ H2 S2' _ _ h6 _ fun G3 z H3 g3 S3 r3 => ?_
    exact hr' G3 H3 y z b' c o' S3.gr (rd_ok S3 (hold_stays g3.1 r2') h7) (rd_ok S3 r3 h8) h9 Q (fin_ok S3 fun G' v H' g S' r' => q G' v H' (((((g1.trans g1').trans g2).trans g2').trans g3).trans g) S' r')
  · simp only [Option.some.injEq, Prod.mk.injEq] at e
    obtain ⟨rfl, rfl⟩ := e
    refine hr G2 H2 x y a b _ S2.gr (rd_ok S2 (hold_stays g2.1 r1') h3) (rd_ok S2 r2 h4) h5 _ fun v hv => ?_
    cases hv
    exact ⟨false, rfl, iteF (q G2 _ H2 ((g1.trans g1').trans g2) S2 (Rep.bl _))⟩
  · cases e
/-- -a -/
@[simp] def fNeg : D → Option OR
  | .int i => some (.v (.int (-i)))
  | _ => none
theorem uo_neg : Uo K (rU fun i => .int (-i)) fNeg := fun G H x a o e h hf Q q => by
  unfold fNeg at hf
  split at hf
  · simp only [Option.some.injEq] at hf
    subst hf
    cases (show Rep K G (.int _) x from h)
    exact ⟨_, rfl, q _ (.int _)⟩
  · cases hf
end
end Pd
end
section
set_option Elab.async false
set_option linter.all false
set_option maxRecDepth 100000
set_option maxHeartbeats 1000000
namespace Pd
open PySem PySem.Spec PyProof.Rows L2 Evl

/-! ### zip of a list or a tuple with a list or a tuple -/
def IsIt (k : Bool) (h : Heap) (it a : Addr) (i : Nat) : Prop := if k = true then h.IsTupleIter it a i else h.IsListIter it a i
def IsSq (k : Bool) (h : Heap) (a : Addr) (its : Array Value) : Prop := if k = true then h.IsTuple a its else h.IsList a its
def SqK (K : PySem.W.Frag) (k : Bool) (H : Hp) (a : Addr) (xs : List V) : Prop := if k = true then SqT K H a xs else SqL K H a xs
theorem IsIt.at {k : Bool} {h h' : Heap} {it a : Addr} {i : Nat} (x : IsIt k h it a i) (e : ∀ o, h.get? it = some o → h'.get? it = some o) : IsIt k h' it a i := by
  cases k with
  | true => exact (show h.IsTupleIter it a i from x).at e
  | false => exact (show h.IsListIter it a i from x).at e
theorem IsIt.obj {k : Bool} {h : Heap} {it a : Addr} {i : Nat} (x : IsIt k h it a i) : ∃ o, h.get? it = some o ∧ ∀ v, o.data ≠ .cell v := by
  cases k with
  | true => obtain ⟨o, e, _, d⟩ := (show h.IsTupleIter it a i from x); exact ⟨o, e, fun v z => by rw [d] at z; cases z⟩
  | false => obtain ⟨o, e, _, d⟩ := (show h.IsListIter it a i from x); exact ⟨o, e, fun v z => by rw [d] at z; cases z⟩
theorem draws_k {prog : Program} {w : World} {A : Around} (hh : A.handled = none) (k : Bool) (it a : Addr) (hne : a ≠ it) (its : Array Value) :
    Draws prog w A it [it, a] its.size (fun i v => its[i]? = some v) (fun i h => IsIt k h it a i ∧ IsSq k h a its) := by
  cases k with
  | true => exact Draws.tuple hh it a hne its
  | false => exact Draws.list hh it a hne its
theorem sq_k {X : Cx} {pins : List (Addr × Obj)} {σ : L2.St} {H : Hp} {s : Shared} {k : Bool} {a : Addr} {xs : List V} (I : L2.Inv X pins σ H s) (h : SqK X.K k H a xs) : ∃ its : List Value, Vals xs its ∧ IsSq k s.heap a its.toArray ∧ a < s.heap.objs.size := by
  cases k with
  | true =>
    obtain ⟨its, r, p, _⟩ := I.tuple (show SqT X.K H a xs from h)
    exact ⟨its, r, p, by obtain ⟨o, e, _⟩ := p; exact Heap.lt_size e⟩
  | false =>
    obtain ⟨its, r, p, _⟩ := I.list (show SqL X.K H a xs from h)
    exact ⟨its, r, p.isList, p.lt⟩
theorem sq_inj {X : Cx} {pins : List (Addr × Obj)} {σ : L2.St} {H : Hp} {s : Shared} {k : Bool} {a : Addr} {xs ys : List V} (I : L2.Inv X pins σ H s) (h : SqK X.K k H a xs) (h' : SqK X.K k H a ys) : xs = ys := by
  cases k with
  | true => exact I.tuple_inj (show SqT X.K H a xs from h) h'
  | false => exact I.list_inj (show SqL X.K H a xs from h) h'
/-- what stands at a and at b, place by place, in new pairs -/
def ItzK (K : PySem.W.Frag) (k1 k2 : Bool) (a b : Addr) : It :=
  ⟨fun i H => ∃ (xs ys : List V) (x y : V), SqK K k1 H a xs ∧ SqK K k2 H b ys ∧ xs[i]? = some x ∧ ys[i]? = some y,
    fun i H v H' => ∃ T x y, v = .ref T ∧ H T = none ∧ H' = upd H T (.tup [x, y]) ∧ (∀ xs, SqK K k1 H a xs → xs[i]? = some x) ∧ ∀ ys, SqK K k2 H b ys → ys[i]? = some y,
    fun i H => ∃ xs ys : List V, SqK K k1 H a xs ∧ SqK K k2 H b ys ∧ i = min xs.length ys.length⟩
theorem turn_zipK {P : Program} {w : World} {K : PySem.W.Frag} {elts : List Expr} {kk : Nat} {tpos : Pos} {k1 k2 : Bool} {a b : Addr} {N : Nat} (ha : a < N) (hb : b < N) :
    Turn P w K (.Tuple elts kk tpos) (ItzK K k1 k2 a b) [N + 4, N + 2, N + 3, N, N + 1] (N + 4) (fun i h => IsZip h (N + 4) (N + 2) (N + 3) .none ∧ IsTupOf2 h (N + 2) (.ref N) (.ref (N + 1)) ∧ (∃ x y, IsTupOf2 h (N + 3) x y) ∧ IsIt k1 h N a i ∧ IsIt k2 h (N + 1) b i) where
  mem := List.mem_cons_self
  obj := fun i h st c hc => by
    obtain ⟨s1, s2, ⟨x, y, s3⟩, s4, s5⟩ := st
    have e' : c = N + 4 ∨ c = N + 2 ∨ c = N + 3 ∨ c = N ∨ c = N + 1 := by simpa using hc
    rcases e' with q | q | q | q | q
    · subst q; exact ⟨_, s1, fun v q => nomatch q⟩
    · subst q; exact ⟨_, s2, fun v q => nomatch q⟩
    · subst q; exact ⟨_, s3, fun v q => nomatch q⟩
    · subst q; exact s4.obj
    · subst q; exact s5.obj
  keep := fun i h h' st k => by
    obtain ⟨s1, s2, ⟨x, y, s3⟩, s4, s5⟩ := st
    exact ⟨k _ (by simp) _ s1, k _ (by simp) _ s2, ⟨x, y, k _ (by simp) _ s3⟩, s4.at fun o q => k N (by simp) o q, s5.at fun o q => k (N + 1) (by simp) o q⟩
  item := by
    intro X hP hw hK hc i pins s σ H E I hf st hg
    subst hP hw hK
    obtain ⟨s1, s2, s3, s4, s5⟩ := st
    obtain ⟨xs, ys, x, y, hqx, hqy, hx, hy⟩ := hg
    obtain ⟨its, rv, p, _⟩ := sq_k I hqx
    obtain ⟨its2, rv2, p2, _⟩ := sq_k I hqy
    have lx : i < its.length := by rw [← rv.length]; exact (List.getElem?_eq_some_iff.mp hx).1
    have ly : i < its2.length := by rw [← rv2.length]; exact (List.getElem?_eq_some_iff.mp hy).1
    have W := GoesN.zip2 (prog := X.prog) (w := X.w) (A := X.A) (elts := elts) (x1 := kk) (pos := tpos) (zip_sep2 (N := N) (fp1 := [a]) (fp2 := [b]) (fun c z => by simp at z; subst z; exact ha) (fun c z => by simp at z; subst z; exact hb))
      (draws_k (A := X.A.in1) (I.ok.hd hc) k1 N a (Nat.ne_of_lt ha) its.toArray) (draws_k (A := X.A.in1) (I.ok.hd hc) k2 (N + 1) b (Nat.ne_of_lt (Nat.lt_succ_of_lt hb)) its2.toArray)
    refine thn (W.goes i s (fun v s2 => ∃ x' H', L2.Inv X pins σ H' s2 ∧ RelV x' v ∧ (ItzK X.K k1 k2 a b).yld i H x' H' ∧ (IsZip s2.heap (N + 4) (N + 2) (N + 3) .none ∧ IsTupOf2 s2.heap (N + 2) (.ref N) (.ref (N + 1)) ∧ (∃ x y, IsTupOf2 s2.heap (N + 3) x y) ∧ IsIt k1 s2.heap N a (i + 1) ∧ IsIt k2 s2.heap (N + 1) b (i + 1)) ∧ ∀ c ∈ [N + 4, N + 2, N + 3, N, N + 1], H' c = none) E (by simp; omega) ⟨s1, s2, s3, ⟨s4, p⟩, ⟨s5, p2⟩⟩ (fun v h' tk hY st' hk htk => ?_)) (fun r s' hr => hr)
    obtain ⟨T, u, u2, rfl, hTn, hu, hu2, hT⟩ := hY
    obtain ⟨z1, z2, z3, ⟨z4, _⟩, ⟨z5, _⟩⟩ := st'
    obtain ⟨v1, q1, ru⟩ := rv.get hx
    obtain ⟨v2, q2, ru2⟩ := rv2.get hy
    have e1 : u = v1 := by
      have hu : its[i]? = some u := by simpa using hu
      rw [q1] at hu; exact (Option.some.inj hu).symm
    have e2 : u2 = v2 := by
      have hu2 : its2[i]? = some u2 := by simpa using hu2
      rw [q2] at hu2; exact (Option.some.inj hu2).symm
    subst e1 e2
    have sz : ∀ c ∈ [N + 4, N + 2, N + 3, N, N + 1], c < s.heap.objs.size := fun c hcm => by
      have e' : c = N + 4 ∨ c = N + 2 ∨ c = N + 3 ∨ c = N ∨ c = N + 1 := by simpa using hcm
      obtain ⟨x0, y0, s3⟩ := s3
      obtain ⟨o4, e4, _⟩ := s4.obj
      obtain ⟨o5, e5, _⟩ := s5.obj
      rcases e' with q | q | q | q | q
      · subst q; exact Heap.lt_size s1
      · subst q; exact Heap.lt_size s2
      · subst q; exact Heap.lt_size s3
      · subst q; exact Heap.lt_size e4
      · subst q; exact Heap.lt_size e5
    have new : ObjOk X.prog X.w (upd H T (.tup [x, y])) h' T (.tup [x, y]) := ⟨by show 2 ≤ sizeLine; decide, [u, u2], .cons ru (.cons ru2 .nil), hT⟩
    have wrs : ∀ c, c ∉ [N + 4, N + 2, N + 3, N, N + 1] → c ∉ [N + 4, N + 3, N, N + 1] := fun c hc z => hc (by
      simp only [List.mem_cons, List.not_mem_nil, or_false] at z ⊢
      rcases z with z | z | z | z
      · exact .inl z
      · exact .inr (.inr (.inl z))
      · exact .inr (.inr (.inr (.inl z)))
      · exact .inr (.inr (.inr (.inr z))))
    have I1 : L2.Inv X pins σ (upd H T (.tup [x, y])) { s with heap := h', toks := tk } := I.turnedNew (ch := [N + 4, N + 2, N + 3, N, N + 1]) (fun c o hcm q => hk c o (wrs c hcm) q) hf hTn new
    refine ⟨.ref T, _, I1, rfl, ⟨T, x, y, rfl, I.hok.fresh hTn, rfl, fun l hl => by rw [sq_inj I hl hqx]; exact hx, fun l hl => by rw [sq_inj I hl hqy]; exact hy⟩, ⟨z1, z2, z3, z4, z5⟩, fun c hcm => ?_⟩
    rw [upd_ne (Nat.ne_of_lt (Nat.lt_of_lt_of_le (sz c hcm) hTn))]
    exact (hf c hcm).1
  done := by
    intro X hP hw hK hc i pins s σ H E I hf st hg
    subst hP hw hK
    obtain ⟨s1, s2, s3, s4, s5⟩ := st
    obtain ⟨xs, ys, hqx, hqy, hend⟩ := hg
    obtain ⟨its, rv, p, _⟩ := sq_k I hqx
    obtain ⟨its2, rv2, p2, _⟩ := sq_k I hqy
    have W := GoesN.zip2 (prog := X.prog) (w := X.w) (A := X.A) (elts := elts) (x1 := kk) (pos := tpos) (zip_sep2 (N := N) (fp1 := [a]) (fp2 := [b]) (fun c z => by simp at z; subst z; exact ha) (fun c z => by simp at z; subst z; exact hb))
      (draws_k (A := X.A.in1) (I.ok.hd hc) k1 N a (Nat.ne_of_lt ha) its.toArray) (draws_k (A := X.A.in1) (I.ok.hd hc) k2 (N + 1) b (Nat.ne_of_lt (Nat.lt_succ_of_lt hb)) its2.toArray)
    have wrs : ∀ c, c ∉ [N + 4, N + 2, N + 3, N, N + 1] → c ∉ [N + 4, N + 3, N, N + 1] := fun c hc z => hc (by
      simp only [List.mem_cons, List.not_mem_nil, or_false] at z ⊢
      rcases z with z | z | z | z
      · exact .inl z
      · exact .inr (.inr (.inl z))
      · exact .inr (.inr (.inr (.inl z)))
      · exact .inr (.inr (.inr (.inr z))))
    have hi : i = min its.toArray.size its2.toArray.size := by
      rw [List.size_toArray, List.size_toArray, ← rv.length, ← rv2.length]
      exact hend
    refine W.stops s (fun s1 => L2.Inv X pins σ H s1) E (by rw [← hi]; exact ⟨s1, s2, s3, ⟨s4, p⟩, ⟨s5, p2⟩⟩) fun h' tk hk _ => ?_
    exact I.turnedL (ch := [N + 4, N + 2, N + 3, N, N + 1]) (fun c o hcm q => hk c o (wrs c hcm) q) hf
  self := fun A i s Q E st h => wpAny_pyIter_zip st.1 h
def iZipK (K : PySem.W.Frag) (ta : TA) : TI := fun σ H R => ∃ k1 k2 : Bool, ta σ H fun vs H1 => ∃ a b xs ys, vs = [.ref a, .ref b] ∧ SqK K k1 H1 a xs ∧ SqK K k2 H1 b ys ∧ R (ItzK K k1 k2 a b) H1
theorem begins_k (k : Bool) (a : Addr) (its : Array Value) : ∃ o : Obj, Begins (.ref a) o (fun h => IsSq k h a its) ∧ ∀ h it, h.get? it = some o → IsIt k h it a 0 := by
  cases k with
  | true => exact ⟨_, begins_tuple a its, fun h it e => ⟨_, e, rfl, rfl⟩⟩
  | false => exact ⟨_, begins_list a its, fun h it e => ⟨_, e, rfl, rfl⟩⟩
theorem pi_zipK {X : Cx} {e e2 : Expr} {ta : TA} {p pos tpos : Pos} {elts : List Expr} {kk : Nat} (hg : Gl X "zip") (hm : X.mg "zip" = none) (ha : PA X [e, e2] ta)
    (hs : starEach [e, e2] X.env = (false, eval e X.env) :: starEach [e2] X.env := by rfl) (hpl : (backTo pos (starEach [e2] X.env)).any (·.1) = false := by rfl) :
    PI X (.Tuple elts kk tpos) (.Call (.Name "zip" p) [e, e2] [] pos) (iZipK X.K ta) := by
  refine ⟨fun pins s σ H R I h => ?_⟩
  obtain ⟨k1, k2, h⟩ := h
  refine Call_ (ld_blt I hg hm PyProof.Rows.boot_zip (PyProof.Rows.callWith_type1 (thn (ha.run pos pins s σ H _ I h) fun us s1 ⟨vs, H1, I1, r1, q1⟩ => ?_) hs hpl))
  obtain ⟨a, b, xs, ys, rfl, hqx, hqy, q⟩ := q1
  obtain ⟨u1, u2, rfl, r1, r2⟩ := vals2 r1
  cases (show u1 = Value.ref a from r1)
  cases (show u2 = Value.ref b from r2)
  obtain ⟨its, rv, p1, la⟩ := sq_k I1 hqx
  obtain ⟨its2, rv2, p2, lb⟩ := sq_k I1 hqy
  obtain ⟨o1, B1, hb1⟩ := begins_k k1 a its.toArray
  obtain ⟨o2, B2, hb2⟩ := begins_k k2 b its2.toArray
  refine zip_begins2 B1 B2 p1 p2 fun h' z1 z2 z3 z4 z5 hsz hk => wpAny_pyIter_zip z1 ?_
  have I2 : L2.Inv X pins σ H1 { s1 with heap := h' } := I1.kept (t' := s1.toks) hk
  refine ⟨s1.heap.objs.size + 4, [s1.heap.objs.size + 4, s1.heap.objs.size + 2, s1.heap.objs.size + 3, s1.heap.objs.size, s1.heap.objs.size + 1], _, _, H1, rfl, I2, turn_zipK la lb, ⟨z1, z2, ⟨_, _, z3⟩, hb1 _ _ z4, hb2 _ _ z5⟩, fun c hcm => ?_, q⟩
  have hle : s1.heap.objs.size ≤ c := by
    simp only [List.mem_cons, List.not_mem_nil, or_false] at hcm
    rcases hcm with z | z | z | z | z <;> rw [z]
    · exact Nat.le_add_right _ _
    · exact Nat.le_add_right _ _
    · exact Nat.le_add_right _ _
    · exact Nat.le_refl _
    · exact Nat.le_add_right _ _
  exact I1.fpOk hle (I1.hok.fresh hle)
section
variable {K : PySem.W.Frag} {G : Hp}
@[simp] def zipD : List D → List D → List D
  | a :: as, b :: bs => .tw [a, b] :: zipD as bs
  | _, _ => []
theorem zipD_len : ∀ (as bs : List D), (zipD as bs).length = min as.length bs.length
  | [], _ => by simp [zipD]
  | _ :: _, [] => by simp [zipD]
  | a :: as, b :: bs => by
    show (zipD as bs).length + 1 = _
    rw [zipD_len as bs, List.length_cons, List.length_cons]
    omega
theorem zipD_get : ∀ (as bs : List D) (i : Nat) (d : D), (zipD as bs)[i]? = some d → ∃ a b, as[i]? = some a ∧ bs[i]? = some b ∧ d = .tw [a, b]
  | [], _, _, _, h => by simp [zipD] at h
  | _ :: _, [], _, _, h => by simp [zipD] at h
  | a :: as, b :: bs, 0, d, h => ⟨a, b, rfl, rfl, (Option.some.inj h).symm⟩
  | a :: as, b :: bs, i + 1, d, h => zipD_get as bs i d h
@[simp] def kindOf : D → Option (Bool × List D)
  | .tup ds => some (true, ds)
  | .lst ds => some (false, ds)
  | .ro ds => some (false, ds)
  | _ => none
theorem kind_ok {d : D} {v : V} {k : Bool} {ds : List D} (h : Rep K G d v) (e : kindOf d = some (k, ds)) : ∃ a vs, v = .ref a ∧ SqK K k G a vs ∧ Reps K G ds vs := by
  cases h with
  | tup h r => cases e; exact ⟨_, _, rfl, h.1, r⟩
  | lst h r => cases e; exact ⟨_, _, rfl, SqL.of h, r⟩
  | ro h r => cases e; exact ⟨_, _, rfl, h, r⟩
  | _ => cases e
theorem sqK_ex {k : Bool} {G H : Hp} {a : Addr} {xs : List V} (e : Ex G H) (h : SqK K k G a xs) : SqK K k H a xs := by
  cases k with
  | true => exact ex_t e (show SqT K G a xs from h)
  | false => exact ex_l e (show SqL K G a xs from h)
def iZp (ma : AM) : IM := fun δ => (ma δ).bind fun p => (keep p.1 p.2).bind fun q => match q.1 with
  | [a, b] => (kindOf a).bind fun x => (kindOf b).bind fun y => some (zipD x.2 y.2, q.2)
  | _ => none
theorem si_zip {ta : TA} {ma : AM} (h : SdA K ta ma) : SdI K (iZipK K ta) (iZp ma) := fun F pa G σ δ H S ds δ' e R q => by
  obtain ⟨p, h1, e⟩ := bind_some' e
  obtain ⟨⟨es, δ1⟩, h2, e⟩ := bind_some' e
  simp only at e
  split at e
  · rename_i a b
    obtain ⟨⟨k1, xs⟩, h3, e⟩ := bind_some' e
    obtain ⟨⟨k2, ys⟩, h4, e⟩ := bind_some' e
    simp only [Option.some.injEq, Prod.mk.injEq] at e
    obtain ⟨rfl, rfl⟩ := e
    refine ⟨k1, k2, h F pa G σ δ H S _ _ h1 _ fun G1 vs H1 g1 S1 r1 => ?_⟩
    obtain ⟨G2, g2, S2, q2⟩ := keep_ok S1 r1 h2
    cases q2 with
    | cons ra rb =>
      cases rb with
      | cons rb rn =>
        cases rn
        obtain ⟨pa', us, rfl, sa, ra'⟩ := kind_ok ra h3
        obtain ⟨pb', ws, rfl, sb, rb'⟩ := kind_ok rb h4
        refine ⟨_, _, us, ws, rfl, sqK_ex S2.gr sa, sqK_ex S2.gr sb, q G2 _ H1 (g1.trans g2) S2 fun F3 pa3 i G3 σ3 δ3 H3 e3 S3 => ⟨fun d hd => ?_, fun hi => ?_⟩⟩
        · obtain ⟨x, y, hx, hy, rfl⟩ := zipD_get xs ys i d hd
          obtain ⟨vx, hvx, rx⟩ := ra'.get hx
          obtain ⟨vy, hvy, ry⟩ := rb'.get hy
          have qa := sqK_ex (e3.trans S3.gr) sa
          have qb := sqK_ex (e3.trans S3.gr) sb
          refine ⟨⟨us, ws, vx, vy, qa, qb, hvx, hvy⟩, fun x' H' yl => ?_⟩
          obtain ⟨T, u, u2, rfl, hT, rfl, f1, f2⟩ := yl
          have e1 : u = vx := by have := f1 us qa; rw [hvx] at this; exact (Option.some.inj this).symm
          have e2 : u2 = vy := by have := f2 ws qb; rw [hvy] at this; exact (Option.some.inj this).symm
          subst e1 e2
          have ee := e3.trans (S3.gexNew (F := F3) (o := .tup [u, u2]) hT).1
          exact ⟨_, S3.gexNew hT, S3.newG hT, Rep.tw (SqT.of upd_same) (.cons (rx.mono ee) (.cons (ry.mono ee) .nil))⟩
        · refine ⟨us, ws, sqK_ex (e3.trans S3.gr) sa, sqK_ex (e3.trans S3.gr) sb, ?_⟩
          rw [hi, zipD_len, ra'.length, rb'.length]
  · cases e
end
end Pd
end
section
set_option Elab.async false
set_option linter.all false
set_option maxRecDepth 100000
set_option maxHeartbeats 1000000
namespace Pd
open PySem PySem.Spec PyProof.Rows L2 Evl
/-! ### side conditions told once -/
def notStar : Expr → Bool
  | .Starred _ _ => false
  | _ => true
theorem star_ok {e : Expr} {es : List Expr} {env : PySem.Env} (h : notStar e = true) : starEach (e :: es) env = (false, eval e env) :: starEach es env := by
  cases e <;> first | rfl | cases h
theorem plain_ok {pos : Pos} {env : PySem.Env} : ∀ {es : List Expr}, es.all notStar = true → (backTo pos (starEach es env)).any (·.1) = false
  | [], _ => rfl
  | e :: es, h => by
    rw [List.all_cons, Bool.and_eq_true] at h
    rw [star_ok h.1]
    show (false || (backTo pos (starEach es env)).any (·.1)) = false
    rw [plain_ok h.2]
    rfl
theorem bt_len : bootBuiltins "len" = some (.builtin "len") := by decide +kernel
theorem bt_abs : bootBuiltins "abs" = some (.builtin "abs") := by decide +kernel
theorem bt_all : bootBuiltins "all" = some (.builtin "all") := by decide +kernel
theorem bt_any : bootBuiltins "any" = some (.builtin "any") := by decide +kernel
theorem bt_sum : bootBuiltins "sum" = some (.builtin "sum") := by decide +kernel
theorem bt_max : bootBuiltins "max" = some (.builtin "max") := by decide +kernel
theorem bt_min : bootBuiltins "min" = some (.builtin "min") := by decide +kernel
theorem bt_isinstance : bootBuiltins "isinstance" = some (.builtin "isinstance") := by decide +kernel
theorem bt_int : bootBuiltins "int" = some (.type "int") := by decide +kernel
theorem bt_bool : bootBuiltins "bool" = some (.type "bool") := by decide +kernel
theorem bt_str : bootBuiltins "str" = some (.type "str") := by decide +kernel
theorem bt_list : bootBuiltins "list" = some (.type "list") := by decide +kernel
theorem bt_tuple : bootBuiltins "tuple" = some (.type "tuple") := by decide +kernel
section
variable {X : Cx} {CX : CXT} {k : Nat} {f : Addr} {fd : FuncData} {ps : List Str} {sp : Sp} {x : Str} {p pos : Pos} {e : Expr} {es : List Expr} {t : TA} {te : TE} {id T : String} {rc : List V → Hp → VK → Prop}
theorem xa_cons (ha : PE X e te) (hr : PA X es t) (h : notStar e = true := by rfl) : PA X (e :: es) (tCons te t) := pa_cons ha hr (star_ok h)
theorem xe_call (F : FnOk X.prog X.w X.K X.mg X.base CX0 k f fd ps sp) (hr : Room k X.A) (hg : Gl X x) (hm : X.mg x = some (.ref f)) (hk : PySem.W.keepIn X.K (.ref f) = true) (hb : Binds X.K fd ps [])
    (ha : PA X (e :: es) t) (hd : (x == ("__debug__" : Str)) = false := by decide) (h1 : notStar e = true := by rfl) (h2 : es.all notStar = true := by rfl) : PE X (.Call (.Name x p) (e :: es) [] pos) (tCall sp [] E0 t) :=
  pe_call F hr hg hm hk hb .nil pass0 ha hd (star_ok h1) (plain_ok h2)
theorem xe_callB (hc : CallR X (.builtin id) rc) (hg : Gl X x) (hm : X.mg x = none) (hv : bootBuiltins x = some (.builtin id)) (ha : PA X (e :: es) t) (hn : x ≠ "__name__" := by decide) (hd : (x == ("__debug__" : Str)) = false := by decide)
    (h1 : notStar e = true := by rfl) (h2 : es.all notStar = true := by rfl) : PE X (.Call (.Name x p) (e :: es) [] pos) (tCB rc t) := pe_callB hc hg hm hv ha hn hd (star_ok h1) (plain_ok h2)
theorem xe_callT (hc : CallR X (.type T) rc) (hg : Gl X x) (hm : X.mg x = none) (hv : bootBuiltins x = some (.type T)) (ha : PA X (e :: es) t) (hn : x ≠ "__name__" := by decide) (hd : (x == ("__debug__" : Str)) = false := by decide)
    (h1 : notStar e = true := by rfl) (h2 : es.all notStar = true := by rfl) : PE X (.Call (.Name x p) (e :: es) [] pos) (tCB rc t) := pe_callTy hc hg hm hv ha hn hd (star_ok h1) (plain_ok h2)
end
theorem fn_void {P : Program} {w : World} {K : PySem.W.Frag} {mg : Str → Option Value} {base : Heap} {k : Nat} {f : Addr} {fd : FuncData} {ps : List Str} : FnOk P w K mg base CX0 k f fd ps (spP K fun _ => none) :=
  ⟨fun vs H Q E h => (by obtain ⟨_, _, _, _, _, z, _⟩ := h; cases z), fun A outer s H args us vs Q E _ _ _ _ h => (by obtain ⟨_, _, _, _, _, z, _⟩ := h; cases z)⟩
theorem hu64 {k : Nat} {A : Around} (h : Room k A) : A.units + 64 < cLine := by
  have := h.un
  omega
section
variable {K : PySem.W.Frag} {F G G' H H' : Hp} {pa : Addr} {σ : L2.St} {δ δ' : DEnv} {v : V} {r : R} {ta tb te tc : TE} {ma mb me mc : EM}
/-- a, b = x, y -/
def sPar (i j : Nat) (ma : AM) : SM := fun δ => (ma δ).bind fun p => (keep p.1 p.2).bind fun q => match q.1 with
  | [a, b] => some (.nxt, (q.2.set i (.val a)).set j (.val b))
  | _ => none
theorem ss_par {i j : Nat} {ta : TA} {ma : AM} (h : SdA K ta ma) : SdS K (tPar i j ta) (sPar i j ma) := fun F pa G σ δ H S c δ' e D q => by
  obtain ⟨p, h1, e⟩ := bind_some' e
  obtain ⟨⟨ds, δ1⟩, h2, e⟩ := bind_some' e
  simp only at e
  split at e
  · simp only [Option.some.injEq, Prod.mk.injEq] at e
    obtain ⟨rfl, rfl⟩ := e
    refine h F pa G σ δ H S _ _ h1 _ fun G1 vs H1 g1 S1 r1 => ?_
    obtain ⟨G2, g2, S2, q2⟩ := keep_ok S1 r1 h2
    cases q2 with
    | cons a q2 =>
      cases q2 with
      | cons b q2 =>
        cases q2
        exact ⟨_, _, rfl, q G2 _ H1 (g1.trans g2) ((S2.setVal a).setVal b)⟩
  · cases e
def sPar3 (i j l : Nat) (ma : AM) : SM := fun δ => (ma δ).bind fun p => (keep p.1 p.2).bind fun q => match q.1 with
  | [a, b, c] => some (.nxt, ((q.2.set i (.val a)).set j (.val b)).set l (.val c))
  | _ => none
theorem ss_par3 {i j l : Nat} {ta : TA} {ma : AM} (h : SdA K ta ma) : SdS K (tPar3 i j l ta) (sPar3 i j l ma) := fun F pa G σ δ H S c δ' e D q => by
  obtain ⟨p, h1, e⟩ := bind_some' e
  obtain ⟨⟨ds, δ1⟩, h2, e⟩ := bind_some' e
  simp only at e
  split at e
  · simp only [Option.some.injEq, Prod.mk.injEq] at e
    obtain ⟨rfl, rfl⟩ := e
    refine h F pa G σ δ H S _ _ h1 _ fun G1 vs H1 g1 S1 r1 => ?_
    obtain ⟨G2, g2, S2, q2⟩ := keep_ok S1 r1 h2
    cases q2 with
    | cons a q2 =>
      cases q2 with
      | cons b q2 =>
        cases q2 with
        | cons c q2 =>
          cases q2
          exact ⟨_, _, _, rfl, q G2 _ H1 (g1.trans g2) (((S2.setVal a).setVal b).setVal c)⟩
  · cases e
/-- list(range(n)) -/
def eLrg (me : EM) : EM := fun δ => (me δ).bind fun p => match p.1 with
  | .val (.int n) => if 0 ≤ n ∧ n ≤ 100000 then some (.tmp (rangeD 0 n.toNat), p.2) else none
  | _ => none
theorem rangeD_reps : ∀ (n : Nat) (lo : Int), Reps K G (rangeD lo n) ((List.range n).map fun i => V.int (lo + (i : Nat)))
  | 0, _ => .nil
  | n + 1, lo => by
    rw [List.range_succ_eq_map, List.map_cons, List.map_map]
    show Reps K G (Pd.D.int lo :: rangeD (lo + 1) n) _
    refine .cons (by rw [show lo + ((0 : Nat) : Int) = lo by omega]; exact .int lo) ?_
    have e : ((fun i : Nat => V.int (lo + (i : Nat))) ∘ Nat.succ) = fun i : Nat => V.int (lo + 1 + (i : Nat)) := by
      funext i
      show V.int (lo + ((i + 1 : Nat) : Int)) = _
      rw [show lo + ((i + 1 : Nat) : Int) = lo + 1 + (i : Int) by omega]
    rw [e]
    exact rangeD_reps n (lo + 1)
theorem sd_lrg (h : Sd K te me) : Sd K (tLstRg (tRg1 te)) (eLrg me) := fun F pa G σ δ H S r' δ' e Q q => by
  obtain ⟨⟨r, δ1⟩, h1, e⟩ := bind_some' e
  simp only at e
  split at e
  · split at e
    · rename_i n hn
      simp only [Option.some.injEq, Prod.mk.injEq] at e
      obtain ⟨rfl, rfl⟩ := e
      refine h F pa G σ δ H S _ _ h1 _ fun G1 x H1 g1 S1 r1 => ?_
      cases r1
      refine ⟨_, rfl, RgOk.of_le (Int.le_refl 0) (by omega) (by omega) hn.1, fun p hp => ?_⟩
      refine q G1 _ _ g1 (S1.newH hp) ⟨p, _, rfl, none_of_ex S1.gr hp, none_of_ex S1.fr hp, upd_same, ?_, S1.notOwned hp⟩
      unfold rgV
      rw [Int.sub_zero]
      exact rangeD_reps _ 0
    · cases e
  · cases e
end
end Pd
end
section
set_option Elab.async false
set_option linter.all false
set_option maxRecDepth 100000
set_option maxHeartbeats 1000000
namespace Pd
open PySem PySem.Spec PyProof.Rows L2 Evl
/-! ### a < b of data -/
def notNone : PyData → Bool
  | .none => false
  | _ => true
theorem notNone_ok {d : PyData} (h : notNone d = true) : d ≠ .none := by
  intro e
  subst e
  cases h
def rLtD (K : PySem.W.Frag) : R2 := fun x y H Q => ∃ d e, Dp K H x d ∧ Dp K H y e ∧ PySem.W.alike d e = true ∧ notNone d = true ∧ SeqAt.shaped d = true ∧ Q (.bl (PySem.W.dataLt d e)) H
theorem op_ltD {X : Cx} (hu : X.A.units + 64 < cLine) : OpR X (compareOp .Lt) (rLtD X.K) := by
  intro pins s σ H x y v u Q I rx ry h
  obtain ⟨d, e, hd, he, al, nn, sd, q⟩ := h
  obtain ⟨as, r1⟩ := Dp.reads I d x v hd rx
  obtain ⟨bs, r2⟩ := Dp.reads I e y u he ry
  have hr : X.A.units + min d.depth e.depth < cLine := by
    have := SeqAt.depth_of_shaped sd
    omega
  exact PySem.W.rcLt_alike d e _ _ _ _ _ _ r1 r2 al (notNone_ok nn) hr _ _ _ _ ⟨.bl _, H, I, rfl, q⟩
def rLtA (K : PySem.W.Frag) : R2 := fun x y H Q => rI0 (fun i j => .bl (decide (i < j))) x y H Q ∨ rLtD K x y H Q
theorem op_ltA {X : Cx} (hu : X.A.units + 64 < cLine) : OpR X (compareOp .Lt) (rLtA X.K) := op_lt.or (op_ltD hu)
section
variable {K : PySem.W.Frag} {F G G' H H' : Hp} {pa : Addr} {σ : L2.St} {δ δ' : DEnv} {v : V} {r : R} {ta tb te tc : TE} {ma mb me mc : EM} {t u : TT} {mt mu : TM} {ts us : TS} {ms ns : SM} {g : TG} {tg : GM} {js : List Nat}
def ltD (a b : D) : Bool := PySem.W.dataLt (toP a) (toP b)
def ltOk (a b : D) : Bool := PySem.W.alike (toP a) (toP b) && (notNone (toP a) && shp a)
@[simp] def dLt : D → D → Option OR
  | .int i, .int j => some (.v (.bl (decide (i < j))))
  | a, b => if ltOk a b = true then some (.v (.bl (ltD a b))) else none
theorem ob_ltD {a b : D} {o : OR} (hf : (if ltOk a b = true then some (OR.v (.bl (ltD a b))) else none) = some o) {x y : V} {Q : VK} (e : Ex G H) (ha : RepN K G H a x) (hb : RepN K G H b y) (q : Fin K G H o Q) : rLtA K x y H Q := by
  split at hf
  · rename_i h
    simp only [Option.some.injEq] at hf
    subst hf
    unfold ltOk at h
    rw [Bool.and_eq_true, Bool.and_eq_true] at h
    exact .inr ⟨_, _, (ha.rep e).dp, (hb.rep e).dp, h.1, h.2.1, h.2.2, q _ (.bl _)⟩
  · cases hf
theorem ob_ltA : Ob K (rLtA K) dLt := fun G H x y a b o e ha hb hf Q q => by
  unfold dLt at hf
  split at hf
  · rename_i i j
    simp only [Option.some.injEq] at hf
    subst hf
    cases (show Rep K G (.int i) x from ha)
    cases (show Rep K G (.int j) y from hb)
    exact .inl ⟨i, j, rfl, rfl, q _ (.bl _)⟩
  · exact ob_ltD hf e ha hb q

/-! ### sorted -/
/-- in its place, ahead of what is not less -/
def insD (d : D) : List D → List D
  | [] => [d]
  | x :: xs => if ltD x d = true then x :: insD d xs else d :: x :: xs
def isortD : List D → List D
  | [] => []
  | d :: ds => insD d (isortD ds)
abbrev leD : D → D → Bool := PySem.W.dataLe false toP
theorem leD_eq (a b : D) : leD a b = !ltD b a := rfl
theorem leD_total : PySem.W.TotalLe leD := PySem.W.sortLe_total _ _ _
theorem same_lt {c d x : D} (h : ltD x d = true) (hd : PySem.W.sameRank leD c d = true) : PySem.W.sameRank leD c x = false := by
  unfold PySem.W.sameRank at hd ⊢
  rw [Bool.and_eq_true] at hd
  cases hc : leD c x with
  | false => simp [hc]
  | true =>
    have h1 := leD_total.trans _ _ _ hd.2 hc
    rw [leD_eq, h] at h1
    cases h1
theorem insD_filter (c d : D) : ∀ xs : List D, (insD d xs).filter (PySem.W.sameRank leD c) = (d :: xs).filter (PySem.W.sameRank leD c)
  | [] => rfl
  | x :: xs => by
    unfold insD
    split
    · rename_i h
      have ih := insD_filter c d xs
      cases hd : PySem.W.sameRank leD c d with
      | true =>
        have hx := same_lt h hd
        rw [List.filter_cons_of_neg (by rw [hx]; exact Bool.false_ne_true), ih, List.filter_cons_of_pos hd, List.filter_cons_of_pos hd, List.filter_cons_of_neg (by rw [hx]; exact Bool.false_ne_true)]
      | false =>
        have hd' : ¬ PySem.W.sameRank leD c d = true := by rw [hd]; exact Bool.false_ne_true
        rw [List.filter_cons_of_neg hd'] at ih
        rw [List.filter_cons_of_neg hd', List.filter_cons, List.filter_cons, ih]
    · rfl
theorem insD_mem {d y : D} : ∀ {xs : List D}, y ∈ insD d xs → y = d ∨ y ∈ xs
  | [], h => by
    rcases List.mem_cons.mp h with h | h
    · exact .inl h
    · cases h
  | x :: xs, h => by
    unfold insD at h
    split at h
    · rcases List.mem_cons.mp h with h | h
      · exact .inr (by rw [h]; exact List.mem_cons_self)
      · rcases insD_mem h with h | h
        · exact .inl h
        · exact .inr (List.mem_cons_of_mem _ h)
    · rcases List.mem_cons.mp h with h | h
      · exact .inl h
      · exact .inr h
theorem insD_sorted (d : D) : ∀ xs : List D, xs.Pairwise (fun a b => leD a b = true) → (insD d xs).Pairwise (fun a b => leD a b = true)
  | [], _ => by simp [insD]
  | x :: xs, h => by
    obtain ⟨h1, h2⟩ := List.pairwise_cons.mp h
    unfold insD
    split
    · rename_i hl
      refine List.pairwise_cons.mpr ⟨fun y hy => ?_, insD_sorted d xs h2⟩
      rcases insD_mem hy with rfl | hy
      · rcases leD_total.total x y with z | z
        · exact z
        · rw [leD_eq, hl] at z
          cases z
      · exact h1 y hy
    · rename_i hl
      have hdx : leD d x = true := by
        rw [leD_eq]
        cases q : ltD x d with
        | true => exact absurd q hl
        | false => rfl
      refine List.pairwise_cons.mpr ⟨fun y hy => ?_, h⟩
      rcases List.mem_cons.mp hy with rfl | hy
      · exact hdx
      · exact leD_total.trans _ _ _ hdx (h1 y hy)
theorem isortD_eq (ds : List D) : isortD ds = ds.mergeSort leD := by
  refine PySem.W.sort_unique leD_total ?_ fun c => ?_
  · induction ds with
    | nil => exact List.Pairwise.nil
    | cons d ds ih => exact insD_sorted d _ ih
  · induction ds with
    | nil => rfl
    | cons d ds ih =>
      show (insD d (isortD ds)).filter _ = _
      rw [insD_filter, List.filter_cons, List.filter_cons, ih]
/-- two sorted lists made one -/
def mrgD : Nat → List D → List D → List D
  | 0, xs, ys => isortD (xs ++ ys)
  | _ + 1, [], ys => ys
  | _ + 1, x :: xs, [] => x :: xs
  | n + 1, x :: xs, y :: ys => if ltD y x = true then y :: mrgD n (x :: xs) ys else x :: mrgD n xs (y :: ys)
def msortD : Nat → List D → List D
  | _, [] => []
  | _, [d] => [d]
  | 0, ds => isortD ds
  | n + 1, ds => mrgD ds.length (msortD n (ds.take (ds.length / 2))) (msortD n (ds.drop (ds.length / 2)))
abbrev SrtD (ds : List D) : Prop := ds.Pairwise (fun a b => leD a b = true)
theorem isortD_srt : ∀ ds : List D, SrtD (isortD ds)
  | [] => List.Pairwise.nil
  | d :: ds => insD_sorted d _ (isortD_srt ds)
theorem isortD_filter (c : D) : ∀ ds : List D, (isortD ds).filter (PySem.W.sameRank leD c) = ds.filter (PySem.W.sameRank leD c)
  | [] => rfl
  | d :: ds => by
    show (insD d (isortD ds)).filter _ = _
    rw [insD_filter, List.filter_cons, List.filter_cons, isortD_filter c ds]
theorem mrgD_filter (c : D) : ∀ (n : Nat) (xs ys : List D), SrtD xs → (mrgD n xs ys).filter (PySem.W.sameRank leD c) = xs.filter (PySem.W.sameRank leD c) ++ ys.filter (PySem.W.sameRank leD c)
  | 0, xs, ys, _ => by
    show (isortD (xs ++ ys)).filter _ = _
    rw [isortD_filter, List.filter_append]
  | _ + 1, [], ys, _ => rfl
  | _ + 1, x :: xs, [], _ => by simp [mrgD]
  | n + 1, x :: xs, y :: ys, h => by
    unfold mrgD
    split
    · rename_i hl
      have ih := mrgD_filter c n (x :: xs) ys h
      cases hy : PySem.W.sameRank leD c y with
      | true =>
        have none : (x :: xs).filter (PySem.W.sameRank leD c) = [] := by
          refine List.filter_eq_nil_iff.mpr fun z hz => ?_
          have hyz : ltD y z = true := by
            rcases List.mem_cons.mp hz with rfl | hz
            · exact hl
            · have hxz := (List.pairwise_cons.mp h).1 z hz
              cases q : ltD y z with
              | true => rfl
              | false =>
                have hzy : leD z y = true := by rw [leD_eq, q]; rfl
                have := leD_total.trans _ _ _ hxz hzy
                rw [leD_eq, hl] at this
                cases this
          cases hc : PySem.W.sameRank leD c z with
          | false => exact Bool.false_ne_true
          | true =>
            have h2 := same_lt hyz hc
            rw [hy] at h2
            cases h2
        rw [List.filter_cons_of_pos hy, ih, none, List.filter_cons_of_pos hy]
        rfl
      | false =>
        have hy' : ¬ PySem.W.sameRank leD c y = true := by rw [hy]; exact Bool.false_ne_true
        rw [List.filter_cons_of_neg hy', ih, List.filter_cons_of_neg hy']
    · have ih := mrgD_filter c n xs (y :: ys) (List.pairwise_cons.mp h).2
      rw [List.filter_cons, ih, List.filter_cons (x := x)]
      split <;> rfl
theorem mrgD_mem {z : D} : ∀ {n : Nat} {xs ys : List D}, z ∈ mrgD n xs ys → z ∈ xs ∨ z ∈ ys
  | 0, xs, ys, h => by
    have h : z ∈ isortD (xs ++ ys) := h
    rw [isortD_eq] at h
    exact List.mem_append.mp ((List.mergeSort_perm _ _).mem_iff.mp h)
  | _ + 1, [], ys, h => .inr h
  | _ + 1, x :: xs, [], h => .inl h
  | n + 1, x :: xs, y :: ys, h => by
    unfold mrgD at h
    split at h
    · rcases List.mem_cons.mp h with h | h
      · exact .inr (by rw [h]; exact List.mem_cons_self)
      · rcases mrgD_mem h with h | h
        · exact .inl h
        · exact .inr (List.mem_cons_of_mem _ h)
    · rcases List.mem_cons.mp h with h | h
      · exact .inl (by rw [h]; exact List.mem_cons_self)
      · rcases mrgD_mem h with h | h
        · exact .inl (List.mem_cons_of_mem _ h)
        · exact .inr h
theorem mrgD_srt : ∀ (n : Nat) (xs ys : List D), SrtD xs → SrtD ys → SrtD (mrgD n xs ys)
  | 0, xs, ys, _, _ => isortD_srt _
  | _ + 1, [], ys, _, h => h
  | _ + 1, x :: xs, [], h, _ => h
  | n + 1, x :: xs, y :: ys, h, h' => by
    unfold mrgD
    split
    · rename_i hl
      refine List.pairwise_cons.mpr ⟨fun z hz => ?_, mrgD_srt n _ _ h (List.pairwise_cons.mp h').2⟩
      have hyx : leD y x = true := by
        rcases leD_total.total y x with q | q
        · exact q
        · rw [leD_eq, hl] at q
          cases q
      rcases mrgD_mem hz with hz | hz
      · rcases List.mem_cons.mp hz with rfl | hz
        · exact hyx
        · exact leD_total.trans _ _ _ hyx ((List.pairwise_cons.mp h).1 z hz)
      · exact (List.pairwise_cons.mp h').1 z hz
    · rename_i hl
      have hxy : leD x y = true := by
        rw [leD_eq]
        cases q : ltD y x with
        | true => exact absurd q hl
        | false => rfl
      refine List.pairwise_cons.mpr ⟨fun z hz => ?_, mrgD_srt n _ _ (List.pairwise_cons.mp h).2 h'⟩
      rcases mrgD_mem hz with hz | hz
      · exact (List.pairwise_cons.mp h).1 z hz
      · rcases List.mem_cons.mp hz with rfl | hz
        · exact hxy
        · exact leD_total.trans _ _ _ hxy ((List.pairwise_cons.mp h').1 z hz)
theorem msortD_srt : ∀ (n : Nat) (ds : List D), SrtD (msortD n ds)
  | n, [] => by cases n <;> exact List.Pairwise.nil
  | n, [d] => by cases n <;> exact List.pairwise_singleton _ _
  | 0, d :: e :: ds => isortD_srt _
  | n + 1, d :: e :: ds => mrgD_srt _ _ _ (msortD_srt n _) (msortD_srt n _)
theorem msortD_filter (c : D) : ∀ (n : Nat) (ds : List D), (msortD n ds).filter (PySem.W.sameRank leD c) = ds.filter (PySem.W.sameRank leD c)
  | n, [] => by cases n <;> rfl
  | n, [d] => by cases n <;> rfl
  | 0, d :: e :: ds => isortD_filter c _
  | n + 1, d :: e :: ds => by
    show (mrgD _ _ _).filter _ = _
    rw [mrgD_filter c _ _ _ (msortD_srt n _), msortD_filter c n, msortD_filter c n, ← List.filter_append, List.take_append_drop]
theorem msortD_eq (n : Nat) (ds : List D) : msortD n ds = ds.mergeSort leD := PySem.W.sort_unique leD_total (msortD_srt n ds) fun c => msortD_filter c n ds
def sortD (ds : List D) : List D := msortD 12 ds
mutual
/-- of one form -/
def alikeS : PyData → PyData → Bool
  | .none, .none => true
  | .bool _, .bool _ => true
  | .int _, .int _ => true
  | .str _, .str _ => true
  | .list xs, .list ys => alikeSs xs ys
  | .tuple xs, .tuple ys => alikeSs xs ys
  | _, _ => false
def alikeSs : List PyData → List PyData → Bool
  | x :: xs, y :: ys => alikeS x y && alikeSs xs ys
  | [], [] => true
  | _, _ => false
end
mutual
theorem alike_eucl : ∀ a b c : PyData, alikeS a b = true → alikeS a c = true → PySem.W.alike b c = true
  | .none, b, c, h1, h2 => by
    cases b <;> simp only [alikeS, Bool.false_eq_true] at h1
    cases c <;> simp only [alikeS, Bool.false_eq_true] at h2
    simp only [PySem.W.alike]
  | .bool _, b, c, h1, h2 => by
    cases b <;> simp only [alikeS, Bool.false_eq_true] at h1
    cases c <;> simp only [alikeS, Bool.false_eq_true] at h2
    simp only [PySem.W.alike]
  | .int _, b, c, h1, h2 => by
    cases b <;> simp only [alikeS, Bool.false_eq_true] at h1
    cases c <;> simp only [alikeS, Bool.false_eq_true] at h2
    simp only [PySem.W.alike]
  | .str _, b, c, h1, h2 => by
    cases b <;> simp only [alikeS, Bool.false_eq_true] at h1
    cases c <;> simp only [alikeS, Bool.false_eq_true] at h2
    simp only [PySem.W.alike]
  | .list xs, b, c, h1, h2 => by
    cases b <;> simp only [alikeS, Bool.false_eq_true] at h1
    cases c <;> simp only [alikeS, Bool.false_eq_true] at h2
    simp only [PySem.W.alike]
    exact alike_eucls xs _ _ h1 h2
  | .tuple xs, b, c, h1, h2 => by
    cases b <;> simp only [alikeS, Bool.false_eq_true] at h1
    cases c <;> simp only [alikeS, Bool.false_eq_true] at h2
    simp only [PySem.W.alike]
    exact alike_eucls xs _ _ h1 h2
  | .dict _, b, c, h1, h2 => by cases b <;> simp only [alikeS, Bool.false_eq_true] at h1
theorem alike_eucls : ∀ xs ys zs : List PyData, alikeSs xs ys = true → alikeSs xs zs = true → PySem.W.alikeAll ys zs = true
  | [], ys, zs, h1, h2 => by
    cases ys with
    | nil => simp only [PySem.W.alikeAll]
    | cons _ _ => simp only [alikeSs, Bool.false_eq_true] at h1
  | x :: xs, ys, zs, h1, h2 => by
    cases ys with
    | nil => simp only [alikeSs, Bool.false_eq_true] at h1
    | cons y ys =>
      cases zs with
      | nil => simp only [alikeSs, Bool.false_eq_true] at h2
      | cons z zs =>
        simp only [alikeSs, Bool.and_eq_true] at h1 h2
        simp only [PySem.W.alikeAll, Bool.and_eq_true]
        exact ⟨alike_eucl x y z h1.1 h2.1, alike_eucls xs ys zs h1.2 h2.2⟩
end
def sortableB (d : D) : Bool := match d with
  | .tup (_ :: _) => true
  | .int _ => true
  | .str _ => true
  | .lst _ => true
  | _ => false
def isTupB (d : D) : Bool := match d with
  | .tup (_ :: _) => true
  | _ => false
/-- what may be sorted -/
def sortOk (ds : List D) : Bool := match ds with
  | [] => true
  | d :: _ => ds.all (fun e => alikeS (toP d) (toP e) && (decide ((toP e).depth ≤ 64) && (if isTupB d then isTupB e else sortableB e && !isTupB e)))
theorem sortOk_alike {ds : List D} (h : sortOk ds = true) : PySem.W.AllAlike (ds.map toP) := by
  intro d hd d' hd'
  obtain ⟨a, ha, rfl⟩ := List.mem_map.mp hd
  obtain ⟨b, hb, rfl⟩ := List.mem_map.mp hd'
  cases ds with
  | nil => cases ha
  | cons z zs =>
    unfold sortOk at h
    have h1 := List.all_eq_true.mp h a ha
    have h2 := List.all_eq_true.mp h b hb
    rw [Bool.and_eq_true] at h1 h2
    exact alike_eucl _ _ _ h1.1 h2.1
theorem sortOk_depth {ds : List D} (h : sortOk ds = true) : ∀ d ∈ ds, (toP d).depth ≤ 64 := by
  intro a ha
  cases ds with
  | nil => cases ha
  | cons z zs =>
    unfold sortOk at h
    have h1 := List.all_eq_true.mp h a ha
    rw [Bool.and_eq_true, Bool.and_eq_true] at h1
    exact of_decide_eq_true h1.2.1
theorem isTupB_ok {d : D} (h : isTupB d = true) : ∃ x r, toP d = .tuple (x :: r) := by
  unfold isTupB at h
  split at h
  · exact ⟨_, _, rfl⟩
  · cases h
theorem sortableB_ok {d : D} (h : sortableB d = true) (h2 : isTupB d = false) : toP d ≠ .none ∧ ∀ xs, toP d ≠ .tuple xs := by
  unfold sortableB at h
  split at h
  · cases h2
  · simp [toP]
  · simp [toP]
  · simp [toP]
  · cases h
theorem sortOk_sortable {ds : List D} (h : sortOk ds = true) : PySem.W.Sortable (ds.map toP) := by
  cases ds with
  | nil => exact .inl fun d hd => by cases hd
  | cons z zs =>
    unfold sortOk at h
    have h' := List.all_eq_true.mp h
    cases hz : isTupB z with
    | true =>
      refine .inl fun d hd => ?_
      obtain ⟨a, ha, rfl⟩ := List.mem_map.mp hd
      have h1 := h' a ha
      rw [Bool.and_eq_true, Bool.and_eq_true, hz, if_pos rfl] at h1
      exact isTupB_ok h1.2.2
    | false =>
      refine .inr fun d hd => ?_
      obtain ⟨a, ha, rfl⟩ := List.mem_map.mp hd
      have h1 := h' a ha
      rw [Bool.and_eq_true, Bool.and_eq_true, hz, if_neg Bool.false_ne_true, Bool.and_eq_true, Bool.not_eq_true'] at h1
      exact sortableB_ok h1.2.2.1 h1.2.2.2
theorem reps_each {X : Cx} {pins : List (Addr × Obj)} {σ : L2.St} {H : Hp} {s : Shared} (I : L2.Inv X pins σ H s) : ∀ {ds : List D} {vs : List V} {us : List Value}, Reps X.K G ds vs → Ex G H → Vals vs us →
    PySem.W.EachIs (fun u d => ∃ x, Rep X.K G d x ∧ RelV x u) us ds ∧ PySem.W.EachIs (fun u d => ∃ as, Reads s.heap u (toP d) as) us ds
  | _, _, _, .nil, _, .nil => ⟨.nil, .nil⟩
  | _, _, _, .cons a r, e, .cons b c => by
    obtain ⟨h1, h2⟩ := reps_each I r e c
    obtain ⟨as, q⟩ := Dp.reads I _ _ _ (a.mono e).dp b
    exact ⟨.cons ⟨_, a, b⟩ h1, .cons ⟨as, q⟩ h2⟩
theorem each_reps {K : PySem.W.Frag} : ∀ {us : List Value} {ds : List D}, PySem.W.EachIs (fun u d => ∃ x, Rep K G d x ∧ RelV x u) us ds → ∃ vs, Reps K G ds vs ∧ Vals vs us
  | _, _, .nil => ⟨[], .nil, .nil⟩
  | _, _, .cons ⟨x, a, b⟩ r => by
    obtain ⟨vs, h1, h2⟩ := each_reps r
    exact ⟨x :: vs, .cons a h1, .cons b h2⟩
def rSorted (K : PySem.W.Frag) : List V → Hp → VK → Prop := fun xs H Q => ∃ (G : Hp) (a : Addr) (vs : List V) (ds : List D), xs = [.ref a] ∧ Ex G H ∧ SqL K H a vs ∧ Reps K G ds vs ∧ sortOk ds = true ∧ ds.length ≤ sizeLine ∧
  ∀ (p : Addr) (ws : List V), H p = none → Reps K G (sortD ds) ws → Q (.ref p) (upd H p (.lst ws))
theorem cr_sortedD {X : Cx} (hu : X.A.units + 70 < cLine) : CallR X (.builtin "sorted") (rSorted X.K) := by
  intro pins s σ H xs us Q I r h
  obtain ⟨G, a, vs, ds, rfl, e, hs, rs, so, hl, q⟩ := h
  obtain ⟨its, rv, pl, hz⟩ := I.list hs
  obtain ⟨u, rfl, ru⟩ := vals1 r
  cases (show u = Value.ref a from ru)
  obtain ⟨e1, e2⟩ := reps_each I rs e rv
  refine PySem.W.sorted_data (enc := toP) (R := fun u d => ∃ x, Rep X.K G d x ∧ RelV x u) pl.isList e1 e2 (sortOk_alike so) (sortOk_sortable so) hl (fun b hb => ?_) fun out hlen eo => ?_
  · have := sortOk_depth so b hb
    omega
  · have eo' : PySem.W.EachIs (fun u d => ∃ x, Rep X.K G d x ∧ RelV x u) out (sortD ds) := by unfold sortD; rw [msortD_eq]; exact eo
    obtain ⟨ws, q1, q2⟩ := each_reps eo'
    obtain ⟨c, hc⟩ := sortedAll_at s.heap its out.toArray
    have hn : H (s.heap.objs.size + 1) = none := I.hok.fresh (Nat.le_succ _)
    refine ⟨.ref (s.heap.objs.size + 1), _, I.laid (t' := s.toks) (fun _ _ => sortedAll_old) (Nat.le_succ _) (show ObjOk X.prog X.w _ _ _ (.lst ws) from ⟨?_, out, c, q2, hc⟩), rfl, q _ _ hn q1⟩
    rw [q2.length, hlen]
    exact hl
@[simp] def fSorted : List D → Option OR
  | [.lst ds] => if (sortOk ds && lenOk ds.length) = true then some (.l (sortD ds)) else none
  | _ => none
theorem repN_lst {ds : List D} (h : RepN K G H (.lst ds) v) : ∃ p vs, v = .ref p ∧ H p = some (.lst vs) ∧ Reps K G ds vs := h
theorem co_sorted : Co K (rSorted K) fSorted := fun G H xs as o e h hf Q q => by
  unfold fSorted at hf
  split at hf
  · split at hf
    · rename_i hs
      rw [Bool.and_eq_true] at hs
      simp only [Option.some.injEq] at hf
      subst hf
      obtain ⟨v, rfl, p, vs, rfl, a, r⟩ := repNs_one h
      exact ⟨G, p, vs, _, rfl, e, SqL.of a, r, hs.1, lenOk_sz hs.2, fun l ws hl hr => q l ws hl hr⟩
    · cases hf
  · cases hf

/-! ### max, min of a list of ints -/
def rMax1 (K : PySem.W.Frag) : List V → Hp → VK → Prop := fun xs H Q => ∃ (a : Addr) (n : Int) (ns : List Int), xs = [.ref a] ∧ SqL K H a ((n :: ns).map V.int) ∧ Q (.int (maxI n (n :: ns))) H
theorem cr_max1 {X : Cx} (hc : X.calm = true) (hu : X.A.units + 64 < cLine) : CallR X (.builtin "max") (rMax1 X.K) := by
  intro pins s σ H xs us Q I r h
  obtain ⟨a, n, ns, rfl, hs, q⟩ := h
  obtain ⟨its, rv, hl, _⟩ := I.list hs
  obtain ⟨u, rfl, ru⟩ := vals1 r
  cases (show u = Value.ref a from ru)
  have hi := rv.ints
  refine PySem.W.max_list_datum (x := n) (xs := ns) (I.ok.hd hc) hl.isList (PySem.W.HoldAll.of_ints hi) (by show X.A.units + 1 + 0 < cLine; omega) (fun i v h' tk' hv hh hk => ?_)
  obtain ⟨t', rfl⟩ := PySem.W.int_of_holds hh
  refine ⟨.int (maxI n (n :: ns)), H, I.kept hk, ⟨t', ?_⟩, q⟩
  show _ = Value.int (ns.foldl (fun a y => if a < y then y else a) n) t'
  have e : (fun (a y : Int) => if PySem.W.DatumOrd.lt a y = true then y else a) = fun a y => if a < y then y else a := by
    funext a y
    by_cases h : a < y
    · rw [if_pos h, if_pos (show PySem.W.DatumOrd.lt a y = true from decide_eq_true h)]
    · rw [if_neg h, if_neg (show ¬ PySem.W.DatumOrd.lt a y = true from fun z => h (of_decide_eq_true z))]
  unfold PySem.W.maxOf
  rw [e]
@[simp] def fMax : List D → Option OR
  | [.lst ds] => (intsOf ds).bind fun ns => match ns with
    | [] => none
    | n :: ns => some (.v (.int (maxI n (n :: ns))))
  | _ => none
theorem co_max : Co K (rMax1 K) fMax := fun G H xs as o e h hf Q q => by
  unfold fMax at hf
  split at hf
  · obtain ⟨ns, h1, hf⟩ := bind_some' hf
    obtain ⟨v, rfl, p, vs, rfl, a, r⟩ := repNs_one h
    have e1 := intsOf_ok h1 r
    subst e1
    cases ns with
    | nil => cases hf
    | cons n ns =>
      simp only [Option.some.injEq] at hf
      subst hf
      exact ⟨p, n, ns, rfl, SqL.of a, q _ (.int _)⟩
  · cases hf
/-! ### bit_length -/
@[simp] def fBits : D → Option OR
  | .int i => some (.v (.int (Builtin.Int.intBits i : Nat)))
  | _ => none
theorem sd_bits (ha : Sd K ta ma) : Sd K (tBits ta) (eUn fBits ma) := sd_un (r := fun x H1 Q => ∃ i, x = V.int i ∧ Q (.int (Builtin.Int.intBits i : Nat)) H1) (fun G H x a o e h hf Q q => by
  unfold fBits at hf
  split at hf
  · rename_i i
    simp only [Option.some.injEq] at hf
    subst hf
    cases (show Rep K G (.int i) x from h)
    exact ⟨i, rfl, q _ (.int _)⟩
  · cases hf) ha
/-! ### name.extend(e), the list the name's own -/
def sExt (i : Nat) (me : EM) : SM := fun δ => match δ[i]? with
  | some (.own _ _) => (me δ).bind fun p => (fix (hold p.1) p.2).bind fun z => match z.1 with
    | .lst es => match z.2[i]? with
      | some (.own b ds) => if lenOk (ds.length + es.length) = true then some (.nxt, z.2.set i (.own b (ds ++ es))) else none
      | _ => none
    | _ => none
  | _ => none
theorem ss_ext {i : Nat} (h : Sd K te me) : SdS K (tDrop (tBM K "list" rExtend (tVar i) (tCons te tNil))) (sExt i me) := fun F pa G σ δ H S c δ' e D q => by
  simp only [sExt] at e
  split at e
  · rename_i b0 ds0 hb0
    obtain ⟨⟨r, δ1⟩, h1, e⟩ := bind_some' e
    obtain ⟨⟨d, δ2⟩, h2, e⟩ := bind_some' e
    simp only at e h2
    split at e
    · rename_i es
      split at e
      · rename_i b ds hb
        split at e
        · rename_i hl
          simp only [Option.some.injEq, Prod.mk.injEq] at e
          obtain ⟨rfl, rfl⟩ := e
          obtain ⟨p, vs0, o1, o2, o3, o4, o5, o6⟩ := S.own i b0 ds0 hb0
          refine ⟨_, o1, .inl ⟨rfl, _, SqL.of o5⟩, ?_⟩
          refine h F pa G σ δ H S _ _ h1 _ fun G1 x H1 g1 S1 r1 => ?_
          obtain ⟨G1', g1', S1', r1'⟩ := hold_ok S1 r1
          obtain ⟨G2, g2, S2, q2⟩ := fix_ok S1' r1' h2
          obtain ⟨p', vs, w1, w2, w3, w4, w5, w6⟩ := S2.own i b ds hb
          rw [o1] at w1
          cases w1
          cases q2 with
          | lst ha rs =>
            refine ⟨p, _, vs, _, rfl, rfl, w5, S2.gr _ _ ha, by rw [← w6.length, ← rs.length]; exact lenOk_sz hl, q G2 σ _ ((g1.trans g1').trans g2) (S2.mutOwn hb o1 (w6.append rs))⟩
        · cases e
      · cases e
    · cases e
  · cases e
/-! ### a method of a tuple -/
def tTM (K : PySem.W.Frag) (r : V → List V → Hp → VK → Prop) (to : TE) (t : TA) : TE := fun σ H Q => to σ H fun x H1 => (∃ p xs, x = .ref p ∧ TupN K H1 p xs) ∧ t σ H1 fun vs H2 => r x vs H2 Q
theorem tupN_is {X : Cx} {pins : List (Addr × Obj)} {σ : L2.St} {H : Hp} {s : Shared} {p : Addr} {xs : List V} (I : L2.Inv X pins σ H s) (h : TupN X.K H p xs) : s.TypeIs (.ref p) "tuple" ∧ ∀ a, Value.ref p = .ref a → ∃ ob, s.heap.get? a = some ob ∧ ob.dict = none := by
  obtain ⟨hq, hn⟩ := h
  obtain ⟨its, _, pl, _⟩ := I.tuple hq
  refine ⟨?_, fun a e => ?_⟩
  · obtain ⟨o, e, hc, _⟩ := pl
    exact ⟨o, e, hc⟩
  · cases e
    rcases hn with ⟨o, u, h1, h2⟩ | ⟨o, h1, h2, h3⟩
    · exact ⟨o, (show ObjOk X.prog X.w H s.heap p (.frz o u) from I.hok p _ h1).1, h2⟩
    · exact ⟨o, I.kIn _ o h1, h3⟩
theorem pe_tm {X : Cx} {o e : Expr} {es : List Expr} {to : TE} {t : TA} {name : Str} {apos cpos : Pos} {id : String} {r : V → List V → Hp → VK → Prop} (slot : Slot "tuple" name id) (hty : typeOf (.builtin id) = pure (.type "method_descriptor")) (hm : MtR X id r) (ho : PE X o to) (ha : PA X (e :: es) t)
    (hbase : attributeBase o name X.env (eval o X.env) = eval o X.env := by rfl)
    (hfew : ((backTo cpos (starEach (e :: es) X.env)).all (fun x => !x.1) && (backToKw cpos (keywordEach [] X.env)).all (fun x => x.1.isSome)
      && decide ((e :: es).length + ([] : List Keyword).length + (if ([] : List Keyword).isEmpty then 0 else 1) < 30)) = true := by rfl)
    (hline : (apos.endLine == cpos.line) = true := by rfl) (hs : starEach (e :: es) X.env = (false, eval e X.env) :: starEach es X.env := by rfl) (hplain : (backTo cpos (starEach es X.env)).any (·.1) = false := by rfl) :
    PE X (.Call (.Attribute o name apos) (e :: es) [] cpos) (tTM X.K r to t) := by
  refine ⟨fun pins s σ H Q I h => ?_⟩
  refine wpAny_Call_method_late hbase hfew hline rfl (thn (ho.run pins s σ H _ I h) fun v s1 ⟨x, H1, I1, r1, ty, q1⟩ => ?_)
  obtain ⟨p, xs, rfl, ht⟩ := ty
  cases r1
  obtain ⟨h1, h2⟩ := tupN_is I1 ht
  refine ⟨"tuple", id, PySem.F.plainAttrs_tuple, slot, hty, h1, h2, ?_⟩
  have hA := ha.run cpos pins s1 σ H1 _ I1 q1
  rw [hs] at hA ⊢
  refine Calls.callWith_builtin (by show (false || (backTo cpos (starEach es X.env)).any (·.1)) = false; rw [hplain] <;> rfl) (Calls.evalArgs_plain ?_)
  exact thn hA fun us s2 ⟨vs, H2, I2, r2, q2⟩ => hm pins s2 σ H2 (.ref p) vs (.ref p) us Q I2 rfl r2 q2
/-- t.index(x), the items data of any depth -/
def rTIndexD (K : PySem.W.Frag) : V → List V → Hp → VK → Prop := fun x xs H Q => ∃ (a : Addr) (y : V) (d : PyData) (ds : List PyData) (j : Nat) (z : PyData), x = V.ref a ∧ xs = [y] ∧ Dp K H (V.ref a) (.tuple ds) ∧ Dp K H y d ∧
  SeqAt.shaped (.tuple ds) = true ∧ SeqAt.shaped d = true ∧ ds[j]? = some z ∧ PyData.eqv z d = true ∧ (∀ (m : Nat) (z' : PyData), m < j → ds[m]? = some z' → PyData.eqv z' d = false) ∧ Q (.int (j : Nat)) H
theorem mt_tindexD {X : Cx} (hu : X.A.units + 65 < cLine) : MtR X "tuple.index" (rTIndexD X.K) := by
  intro pins s σ H x xs v us Q I rx rxs h
  obtain ⟨a, y, d, ds, j, z, rfl, rfl, hl, hy, sl, sd, hz, hzj, hno, q⟩ := h
  cases rx
  cases rxs with
  | cons ry rt =>
    rename_i uy ut
    cases rt
    obtain ⟨bs, r1⟩ := Dp.reads I d y uy hy ry
    have hxs : PyData.canLayAll0 ds = true := SeqAt.canLay_of_shaped sl
    have hroom : X.A.units + 1 + min (PyData.depthAll ds) d.depth < cLine := room_in_shaped sd hu
    cases hl with
    | tup hs ha =>
      obtain ⟨its, rv, ⟨⟨cls, dd, data, sls⟩, ho, hc, n, hdt⟩, hlen⟩ := I.tuple hs
      simp only at hc hdt
      subst hc hdt
      obtain ⟨as, h4⟩ := Dp.readsAll I ds _ its ha rv
      have hn : its.length = ds.length := SeqAt.ReadsAll.length ds its as h4
      have hmap : its.map (SeqAt.readOf s.heap) = ds := SeqAt.readsAll_map ds its as hxs h4
      have hvl := rv.length
      have hsl := sizeLine_eq
      obtain ⟨hjd, _⟩ := List.getElem?_eq_some_iff.mp hz
      have hjl : j < its.length := by omega
      have hj : j < its.toArray.size := by simpa using hjl
      have at_ : ∀ (m : Nat) (hm : m < its.toArray.size) (z' : PyData), ds[m]? = some z' → SeqAt.readOf s.heap its.toArray[m] = z' := by
        intro m hm z' hz'
        have hml : m < its.length := by simpa using hm
        rw [← hmap, List.getElem?_map, List.getElem?_eq_getElem hml] at hz'
        have e1 : SeqAt.readOf s.heap its[m] = z' := Option.some.inj (show some (SeqAt.readOf s.heap its[m]) = some z' from hz')
        simpa using e1
      refine call_meets PySem.F.slot_tuple_index ⟨_, ho, rfl⟩ PySem.F.entry_tuple_index (PySem.F.args_tuple_index_2 _ _)
        (TI.tuple_indexAt a its.toArray n dd sls uy (fun u => PyData.eqv (SeqAt.readOf s.heap u) d) j hj ?_ ?_) ⟨ho, SeqAt.items_eqAt (vs := its.toArray) (show ReadsAll s.heap its.toArray.toList ds as from h4) r1 hxs (SeqAt.canLay_of_shaped sd) hroom, ?_⟩
      · show PyData.eqv (SeqAt.readOf s.heap its.toArray[j]) d = true
        rw [at_ j hj z hz]
        exact hzj
      · intro m hm hmj
        have hmd : m < ds.length := by omega
        have hz' : ds[m]? = some ds[m] := List.getElem?_eq_getElem hmd
        show PyData.eqv (SeqAt.readOf s.heap its.toArray[m]) d = false
        rw [at_ m hm _ hz']
        exact hno m _ hmj hz'
      · exact ⟨.int (j : Nat), H, I.tok _, ⟨_, rfl⟩, q⟩
/-- the first place of an equal one -/
def idxD (d : D) : List D → Option Nat
  | [] => none
  | x :: xs => if eqD x d = true then some 0 else (idxD d xs).map (· + 1)
theorem toPs_get : ∀ (ds : List D) (m : Nat), (toPs ds)[m]? = (ds[m]?).map toP
  | [], m => by cases m <;> rfl
  | d :: ds, 0 => rfl
  | d :: ds, m + 1 => by
    show (toPs ds)[m]? = (ds[m]?).map toP
    exact toPs_get ds m
theorem idxD_ok {d : D} : ∀ {xs : List D} {j : Nat}, idxD d xs = some j → ∃ z, (toPs xs)[j]? = some z ∧ PyData.eqv z (toP d) = true ∧ ∀ (m : Nat) (z' : PyData), m < j → (toPs xs)[m]? = some z' → PyData.eqv z' (toP d) = false
  | [], j, h => by cases h
  | x :: xs, j, h => by
    unfold idxD at h
    split at h
    · rename_i hx
      cases h
      exact ⟨toP x, rfl, hx, fun m z' hm _ => absurd hm (Nat.not_lt_zero _)⟩
    · rename_i hx
      cases hi : idxD d xs with
      | none => rw [hi] at h; cases h
      | some i =>
        rw [hi] at h
        simp only [Option.map_some, Option.some.injEq] at h
        subst h
        obtain ⟨z, h1, h2, h3⟩ := idxD_ok hi
        refine ⟨z, h1, h2, fun m z' hm hz => ?_⟩
        cases m with
        | zero =>
          cases hz
          show eqD x d = false
          cases q : eqD x d with
          | true => exact absurd q hx
          | false => rfl
        | succ m => exact h3 m z' (by omega) hz
/-- t.index(x) -/
def eTIdx (ma mb : EM) : EM := fun δ => (ma δ).bind fun p => match p.1 with
  | .val (.tup ds) => (mb p.2).bind fun q => (rd q.1 q.2).bind fun b => if (shp (.tup ds) && shp b) = true then (idxD b ds).map fun j => (.val (.int (j : Nat)), q.2) else none
  | _ => none
theorem sd_tidx (ha : Sd K ta ma) (hb : Sd K tb mb) : Sd K (tTM K (rTIndexD K) ta (tCons tb tNil)) (eTIdx ma mb) := fun F pa G σ δ H S r' δ' e Q q => by
  obtain ⟨⟨r, δ1⟩, h1, e⟩ := bind_some' e
  simp only at e
  split at e
  · rename_i ds
    obtain ⟨⟨r2, δ2⟩, h2, e⟩ := bind_some' e
    obtain ⟨b, h3, e⟩ := bind_some' e
    split at e
    · rename_i hs
      rw [Bool.and_eq_true] at hs
      cases hi : idxD b ds with
      | none => rw [hi] at e; cases e
      | some j =>
        rw [hi] at e
        simp only [Option.map_some, Option.some.injEq, Prod.mk.injEq] at e
        obtain ⟨rfl, rfl⟩ := e
        refine ha F pa G σ δ H S _ _ h1 _ fun G1 x H1 g1 S1 r1 => ?_
        cases (show Rep K G1 (.tup ds) x from r1) with
        | tup a rs =>
          refine ⟨⟨_, _, rfl, a.mono S1.gr⟩, ?_⟩
          refine hb F pa G1 σ _ H1 S1 _ _ h2 _ fun G2 y H2 g2 S2 q2 => ?_
          obtain ⟨z, i1, i2, i3⟩ := idxD_ok hi
          have hd := (Rep.tup (a.mono (g2.1.trans S2.gr)) (rs.mono (g2.1.trans S2.gr))).dp
          exact ⟨_, y, toP b, toPs ds, j, z, rfl, rfl, hd, ((rd_ok S2 q2 h3).rep S2.gr).dp, hs.1, hs.2, i1, i2, i3, q G2 _ H2 (g1.trans g2) S2 (Rep.int _)⟩
    · cases e
  · cases e
theorem hu70 {k : Nat} {A : Around} (h : Room k A) : A.units + 70 < cLine := by
  have := h.un
  omega
theorem hu65 {k : Nat} {A : Around} (h : Room k A) : A.units + 65 < cLine := by
  have := h.un
  omega
theorem bt_sorted : bootBuiltins "sorted" = some (.builtin "sorted") := by decide +kernel
end
end Pd
end
section
set_option Elab.async false
set_option linter.all false
set_option maxRecDepth 100000
set_option maxHeartbeats 1000000
namespace Pd
open PySem PySem.Spec PyProof.Rows L2 Evl
variable {K : PySem.W.Frag}
/-! ### max, min of two ints -/
def rMax2 : List V → Hp → VK → Prop := fun xs H Q => ∃ i j : Int, xs = [.int i, .int j] ∧ Q (.int (if j > i then j else i)) H
def rMin2 : List V → Hp → VK → Prop := fun xs H Q => ∃ i j : Int, xs = [.int i, .int j] ∧ Q (.int (if j < i then j else i)) H
theorem cr_max2 {X : Cx} (hc : X.calm = true) : CallR X (.builtin "max") rMax2 := by
  intro pins s σ H xs us Q I r h
  obtain ⟨i, j, rfl, q⟩ := h
  obtain ⟨u1, u2, rfl, ⟨t1, rfl⟩, ⟨t2, rfl⟩⟩ := vals2 r
  refine max_two_ints (I.ok.hd hc) (fun h' tk hk => ?_)
  refine ⟨.int (if j > i then j else i), H, I.kept hk, ?_, q⟩
  split
  · exact ⟨t2, rfl⟩
  · exact ⟨t1, rfl⟩
theorem cr_min2 {X : Cx} (hc : X.calm = true) : CallR X (.builtin "min") rMin2 := by
  intro pins s σ H xs us Q I r h
  obtain ⟨i, j, rfl, q⟩ := h
  obtain ⟨u1, u2, rfl, ⟨t1, rfl⟩, ⟨t2, rfl⟩⟩ := vals2 r
  refine min_two_ints (I.ok.hd hc) (fun h' tk hk => ?_)
  refine ⟨.int (if j < i then j else i), H, I.kept hk, ?_, q⟩
  split
  · exact ⟨t2, rfl⟩
  · exact ⟨t1, rfl⟩
@[simp] def fMax2 : List D → Option OR
  | [.int i, .int j] => some (.v (.int (if j > i then j else i)))
  | _ => none
@[simp] def fMin2 : List D → Option OR
  | [.int i, .int j] => some (.v (.int (if j < i then j else i)))
  | _ => none
theorem co_max2 : Co K rMax2 fMax2 := fun G H xs as o e h hf Q q => by
  unfold fMax2 at hf
  split at hf
  · rename_i i j
    simp only [Option.some.injEq] at hf
    subst hf
    obtain ⟨v, v', rfl, h1, h2⟩ := repNs_two h
    cases (show Rep K G (.int i) v from h1)
    cases (show Rep K G (.int j) v' from h2)
    exact ⟨i, j, rfl, q _ (.int _)⟩
  · cases hf
theorem co_min2 : Co K rMin2 fMin2 := fun G H xs as o e h hf Q q => by
  unfold fMin2 at hf
  split at hf
  · rename_i i j
    simp only [Option.some.injEq] at hf
    subst hf
    obtain ⟨v, v', rfl, h1, h2⟩ := repNs_two h
    cases (show Rep K G (.int i) v from h1)
    cases (show Rep K G (.int j) v' from h2)
    exact ⟨i, j, rfl, q _ (.int _)⟩
  · cases hf
theorem ip_xor {X : Cx} : PIp X .BitXor (ipI fun i j => Builtin.bitXor i j) := by
  intro pins s σ H x y v u Q I r1 r2 h
  obtain ⟨i, j, e1, e2, q⟩ := h
  subst e1; subst e2
  obtain ⟨t, rfl⟩ := r1
  obtain ⟨t', rfl⟩ := r2
  exact ixor_int ⟨.int _, H, I.tok _, ⟨_, rfl⟩, q⟩
theorem ip_and {X : Cx} : PIp X .BitAnd (ipI fun i j => Builtin.bitAnd i j) := by
  intro pins s σ H x y v u Q I r1 r2 h
  obtain ⟨i, j, e1, e2, q⟩ := h
  subst e1; subst e2
  obtain ⟨t, rfl⟩ := r1
  obtain ⟨t', rfl⟩ := r2
  exact iand_int ⟨.int _, H, I.tok _, ⟨_, rfl⟩, q⟩
theorem ob_xor : Ob K (rI0 fun i j => .int (Builtin.bitXor i j)) (dI fun i j => .int (Builtin.bitXor i j)) := ob_i0
/-! ### min of a list of ints -/
def minI (x : Int) (xs : List Int) : Int := xs.foldl (fun a y => if y < a then y else a) x
def rMin1 (K : PySem.W.Frag) : List V → Hp → VK → Prop := fun xs H Q => ∃ (a : Addr) (n : Int) (ns : List Int), xs = [.ref a] ∧ SqL K H a ((n :: ns).map V.int) ∧ Q (.int (minI n ns)) H
theorem cr_min1 {X : Cx} (hc : X.calm = true) (hu : X.A.units + 64 < cLine) : CallR X (.builtin "min") (rMin1 X.K) := by
  intro pins s σ H xs us Q I r h
  obtain ⟨a, n, ns, rfl, hs, q⟩ := h
  obtain ⟨its, rv, hl, _⟩ := I.list hs
  obtain ⟨u, rfl, ru⟩ := vals1 r
  cases (show u = Value.ref a from ru)
  have hi := rv.ints
  refine PySem.W.min_list_datum (x := n) (xs := ns) (I.ok.hd hc) hl.isList (PySem.W.HoldAll.of_ints hi) (by show X.A.units + 1 + 0 < cLine; omega) (fun i v h' tk' hv hh hk => ?_)
  obtain ⟨t', rfl⟩ := PySem.W.int_of_holds hh
  refine ⟨.int (minI n ns), H, I.kept hk, ⟨t', ?_⟩, q⟩
  show _ = Value.int (ns.foldl (fun a y => if y < a then y else a) n) t'
  have e : (fun (a y : Int) => if PySem.W.DatumOrd.lt y a = true then y else a) = fun a y => if y < a then y else a := by
    funext a y
    by_cases h : y < a
    · rw [if_pos h, if_pos (show PySem.W.DatumOrd.lt y a = true from decide_eq_true h)]
    · rw [if_neg h, if_neg (show ¬ PySem.W.DatumOrd.lt y a = true from fun z => h (of_decide_eq_true z))]
  unfold PySem.W.minOf
  rw [e]
@[simp] def fMin : List D → Option OR
  | [.lst ds] => (intsOf ds).bind fun ns => match ns with
    | [] => none
    | n :: ns => some (.v (.int (minI n ns)))
  | _ => none
theorem co_min : Co K (rMin1 K) fMin := fun G H xs as o e h hf Q q => by
  unfold fMin at hf
  split at hf
  · obtain ⟨ns, h1, hf⟩ := bind_some' hf
    obtain ⟨v, rfl, p, vs, rfl, a, r⟩ := repNs_one h
    have e1 := intsOf_ok h1 r
    subst e1
    cases ns with
    | nil => cases hf
    | cons n ns =>
      simp only [Option.some.injEq] at hf
      subst hf
      exact ⟨p, n, ns, rfl, SqL.of a, q _ (.int _)⟩
  · cases hf
end Pd
end
section
set_option Elab.async false
set_option linter.all false
set_option maxRecDepth 100000
set_option maxHeartbeats 1000000
namespace Pd
open PySem PySem.Spec PyProof.Rows L2 Evl
variable {K : PySem.W.Frag}
/-! ### name.pop(e), the list the name's own -/
theorem seqIx {k : Int} {n : Nat} (h0 : 0 ≤ k) (h1 : k < n) : seqIndex? k n = some k.toNat := by
  unfold seqIndex?
  have a : ¬ k < 0 := by omega
  simp only [if_neg a]
  rw [if_pos (by simp [h0, h1])]
theorem Reps.erase {G : Hp} : ∀ {ds : List D} {vs : List V} (i : Nat), Reps K G ds vs → Reps K G (ds.eraseIdx i) (vs.eraseIdx i)
  | _, _, _, .nil => .nil
  | _, _, 0, .cons _ r => r
  | _, _, i + 1, .cons h r => .cons h (Reps.erase i r)
def ePop (i : Nat) (me : EM) : EM := fun δ => match δ[i]? with
  | some (.own _ _) => (me δ).bind fun p => match p.1, p.2[i]? with
    | .val (.int k), some (.own b ds) => if decide (0 ≤ k ∧ k < 1000000) = true then (ds[k.toNat]?).bind fun d => some (.val d, p.2.set i (.own b (ds.eraseIdx k.toNat))) else none
    | _, _ => none
  | _ => none
theorem sd_popAt {te : TE} {me : EM} {i : Nat} (h : Sd K te me) : Sd K (tBM K "list" rPopAt (tVar i) (tCons te tNil)) (ePop i me) := fun F pa G σ δ H S c δ' e Q q => by
  simp only [ePop] at e
  split at e
  · rename_i b0 ds0 hb0
    obtain ⟨⟨r, δ1⟩, h1, e⟩ := bind_some' e
    simp only at e
    split at e
    · rename_i k b ds hb
      split at e
      · rename_i hk
        have hk := of_decide_eq_true hk
        obtain ⟨d, hd, e⟩ := bind_some' e
        simp only [Option.some.injEq, Prod.mk.injEq] at e
        obtain ⟨rfl, rfl⟩ := e
        obtain ⟨p, vs0, o1, o2, o3, o4, o5, o6⟩ := S.own i b0 ds0 hb0
        refine ⟨_, o1, .inl ⟨rfl, _, SqL.of o5⟩, ?_⟩
        refine h F pa G σ δ H S _ _ h1 _ fun G1 x H1 g1 S1 r1 => ?_
        cases (show Rep K G1 (.int k) x from r1)
        obtain ⟨p', vs, w1, w2, w3, w4, w5, w6⟩ := S1.own i b ds hb
        rw [o1] at w1
        cases w1
        obtain ⟨y, hy, ry⟩ := w6.get hd
        have hlt : k.toNat < vs.length := by
          rw [List.getElem?_eq_some_iff] at hy
          exact hy.1
        refine ⟨p, vs, k, k.toNat, y, rfl, rfl, w5, by omega, by omega, seqIx hk.1 (by omega), hy, q G1 y _ g1 (S1.mutOwn hb o1 (Reps.erase _ w6)) ry⟩
      · cases e
    · cases e
  · cases e
/-! ### [e for t in a if p for u in b if q] -/
def lc2I (tg : GM) (mt : TM) (me : EM) (vs : List Nat) : List D → DEnv → List D → Option (List D × DEnv)
  | [], δ, acc => some (acc, δ)
  | d :: ds, δ, acc => (tg d (blk vs δ)).bind fun δ1 => (mt δ1).bind fun p => match p.1 with
    | true => (me p.2).bind fun q => (fix (hold q.1) q.2).bind fun z => if acc.length < 100000 then lc2I tg mt me vs ds (back δ vs z.2) (acc ++ [z.1]) else none
    | false => lc2I tg mt me vs ds (back δ vs p.2) acc
def lc2D (tg : GM) (mt : TM) (mi1 : IM) (tg1 : GM) (mt1 : TM) (me : EM) (vs vs1 : List Nat) : List D → DEnv → List D → Option (R × DEnv)
  | [], δ, acc => some (.tmp acc, δ)
  | d :: ds, δ, acc => (tg d (blk vs δ)).bind fun δ1 => (mt δ1).bind fun p => match p.1 with
    | true => (mi1 p.2).bind fun q => if noOwn q.2 vs1 = true then (lc2I tg1 mt1 me vs1 q.1 q.2 acc).bind fun z => lc2D tg mt mi1 tg1 mt1 me vs vs1 ds (back δ vs z.2) z.1 else none
    | false => lc2D tg mt mi1 tg1 mt1 me vs vs1 ds (back δ vs p.2) acc
def eLc2 (mi : IM) (tg : GM) (mt : TM) (mi1 : IM) (tg1 : GM) (mt1 : TM) (me : EM) (vs vs1 : List Nat) : EM := fun δ => (mi δ).bind fun p => if noOwn p.2 vs = true then lc2D tg mt mi1 tg1 mt1 me vs vs1 p.1 p.2 [] else none
theorem sd_lc2 {wi wi1 : TI} {mi mi1 : IM} {vs vs1 : List Nat} {g g1 : TG} {tg tg1 : GM} {js js1 : List Nat} {t t1 : TT} {mt mt1 : TM} {te : TE} {me : EM} (hi : SdI K wi mi) (hg : Sg K g tg js) (ht : SdT K t mt) (hi1 : SdI K wi1 mi1) (hg1 : Sg K g1 tg1 js1) (ht1 : SdT K t1 mt1) (he : Sd K te me) (hj : ∀ j ∈ js, j ∈ vs) (hj1 : ∀ j ∈ js1, j ∈ vs1) : Sd K (tLc2 wi g t wi1 g1 t1 te vs vs1) (eLc2 mi tg mt mi1 tg1 mt1 me vs vs1) := fun F pa G σ δ H S r' δ' e Q q => by
  obtain ⟨⟨ds, δ0⟩, h1, e⟩ := bind_some' e
  simp only at e
  split at e
  · rename_i no
    refine hi F pa G σ δ H S _ _ h1 _ fun G0 J H0 g0 S0 wk => ?_
    intro Dl hD
    have hFD : F Dl = none := none_of_ex S0.fr hD
    have hGD : G0 Dl = none := none_of_ex S0.gr hD
    refine ⟨fun i m H' => m = ds.length - i ∧ i ≤ ds.length ∧ ∃ Gi δi acc accV, GEx F G0 Gi ∧ Gi Dl = none ∧ Stt K (upd F Dl (.lst accV)) pa Gi σ δi H' ∧ Reps K Gi acc accV ∧ acc.length ≤ 100000 ∧ noOwn δi vs = true ∧ lc2D tg mt mi1 tg1 mt1 me vs vs1 (ds.drop i) δi acc = some (r', δ'),
      ⟨ds.length, rfl, Nat.zero_le _, G0, δ0, [], [], GEx.refl F G0, hGD, S0.frame hD, .nil, Nat.zero_le _, no, e⟩, ?_⟩
    rintro i m H' ⟨rfl, hi, Gi, δi, acc, accV, gi, hGi, Si, ra, hl, noi, ei⟩
    obtain ⟨go, stop⟩ := wk _ pa i Gi σ δi H' gi.1 Si
    by_cases hlt : i < ds.length
    · obtain ⟨go1, go2⟩ := go ds[i] (List.getElem?_eq_getElem hlt)
      rw [List.drop_eq_getElem_cons hlt] at ei
      obtain ⟨δ1, h2, ei⟩ := bind_some' ei
      obtain ⟨⟨b, δ2⟩, h3, ei⟩ := bind_some' ei
      refine .inr ⟨go1, fun H2 => ∃ Gi δi acc accV, GEx F G0 Gi ∧ Gi Dl = none ∧ Stt K (upd F Dl (.lst accV)) pa Gi σ δi H2 ∧ Reps K Gi acc accV ∧ acc.length ≤ 100000 ∧ noOwn δi vs = true ∧ lc2D tg mt mi1 tg1 mt1 me vs vs1 (ds.drop (i + 1)) δi acc = some (r', δ'),
        fun H2 h => ⟨ds.length - (i + 1), by omega, rfl, hlt, h⟩, fun x H2 y => ?_⟩
      obtain ⟨G3, g3, S3, r3⟩ := (wk _ pa i Gi _ _ H' gi.1 (Si.blk vs)).1 ds[i] (List.getElem?_eq_getElem hlt) |>.2 x H2 y
      refine hg _ pa G3 (wipe σ vs) (blk vs δi) H2 S3 _ _ r3 _ h2 _ fun σ4 w4 S4 => ?_
      have hw : wipe σ4 vs = wipe σ vs := (w4 vs hj).trans (wipe_wipe σ vs vs fun _ h => h)
      refine ⟨by rw [hw], ?_⟩
      refine ht _ pa G3 σ4 δ1 H2 S4 _ _ h3 _ fun G5 H5 g5 S5 => ?_
      cases b with
      | true =>
        obtain ⟨⟨ds1, δ3⟩, h4, ei⟩ := bind_some' ei
        simp only at h4 ei
        split at ei
        · rename_i no1
          obtain ⟨⟨accZ, δZ⟩, h5, ei⟩ := bind_some' ei
          simp only at h5 ei
          refine iteT ?_
          refine hi1 _ pa G5 σ4 δ2 H5 S5 _ _ h4 _ fun G6 J1 H6 g6 S6 wk1 => ?_
          have gin := gi.trans (((g3.trans g5).trans g6).unframe)
          have hG6 : G6 Dl = none := ((g3.trans g5).trans g6).at hGi
          refine ⟨fun j k H' => k = ds1.length - j ∧ j ≤ ds1.length ∧ ∃ Gj δj accj accjV, GEx F G6 Gj ∧ Gj Dl = none ∧ Stt K (upd F Dl (.lst accjV)) pa Gj σ4 δj H' ∧ Reps K Gj accj accjV ∧ accj.length ≤ 100000 ∧ noOwn δj vs1 = true ∧ lc2I tg1 mt1 me vs1 (ds1.drop j) δj accj = some (accZ, δZ),
            ⟨ds1.length, rfl, Nat.zero_le _, G6, δ3, acc, accV, GEx.refl F G6, hG6, S6, ra.mono ((g3.trans g5).trans g6).1, hl, no1, h5⟩, ?_⟩
          rintro j k H7 ⟨rfl, hj', Gj, δj, accj, accjV, gj, hGj, Sj, rj, hlj, noj, ej⟩
          obtain ⟨goj, stopj⟩ := wk1 _ pa j Gj σ4 δj H7 gj.1 Sj
          by_cases hltj : j < ds1.length
          · obtain ⟨go1j, go2j⟩ := goj ds1[j] (List.getElem?_eq_getElem hltj)
            rw [List.drop_eq_getElem_cons hltj] at ej
            obtain ⟨δ4, k2, ej⟩ := bind_some' ej
            obtain ⟨⟨c, δ5⟩, k3, ej⟩ := bind_some' ej
            refine .inr ⟨go1j, fun H2 => ∃ Gj δj accj accjV, GEx F G6 Gj ∧ Gj Dl = none ∧ Stt K (upd F Dl (.lst accjV)) pa Gj σ4 δj H2 ∧ Reps K Gj accj accjV ∧ accj.length ≤ 100000 ∧ noOwn δj vs1 = true ∧ lc2I tg1 mt1 me vs1 (ds1.drop (j + 1)) δj accj = some (accZ, δZ),
              fun H2 h => ⟨ds1.length - (j + 1), by omega, rfl, hltj, h⟩, fun x1 H8 y1 => ?_⟩
            obtain ⟨G8, g8, S8, r8⟩ := (wk1 _ pa j Gj _ _ H7 gj.1 (Sj.blk vs1)).1 ds1[j] (List.getElem?_eq_getElem hltj) |>.2 x1 H8 y1
            refine hg1 _ pa G8 (wipe σ4 vs1) (blk vs1 δj) H8 S8 _ _ r8 _ k2 _ fun σ9 w9 S9 => ?_
            have hw1 : wipe σ9 vs1 = wipe σ4 vs1 := (w9 vs1 hj1).trans (wipe_wipe σ4 vs1 vs1 fun _ h => h)
            refine ⟨by rw [hw1], ?_⟩
            refine ht1 _ pa G8 σ9 δ4 H8 S9 _ _ k3 _ fun G10 H10 g10 S10 => ?_
            cases c with
            | true =>
              obtain ⟨⟨r, δ6⟩, k4, ej⟩ := bind_some' ej
              obtain ⟨⟨d, δ7⟩, k5, ej⟩ := bind_some' ej
              simp only at k4 k5 ej
              split at ej
              · rename_i hacc
                refine iteT ?_
                refine he _ pa G10 σ9 δ5 H10 S10 _ _ k4 _ fun G11 yv H11 g11 S11 r11 => ?_
                obtain ⟨G11', g11', S11', r11'⟩ := hold_ok S11 r11
                obtain ⟨G12, g12, S12, r12⟩ := fix_ok S11' r11' k5
                have gall := ((((g8.trans g10).trans g11).trans g11').trans g12)
                have hG12 : G12 Dl = none := gall.at hGj
                refine ⟨accjV, S12.fr Dl _ upd_same, sz_lt (by rw [← rj.length]; exact hacc), ?_⟩
                refine ⟨G12, _, _, _, gj.trans gall.unframe, hG12, (Sj.back S12 gall.1 hw1 noj).reframe hG12, (rj.mono gall.1).append (.cons r12 .nil), ?_, noOwn_back noj, ej⟩
                rw [List.length_append]
                show accj.length + 1 ≤ 100000
                omega
              · cases ej
            | false =>
              refine iteF ?_
              have gall := g8.trans g10
              exact ⟨G10, _, accj, accjV, gj.trans gall.unframe, gall.at hGj, Sj.back S10 gall.1 hw1 noj, rj.mono gall.1, hlj, noOwn_back noj, ej⟩
          · have e1 : j = ds1.length := by omega
            subst e1
            rw [List.drop_length] at ej
            simp only [lc2I, Option.some.injEq, Prod.mk.injEq] at ej
            obtain ⟨rfl, rfl⟩ := ej
            refine .inl ⟨stopj rfl, ?_⟩
            have gt := ((g3.trans g5).trans g6).1.trans gj.1
            exact ⟨Gj, _, accj, accjV, gin.trans gj, hGj, Si.back Sj gt hw noi, rj, hlj, noOwn_back noi, ei⟩
        · cases ei
      | false =>
        refine iteF ?_
        have gall := g3.trans g5
        exact ⟨G5, _, acc, accV, gi.trans gall.unframe, gall.at hGi, Si.back S5 gall.1 hw noi, ra.mono gall.1, hl, noOwn_back noi, ei⟩
    · have e1 : i = ds.length := by omega
      subst e1
      rw [List.drop_length] at ei
      simp only [lc2D, Option.some.injEq, Prod.mk.injEq] at ei
      obtain ⟨rfl, rfl⟩ := ei
      refine .inl ⟨stop rfl, ?_⟩
      refine q Gi _ H' (g0.trans gi) (Si.unframe hFD) ⟨Dl, accV, rfl, hGi, hFD, Si.fr Dl _ upd_same, ra, fun k b es hk z => ?_⟩
      obtain ⟨p, us, a1, a2, a3, _⟩ := Si.own k b es hk
      rw [z] at a1
      cases a1
      rw [upd_same] at a3
      cases a3
  · cases e
end Pd
end
section
set_option Elab.async false
set_option linter.all false
set_option maxRecDepth 100000
set_option maxHeartbeats 1000000
namespace Pd
open PySem PySem.Spec PyProof.Rows L2 Evl
variable {K : PySem.W.Frag}
/-! ### xs.index(x), xs.count(k), xs a list -/
def eLIdx (ma mb : EM) : EM := fun δ => (ma δ).bind fun p => match rd p.1 p.2 with
  | some (.lst _) => (mb (hold' p).2).bind fun q => match rd (hold' p).1 q.2, rd q.1 q.2 with
    | some (.lst ds), some b => if (shp (.lst ds) && shp b) = true then (idxD b ds).map fun j => (.val (.int (j : Nat)), q.2) else none
    | _, _ => none
  | _ => none
where hold' (p : R × DEnv) : R × DEnv := (hold p.1, p.2)
theorem sd_lidx {ta tb : TE} {ma mb : EM} (ha : Sd K ta ma) (hb : Sd K tb mb) : Sd K (tBM K "list" (rIndexD K) ta (tCons tb tNil)) (eLIdx ma mb) := fun F pa G σ δ H S r' δ' e Q q => by
  obtain ⟨⟨r, δ1⟩, h1, e⟩ := bind_some' e
  simp only [eLIdx.hold'] at e
  split at e
  · rename_i ds0 h3
    obtain ⟨⟨r2, δ2⟩, h2, e⟩ := bind_some' e
    simp only at e
    split at e
    · rename_i ds b h4 h5
      split at e
      · rename_i hs
        rw [Bool.and_eq_true] at hs
        cases hi : idxD b ds with
        | none => rw [hi] at e; cases e
        | some j =>
          rw [hi] at e
          simp only [Option.map_some, Option.some.injEq, Prod.mk.injEq] at e
          obtain ⟨rfl, rfl⟩ := e
          refine ha F pa G σ δ H S _ _ h1 _ fun G1 x H1 g1 S1 r1 => ?_
          obtain ⟨a0, vs0, rfl, o1, o2⟩ := (show ∃ a vs, x = .ref a ∧ H1 a = some (.lst vs) ∧ Reps K G1 ds0 vs from rd_ok S1 r1 h3)
          refine ⟨.inl ⟨rfl, _, SqL.of o1⟩, ?_⟩
          obtain ⟨G1', g1', S1', r1'⟩ := hold_ok S1 r1
          refine hb F pa G1' σ _ H1 S1' _ _ h2 _ fun G2 y H2 g2 S2 r2 => ?_
          have hx := (rd_ok S2 (hold_stays g2.1 r1') h4).rep S2.gr
          obtain ⟨z, i1, i2, i3⟩ := idxD_ok hi
          exact ⟨a0, y, toP b, toPs ds, j, z, rfl, rfl, hx.dp, ((rd_ok S2 r2 h5).rep S2.gr).dp, hs.1, hs.2, i1, i2, i3, q G2 _ H2 ((g1.trans g1').trans g2) S2 (Rep.int _)⟩
      · cases e
    · cases e
  · cases e
def eLCnt (ma mb : EM) : EM := fun δ => (ma δ).bind fun p => match rd p.1 p.2 with
  | some (.lst _) => (mb p.2).bind fun q => match rd (hold p.1) q.2, rd q.1 q.2 with
    | some (.lst ds), some (.int k) => (intsOf ds).bind fun ns => some (.val (.int (ns.count k : Nat)), q.2)
    | _, _ => none
  | _ => none
theorem sd_lcnt {ta tb : TE} {ma mb : EM} (ha : Sd K ta ma) (hb : Sd K tb mb) : Sd K (tBM K "list" (rCntI K) ta (tCons tb tNil)) (eLCnt ma mb) := fun F pa G σ δ H S r' δ' e Q q => by
  obtain ⟨⟨r, δ1⟩, h1, e⟩ := bind_some' e
  simp only at e
  split at e
  · rename_i ds0 h3
    obtain ⟨⟨r2, δ2⟩, h2, e⟩ := bind_some' e
    simp only at e
    split at e
    · rename_i ds k h4 h5
      obtain ⟨ns, hn, e⟩ := bind_some' e
      simp only [Option.some.injEq, Prod.mk.injEq] at e
      obtain ⟨rfl, rfl⟩ := e
      refine ha F pa G σ δ H S _ _ h1 _ fun G1 x H1 g1 S1 r1 => ?_
      obtain ⟨a0, vs0, rfl, o1, o2⟩ := (show ∃ a vs, x = .ref a ∧ H1 a = some (.lst vs) ∧ Reps K G1 ds0 vs from rd_ok S1 r1 h3)
      refine ⟨.inl ⟨rfl, _, SqL.of o1⟩, ?_⟩
      obtain ⟨G1', g1', S1', r1'⟩ := hold_ok S1 r1
      refine hb F pa G1' σ _ H1 S1' _ _ h2 _ fun G2 y H2 g2 S2 r2 => ?_
      obtain ⟨a1, vs, e1, c1, c2⟩ := (show ∃ a vs, V.ref a0 = .ref a ∧ H2 a = some (.lst vs) ∧ Reps K G2 ds vs from rd_ok S2 (hold_stays g2.1 r1') h4)
      cases e1
      cases (show Rep K G2 (.int k) y from rd_ok S2 r2 h5)
      have e2 := intsOf_ok hn c2
      subst e2
      exact ⟨a0, ns, k, rfl, rfl, SqL.of c1, q G2 _ H2 ((g1.trans g1').trans g2) S2 (Rep.int _)⟩
    · cases e
  · cases e
end Pd
end
section
set_option Elab.async false
set_option linter.all false
set_option maxRecDepth 100000
namespace Pd
open PySem PySem.Spec PyProof.Rows L2
/-! ### a = b = c = d = e -/
def tAsgN (te : TE) (is : List Nat) : TS := fun D σ H => te σ H fun x H1 => D.nx (is.foldl (fun σ i => σ.set i (some x)) σ) H1
theorem ps_asg4 {X : Cx} {e t1 t2 t3 t4 : Expr} {te : TE} {pos : Pos} {i j k l : Nat} (he : PE X e te) (h1 : PG X t1 (gName i)) (h2 : PG X t2 (gName j)) (h3 : PG X t3 (gName k)) (h4 : PG X t4 (gName l))
    (ha : (assignEach [t1, t2, t3, t4] X.env).map (fun x => x.2) = [assign t1 X.env, assign t2 X.env, assign t3 X.env, assign t4 X.env] := by rfl) (hw : swappedStores [t1, t2, t3, t4] e X.env = pure none := by rfl) : PS X (.Assign [t1, t2, t3, t4] e pos) (tAsgN te [i, j, k, l]) := by
  refine ⟨fun pins s σ H D I h => ?_⟩
  refine wpAny_Assign_stores (wpAny_mono (he.run pins s σ H _ I h) (fun v s₁ ⟨x, H1, I1, r1, q1⟩ => ?_) fun _ _ z => z) rfl hw
  rw [ha]
  refine wpAny_bind (wpAny_holding (wpAny_mono (h1.run pins s₁ σ H1 x v (fun σ1 H2 => gName j x σ1 H2 fun σ2 H3 => gName k x σ2 H3 fun σ3 H4 => gName l x σ3 H4 D.nx) I1 r1 q1) (fun _ s2 ⟨σ2, H2, I2, q2⟩ => ?_) fun _ _ z => z))
  refine wpAny_bind (wpAny_holding (wpAny_mono (h2.run pins s2 σ2 H2 x v (fun σ2 H3 => gName k x σ2 H3 fun σ3 H4 => gName l x σ3 H4 D.nx) I2 r1 q2) (fun _ s3 ⟨σ3, H3, I3, q3⟩ => ?_) fun _ _ z => z))
  refine wpAny_bind (wpAny_holding (wpAny_mono (h3.run pins s3 σ3 H3 x v (fun σ3 H4 => gName l x σ3 H4 D.nx) I3 r1 q3) (fun _ s4 ⟨σ4, H4, I4, q4⟩ => ?_) fun _ _ z => z))
  exact wpAny_mono (h4.run pins s4 σ4 H4 x v D.nx I4 r1 q4) (fun _ s5 z => z) fun _ _ z => z
section
variable {K : PySem.W.Frag} {te : TE} {me : EM}
def sAsg4 (i j k l : Nat) (me : EM) : SM := fun δ => (me δ).bind fun p => match p.1 with
  | .val d => some (.nxt, (((p.2.set i (.val d)).set j (.val d)).set k (.val d)).set l (.val d))
  | _ => none
theorem ss_asg4 {i j k l : Nat} (h : Sd K te me) : SdS K (tAsgN te [i, j, k, l]) (sAsg4 i j k l me) := fun F pa G σ δ H S c δ' e D q => by
  obtain ⟨⟨r, δ1⟩, h1, e⟩ := bind_some' e
  refine h F pa G σ δ H S _ _ h1 _ fun G1 x H1 g1 S1 r1 => ?_
  cases r with
  | val d =>
    simp only [Option.some.injEq, Prod.mk.injEq] at e
    obtain ⟨rfl, rfl⟩ := e
    exact q G1 _ H1 g1 ((((S1.setVal r1).setVal r1).setVal r1).setVal r1)
  | _ => cases e
end
@[simp ↓] theorem sAsg4_ap (i j k l : Nat) (me : EM) (δ : DEnv) : sAsg4 i j k l me δ = ((me δ).bind fun p => match p.1 with
  | .val d => some (.nxt, (((p.2.set i (.val d)).set j (.val d)).set k (.val d)).set l (.val d))
  | _ => none) := rfl
end Pd
end
section
set_option Elab.async false
set_option linter.all false
set_option maxRecDepth 100000
set_option maxHeartbeats 1000000
namespace Pd
open PySem PySem.Spec PyProof.Rows L2 Evl
/-! ### the head: defs, names, and one more answer about the written part -/
def obsPG (n : Nat) (fa : List He.Fa) (fn : List He.DefD) (tb : PySem.W.Frag → Bool) (g : Addr → Option Obj) : He.AlD × Bool := (He.obsDG n fa fn g, tb (He.frG g (He.asD g n)))
def hookP (n : Nat) (fa : List He.Fa) (fn : List He.DefD) (tb : PySem.W.Frag → Bool) : PySem.W.Hook where
  α := He.AlD × Bool
  obs := fun s => obsPG n fa fn tb s.heap.get?
  val := fun _ => (He.valD fn, true)
  says := fun _ h => ∃ K : PySem.W.Frag, K.In h ∧ He.SaysD fa fn K ∧ tb K = true
  of := fun _ _ e => ⟨_, He.frG_in, congrArg Prod.fst e, congrArg Prod.snd e⟩
  keeps := fun _ _ _ ⟨K, hK, c, d⟩ k => ⟨K, PySem.W.Frag.In.keeps hK k, c, d⟩
theorem obsPG_eq {n : Nat} {fa : List He.Fa} {fn : List He.DefD} {tb : PySem.W.Frag → Bool} {g : Addr → Option Obj} {s : Shared} (h : ∀ a, g a = s.heap.get? a) : obsPG n fa fn tb g = (hookP n fa fn tb).obs s := by
  have e : g = s.heap.get? := funext h
  rw [e]
  rfl
section
variable {K : PySem.W.Frag} {x qual : Str} {st : Stmt} {f : Addr} {fd : FuncData}
/-- a def without defaults, in the shorter words -/
theorem fun_of (F : FunD K x qual (defArgs st) (defBody st) (defScope st) [] [] f fd) : Fun K x qual st f fd := by
  obtain ⟨oc, od, dV, kV, doc, pm, an, cdv, ct, osl, e, lk, hcd, hD, _⟩ := F.ex
  rcases hD with ⟨_, rfl⟩ | ⟨z, _⟩
  · exact ⟨⟨oc, od, kV, doc, pm, an, cdv, ct, osl, e, lk, hcd⟩, F.kp⟩
  · exact absurd rfl z
abbrev dd (x : Str) (st : Stmt) : He.DefD := ⟨(x, none), x, x, defArgs st, defBody st, defScope st, [], []⟩
end
/-- data that hold no list, told as what the head can look up: flat tuples of ints -/
def flatI : D → Option (List He.Dv)
  | .tup ds => (intsOf ds).bind fun ns => some (ns.map He.Dv.int)
  | _ => none
theorem ints_rep {K : PySem.W.Frag} {G : Hp} : ∀ {ds : List D} {ns : List Int}, intsOf ds = some ns → Reps K G ds ((ns.map He.Dv.int).map (He.Dv.v K))
  | [], ns, h => by
    simp only [intsOf, Option.some.injEq] at h
    subst h
    exact .nil
  | .int b :: ds, ns, h => by
    obtain ⟨bs', h1, h2⟩ := bind_some' h
    simp only [Option.some.injEq] at h2
    subst h2
    exact .cons (.int b) (ints_rep h1)
  | .non :: _, _, h => nomatch h
  | .bl _ :: _, _, h => nomatch h
  | .str _ :: _, _, h => nomatch h
  | .tup _ :: _, _, h => nomatch h
  | .lst _ :: _, _, h => nomatch h
  | .ro _ :: _, _, h => nomatch h
  | .tw _ :: _, _, h => nomatch h
/-- a constant tuple that has no dict of its own -/
def ndB (K : PySem.W.Frag) (x : Str) : Bool := match K.lookup (He.ga K x) with
  | some ⟨.type c, none, _, _⟩ => decide (c = "tuple")
  | _ => false
theorem ndB_ok {K : PySem.W.Frag} {x : Str} (h : ndB K x = true) (G : Hp) : NoD K G (He.ga K x) := by
  unfold ndB at h
  split at h
  · rename_i c d s q
    exact .inr ⟨_, q, by rw [of_decide_eq_true h], rfl⟩
  · cases h
def tcB (K : PySem.W.Frag) (x : Str) (vs : List He.Dv) : Bool := He.tupB K x vs && ndB K x
theorem const_rep {K : PySem.W.Frag} {x : Str} {ds : List D} {ns : List Int} (h : intsOf ds = some ns) (t : tcB K x (ns.map He.Dv.int) = true) (G : Hp) : Rep K G (.tup ds) (.ref (He.ga K x)) := by
  unfold tcB at t
  rw [Bool.and_eq_true] at t
  exact .tup ⟨He.tupB_ok t.1 G, ndB_ok t.2 G⟩ (ints_rep h)
/-- what a law's promise says at a script -/
theorem law_spec {K : PySem.W.Frag} {m : List D → Option OR} {H : Hp} {a : Addr} {ns : List Int} (h : m [.ro (ns.map D.int)] = some (.v (.bl true))) (hS : SqL K H a (ns.map V.int)) : spP K m [.ref a] H (fun v _ => v = .bl true) fun _ _ _ => False := by
  have r : ∀ ns : List Int, Reps K H (ns.map D.int) (ns.map V.int) := fun ns => by
    induction ns with
    | nil => exact .nil
    | cons n ns ih => exact .cons (.int n) ih
  refine ⟨H, _, _, Ex.refl H, .cons (.ro hS (r ns)) .nil, h, fun G' v H' _ _ _ rr => ?_⟩
  cases (show Rep K G' (.bl true) v from rr)
  rfl
end Pd
end
section
set_option linter.all false
set_option maxRecDepth 100000
namespace Pd
open PySem PySem.Spec PyProof.Rows L2 Evl
@[simp ↓] theorem eVar_ap (i : Nat) (δ : DEnv) : eVar i δ = (match δ[i]? with
  | some (.val d) => some (.val d, δ)
  | some (.own _ _) => some (.slot i, δ)
  | _ => none) := rfl
@[simp ↓] theorem eC_ap (d : D) (δ : DEnv) : eC d δ = (some (.val d, δ)) := rfl
@[simp ↓] theorem eOp_ap (f : D → D → Option OR) (ma mb : EM) (δ : DEnv) : eOp f ma mb δ = ((ma δ).bind fun p => (mb p.2).bind fun q => (rd (hold p.1) q.2).bind fun a => (rd q.1 q.2).bind fun b => (f a b).bind fun o => some (o.r, q.2)) := rfl
@[simp ↓] theorem eUn_ap (f : D → Option OR) (ma : EM) (δ : DEnv) : eUn f ma δ = ((ma δ).bind fun p => (rd p.1 p.2).bind fun a => (f a).bind fun o => some (o.r, p.2)) := rfl
@[simp ↓] theorem eAnd_ap (ma mb : EM) (δ : DEnv) : eAnd ma mb δ = ((ma δ).bind fun p => (rd p.1 p.2).bind fun a => (truth a).bind fun k => match k with
  | true => mb p.2
  | false => some p) := rfl
@[simp ↓] theorem eOr_ap (ma mb : EM) (δ : DEnv) : eOr ma mb δ = ((ma δ).bind fun p => (rd p.1 p.2).bind fun a => (truth a).bind fun k => match k with
  | true => some p
  | false => mb p.2) := rfl
@[simp ↓] theorem eNot_ap (ma : EM) (δ : DEnv) : eNot ma δ = ((ma δ).bind fun p => (rd p.1 p.2).bind fun a => (truth a).bind fun k => some (.val (.bl (!k)), p.2)) := rfl
@[simp ↓] theorem eIf_ap (mt : TM) (ma mb : EM) (δ : DEnv) : eIf mt ma mb δ = ((mt δ).bind fun p => match p.1 with
  | true => ma p.2
  | false => mb p.2) := rfl
@[simp ↓] theorem mVal_ap (ma : EM) (δ : DEnv) : mVal ma δ = ((ma δ).bind fun p => match p.1 with
  | .val (.bl b) => some (b, p.2)
  | _ => none) := rfl
@[simp ↓] theorem mTru_ap (ma : EM) (δ : DEnv) : mTru ma δ = ((ma δ).bind fun p => (rd p.1 p.2).bind fun a => (truth a).bind fun k => some (k, p.2)) := rfl
@[simp ↓] theorem mAnd_ap (mt mu : TM) (δ : DEnv) : mAnd mt mu δ = ((mt δ).bind fun p => match p.1 with
  | true => mu p.2
  | false => some (false, p.2)) := rfl
@[simp ↓] theorem mOr_ap (mt mu : TM) (δ : DEnv) : mOr mt mu δ = ((mt δ).bind fun p => match p.1 with
  | true => some (true, p.2)
  | false => mu p.2) := rfl
@[simp ↓] theorem mNot_ap (mt : TM) (δ : DEnv) : mNot mt δ = ((mt δ).bind fun p => some (!p.1, p.2)) := rfl
@[simp ↓] theorem aNil_ap  (δ : DEnv) : aNil  δ = (some ([], δ)) := rfl
@[simp ↓] theorem aOne_ap (ma : EM) (δ : DEnv) : aOne ma δ = ((ma δ).bind fun p => some ([p.1], p.2)) := rfl
@[simp ↓] theorem aCons_ap (ma : EM) (mr : AM) (δ : DEnv) : aCons ma mr δ = ((ma δ).bind fun p => (mr p.2).bind fun q => some (hold p.1 :: q.1, q.2)) := rfl
@[simp ↓] theorem eTup_ap (ma : AM) (δ : DEnv) : eTup ma δ = ((ma δ).bind fun p => (keep p.1 p.2).bind fun q => if q.1.length ≤ 100000 then some (.val (.tup q.1), q.2) else none) := rfl
@[simp ↓] theorem eLst_ap (ma : AM) (δ : DEnv) : eLst ma δ = ((ma δ).bind fun p => (keep p.1 p.2).bind fun q => if q.1.length ≤ 100000 then some (.tmp q.1, q.2) else none) := rfl
@[simp ↓] theorem eCall_ap (f : List D → Option OR) (ma : AM) (δ : DEnv) : eCall f ma δ = ((ma δ).bind fun p => (rdAll p.1 p.2).bind fun as => (f as).bind fun o => some (o.r, p.2)) := rfl
@[simp ↓] theorem sNext_ap  (δ : DEnv) : sNext  δ = (some (.nxt, δ)) := rfl
@[simp ↓] theorem sBreak_ap  (δ : DEnv) : sBreak  δ = (some (.brk, δ)) := rfl
@[simp ↓] theorem sCont_ap  (δ : DEnv) : sCont  δ = (some (.cnt, δ)) := rfl
@[simp ↓] theorem sNever_ap  (δ : DEnv) : sNever δ = (none) := rfl
@[simp ↓] theorem sSeq_ap (ms ns : SM) (δ : DEnv) : sSeq ms ns δ = ((ms δ).bind fun p => match p.1 with
  | .nxt => ns p.2
  | c => some (c, p.2)) := rfl
@[simp ↓] theorem sDrop_ap (me : EM) (δ : DEnv) : sDrop me δ = ((me δ).bind fun p => some (.nxt, p.2)) := rfl
@[simp ↓] theorem sRet_ap (me : EM) (δ : DEnv) : sRet me δ = ((me δ).bind fun p => some (.ret p.1, p.2)) := rfl
@[simp ↓] theorem sRetN_ap  (δ : DEnv) : sRetN  δ = (some (.ret (.val .non), δ)) := rfl
@[simp ↓] theorem sIf_ap (mt : TM) (ms ns : SM) (δ : DEnv) : sIf mt ms ns δ = ((mt δ).bind fun p => match p.1 with
  | true => ms p.2
  | false => ns p.2) := rfl
@[simp ↓] theorem sSet_ap (i : Nat) (me : EM) (δ : DEnv) : sSet i me δ = ((me δ).bind fun p => match p.1 with
  | .val d => some (.nxt, p.2.set i (.val d))
  | .tmp ds => some (.nxt, p.2.set i (.own false ds))
  | .slot j => (fix (.slot j) p.2).bind fun q => some (.nxt, q.2.set i (.val q.1))) := rfl
@[simp ↓] theorem gN_ap (j : Nat) (d : D) (δ : DEnv) : gN j d δ = (some (δ.set j (.val d))) := rfl
@[simp ↓] theorem gsNil_ap  (ds : (List D)) (δ : DEnv) : gsNil  ds δ = (match ds with
  | [] => some δ
  | _ => none) := rfl
@[simp ↓] theorem gsCons_ap (tg : GM) (th : GsM) (ds : (List D)) (δ : DEnv) : gsCons tg th ds δ = (match ds with
  | [] => none
  | d :: ds => (tg d δ).bind fun δ1 => th ds δ1) := rfl
@[simp ↓] theorem gU_ap (n : Nat) (th : GsM) (d : D) (δ : DEnv) : gU n th d δ = (match d with
  | .tup ds => if ds.length = n then th ds δ else none
  | .lst ds => if ds.length = n then th ds δ else none
  | .ro ds => if ds.length = n then th ds δ else none
  | .tw ds => if ds.length = n then th ds δ else none
  | _ => none) := rfl
@[simp ↓] theorem sAsg_ap (tg : GM) (me : EM) (δ : DEnv) : sAsg tg me δ = ((me δ).bind fun p => (fix p.1 p.2).bind fun q => (tg q.1 q.2).bind fun δ1 => some (.nxt, δ1)) := rfl
@[simp ↓] theorem sAug_ap (i : Nat) (f : Int → Int → Int) (me : EM) (δ : DEnv) : sAug i f me δ = (match δ[i]? with
  | some (.val (.int a)) => (me δ).bind fun p => match p.1 with
    | .val (.int b) => some (.nxt, p.2.set i (.val (.int (f a b))))
    | _ => none
  | _ => none) := rfl
@[simp ↓] theorem sSub_ap (i : Nat) (me mi : EM) (δ : DEnv) : sSub i me mi δ = ((me δ).bind fun p => match p.2[i]? with
  | some (.own _ _) => (mi p.2).bind fun q => (fix (hold p.1) q.2).bind fun z => match q.1 with
    | .val (.int k) => match z.2[i]? with
      | some (.own b ds) => (ixN ds.length k).bind fun j => some (.nxt, z.2.set i (.own b (ds.set j z.1)))
      | _ => none
    | _ => none
  | _ => none) := rfl
@[simp ↓] theorem sApp_ap (i : Nat) (me : EM) (δ : DEnv) : sApp i me δ = (match δ[i]? with
  | some (.own _ _) => (me δ).bind fun p => (fix (hold p.1) p.2).bind fun z => match z.2[i]? with
    | some (.own b ds) => if ds.length < 100000 then some (.nxt, z.2.set i (.own b (ds ++ [z.1]))) else none
    | _ => none
  | _ => none) := rfl
@[simp ↓] theorem sFor_ap (mi : IM) (tg : GM) (mb : SM) (δ : DEnv) : sFor mi tg mb δ = ((mi δ).bind fun p => forD tg mb p.1 p.2) := rfl
@[simp ↓] theorem eLc_ap (mi : IM) (tg : GM) (mt : TM) (me : EM) (vs : List Nat) (δ : DEnv) : eLc mi tg mt me vs δ = ((mi δ).bind fun p => if noOwn p.2 vs = true then lcD tg mt me vs p.1 p.2 [] else none) := rfl
@[simp ↓] theorem mYes_ap  (δ : DEnv) : mYes  δ = (some (true, δ)) := rfl
@[simp ↓] theorem iSeq_ap (me : EM) (δ : DEnv) : iSeq me δ = ((me δ).bind fun p => (fix p.1 p.2).bind fun q => match q.1 with
  | .lst ds => some (ds, q.2)
  | .tup ds => some (ds, q.2)
  | .ro ds => some (ds, q.2)
  | _ => none) := rfl
@[simp ↓] theorem iR1_ap (ma : AM) (δ : DEnv) : iR1 ma δ = ((ma δ).bind fun p => match p.1 with
  | [.val (.int j)] => if -4611686018427387904 ≤ j ∧ j < 4611686018427387904 then some (rangeD 0 j.toNat, p.2) else none
  | _ => none) := rfl
@[simp ↓] theorem iR2_ap (ma : AM) (δ : DEnv) : iR2 ma δ = ((ma δ).bind fun p => match p.1 with
  | [.val (.int i), .val (.int j)] => if -4611686018427387904 ≤ i ∧ i < 4611686018427387904 ∧ -4611686018427387904 ≤ j ∧ j < 4611686018427387904 then some (rangeD i (j - i).toNat, p.2) else none
  | _ => none) := rfl
@[simp ↓] theorem iEn_ap (ma : AM) (δ : DEnv) : iEn ma δ = ((ma δ).bind fun p => (keep p.1 p.2).bind fun q => match q.1 with
  | [.lst ds] => some (enumD 0 ds, q.2)
  | [.ro ds] => some (enumD 0 ds, q.2)
  | _ => none) := rfl
@[simp ↓] theorem oNo_ap  (δ : DEnv) : oNo  δ = (some (none, δ)) := rfl
@[simp ↓] theorem oPart_ap (me : EM) (δ : DEnv) : oPart me δ = ((me δ).bind fun p => match p.1 with
  | .val (.int i) => some (some i, p.2)
  | _ => none) := rfl
@[simp ↓] theorem eSl_ap (f : D → Option Int → Option Int → Option OR) (me : EM) (ml mh : OM) (δ : DEnv) : eSl f me ml mh δ = ((me δ).bind fun p => (ml p.2).bind fun l => (mh l.2).bind fun h => (rd (hold p.1) h.2).bind fun a => (f a l.1 h.1).bind fun o => some (o.r, h.2)) := rfl
@[simp ↓] theorem eFn_ap (m : List D → Option OR) (ma : AM) (δ : DEnv) : eFn m ma δ = ((ma δ).bind fun p => (keep p.1 p.2).bind fun q => (m q.1).bind fun o => some (o.r, q.2)) := rfl
@[simp ↓] theorem eFnM_ap (m : List D → List D → Option (OR × List D)) (ma : AM) (δ : DEnv) : eFnM m ma δ = ((ma δ).bind fun p => match p.1 with
  | [.tmp ds0] => (m ds0 []).bind fun o => some (o.1.r, p.2)
  | .slot i :: rs => (keep rs p.2).bind fun q => match q.2[i]? with
    | some (.own b ds0) => (m ds0 q.1).bind fun o => some (o.1.r, q.2.set i (.own b o.2))
    | _ => none
  | _ => none) := rfl
@[simp ↓] theorem eMaxD_ap (ma : AM) (k : Int) (δ : DEnv) : eMaxD ma k δ = ((ma δ).bind fun p => (keep p.1 p.2).bind fun p' => match p'.1 with
  | [.lst ds] => (intsOf ds).bind fun ns => some (.val (.int (maxI k ns)), p'.2)
  | _ => none) := rfl
@[simp ↓] theorem eChain_ap (f f' : D → D → Option OR) (ma mb mc : EM) (δ : DEnv) : eChain f f' ma mb mc δ = ((ma δ).bind fun p => (mb p.2).bind fun p2 => (rd (hold p.1) p2.2).bind fun a => (rd p2.1 p2.2).bind fun b => (f a b).bind fun o => match o with
  | .v (.bl true) => (mc p2.2).bind fun p3 => (rd (hold p2.1) p3.2).bind fun b' => (rd p3.1 p3.2).bind fun c => (f' b' c).bind fun o' => some (o'.r, p3.2)
  | .v (.bl false) => some (.val (.bl false), p2.2)
  | _ => none) := rfl
@[simp ↓] theorem iZp_ap (ma : AM) (δ : DEnv) : iZp ma δ = ((ma δ).bind fun p => (keep p.1 p.2).bind fun q => match q.1 with
  | [a, b] => (kindOf a).bind fun x => (kindOf b).bind fun y => some (zipD x.2 y.2, q.2)
  | _ => none) := rfl
@[simp ↓] theorem sPar_ap (i j : Nat) (ma : AM) (δ : DEnv) : sPar i j ma δ = ((ma δ).bind fun p => (keep p.1 p.2).bind fun q => match q.1 with
  | [a, b] => some (.nxt, (q.2.set i (.val a)).set j (.val b))
  | _ => none) := rfl
@[simp ↓] theorem sPar3_ap (i j l : Nat) (ma : AM) (δ : DEnv) : sPar3 i j l ma δ = ((ma δ).bind fun p => (keep p.1 p.2).bind fun q => match q.1 with
  | [a, b, c] => some (.nxt, ((q.2.set i (.val a)).set j (.val b)).set l (.val c))
  | _ => none) := rfl
@[simp ↓] theorem eLrg_ap (me : EM) (δ : DEnv) : eLrg me δ = ((me δ).bind fun p => match p.1 with
  | .val (.int n) => if 0 ≤ n ∧ n ≤ 100000 then some (.tmp (rangeD 0 n.toNat), p.2) else none
  | _ => none) := rfl
@[simp ↓] theorem sExt_ap (i : Nat) (me : EM) (δ : DEnv) : sExt i me δ = (match δ[i]? with
  | some (.own _ _) => (me δ).bind fun p => (fix (hold p.1) p.2).bind fun z => match z.1 with
    | .lst es => match z.2[i]? with
      | some (.own b ds) => if lenOk (ds.length + es.length) = true then some (.nxt, z.2.set i (.own b (ds ++ es))) else none
      | _ => none
    | _ => none
  | _ => none) := rfl
@[simp ↓] theorem eTIdx_ap (ma mb : EM) (δ : DEnv) : eTIdx ma mb δ = ((ma δ).bind fun p => match p.1 with
  | .val (.tup ds) => (mb p.2).bind fun q => (rd q.1 q.2).bind fun b => if (shp (.tup ds) && shp b) = true then (idxD b ds).map fun j => (.val (.int (j : Nat)), q.2) else none
  | _ => none) := rfl
end Pd
end
section
set_option Elab.async false
set_option linter.all false
set_option maxRecDepth 100000
set_option maxHeartbeats 4000000
namespace K01
open PySem PySem.Spec PyProof.Rows L2 Evl Pd
/-! ### the text -/
def topS (i : Nat) : Stmt := PySem.Challenge.pw_eighthturns_k01_whole_rays_by_worths_rou.main.body.getD i (.Pass ⟨0, 0, 0, 0⟩)
abbrev s_is_number : Stmt := topS 3
abbrev n_is_number : List Str := ["thing"]
theorem sc_is_number : FnScope ["thing"] ["thing"] (defScope s_is_number) := ⟨rfl, rfl, rfl, by decide +kernel, rfl, by decide +kernel, by decide +kernel⟩
abbrev s_root_divides : Stmt := topS 6
abbrev n_root_divides : List Str := ["numbers", "a", "b", "c", "d"]
theorem sc_root_divides : FnScope ["numbers", "a", "b", "c", "d"] ["numbers"] (defScope s_root_divides) := ⟨rfl, rfl, rfl, by decide +kernel, rfl, by decide +kernel, by decide +kernel⟩
abbrev s_times_root : Stmt := topS 7
abbrev n_times_root : List Str := ["numbers", "many", "twos", "a", "b", "c", "d"]
theorem sc_times_root : FnScope ["numbers", "many", "twos", "a", "b", "c", "d"] ["numbers", "many"] (defScope s_times_root) := ⟨rfl, rfl, rfl, by decide +kernel, rfl, by decide +kernel, by decide +kernel⟩
abbrev s_is_ray : Stmt := topS 8
abbrev n_is_ray : List Str := ["thing", "part"]
theorem sc_is_ray : FnScope ["thing", "part"] ["thing"] (defScope s_is_ray) := ⟨rfl, rfl, rfl, by decide +kernel, rfl, by decide +kernel, by decide +kernel⟩
abbrev s_ray_of : Stmt := topS 9
abbrev n_ray_of : List Str := ["numbers", "k", "a", "b", "c", "d"]
theorem sc_ray_of : FnScope ["numbers", "k", "a", "b", "c", "d"] ["numbers", "k"] (defScope s_ray_of) := ⟨rfl, rfl, rfl, by decide +kernel, rfl, by decide +kernel, by decide +kernel⟩
abbrev s_rays_added : Stmt := topS 10
abbrev n_rays_added : List Str := ["rays", "ray", "k", "a", "b", "c", "d", "e", "f", "g", "h"]
theorem sc_rays_added : FnScope ["rays", "ray", "k", "a", "b", "c", "d", "e", "f", "g", "h"] ["rays"] (defScope s_rays_added) := ⟨rfl, rfl, rfl, by decide +kernel, rfl, by decide +kernel, by decide +kernel⟩
abbrev s_ray_sum : Stmt := topS 11
abbrev n_ray_sum : List Str := ["one", "other"]
theorem sc_ray_sum : FnScope ["one", "other"] ["one", "other"] (defScope s_ray_sum) := ⟨rfl, rfl, rfl, by decide +kernel, rfl, by decide +kernel, by decide +kernel⟩
abbrev s_ray_product : Stmt := topS 12
abbrev n_ray_product : List Str := ["one", "other", "a", "b", "c", "d", "k", "e", "f", "g", "h", "m", "numbers"]
theorem sc_ray_product : FnScope ["one", "other", "a", "b", "c", "d", "k", "e", "f", "g", "h", "m", "numbers"] ["one", "other"] (defScope s_ray_product) := ⟨rfl, rfl, rfl, by decide +kernel, rfl, by decide +kernel, by decide +kernel⟩
abbrev s_turned_ray : Stmt := topS 13
abbrev n_turned_ray : List Str := ["ray", "many", "a", "b", "c", "d", "k", "_"]
theorem sc_turned_ray : FnScope ["ray", "many", "a", "b", "c", "d", "k", "_"] ["ray", "many"] (defScope s_turned_ray) := ⟨rfl, rfl, rfl, by decide +kernel, rfl, by decide +kernel, by decide +kernel⟩
abbrev s_mirrored : Stmt := topS 14
abbrev n_mirrored : List Str := ["ray", "a", "b", "c", "d", "k"]
theorem sc_mirrored : FnScope ["ray", "a", "b", "c", "d", "k"] ["ray"] (defScope s_mirrored) := ⟨rfl, rfl, rfl, by decide +kernel, rfl, by decide +kernel, by decide +kernel⟩
abbrev s_twin_of : Stmt := topS 15
abbrev n_twin_of : List Str := ["ray", "a", "b", "c", "d", "k"]
theorem sc_twin_of : FnScope ["ray", "a", "b", "c", "d", "k"] ["ray"] (defScope s_twin_of) := ⟨rfl, rfl, rfl, by decide +kernel, rfl, by decide +kernel, by decide +kernel⟩
abbrev s_size_of : Stmt := topS 16
abbrev n_size_of : List Str := ["ray"]
theorem sc_size_of : FnScope ["ray"] ["ray"] (defScope s_size_of) := ⟨rfl, rfl, rfl, by decide +kernel, rfl, by decide +kernel, by decide +kernel⟩
abbrev s_is_real : Stmt := topS 17
abbrev n_is_real : List Str := ["ray"]
theorem sc_is_real : FnScope ["ray"] ["ray"] (defScope s_is_real) := ⟨rfl, rfl, rfl, by decide +kernel, rfl, by decide +kernel, by decide +kernel⟩
abbrev s_sign_of : Stmt := topS 18
abbrev n_sign_of : List Str := ["ray", "squares"]
theorem sc_sign_of : FnScope ["ray", "squares"] ["ray"] (defScope s_sign_of) := ⟨rfl, rfl, rfl, by decide +kernel, rfl, by decide +kernel, by decide +kernel⟩
abbrev s_over_root : Stmt := topS 19
abbrev n_over_root : List Str := ["ray", "many", "k"]
theorem sc_over_root : FnScope ["ray", "many", "k"] ["ray", "many"] (defScope s_over_root) := ⟨rfl, rfl, rfl, by decide +kernel, rfl, by decide +kernel, by decide +kernel⟩
abbrev s_rest_of : Stmt := topS 20
abbrev n_rest_of : List Str := ["ray", "k", "a", "b", "c", "d"]
theorem sc_rest_of : FnScope ["ray", "k", "a", "b", "c", "d"] ["ray", "k"] (defScope s_rest_of) := ⟨rfl, rfl, rfl, by decide +kernel, rfl, by decide +kernel, by decide +kernel⟩
abbrev s_eighth_of : Stmt := topS 21
abbrev n_eighth_of : List Str := ["ray", "many"]
theorem sc_eighth_of : FnScope ["ray", "many"] ["ray"] (defScope s_eighth_of) := ⟨rfl, rfl, rfl, by decide +kernel, rfl, by decide +kernel, by decide +kernel⟩
abbrev s_ulaw_box : Stmt := topS 23
abbrev n_ulaw_box : List Str := ["script", "k", "cell_so"]
theorem sc_ulaw_box : FnScope ["script", "k", "cell_so"] ["script", "k"] (defScope s_ulaw_box) := ⟨rfl, rfl, rfl, by decide +kernel, rfl, by decide +kernel, by decide +kernel⟩
abbrev s_ulaw_take : Stmt := topS 24
abbrev n_ulaw_take : List Str := ["tin", "below_so", "drawn", "once_so", "wide_so", "twice_so"]
theorem sc_ulaw_take : FnScope ["tin", "below_so", "drawn", "once_so", "wide_so", "twice_so"] ["tin", "below_so"] (defScope s_ulaw_take) := ⟨rfl, rfl, rfl, by decide +kernel, rfl, by decide +kernel, by decide +kernel⟩
abbrev s_ulaw_cells : Stmt := topS 25
abbrev n_ulaw_cells : List Str := ["script", "most_so", "cells_so", "k", "cell_so", "at_so"]
theorem sc_ulaw_cells : FnScope ["script", "most_so", "cells_so", "k", "cell_so", "at_so"] ["script", "most_so"] (defScope s_ulaw_cells) := ⟨rfl, rfl, rfl, by decide +kernel, rfl, by decide +kernel, by decide +kernel⟩
abbrev s_ulaw_same : Stmt := topS 26
abbrev n_ulaw_same : List Str := ["got", "due", "mine", "its"]
theorem sc_ulaw_same : FnScope ["got", "due", "mine", "its"] ["got", "due"] (defScope s_ulaw_same) := ⟨rfl, rfl, rfl, by decide +kernel, rfl, by decide +kernel, by decide +kernel⟩
abbrev s_ulaw_short : Stmt := topS 27
abbrev n_ulaw_short : List Str := ["numbers_so", "k", "a", "b", "c", "d"]
theorem sc_ulaw_short : FnScope ["numbers_so", "k", "a", "b", "c", "d"] ["numbers_so", "k"] (defScope s_ulaw_short) := ⟨rfl, rfl, rfl, by decide +kernel, rfl, by decide +kernel, by decide +kernel⟩
abbrev s_ulaw_is_ray : Stmt := topS 28
abbrev n_ulaw_is_ray : List Str := ["own", "bit"]
theorem sc_ulaw_is_ray : FnScope ["own", "bit"] ["own"] (defScope s_ulaw_is_ray) := ⟨rfl, rfl, rfl, by decide +kernel, rfl, by decide +kernel, by decide +kernel⟩
abbrev s_ulaw_worth : Stmt := topS 29
abbrev n_ulaw_worth : List Str := ["ray_so", "turn_so", "prime", "w_so", "lap", "root", "found", "back"]
theorem sc_ulaw_worth : FnScope ["ray_so", "turn_so", "prime", "w_so", "lap", "root", "found", "back"] ["ray_so", "turn_so"] (defScope s_ulaw_worth) := ⟨rfl, rfl, rfl, by decide +kernel, rfl, by decide +kernel, by decide +kernel⟩
abbrev s_ulaw_worths : Stmt := topS 30
abbrev n_ulaw_worths : List Str := ["ray_so", "turn_so"]
theorem sc_ulaw_worths : FnScope ["ray_so", "turn_so"] ["ray_so"] (defScope s_ulaw_worths) := ⟨rfl, rfl, rfl, by decide +kernel, rfl, by decide +kernel, by decide +kernel⟩
abbrev s_ulaw_round : Stmt := topS 31
abbrev n_ulaw_round : List Str := ["number"]
theorem sc_ulaw_round : FnScope ["number"] ["number"] (defScope s_ulaw_round) := ⟨rfl, rfl, rfl, by decide +kernel, rfl, by decide +kernel, by decide +kernel⟩
abbrev s_ulaw_ray : Stmt := topS 32
abbrev n_ulaw_ray : List Str := ["tin", "numbers", "k", "own"]
theorem sc_ulaw_ray : FnScope ["tin", "numbers", "k", "own"] ["tin"] (defScope s_ulaw_ray) := ⟨rfl, rfl, rfl, by decide +kernel, rfl, by decide +kernel, by decide +kernel⟩
abbrev s_ulaw_stands : Stmt := topS 33
abbrev n_ulaw_stands : List Str := ["told", "dues", "own"]
theorem sc_ulaw_stands : FnScope ["told", "dues", "own"] ["told", "dues"] (defScope s_ulaw_stands) := ⟨rfl, rfl, rfl, by decide +kernel, rfl, by decide +kernel, by decide +kernel⟩
abbrev s_ulaw_sums_right : Stmt := topS 34
abbrev n_ulaw_sums_right : List Str := ["one_so", "two_so", "three_so", "near", "far", "plus", "times", "got", "due", "a", "b"]
theorem sc_ulaw_sums_right : FnScope ["one_so", "two_so", "three_so", "near", "far", "plus", "times", "got", "due", "a", "b"] ["one_so", "two_so", "three_so"] (defScope s_ulaw_sums_right) := ⟨rfl, rfl, rfl, by decide +kernel, rfl, by decide +kernel, by decide +kernel⟩
abbrev s_ulaw_turns_right : Stmt := topS 35
abbrev n_ulaw_turns_right : List Str := ["one_so", "many", "times", "near", "told", "units", "lap", "roots", "less", "here", "there", "a", "b"]
theorem sc_ulaw_turns_right : FnScope ["one_so", "many", "times", "near", "told", "units", "lap", "roots", "less", "here", "there", "a", "b"] ["one_so", "many", "times"] (defScope s_ulaw_turns_right) := ⟨rfl, rfl, rfl, by decide +kernel, rfl, by decide +kernel, by decide +kernel⟩
abbrev s_ulaw_mirrors_right : Stmt := topS 36
abbrev n_ulaw_mirrors_right : List Str := ["one_so", "two_so", "near", "told", "other", "size_so", "got", "due", "a", "b"]
theorem sc_ulaw_mirrors_right : FnScope ["one_so", "two_so", "near", "told", "other", "size_so", "got", "due", "a", "b"] ["one_so", "two_so"] (defScope s_ulaw_mirrors_right) := ⟨rfl, rfl, rfl, by decide +kernel, rfl, by decide +kernel, by decide +kernel⟩
abbrev s_ulaw_signs_right : Stmt := topS 37
abbrev n_ulaw_signs_right : List Str := ["one_so", "real", "far", "due", "got"]
theorem sc_ulaw_signs_right : FnScope ["one_so", "real", "far", "due", "got"] ["one_so"] (defScope s_ulaw_signs_right) := ⟨rfl, rfl, rfl, by decide +kernel, rfl, by decide +kernel, by decide +kernel⟩
abbrev s_ulaw_rests_right : Stmt := topS 38
abbrev n_ulaw_rests_right : List Str := ["one_so", "more", "k", "told", "a", "b", "c", "d", "lap", "whole"]
theorem sc_ulaw_rests_right : FnScope ["one_so", "more", "k", "told", "a", "b", "c", "d", "lap", "whole"] ["one_so", "more"] (defScope s_ulaw_rests_right) := ⟨rfl, rfl, rfl, by decide +kernel, rfl, by decide +kernel, by decide +kernel⟩
abbrev s_ulaw_by_hand_right : Stmt := topS 39
abbrev n_ulaw_by_hand_right : List Str := ["one", "w", "root", "slope", "got", "due", "k"]
theorem sc_ulaw_by_hand_right : FnScope ["one", "w", "root", "slope", "got", "due", "k"] [] (defScope s_ulaw_by_hand_right) := ⟨rfl, rfl, rfl, by decide +kernel, rfl, by decide +kernel, by decide +kernel⟩
abbrev s_ulaw_eighth : Stmt := topS 41
abbrev n_ulaw_eighth : List Str := ["ray_so", "k", "sign", "j"]
theorem sc_ulaw_eighth : FnScope ["ray_so", "k", "sign", "j"] ["ray_so"] (defScope s_ulaw_eighth) := ⟨rfl, rfl, rfl, by decide +kernel, rfl, by decide +kernel, by decide +kernel⟩
abbrev s_ulaw_right : Stmt := topS 40
abbrev n_ulaw_right : List Str := ["tin", "one_so", "two_so", "three_so", "numbers", "own"]
theorem sc_ulaw_right : FnScope ["tin", "one_so", "two_so", "three_so", "numbers", "own"] ["tin"] (defScope s_ulaw_right) := ⟨rfl, rfl, rfl, by decide +kernel, rfl, by decide +kernel, by decide +kernel⟩
abbrev s_law : Stmt := topS 42
abbrev n_law : List Str := ["script", "cells", "k"]
theorem sc_law : FnScope ["script", "cells", "k"] ["script"] (defScope s_law) := ⟨rfl, rfl, rfl, by decide +kernel, rfl, by decide +kernel, by decide +kernel⟩
/-! ### what it does, by value -/
def d_ONE : D := (.tup [(.int 1), (.int 0), (.int 0), (.int 0), (.int 0)])
def sm_is_number : SM := (sRet (eAnd (eUn (fIsi .int) (eVar 0)) (eNot (eUn (fIsi .bool) (eVar 0)))))
def m_is_number : List D → Option OR := runD 1 1 sm_is_number
def sm_root_divides : SM := (sSeq (sAsg (gU 4 (gsCons (gN 1) (gsCons (gN 2) (gsCons (gN 3) (gsCons (gN 4) gsNil))))) (eVar 0))
      (sRet (eAnd (eOp dEq (eOp (dIc cMod fun i j => .int (i % j)) (eOp dAdd (eVar 1) (eVar 3)) (eC (.int 2))) (eC (.int 0))) (eOp dEq (eOp (dIc cMod fun i j => .int (i % j)) (eOp dAdd (eVar 2) (eVar 4)) (eC (.int 2))) (eC (.int 0))))))
def m_root_divides : List D → Option OR := runD 1 5 sm_root_divides
def sm_times_root : SM := (sSeq (sIf (mVal (eOp dEq (eVar 1) (eC (.int 0)))) (sRet (eCall fTuple (aOne (eVar 0)))) sNext)
      (sSeq (sSet 2 (eOp (dIc cDiv fun i j => .int (i / j)) (eVar 1) (eC (.int 2))))
      (sSeq (sAsg (gU 4 (gsCons (gN 3) (gsCons (gN 4) (gsCons (gN 5) (gsCons (gN 6) gsNil))))) (eVar 0))
      (sSeq (sIf (mVal (eOp dEq (eOp (dIc cMod fun i j => .int (i % j)) (eVar 1) (eC (.int 2))) (eC (.int 1)))) (sAsg (gU 4 (gsCons (gN 3) (gsCons (gN 4) (gsCons (gN 5) (gsCons (gN 6) gsNil))))) (eTup (aCons (eOp (dI fun i j => .int (i - j)) (eVar 4) (eVar 6)) (aCons (eOp dAdd (eVar 3) (eVar 5)) (aCons (eOp dAdd (eVar 4) (eVar 6)) (aOne (eOp (dI fun i j => .int (i - j)) (eVar 5) (eVar 3)))))))) sNext)
      (sRet (eTup (aCons (eOp (dIc cShl fun i j => .int (i * 2 ^ j.toNat)) (eVar 3) (eVar 2)) (aCons (eOp (dIc cShl fun i j => .int (i * 2 ^ j.toNat)) (eVar 4) (eVar 2)) (aCons (eOp (dIc cShl fun i j => .int (i * 2 ^ j.toNat)) (eVar 5) (eVar 2)) (aOne (eOp (dIc cShl fun i j => .int (i * 2 ^ j.toNat)) (eVar 6) (eVar 2))))))))))))
def m_times_root : List D → Option OR := runD 2 7 sm_times_root
def sm_is_ray : SM := (sSeq (sIf (mOr (mNot (mTru (eUn (fIsi .tuple) (eVar 0)))) (mVal (eOp dNe (eCall fLen (aOne (eVar 0))) (eC (.int 5))))) (sRet (eC (.bl false))) sNext)
      (sSeq (sIf (mNot (mTru (eCall fAll (aOne (eLc (iSeq (eVar 0)) (gN 1) mYes (eFn m_is_number (aOne (eVar 1))) [1]))))) (sRet (eC (.bl false))) sNext)
      (sRet (eOr (eOp dEq (eOp dIx (eVar 0) (eC (.int 4))) (eC (.int 0))) (eAnd (eOp (dI fun i j => .bl (decide (j < i))) (eOp dIx (eVar 0) (eC (.int 4))) (eC (.int 0))) (eNot (eFn m_root_divides (aOne (eSl dSl (eVar 0) oNo (oPart (eC (.int 4))))))))))))
def m_is_ray : List D → Option OR := runD 1 2 sm_is_ray
def sm_ray_of : SM := (sSeq (sAsg (gU 4 (gsCons (gN 2) (gsCons (gN 3) (gsCons (gN 4) (gsCons (gN 5) gsNil))))) (eVar 0))
      (sSeq (sWhile (mAnd (mVal (eOp (dI fun i j => .bl (decide (j < i))) (eVar 1) (eC (.int 0)))) (mTru (eFn m_root_divides (aOne (eTup (aCons (eVar 2) (aCons (eVar 3) (aCons (eVar 4) (aOne (eVar 5)))))))))) (sSeq (sAsg (gU 4 (gsCons (gN 2) (gsCons (gN 3) (gsCons (gN 4) (gsCons (gN 5) gsNil))))) (eTup (aCons (eOp (dIc cDiv fun i j => .int (i / j)) (eOp (dI fun i j => .int (i - j)) (eVar 3) (eVar 5)) (eC (.int 2))) (aCons (eOp (dIc cDiv fun i j => .int (i / j)) (eOp dAdd (eVar 2) (eVar 4)) (eC (.int 2))) (aCons (eOp (dIc cDiv fun i j => .int (i / j)) (eOp dAdd (eVar 3) (eVar 5)) (eC (.int 2))) (aOne (eOp (dIc cDiv fun i j => .int (i / j)) (eOp (dI fun i j => .int (i - j)) (eVar 4) (eVar 2)) (eC (.int 2)))))))))
      (sAug 1 (fun i j => i - j) (eC (.int 1)))) 1000)
      (sRet (eTup (aCons (eVar 2) (aCons (eVar 3) (aCons (eVar 4) (aCons (eVar 5) (aOne (eVar 1))))))))))
def m_ray_of : List D → Option OR := runD 2 6 sm_ray_of
def sm_rays_added : SM := (sSeq (sSet 2 (eMaxD (aOne (eLc (iSeq (eVar 0)) (gN 1) mYes (eOp dIx (eVar 1) (eC (.int 4))) [1])) 0))
      (sSeq (sAsg4 3 4 5 6 (eC (.int 0)))
      (sSeq (sFor (iSeq (eVar 0)) (gN 1) (sSeq (sAsg (gU 4 (gsCons (gN 7) (gsCons (gN 8) (gsCons (gN 9) (gsCons (gN 10) gsNil))))) (eFn m_times_root (aCons (eSl dSl (eVar 1) oNo (oPart (eC (.int 4)))) (aOne (eOp (dI fun i j => .int (i - j)) (eVar 2) (eOp dIx (eVar 1) (eC (.int 4))))))))
      (sAsg (gU 4 (gsCons (gN 3) (gsCons (gN 4) (gsCons (gN 5) (gsCons (gN 6) gsNil))))) (eTup (aCons (eOp dAdd (eVar 3) (eVar 7)) (aCons (eOp dAdd (eVar 4) (eVar 8)) (aCons (eOp dAdd (eVar 5) (eVar 9)) (aOne (eOp dAdd (eVar 6) (eVar 10))))))))))
      (sRet (eFn m_ray_of (aCons (eTup (aCons (eVar 3) (aCons (eVar 4) (aCons (eVar 5) (aOne (eVar 6)))))) (aOne (eVar 2))))))))
def m_rays_added : List D → Option OR := runD 1 11 sm_rays_added
def sm_ray_sum : SM := (sRet (eFn m_rays_added (aOne (eTup (aCons (eVar 0) (aOne (eVar 1)))))))
def m_ray_sum : List D → Option OR := runD 2 2 sm_ray_sum
def sm_ray_product : SM := (sSeq (sAsg (gU 5 (gsCons (gN 2) (gsCons (gN 3) (gsCons (gN 4) (gsCons (gN 5) (gsCons (gN 6) gsNil)))))) (eVar 0))
      (sSeq (sAsg (gU 5 (gsCons (gN 7) (gsCons (gN 8) (gsCons (gN 9) (gsCons (gN 10) (gsCons (gN 11) gsNil)))))) (eVar 1))
      (sSeq (sSet 12 (eTup (aCons (eOp (dI fun i j => .int (i - j)) (eOp (dI fun i j => .int (i - j)) (eOp (dI fun i j => .int (i - j)) (eOp dMul (eVar 2) (eVar 7)) (eOp dMul (eVar 3) (eVar 10))) (eOp dMul (eVar 4) (eVar 9))) (eOp dMul (eVar 5) (eVar 8))) (aCons (eOp (dI fun i j => .int (i - j)) (eOp (dI fun i j => .int (i - j)) (eOp dAdd (eOp dMul (eVar 2) (eVar 8)) (eOp dMul (eVar 3) (eVar 7))) (eOp dMul (eVar 4) (eVar 10))) (eOp dMul (eVar 5) (eVar 9))) (aCons (eOp (dI fun i j => .int (i - j)) (eOp dAdd (eOp dAdd (eOp dMul (eVar 2) (eVar 9)) (eOp dMul (eVar 3) (eVar 8))) (eOp dMul (eVar 4) (eVar 7))) (eOp dMul (eVar 5) (eVar 10))) (aOne (eOp dAdd (eOp dAdd (eOp dAdd (eOp dMul (eVar 2) (eVar 10)) (eOp dMul (eVar 3) (eVar 9))) (eOp dMul (eVar 4) (eVar 8))) (eOp dMul (eVar 5) (eVar 7)))))))))
      (sRet (eFn m_ray_of (aCons (eVar 12) (aOne (eOp dAdd (eVar 6) (eVar 11)))))))))
def m_ray_product : List D → Option OR := runD 2 13 sm_ray_product
def sm_turned_ray : SM := (sSeq (sAsg (gU 5 (gsCons (gN 2) (gsCons (gN 3) (gsCons (gN 4) (gsCons (gN 5) (gsCons (gN 6) gsNil)))))) (eVar 0))
      (sSeq (sFor (iR1 (aOne (eOp (dIc cMod fun i j => .int (i % j)) (eVar 1) (eC (.int 8))))) (gN 7) (sAsg (gU 4 (gsCons (gN 2) (gsCons (gN 3) (gsCons (gN 4) (gsCons (gN 5) gsNil))))) (eTup (aCons (eUn fNeg (eVar 5)) (aCons (eVar 2) (aCons (eVar 3) (aOne (eVar 4))))))))
      (sRet (eTup (aCons (eVar 2) (aCons (eVar 3) (aCons (eVar 4) (aCons (eVar 5) (aOne (eVar 6))))))))))
def m_turned_ray : List D → Option OR := runD 2 8 sm_turned_ray
def sm_mirrored : SM := (sSeq (sAsg (gU 5 (gsCons (gN 1) (gsCons (gN 2) (gsCons (gN 3) (gsCons (gN 4) (gsCons (gN 5) gsNil)))))) (eVar 0))
      (sRet (eTup (aCons (eVar 1) (aCons (eUn fNeg (eVar 4)) (aCons (eUn fNeg (eVar 3)) (aCons (eUn fNeg (eVar 2)) (aOne (eVar 5)))))))))
def m_mirrored : List D → Option OR := runD 1 6 sm_mirrored
def sm_twin_of : SM := (sSeq (sAsg (gU 5 (gsCons (gN 1) (gsCons (gN 2) (gsCons (gN 3) (gsCons (gN 4) (gsCons (gN 5) gsNil)))))) (eVar 0))
      (sSeq (sIf (mVal (eOp dEq (eOp (dIc cMod fun i j => .int (i % j)) (eVar 5) (eC (.int 2))) (eC (.int 1)))) (sRet (eTup (aCons (eUn fNeg (eVar 1)) (aCons (eVar 2) (aCons (eUn fNeg (eVar 3)) (aCons (eVar 4) (aOne (eVar 5)))))))) sNext)
      (sRet (eTup (aCons (eVar 1) (aCons (eUn fNeg (eVar 2)) (aCons (eVar 3) (aCons (eUn fNeg (eVar 4)) (aOne (eVar 5))))))))))
def m_twin_of : List D → Option OR := runD 1 6 sm_twin_of
def sm_size_of : SM := (sRet (eFn m_ray_product (aCons (eVar 0) (aOne (eFn m_mirrored (aOne (eVar 0)))))))
def m_size_of : List D → Option OR := runD 1 1 sm_size_of
def sm_is_real : SM := (sRet (eAnd (eOp dEq (eOp dIx (eVar 0) (eC (.int 2))) (eC (.int 0))) (eOp dEq (eOp dIx (eVar 0) (eC (.int 1))) (eUn fNeg (eOp dIx (eVar 0) (eC (.int 3)))))))
def m_is_real : List D → Option OR := runD 1 1 sm_is_real
def sm_sign_of : SM := (sSeq (sIf (mNot (mTru (eFn m_is_real (aOne (eVar 0))))) sNever sNext)
      (sSeq (sSet 1 (eOp dAdd (eOp dMul (eOp dIx (eVar 0) (eC (.int 0))) (eCall fAbs (aOne (eOp dIx (eVar 0) (eC (.int 0)))))) (eOp dMul (eOp dMul (eC (.int 2)) (eOp dIx (eVar 0) (eC (.int 1)))) (eCall fAbs (aOne (eOp dIx (eVar 0) (eC (.int 1))))))))
      (sSeq (sIf (mVal (eOp dEq (eVar 1) (eC (.int 0)))) (sRet (eC (.int 0))) sNext)
      (sRet (eIf (mVal (eOp (dI fun i j => .bl (decide (j < i))) (eVar 1) (eC (.int 0)))) (eC (.int 1)) (eUn fNeg (eC (.int 1))))))))
def m_sign_of : List D → Option OR := runD 1 2 sm_sign_of
def sm_over_root : SM := (sSeq (sSet 2 (eOp dAdd (eOp dIx (eVar 0) (eC (.int 4))) (eVar 1)))
      (sSeq (sIf (mVal (eOp (dI fun i j => .bl (decide (j ≤ i))) (eVar 2) (eC (.int 0)))) (sRet (eFn m_ray_of (aCons (eSl dSl (eVar 0) oNo (oPart (eC (.int 4)))) (aOne (eVar 2))))) sNext)
      (sRet (eFn m_ray_of (aCons (eFn m_times_root (aCons (eSl dSl (eVar 0) oNo (oPart (eC (.int 4)))) (aOne (eUn fNeg (eVar 2))))) (aOne (eC (.int 0))))))))
def m_over_root : List D → Option OR := runD 2 3 sm_over_root
def sm_rest_of : SM := (sSeq (sIf (mVal (eOp (dI fun i j => .bl (decide (j < i))) (eOp dIx (eVar 0) (eC (.int 4))) (eVar 1))) sNever sNext)
      (sSeq (sAsg (gU 4 (gsCons (gN 2) (gsCons (gN 3) (gsCons (gN 4) (gsCons (gN 5) gsNil))))) (eFn m_times_root (aCons (eSl dSl (eVar 0) oNo (oPart (eC (.int 4)))) (aOne (eOp (dI fun i j => .int (i - j)) (eVar 1) (eOp dIx (eVar 0) (eC (.int 4))))))))
      (sRet (eTup (aCons (eOp (dIc cMod fun i j => .int (i % j)) (eOp dAdd (eVar 2) (eVar 4)) (eC (.int 2))) (aOne (eOp (dIc cMod fun i j => .int (i % j)) (eOp dAdd (eVar 3) (eVar 5)) (eC (.int 2)))))))))
def m_rest_of : List D → Option OR := runD 2 6 sm_rest_of
def sm_eighth_of : SM := (sSeq (sFor (iR1 (aOne (eC (.int 8)))) (gN 1) (sIf (mVal (eOp dEq (eFn m_turned_ray (aCons (eC d_ONE) (aOne (eVar 1)))) (eCall fTuple (aOne (eVar 0))))) (sRet (eVar 1)) sNext))
      (sRet (eC .non)))
def m_eighth_of : List D → Option OR := runD 1 2 sm_eighth_of
def sm_ulaw_box : SM := (sSeq (sSet 2 (eIf (mVal (eOp dLt (eVar 1) (eCall fLen (aOne (eVar 0))))) (eOp dIx (eVar 0) (eVar 1)) (eC (.int 0))))
      (sRet (eLst (aCons (eOp dMul (eCall fAbs (aOne (eVar 2))) (eCall fInt (aOne (eOp (dI fun i j => .bl (decide (j ≤ i))) (eCall fAbs (aOne (eVar 2))) (eOp (dIc cPow fun i j => .int (i ^ j.toNat)) (eC (.int 10)) (eC (.int 18))))))) (aCons (eOp dAdd (eOp dAdd (eOp (dIc cMod fun i j => .int (i % j)) (eCall fInt (aOne (eVar 2))) (eC (.int 2305843009213693951))) (eOp dMul (eC (.int 39373)) (eVar 1))) (eC (.int 9317))) (aOne (eC (.int 0))))))))
def m_ulaw_box : List D → Option OR := runD 2 3 sm_ulaw_box
def sm_ulaw_take : SM := (sSeq (sIf (mVal (eOp (dI fun i j => .bl (decide (j < i))) (eOp dIx (eVar 0) (eC (.int 0))) (eC (.int 0)))) (sSeq (sSet 2 (eOp (dIc cMod fun i j => .int (i % j)) (eCall fInt (aOne (eOp dIx (eVar 0) (eC (.int 0))))) (eVar 1)))
      (sSeq (sSub 0 (eOp (dIc cDiv fun i j => .int (i / j)) (eOp dIx (eVar 0) (eC (.int 0))) (eVar 1)) (eC (.int 0)))
      (sRet (eVar 2)))) sNext)
      (sSeq (sSub 0 (eOp dAdd (eOp dIx (eVar 0) (eC (.int 2))) (eC (.int 1))) (eC (.int 2)))
      (sSeq (sSet 3 (eOp (dIc cMod fun i j => .int (i % j)) (eCall fInt (aOne (eOp dMul (eOp dAdd (eOp dIx (eVar 0) (eC (.int 1))) (eOp dMul (eC (.int 48271)) (eOp dIx (eVar 0) (eC (.int 2))))) (eOp dAdd (eC (.int 39373)) (eOp dIx (eVar 0) (eC (.int 2))))))) (eC (.int 2147483647))))
      (sSeq (sSet 4 (eOp dAdd (eOp (dIc cMod fun i j => .int (i % j)) (eCall fInt (aOne (eVar 3))) (eC (.int 40009))) (eC (.int 7))))
      (sSeq (sSet 5 (eOp (dIc cMod fun i j => .int (i % j)) (eCall fInt (aOne (eOp dMul (eOp dAdd (eOp dAdd (eVar 3) (eOp dIx (eVar 0) (eC (.int 2)))) (eOp (dIc cDiv fun i j => .int (i / j)) (eOp dIx (eVar 0) (eC (.int 1))) (eC (.int 1000003)))) (eVar 4)))) (eC (.int 2147483629))))
      (sRet (eOp (dIc cMod fun i j => .int (i % j)) (eCall fInt (aOne (eOp (dIc cDiv fun i j => .int (i / j)) (eOp (dIc cMod fun i j => .int (i % j)) (eCall fInt (aOne (eOp dAdd (eOp dMul (eVar 5) (eC (.int 48271))) (eVar 3)))) (eC (.int 2147483587))) (eC (.int 64))))) (eVar 1))))))))
def m_ulaw_take : List D → List D → Option (OR × List D) := runM 2 6 sm_ulaw_take
def sm_ulaw_cells : SM := (sSeq (sSet 2 (eOr (eCall fList (aOne (eSl dSl (eVar 0) oNo (oPart (eVar 1))))) (eLst (aOne (eC (.int 0))))))
      (sSeq (sFor (iEn (aOne (eSl dSl (eVar 0) (oPart (eVar 1)) (oPart (eC (.int 63)))))) (gU 2 (gsCons (gN 3) (gsCons (gN 4) gsNil))) (sSeq (sSet 5 (eOp (dIc cMod fun i j => .int (i % j)) (eCall fInt (aOne (eVar 3))) (eVar 1)))
      (sSub 2 (eOp dAdd (eOp dIx (eVar 2) (eVar 5)) (eOp dMul (eVar 4) (eOp dAdd (eVar 3) (eC (.int 2))))) (eVar 5))))
      (sRet (eVar 2))))
def m_ulaw_cells : List D → Option OR := runD 2 6 sm_ulaw_cells
def sm_ulaw_same (mrec : List D → Option OR) : SM := (sSeq (sIf (mTru (eUn (fIsi2 .list .tuple) (eVar 1))) (sSeq (sIf (mOr (mVal (eOp dNe (eUn (fIsi .list) (eVar 0)) (eUn (fIsi .list) (eVar 1)))) (mVal (eOp dNe (eUn (fIsi .tuple) (eVar 0)) (eUn (fIsi .tuple) (eVar 1))))) (sRet (eC (.bl false))) sNext)
      (sRet (eAnd (eOp dEq (eCall fLen (aOne (eVar 0))) (eCall fLen (aOne (eVar 1)))) (eCall fAll (aOne (eLc (iZp (aCons (eVar 0) (aOne (eVar 1)))) (gU 2 (gsCons (gN 2) (gsCons (gN 3) gsNil))) mYes (eFn mrec (aCons (eVar 2) (aOne (eVar 3)))) [2, 3])))))) sNext)
      (sSeq (sIf (mOr (mVal (eOp dIs (eVar 1) (eC .non))) (mTru (eUn (fIsi2 .bool .str) (eVar 1)))) (sRet (eAnd (eOp dEq (eVar 0) (eVar 1)) (eAnd (eOp dEq (eUn (fIsi .bool) (eVar 0)) (eUn (fIsi .bool) (eVar 1))) (eOp dEq (eOp dIs (eVar 0) (eC .non)) (eOp dIs (eVar 1) (eC .non)))))) sNext)
      (sRet (eAnd (eUn (fIsi .int) (eVar 0)) (eAnd (eNot (eUn (fIsi .bool) (eVar 0))) (eOp dEq (eVar 0) (eVar 1)))))))
def mr_ulaw_same : Nat → List D → Option OR
  | 0 => fun _ => none
  | n + 1 => runD 2 4 (sm_ulaw_same (mr_ulaw_same n))
def m_ulaw_same : List D → Option OR := mr_ulaw_same 8
def sm_ulaw_short : SM := (sSeq (sAsg (gU 4 (gsCons (gN 2) (gsCons (gN 3) (gsCons (gN 4) (gsCons (gN 5) gsNil))))) (eVar 0))
      (sSeq (sIf (mVal (eOp dEq (eLst (aCons (eVar 2) (aCons (eVar 3) (aCons (eVar 4) (aOne (eVar 5)))))) (eLst (aCons (eC (.int 0)) (aCons (eC (.int 0)) (aCons (eC (.int 0)) (aOne (eC (.int 0))))))))) (sRet (eTup (aCons (eC (.int 0)) (aCons (eC (.int 0)) (aCons (eC (.int 0)) (aCons (eC (.int 0)) (aOne (eC (.int 0))))))))) sNext)
      (sSeq (sWhile (mAnd (mVal (eOp (dI fun i j => .bl (decide (j < i))) (eVar 1) (eC (.int 0)))) (mAnd (mVal (eOp dEq (eOp (dIc cMod fun i j => .int (i % j)) (eCall fInt (aOne (eOp dAdd (eVar 2) (eVar 4)))) (eC (.int 2))) (eC (.int 0)))) (mVal (eOp dEq (eOp (dIc cMod fun i j => .int (i % j)) (eCall fInt (aOne (eOp dAdd (eVar 3) (eVar 5)))) (eC (.int 2))) (eC (.int 0)))))) (sAsg (gU 5 (gsCons (gN 2) (gsCons (gN 3) (gsCons (gN 4) (gsCons (gN 5) (gsCons (gN 1) gsNil)))))) (eTup (aCons (eOp (dIc cDiv fun i j => .int (i / j)) (eOp (dI fun i j => .int (i - j)) (eVar 3) (eVar 5)) (eC (.int 2))) (aCons (eOp (dIc cDiv fun i j => .int (i / j)) (eOp dAdd (eVar 2) (eVar 4)) (eC (.int 2))) (aCons (eOp (dIc cDiv fun i j => .int (i / j)) (eOp dAdd (eVar 3) (eVar 5)) (eC (.int 2))) (aCons (eOp (dIc cDiv fun i j => .int (i / j)) (eOp (dI fun i j => .int (i - j)) (eVar 4) (eVar 2)) (eC (.int 2))) (aOne (eOp (dI fun i j => .int (i - j)) (eVar 1) (eC (.int 1)))))))))) 1000)
      (sRet (eTup (aCons (eVar 2) (aCons (eVar 3) (aCons (eVar 4) (aCons (eVar 5) (aOne (eVar 1)))))))))))
def m_ulaw_short : List D → Option OR := runD 2 6 sm_ulaw_short
def sm_ulaw_is_ray : SM := (sSeq (sIf (mOr (mNot (mTru (eUn (fIsi .tuple) (eVar 0)))) (mOr (mVal (eOp dNe (eCall fLen (aOne (eVar 0))) (eC (.int 5)))) (mNot (mTru (eCall fAll (aOne (eLc (iSeq (eVar 0)) (gN 1) mYes (eAnd (eUn (fIsi .int) (eVar 1)) (eNot (eUn (fIsi .bool) (eVar 1)))) [1]))))))) (sRet (eC (.bl false))) sNext)
      (sRet (eAnd (eChain (dI fun i j => .bl (decide (i ≤ j))) (dI fun i j => .bl (decide (i ≤ j))) (eC (.int 0)) (eOp dIx (eVar 0) (eC (.int 4))) (eC (.int 400))) (eOp dEq (eFn m_ulaw_short (aCons (eSl dSl (eVar 0) oNo (oPart (eC (.int 4)))) (aOne (eOp dIx (eVar 0) (eC (.int 4)))))) (eVar 0)))))
def m_ulaw_is_ray : List D → Option OR := runD 1 2 sm_ulaw_is_ray
def sm_ulaw_worth : SM := (sSeq (sSet 2 (eOp dAdd (eOp (dI fun i j => .int (i - j)) (eOp (dIc cPow fun i j => .int (i ^ j.toNat)) (eC (.int 2)) (eC (.int 64))) (eOp (dIc cPow fun i j => .int (i ^ j.toNat)) (eC (.int 2)) (eC (.int 32)))) (eC (.int 1))))
      (sSeq (sSet 3 (eC (.int 1)))
      (sSeq (sFor (iR1 (aOne (eVar 1))) (gN 4) (sSet 3 (eOp (dIc cMod fun i j => .int (i % j)) (eCall fInt (aOne (eOp dMul (eVar 3) (eOp (dIc cPow fun i j => .int (i ^ j.toNat)) (eC (.int 2)) (eC (.int 24)))))) (eVar 2))))
      (sSeq (sSet 5 (eOp (dI fun i j => .int (i - j)) (eVar 3) (eOp (dIc cMod fun i j => .int (i % j)) (eCall fInt (aOne (eOp dMul (eOp dMul (eVar 3) (eVar 3)) (eVar 3)))) (eVar 2))))
      (sSeq (sSet 6 (eOp dAdd (eOp dIx (eVar 0) (eC (.int 0))) (eOp dMul (eVar 3) (eOp dAdd (eOp dIx (eVar 0) (eC (.int 1))) (eOp dMul (eVar 3) (eOp dAdd (eOp dIx (eVar 0) (eC (.int 2))) (eOp dMul (eVar 3) (eOp dIx (eVar 0) (eC (.int 3))))))))))
      (sSeq (sSet 7 (eOp (dIc cMod fun i j => .int (i % j)) (eCall fInt (aOne (eOp dMul (eVar 5) (eOp dAdd (eOp (dI fun i j => .int (i - j)) (eOp (dIc cPow fun i j => .int (i ^ j.toNat)) (eC (.int 2)) (eC (.int 63))) (eOp (dIc cPow fun i j => .int (i ^ j.toNat)) (eC (.int 2)) (eC (.int 31)))) (eC (.int 1)))))) (eVar 2)))
      (sSeq (sFor (iR1 (aOne (eOp dIx (eVar 0) (eC (.int 4))))) (gN 4) (sSet 6 (eOp (dIc cMod fun i j => .int (i % j)) (eCall fInt (aOne (eOp dMul (eVar 6) (eVar 7)))) (eVar 2))))
      (sRet (eOp (dIc cMod fun i j => .int (i % j)) (eCall fInt (aOne (eVar 6))) (eVar 2))))))))))
def m_ulaw_worth : List D → Option OR := runD 2 8 sm_ulaw_worth
def sm_ulaw_worths : SM := (sRet (eLc (iSeq (eTup (aCons (eC (.int 1)) (aCons (eC (.int 3)) (aCons (eC (.int 5)) (aOne (eC (.int 7)))))))) (gN 1) mYes (eFn m_ulaw_worth (aCons (eVar 0) (aOne (eVar 1)))) [1]))
def m_ulaw_worths : List D → Option OR := runD 1 2 sm_ulaw_worths
def sm_ulaw_round : SM := (sRet (eOp (dIc cMod fun i j => .int (i % j)) (eCall fInt (aOne (eVar 0))) (eOp dAdd (eOp (dI fun i j => .int (i - j)) (eOp (dIc cPow fun i j => .int (i ^ j.toNat)) (eC (.int 2)) (eC (.int 64))) (eOp (dIc cPow fun i j => .int (i ^ j.toNat)) (eC (.int 2)) (eC (.int 32)))) (eC (.int 1)))))
def m_ulaw_round : List D → Option OR := runD 1 1 sm_ulaw_round
def sm_ulaw_ray : SM := (sSeq (sSet 1 (eLc (iR1 (aOne (eC (.int 4)))) (gN 2) mYes (eOp (dI fun i j => .int (i - j)) (eFnM m_ulaw_take (aCons (eVar 0) (aOne (eC (.int 15))))) (eC (.int 7))) [2]))
      (sSeq (sIf (mVal (eOp dEq (eFnM m_ulaw_take (aCons (eVar 0) (aOne (eC (.int 4))))) (eC (.int 0)))) (sSet 1 (eLc (iSeq (eVar 1)) (gN 3) mYes (eOp dMul (eVar 3) (eFnM m_ulaw_take (aCons (eVar 0) (aOne (eC (.int 2)))))) [3])) sNext)
      (sRet (eFn m_ulaw_short (aCons (eVar 1) (aOne (eFnM m_ulaw_take (aCons (eVar 0) (aOne (eC (.int 6)))))))))))
def m_ulaw_ray : List D → List D → Option (OR × List D) := runM 1 4 sm_ulaw_ray
def sm_ulaw_stands : SM := (sRet (eAnd (eFn m_ulaw_is_ray (aOne (eVar 0))) (eAnd (eOp dIs (eFn m_is_ray (aOne (eVar 0))) (eC (.bl true))) (eOp dEq (eFn m_ulaw_worths (aOne (eVar 0))) (eLc (iSeq (eVar 1)) (gN 2) mYes (eFn m_ulaw_round (aOne (eVar 2))) [2])))))
def m_ulaw_stands : List D → Option OR := runD 2 3 sm_ulaw_stands
def sm_ulaw_sums_right : SM := (sSeq (sPar 3 4 (aCons (eFn m_ulaw_worths (aOne (eVar 0))) (aOne (eFn m_ulaw_worths (aOne (eVar 1))))))
      (sSeq (sPar 5 6 (aCons (eFn m_ray_sum (aCons (eVar 0) (aOne (eVar 1)))) (aOne (eFn m_ray_product (aCons (eVar 0) (aOne (eVar 1)))))))
      (sSeq (sIf (mOr (mNot (mTru (eFn m_ulaw_stands (aCons (eVar 5) (aOne (eLc (iZp (aCons (eVar 3) (aOne (eVar 4)))) (gU 2 (gsCons (gN 9) (gsCons (gN 10) gsNil))) mYes (eOp dAdd (eVar 9) (eVar 10)) [9, 10])))))) (mNot (mTru (eFn m_ulaw_stands (aCons (eVar 6) (aOne (eLc (iZp (aCons (eVar 3) (aOne (eVar 4)))) (gU 2 (gsCons (gN 9) (gsCons (gN 10) gsNil))) mYes (eOp dMul (eVar 9) (eVar 10)) [9, 10]))))))) (sRet (eC (.bl false))) sNext)
      (sSeq (sSet 7 (eLst (aCons (eFn m_ray_sum (aCons (eCall fList (aOne (eVar 1))) (aOne (eCall fList (aOne (eVar 0)))))) (aCons (eFn m_ray_product (aCons (eCall fList (aOne (eVar 1))) (aOne (eCall fList (aOne (eVar 0)))))) (aOne (eFn m_ray_sum (aCons (eVar 0) (aOne (eFn m_turned_ray (aCons (eVar 0) (aOne (eC (.int 4)))))))))))))
      (sSeq (sSet 7 (eOp dAdd (eVar 7) (eLst (aOne (eFn m_ray_product (aCons (eVar 5) (aOne (eVar 2))))))))
      (sSeq (sSet 8 (eLst (aCons (eVar 5) (aCons (eVar 6) (aCons (eTup (aCons (eC (.int 0)) (aCons (eC (.int 0)) (aCons (eC (.int 0)) (aCons (eC (.int 0)) (aOne (eC (.int 0)))))))) (aOne (eFn m_ray_sum (aCons (eFn m_ray_product (aCons (eVar 0) (aOne (eVar 2)))) (aOne (eFn m_ray_product (aCons (eVar 1) (aOne (eVar 2)))))))))))))
      (sRet (eFn m_ulaw_same (aCons (eVar 7) (aOne (eVar 8)))))))))))
def m_ulaw_sums_right : List D → Option OR := runD 3 11 sm_ulaw_sums_right
def sm_ulaw_turns_right : SM := (sSeq (sSet 3 (eFn m_ulaw_worths (aOne (eVar 0))))
      (sSeq (sSet 4 (eFn m_turned_ray (aCons (eVar 0) (aOne (eVar 1)))))
      (sSeq (sSet 5 (eFn m_ulaw_worths (aOne (eTup (aCons (eC (.int 0)) (aCons (eC (.int 1)) (aCons (eC (.int 0)) (aCons (eC (.int 0)) (aOne (eC (.int 0)))))))))))
      (sSeq (sFor (iR1 (aOne (eOp (dIc cMod fun i j => .int (i % j)) (eCall fInt (aOne (eVar 1))) (eC (.int 8))))) (gN 6) (sSet 3 (eLc (iZp (aCons (eVar 3) (aOne (eVar 5)))) (gU 2 (gsCons (gN 11) (gsCons (gN 12) gsNil))) mYes (eFn m_ulaw_round (aOne (eOp dMul (eVar 11) (eVar 12)))) [11, 12])))
      (sSeq (sIf (mOr (mNot (mTru (eFn m_ulaw_stands (aCons (eVar 4) (aOne (eVar 3)))))) (mNot (mTru (eFn m_ulaw_same (aCons (eFn m_turned_ray (aCons (eVar 4) (aOne (eOp (dI fun i j => .int (i - j)) (eC (.int 0)) (eVar 1))))) (aOne (eVar 0))))))) (sRet (eC (.bl false))) sNext)
      (sSeq (sSet 7 (eFn m_ulaw_worths (aOne (eTup (aCons (eC (.int 0)) (aCons (eC (.int 1)) (aCons (eC (.int 0)) (aCons (eUn fNeg (eC (.int 1))) (aOne (eC (.int 0)))))))))))
      (sSeq (sSet 8 (eFn m_over_root (aCons (eVar 0) (aOne (eVar 2)))))
      (sSeq (sPar 9 10 (aCons (eFn m_ulaw_worths (aOne (eVar 0))) (aOne (eIf (mTru (eFn m_ulaw_is_ray (aOne (eVar 8)))) (eFn m_ulaw_worths (aOne (eVar 8))) (eLst aNil)))))
      (sSeq (sFor (iR1 (aOne (eCall fAbs (aOne (eVar 2))))) (gN 6) (sIf (mVal (eOp (dI fun i j => .bl (decide (j < i))) (eVar 2) (eC (.int 0)))) (sSet 10 (eLc (iZp (aCons (eVar 10) (aOne (eVar 7)))) (gU 2 (gsCons (gN 11) (gsCons (gN 12) gsNil))) mYes (eFn m_ulaw_round (aOne (eOp dMul (eVar 11) (eVar 12)))) [11, 12])) (sSet 9 (eLc (iZp (aCons (eVar 9) (aOne (eVar 7)))) (gU 2 (gsCons (gN 11) (gsCons (gN 12) gsNil))) mYes (eFn m_ulaw_round (aOne (eOp dMul (eVar 11) (eVar 12)))) [11, 12]))))
      (sRet (eAnd (eOp dEq (eVar 9) (eVar 10)) (eFn m_ulaw_same (aCons (eLst (aCons (eFn m_over_root (aCons (eVar 8) (aOne (eOp (dI fun i j => .int (i - j)) (eC (.int 0)) (eVar 2))))) (aOne (eFn m_over_root (aCons (eCall fList (aOne (eVar 0))) (aOne (eVar 2))))))) (aOne (eLst (aCons (eVar 0) (aOne (eVar 8))))))))))))))))))
def m_ulaw_turns_right : List D → Option OR := runD 3 13 sm_ulaw_turns_right
def sm_ulaw_mirrors_right : SM := (sSeq (sSet 2 (eFn m_ulaw_worths (aOne (eVar 0))))
      (sSeq (sPar3 3 4 5 (aCons (eFn m_mirrored (aOne (eVar 0))) (aCons (eFn m_twin_of (aOne (eVar 0))) (aOne (eFn m_size_of (aOne (eVar 0)))))))
      (sSeq (sIf (mOr (mNot (mTru (eFn m_ulaw_stands (aCons (eVar 3) (aOne (eUn fRev (eVar 2))))))) (mNot (mTru (eFn m_ulaw_stands (aCons (eVar 4) (aOne (eOp dAdd (eSl dSl (eVar 2) (oPart (eC (.int 2))) oNo) (eSl dSl (eVar 2) oNo (oPart (eC (.int 2))))))))))) (sRet (eC (.bl false))) sNext)
      (sSeq (sIf (mNot (mTru (eFn m_ulaw_stands (aCons (eVar 5) (aOne (eLc (iZp (aCons (eVar 2) (aOne (eUn fRev (eVar 2))))) (gU 2 (gsCons (gN 8) (gsCons (gN 9) gsNil))) mYes (eOp dMul (eVar 8) (eVar 9)) [8, 9])))))) (sRet (eC (.bl false))) sNext)
      (sSeq (sSet 6 (eLst (aCons (eFn m_mirrored (aOne (eVar 3))) (aCons (eFn m_twin_of (aOne (eVar 4))) (aCons (eFn m_twin_of (aOne (eVar 3))) (aCons (eFn m_size_of (aOne (eFn m_ray_product (aCons (eVar 0) (aOne (eVar 1)))))) (aCons (eFn m_is_real (aOne (eVar 5))) (aOne (eFn m_is_real (aOne (eVar 0)))))))))))
      (sSeq (sSet 6 (eOp dAdd (eVar 6) (eLst (aOne (eFn m_mirrored (aOne (eCall fList (aOne (eVar 0)))))))))
      (sSeq (sSet 7 (eLst (aCons (eVar 0) (aCons (eVar 0) (aCons (eFn m_mirrored (aOne (eVar 4))) (aCons (eFn m_ray_product (aCons (eVar 5) (aOne (eFn m_size_of (aOne (eVar 1)))))) (aCons (eC (.bl true)) (aCons (eOp dEq (eVar 2) (eUn fRev (eVar 2))) (aOne (eVar 3))))))))))
      (sRet (eAnd (eFn m_ulaw_same (aCons (eVar 6) (aOne (eVar 7)))) (eAnd (eOp (dIn false) (eFn m_sign_of (aOne (eVar 5))) (eTup (aCons (eC (.int 0)) (aOne (eC (.int 1)))))) (eFn m_ulaw_same (aCons (eOp dEq (eFn m_sign_of (aOne (eVar 5))) (eC (.int 0))) (aOne (eOp dEq (eVar 0) (eTup (aCons (eC (.int 0)) (aCons (eC (.int 0)) (aCons (eC (.int 0)) (aCons (eC (.int 0)) (aOne (eC (.int 0))))))))))))))))))))))
def m_ulaw_mirrors_right : List D → Option OR := runD 2 10 sm_ulaw_mirrors_right
def sm_ulaw_signs_right : SM := (sSeq (sSet 1 (eFn m_ray_sum (aCons (eVar 0) (aOne (eFn m_mirrored (aOne (eVar 0)))))))
      (sSeq (sSet 2 (eOp dAdd (eOp dMul (eOp dIx (eVar 1) (eC (.int 0))) (eOp (dIc cPow fun i j => .int (i ^ j.toNat)) (eC (.int 10)) (eC (.int 30)))) (eOp dMul (eOp dIx (eVar 1) (eC (.int 1))) (eC (.int 1414213562373095048801688724209)))))
      (sSeq (sSet 3 (eIf (mVal (eOp dEq (eVar 1) (eTup (aCons (eC (.int 0)) (aCons (eC (.int 0)) (aCons (eC (.int 0)) (aCons (eC (.int 0)) (aOne (eC (.int 0)))))))))) (eC (.int 0)) (eIf (mVal (eOp (dI fun i j => .bl (decide (j < i))) (eVar 2) (eC (.int 0)))) (eC (.int 1)) (eUn fNeg (eC (.int 1))))))
      (sSeq (sSet 4 (eLst (aCons (eFn m_sign_of (aOne (eVar 1))) (aCons (eFn m_sign_of (aOne (eCall fList (aOne (eVar 1))))) (aCons (eFn m_sign_of (aOne (eFn m_turned_ray (aCons (eVar 1) (aOne (eC (.int 4))))))) (aCons (eFn m_sign_of (aOne (eFn m_over_root (aCons (eVar 1) (aOne (eC (.int 3))))))) (aOne (eFn m_is_real (aOne (eVar 1))))))))))
      (sRet (eFn m_ulaw_same (aCons (eVar 4) (aOne (eLst (aCons (eVar 3) (aCons (eVar 3) (aCons (eOp (dI fun i j => .int (i - j)) (eC (.int 0)) (eVar 3)) (aCons (eVar 3) (aOne (eC (.bl true))))))))))))))))
def m_ulaw_signs_right : List D → Option OR := runD 1 5 sm_ulaw_signs_right
def sm_ulaw_rests_right : SM := (sSeq (sSet 2 (eOp dAdd (eOp dIx (eVar 0) (eC (.int 4))) (eVar 1)))
      (sSeq (sSet 3 (eFn m_rest_of (aCons (eVar 0) (aOne (eVar 2)))))
      (sSeq (sAsg (gU 4 (gsCons (gN 4) (gsCons (gN 5) (gsCons (gN 6) (gsCons (gN 7) gsNil))))) (eSl dSl (eVar 0) oNo (oPart (eC (.int 4)))))
      (sSeq (sFor (iR1 (aOne (eVar 1))) (gN 8) (sAsg (gU 4 (gsCons (gN 4) (gsCons (gN 5) (gsCons (gN 6) (gsCons (gN 7) gsNil))))) (eTup (aCons (eOp (dI fun i j => .int (i - j)) (eVar 5) (eVar 7)) (aCons (eOp dAdd (eVar 4) (eVar 6)) (aCons (eOp dAdd (eVar 5) (eVar 7)) (aOne (eOp (dI fun i j => .int (i - j)) (eVar 6) (eVar 4)))))))))
      (sSeq (sIf (mNot (mTru (eFn m_ulaw_same (aCons (eLst (aCons (eVar 3) (aOne (eFn m_rest_of (aCons (eCall fList (aOne (eVar 0))) (aOne (eVar 2))))))) (aOne (eOp dMul (eLst (aOne (eTup (aCons (eOp (dIc cMod fun i j => .int (i % j)) (eCall fInt (aOne (eOp dAdd (eVar 4) (eVar 6)))) (eC (.int 2))) (aOne (eOp (dIc cMod fun i j => .int (i % j)) (eCall fInt (aOne (eOp dAdd (eVar 5) (eVar 7)))) (eC (.int 2)))))))) (eC (.int 2)))))))) (sRet (eC (.bl false))) sNext)
      (sSeq (sSet 9 (eFn m_ulaw_short (aCons (eTup (aCons (eVar 4) (aCons (eVar 5) (aCons (eVar 6) (aOne (eVar 7)))))) (aOne (eC (.int 1))))))
      (sRet (eFn m_ulaw_same (aCons (eOp dEq (eVar 3) (eTup (aCons (eC (.int 0)) (aOne (eC (.int 0)))))) (aOne (eOp dEq (eOp dIx (eVar 9) (eC (.int 4))) (eC (.int 0)))))))))))))
def m_ulaw_rests_right : List D → Option OR := runD 2 10 sm_ulaw_rests_right
def sm_ulaw_by_hand_right : SM := (sSeq (sAsg (gU 4 (gsCons (gN 0) (gsCons (gN 1) (gsCons (gN 2) (gsCons (gN 3) gsNil))))) (eTup (aCons (eTup (aCons (eC (.int 1)) (aCons (eC (.int 0)) (aCons (eC (.int 0)) (aCons (eC (.int 0)) (aOne (eC (.int 0)))))))) (aCons (eTup (aCons (eC (.int 0)) (aCons (eC (.int 1)) (aCons (eC (.int 0)) (aCons (eC (.int 0)) (aOne (eC (.int 0)))))))) (aCons (eTup (aCons (eC (.int 0)) (aCons (eC (.int 1)) (aCons (eC (.int 0)) (aCons (eUn fNeg (eC (.int 1))) (aOne (eC (.int 0)))))))) (aOne (eTup (aCons (eC (.int 1)) (aCons (eC (.int 0)) (aCons (eC (.int 0)) (aCons (eC (.int 0)) (aOne (eC (.int 1))))))))))))))
      (sSeq (sSet 4 (eLst (aCons (eFn m_ray_of (aCons (eTup (aCons (eC (.int 2)) (aCons (eC (.int 0)) (aCons (eC (.int 0)) (aOne (eC (.int 0))))))) (aOne (eC (.int 2))))) (aCons (eFn m_ray_of (aCons (eLst (aCons (eC (.int 0)) (aCons (eC (.int 1)) (aCons (eC (.int 0)) (aOne (eUn fNeg (eC (.int 1)))))))) (aOne (eC (.int 3))))) (aCons (eFn m_ray_sum (aCons (eVar 3) (aOne (eVar 3)))) (aOne (eFn m_ray_product (aCons (eVar 2) (aOne (eVar 3))))))))))
      (sSeq (sSet 4 (eOp dAdd (eVar 4) (eLst (aCons (eFn m_turned_ray (aCons (eTup (aCons (eC (.int 1)) (aCons (eC (.int 1)) (aCons (eC (.int 0)) (aCons (eC (.int 0)) (aOne (eC (.int 0)))))))) (aOne (eC (.int 2))))) (aCons (eFn m_twin_of (aOne (eVar 3))) (aCons (eFn m_size_of (aOne (eTup (aCons (eC (.int 1)) (aCons (eC (.int 1)) (aCons (eC (.int 0)) (aCons (eC (.int 0)) (aOne (eC (.int 0)))))))))) (aCons (eFn m_over_root (aCons (eVar 3) (aOne (eUn fNeg (eC (.int 3)))))) (aOne (eFn m_rest_of (aCons (eVar 3) (aOne (eC (.int 2)))))))))))))
      (sSeq (sSet 5 (eLst (aCons (eVar 0) (aCons (eTup (aCons (eC (.int 1)) (aCons (eC (.int 0)) (aCons (eC (.int 0)) (aCons (eC (.int 0)) (aOne (eC (.int 2)))))))) (aCons (eVar 2) (aCons (eVar 0) (aCons (eTup (aCons (eC (.int 0)) (aCons (eC (.int 0)) (aCons (eC (.int 1)) (aCons (eC (.int 1)) (aOne (eC (.int 0)))))))) (aCons (eTup (aCons (eUn fNeg (eC (.int 1))) (aCons (eC (.int 0)) (aCons (eC (.int 0)) (aCons (eC (.int 0)) (aOne (eC (.int 1)))))))) (aCons (eTup (aCons (eC (.int 2)) (aCons (eC (.int 1)) (aCons (eC (.int 0)) (aCons (eUn fNeg (eC (.int 1))) (aOne (eC (.int 0)))))))) (aCons (eTup (aCons (eC (.int 2)) (aCons (eC (.int 0)) (aCons (eC (.int 0)) (aCons (eC (.int 0)) (aOne (eC (.int 0)))))))) (aOne (eTup (aCons (eC (.int 0)) (aOne (eC (.int 0))))))))))))))))
      (sSeq (sSet 4 (eOp dAdd (eVar 4) (eLst (aCons (eLc (iR1 (aOne (eC (.int 8)))) (gN 6) mYes (eFn m_eighth_of (aOne (eFn m_turned_ray (aCons (eVar 0) (aOne (eVar 6)))))) [6]) (aCons (eFn m_eighth_of (aOne (eVar 3))) (aCons (eFn m_eighth_of (aOne (eTup (aCons (eC (.int 1)) (aCons (eC (.int 1)) (aCons (eC (.int 0)) (aCons (eC (.int 0)) (aOne (eC (.int 0)))))))))) (aOne (eFn m_sign_of (aOne (eTup (aCons (eC (.int 1)) (aCons (eUn fNeg (eC (.int 1))) (aCons (eC (.int 0)) (aCons (eC (.int 1)) (aOne (eC (.int 0)))))))))))))))))
      (sSeq (sSet 4 (eOp dAdd (eVar 4) (eLst (aCons (eFn m_sign_of (aOne (eTup (aCons (eC (.int 3)) (aCons (eUn fNeg (eC (.int 2))) (aCons (eC (.int 0)) (aCons (eC (.int 2)) (aOne (eC (.int 0)))))))))) (aCons (eFn m_sign_of (aOne (eTup (aCons (eUn fNeg (eC (.int 7))) (aCons (eC (.int 5)) (aCons (eC (.int 0)) (aCons (eUn fNeg (eC (.int 5))) (aOne (eC (.int 0)))))))))) (aCons (eFn m_mirrored (aOne (eVar 1))) (aOne (eFn m_is_real (aOne (eVar 1))))))))))
      (sRet (eFn m_ulaw_same (aCons (eVar 4) (aOne (eOp dAdd (eVar 5) (eLst (aCons (eLrg (eC (.int 8))) (aCons (eC .non) (aCons (eC .non) (aCons (eUn fNeg (eC (.int 1))) (aCons (eC (.int 1)) (aCons (eC (.int 1)) (aCons (eTup (aCons (eC (.int 0)) (aCons (eC (.int 0)) (aCons (eC (.int 0)) (aCons (eUn fNeg (eC (.int 1))) (aOne (eC (.int 0)))))))) (aOne (eC (.bl false))))))))))))))))))))))
def m_ulaw_by_hand_right : List D → Option OR := runD 0 7 sm_ulaw_by_hand_right
def sm_ulaw_eighth : SM := (sSeq (sFor (iR1 (aOne (eC (.int 4)))) (gN 1) (sFor (iSeq (eTup (aCons (eC (.int 1)) (aOne (eUn fNeg (eC (.int 1))))))) (gN 2) (sIf (mVal (eOp dEq (eVar 0) (eOp dAdd (eCall fTuple (aOne (eLc (iR1 (aOne (eC (.int 4)))) (gN 3) mYes (eOp dMul (eVar 2) (eCall fInt (aOne (eOp dEq (eVar 3) (eVar 1))))) [3]))) (eTup (aOne (eC (.int 0))))))) (sRet (eOp dAdd (eVar 1) (eIf (mVal (eOp dLt (eVar 2) (eC (.int 0)))) (eC (.int 4)) (eC (.int 0))))) sNext)))
      (sRet (eC .non)))
def m_ulaw_eighth : List D → Option OR := runD 1 4 sm_ulaw_eighth
def sm_ulaw_right : SM := (sSeq (sPar3 1 2 3 (aCons (eFnM m_ulaw_ray (aOne (eVar 0))) (aCons (eFnM m_ulaw_ray (aOne (eVar 0))) (aOne (eFnM m_ulaw_ray (aOne (eVar 0)))))))
      (sSeq (sSet 4 (eCall fTuple (aOne (eLc (iSeq (eSl dSl (eVar 1) oNo (oPart (eC (.int 4))))) (gN 5) mYes (eOp dMul (eVar 5) (eC (.int 2))) [5]))))
      (sSeq (sIf (mNot (mTru (eFn m_ulaw_same (aCons (eLst (aCons (eFn m_ray_of (aCons (eVar 4) (aOne (eOp dAdd (eOp dIx (eVar 1) (eC (.int 4))) (eC (.int 2)))))) (aCons (eFn m_ray_of (aCons (eSl dSl (eVar 1) oNo (oPart (eC (.int 4)))) (aOne (eOp dIx (eVar 1) (eC (.int 4)))))) (aOne (eFn m_eighth_of (aOne (eVar 1))))))) (aOne (eLst (aCons (eVar 1) (aCons (eVar 1) (aOne (eFn m_ulaw_eighth (aOne (eVar 1)))))))))))) (sRet (eC (.bl false))) sNext)
      (sSeq (sIf (mOr (mNot (mTru (eFn m_ulaw_sums_right (aCons (eVar 1) (aCons (eVar 2) (aOne (eVar 3))))))) (mNot (mTru (eFn m_ulaw_turns_right (aCons (eVar 1) (aCons (eOp (dI fun i j => .int (i - j)) (eFnM m_ulaw_take (aCons (eVar 0) (aOne (eC (.int 41))))) (eC (.int 20))) (aOne (eOp (dI fun i j => .int (i - j)) (eFnM m_ulaw_take (aCons (eVar 0) (aOne (eC (.int 9))))) (eC (.int 4)))))))))) (sRet (eC (.bl false))) sNext)
      (sRet (eAnd (eFn m_ulaw_mirrors_right (aCons (eVar 1) (aOne (eVar 2)))) (eAnd (eFn m_ulaw_signs_right (aOne (eVar 1))) (eFn m_ulaw_rests_right (aCons (eVar 2) (aOne (eFnM m_ulaw_take (aCons (eVar 0) (aOne (eC (.int 4)))))))))))))))
def m_ulaw_right : List D → List D → Option (OR × List D) := runM 1 6 sm_ulaw_right
def sm_law : SM := (sSeq (sIf (mNot (mTru (eFn m_ulaw_by_hand_right aNil))) (sRet (eC (.bl false))) sNext)
      (sSeq (sSet 1 (eFn m_ulaw_cells (aCons (eVar 0) (aOne (eC (.int 2))))))
      (sRet (eCall fAll (aOne (eLc (iR1 (aOne (eCall fLen (aOne (eVar 1))))) (gN 2) mYes (eFnM m_ulaw_right (aOne (eFn m_ulaw_box (aCons (eVar 1) (aOne (eVar 2)))))) [2]))))))
def m_law : List D → Option OR := runD 1 3 sm_law
end K01
end
section
set_option linter.all false
set_option maxRecDepth 100000
namespace K01
open Pd PySem
def ray_of_t1 : TM := (mAnd (mVal (eOp (dI fun i j => .bl (decide (j < i))) (eVar 1) (eC (.int 0)))) (mTru (eFn m_root_divides (aOne (eTup (aCons (eVar 2) (aCons (eVar 3) (aCons (eVar 4) (aOne (eVar 5))))))))))
def ray_of_b1 : SM := (sSeq (sAsg (gU 4 (gsCons (gN 2) (gsCons (gN 3) (gsCons (gN 4) (gsCons (gN 5) gsNil))))) (eTup (aCons (eOp (dIc cDiv fun i j => .int (i / j)) (eOp (dI fun i j => .int (i - j)) (eVar 3) (eVar 5)) (eC (.int 2))) (aCons (eOp (dIc cDiv fun i j => .int (i / j)) (eOp dAdd (eVar 2) (eVar 4)) (eC (.int 2))) (aCons (eOp (dIc cDiv fun i j => .int (i / j)) (eOp dAdd (eVar 3) (eVar 5)) (eC (.int 2))) (aOne (eOp (dIc cDiv fun i j => .int (i / j)) (eOp (dI fun i j => .int (i - j)) (eVar 4) (eVar 2)) (eC (.int 2)))))))))
      (sAug 1 (fun i j => i - j) (eC (.int 1))))
theorem sx_ray_of : sm_ray_of = (sSeq (sAsg (gU 4 (gsCons (gN 2) (gsCons (gN 3) (gsCons (gN 4) (gsCons (gN 5) gsNil))))) (eVar 0))
      (sSeq (sWhile ray_of_t1 ray_of_b1 1000)
      (sRet (eTup (aCons (eVar 2) (aCons (eVar 3) (aCons (eVar 4) (aCons (eVar 5) (aOne (eVar 1)))))))))) := rfl
def rays_added_b1 : SM := (sSeq (sAsg (gU 4 (gsCons (gN 7) (gsCons (gN 8) (gsCons (gN 9) (gsCons (gN 10) gsNil))))) (eFn m_times_root (aCons (eSl dSl (eVar 1) oNo (oPart (eC (.int 4)))) (aOne (eOp (dI fun i j => .int (i - j)) (eVar 2) (eOp dIx (eVar 1) (eC (.int 4))))))))
      (sAsg (gU 4 (gsCons (gN 3) (gsCons (gN 4) (gsCons (gN 5) (gsCons (gN 6) gsNil))))) (eTup (aCons (eOp dAdd (eVar 3) (eVar 7)) (aCons (eOp dAdd (eVar 4) (eVar 8)) (aCons (eOp dAdd (eVar 5) (eVar 9)) (aOne (eOp dAdd (eVar 6) (eVar 10)))))))))
theorem sx_rays_added : sm_rays_added = (sSeq (sSet 2 (eMaxD (aOne (eLc (iSeq (eVar 0)) (gN 1) mYes (eOp dIx (eVar 1) (eC (.int 4))) [1])) 0))
      (sSeq (sAsg4 3 4 5 6 (eC (.int 0)))
      (sSeq (sFor (iSeq (eVar 0)) (gN 1) rays_added_b1)
      (sRet (eFn m_ray_of (aCons (eTup (aCons (eVar 3) (aCons (eVar 4) (aCons (eVar 5) (aOne (eVar 6)))))) (aOne (eVar 2)))))))) := rfl
def turned_ray_b1 : SM := (sAsg (gU 4 (gsCons (gN 2) (gsCons (gN 3) (gsCons (gN 4) (gsCons (gN 5) gsNil))))) (eTup (aCons (eUn fNeg (eVar 5)) (aCons (eVar 2) (aCons (eVar 3) (aOne (eVar 4)))))))
theorem sx_turned_ray : sm_turned_ray = (sSeq (sAsg (gU 5 (gsCons (gN 2) (gsCons (gN 3) (gsCons (gN 4) (gsCons (gN 5) (gsCons (gN 6) gsNil)))))) (eVar 0))
      (sSeq (sFor (iR1 (aOne (eOp (dIc cMod fun i j => .int (i % j)) (eVar 1) (eC (.int 8))))) (gN 7) turned_ray_b1)
      (sRet (eTup (aCons (eVar 2) (aCons (eVar 3) (aCons (eVar 4) (aCons (eVar 5) (aOne (eVar 6)))))))))) := rfl
def ulaw_short_t1 : TM := (mAnd (mVal (eOp (dI fun i j => .bl (decide (j < i))) (eVar 1) (eC (.int 0)))) (mAnd (mVal (eOp dEq (eOp (dIc cMod fun i j => .int (i % j)) (eCall fInt (aOne (eOp dAdd (eVar 2) (eVar 4)))) (eC (.int 2))) (eC (.int 0)))) (mVal (eOp dEq (eOp (dIc cMod fun i j => .int (i % j)) (eCall fInt (aOne (eOp dAdd (eVar 3) (eVar 5)))) (eC (.int 2))) (eC (.int 0))))))
def ulaw_short_b1 : SM := (sAsg (gU 5 (gsCons (gN 2) (gsCons (gN 3) (gsCons (gN 4) (gsCons (gN 5) (gsCons (gN 1) gsNil)))))) (eTup (aCons (eOp (dIc cDiv fun i j => .int (i / j)) (eOp (dI fun i j => .int (i - j)) (eVar 3) (eVar 5)) (eC (.int 2))) (aCons (eOp (dIc cDiv fun i j => .int (i / j)) (eOp dAdd (eVar 2) (eVar 4)) (eC (.int 2))) (aCons (eOp (dIc cDiv fun i j => .int (i / j)) (eOp dAdd (eVar 3) (eVar 5)) (eC (.int 2))) (aCons (eOp (dIc cDiv fun i j => .int (i / j)) (eOp (dI fun i j => .int (i - j)) (eVar 4) (eVar 2)) (eC (.int 2))) (aOne (eOp (dI fun i j => .int (i - j)) (eVar 1) (eC (.int 1))))))))))
theorem sx_ulaw_short : sm_ulaw_short = (sSeq (sAsg (gU 4 (gsCons (gN 2) (gsCons (gN 3) (gsCons (gN 4) (gsCons (gN 5) gsNil))))) (eVar 0))
      (sSeq (sIf (mVal (eOp dEq (eLst (aCons (eVar 2) (aCons (eVar 3) (aCons (eVar 4) (aOne (eVar 5)))))) (eLst (aCons (eC (.int 0)) (aCons (eC (.int 0)) (aCons (eC (.int 0)) (aOne (eC (.int 0))))))))) (sRet (eTup (aCons (eC (.int 0)) (aCons (eC (.int 0)) (aCons (eC (.int 0)) (aCons (eC (.int 0)) (aOne (eC (.int 0))))))))) sNext)
      (sSeq (sWhile ulaw_short_t1 ulaw_short_b1 1000)
      (sRet (eTup (aCons (eVar 2) (aCons (eVar 3) (aCons (eVar 4) (aCons (eVar 5) (aOne (eVar 1))))))))))) := rfl
def ulaw_worth_b1 : SM := (sSet 3 (eOp (dIc cMod fun i j => .int (i % j)) (eCall fInt (aOne (eOp dMul (eVar 3) (eOp (dIc cPow fun i j => .int (i ^ j.toNat)) (eC (.int 2)) (eC (.int 24)))))) (eVar 2)))
def ulaw_worth_b2 : SM := (sSet 6 (eOp (dIc cMod fun i j => .int (i % j)) (eCall fInt (aOne (eOp dMul (eVar 6) (eVar 7)))) (eVar 2)))
theorem sx_ulaw_worth : sm_ulaw_worth = (sSeq (sSet 2 (eOp dAdd (eOp (dI fun i j => .int (i - j)) (eOp (dIc cPow fun i j => .int (i ^ j.toNat)) (eC (.int 2)) (eC (.int 64))) (eOp (dIc cPow fun i j => .int (i ^ j.toNat)) (eC (.int 2)) (eC (.int 32)))) (eC (.int 1))))
      (sSeq (sSet 3 (eC (.int 1)))
      (sSeq (sFor (iR1 (aOne (eVar 1))) (gN 4) ulaw_worth_b1)
      (sSeq (sSet 5 (eOp (dI fun i j => .int (i - j)) (eVar 3) (eOp (dIc cMod fun i j => .int (i % j)) (eCall fInt (aOne (eOp dMul (eOp dMul (eVar 3) (eVar 3)) (eVar 3)))) (eVar 2))))
      (sSeq (sSet 6 (eOp dAdd (eOp dIx (eVar 0) (eC (.int 0))) (eOp dMul (eVar 3) (eOp dAdd (eOp dIx (eVar 0) (eC (.int 1))) (eOp dMul (eVar 3) (eOp dAdd (eOp dIx (eVar 0) (eC (.int 2))) (eOp dMul (eVar 3) (eOp dIx (eVar 0) (eC (.int 3))))))))))
      (sSeq (sSet 7 (eOp (dIc cMod fun i j => .int (i % j)) (eCall fInt (aOne (eOp dMul (eVar 5) (eOp dAdd (eOp (dI fun i j => .int (i - j)) (eOp (dIc cPow fun i j => .int (i ^ j.toNat)) (eC (.int 2)) (eC (.int 63))) (eOp (dIc cPow fun i j => .int (i ^ j.toNat)) (eC (.int 2)) (eC (.int 31)))) (eC (.int 1)))))) (eVar 2)))
      (sSeq (sFor (iR1 (aOne (eOp dIx (eVar 0) (eC (.int 4))))) (gN 4) ulaw_worth_b2)
      (sRet (eOp (dIc cMod fun i j => .int (i % j)) (eCall fInt (aOne (eVar 6))) (eVar 2)))))))))) := rfl
def ulaw_turns_right_b1 : SM := (sSet 3 (eLc (iZp (aCons (eVar 3) (aOne (eVar 5)))) (gU 2 (gsCons (gN 11) (gsCons (gN 12) gsNil))) mYes (eFn m_ulaw_round (aOne (eOp dMul (eVar 11) (eVar 12)))) [11, 12]))
def ulaw_turns_right_b2 : SM := (sIf (mVal (eOp (dI fun i j => .bl (decide (j < i))) (eVar 2) (eC (.int 0)))) (sSet 10 (eLc (iZp (aCons (eVar 10) (aOne (eVar 7)))) (gU 2 (gsCons (gN 11) (gsCons (gN 12) gsNil))) mYes (eFn m_ulaw_round (aOne (eOp dMul (eVar 11) (eVar 12)))) [11, 12])) (sSet 9 (eLc (iZp (aCons (eVar 9) (aOne (eVar 7)))) (gU 2 (gsCons (gN 11) (gsCons (gN 12) gsNil))) mYes (eFn m_ulaw_round (aOne (eOp dMul (eVar 11) (eVar 12)))) [11, 12])))
theorem sx_ulaw_turns_right : sm_ulaw_turns_right = (sSeq (sSet 3 (eFn m_ulaw_worths (aOne (eVar 0))))
      (sSeq (sSet 4 (eFn m_turned_ray (aCons (eVar 0) (aOne (eVar 1)))))
      (sSeq (sSet 5 (eFn m_ulaw_worths (aOne (eTup (aCons (eC (.int 0)) (aCons (eC (.int 1)) (aCons (eC (.int 0)) (aCons (eC (.int 0)) (aOne (eC (.int 0)))))))))))
      (sSeq (sFor (iR1 (aOne (eOp (dIc cMod fun i j => .int (i % j)) (eCall fInt (aOne (eVar 1))) (eC (.int 8))))) (gN 6) ulaw_turns_right_b1)
      (sSeq (sIf (mOr (mNot (mTru (eFn m_ulaw_stands (aCons (eVar 4) (aOne (eVar 3)))))) (mNot (mTru (eFn m_ulaw_same (aCons (eFn m_turned_ray (aCons (eVar 4) (aOne (eOp (dI fun i j => .int (i - j)) (eC (.int 0)) (eVar 1))))) (aOne (eVar 0))))))) (sRet (eC (.bl false))) sNext)
      (sSeq (sSet 7 (eFn m_ulaw_worths (aOne (eTup (aCons (eC (.int 0)) (aCons (eC (.int 1)) (aCons (eC (.int 0)) (aCons (eUn fNeg (eC (.int 1))) (aOne (eC (.int 0)))))))))))
      (sSeq (sSet 8 (eFn m_over_root (aCons (eVar 0) (aOne (eVar 2)))))
      (sSeq (sPar 9 10 (aCons (eFn m_ulaw_worths (aOne (eVar 0))) (aOne (eIf (mTru (eFn m_ulaw_is_ray (aOne (eVar 8)))) (eFn m_ulaw_worths (aOne (eVar 8))) (eLst aNil)))))
      (sSeq (sFor (iR1 (aOne (eCall fAbs (aOne (eVar 2))))) (gN 6) ulaw_turns_right_b2)
      (sRet (eAnd (eOp dEq (eVar 9) (eVar 10)) (eFn m_ulaw_same (aCons (eLst (aCons (eFn m_over_root (aCons (eVar 8) (aOne (eOp (dI fun i j => .int (i - j)) (eC (.int 0)) (eVar 2))))) (aOne (eFn m_over_root (aCons (eCall fList (aOne (eVar 0))) (aOne (eVar 2))))))) (aOne (eLst (aCons (eVar 0) (aOne (eVar 8)))))))))))))))))) := rfl
def ulaw_rests_right_b1 : SM := (sAsg (gU 4 (gsCons (gN 4) (gsCons (gN 5) (gsCons (gN 6) (gsCons (gN 7) gsNil))))) (eTup (aCons (eOp (dI fun i j => .int (i - j)) (eVar 5) (eVar 7)) (aCons (eOp dAdd (eVar 4) (eVar 6)) (aCons (eOp dAdd (eVar 5) (eVar 7)) (aOne (eOp (dI fun i j => .int (i - j)) (eVar 6) (eVar 4))))))))
theorem sx_ulaw_rests_right : sm_ulaw_rests_right = (sSeq (sSet 2 (eOp dAdd (eOp dIx (eVar 0) (eC (.int 4))) (eVar 1)))
      (sSeq (sSet 3 (eFn m_rest_of (aCons (eVar 0) (aOne (eVar 2)))))
      (sSeq (sAsg (gU 4 (gsCons (gN 4) (gsCons (gN 5) (gsCons (gN 6) (gsCons (gN 7) gsNil))))) (eSl dSl (eVar 0) oNo (oPart (eC (.int 4)))))
      (sSeq (sFor (iR1 (aOne (eVar 1))) (gN 8) ulaw_rests_right_b1)
      (sSeq (sIf (mNot (mTru (eFn m_ulaw_same (aCons (eLst (aCons (eVar 3) (aOne (eFn m_rest_of (aCons (eCall fList (aOne (eVar 0))) (aOne (eVar 2))))))) (aOne (eOp dMul (eLst (aOne (eTup (aCons (eOp (dIc cMod fun i j => .int (i % j)) (eCall fInt (aOne (eOp dAdd (eVar 4) (eVar 6)))) (eC (.int 2))) (aOne (eOp (dIc cMod fun i j => .int (i % j)) (eCall fInt (aOne (eOp dAdd (eVar 5) (eVar 7)))) (eC (.int 2)))))))) (eC (.int 2)))))))) (sRet (eC (.bl false))) sNext)
      (sSeq (sSet 9 (eFn m_ulaw_short (aCons (eTup (aCons (eVar 4) (aCons (eVar 5) (aCons (eVar 6) (aOne (eVar 7)))))) (aOne (eC (.int 1))))))
      (sRet (eFn m_ulaw_same (aCons (eOp dEq (eVar 3) (eTup (aCons (eC (.int 0)) (aOne (eC (.int 0)))))) (aOne (eOp dEq (eOp dIx (eVar 9) (eC (.int 4))) (eC (.int 0))))))))))))) := rfl
def eighth_of_b1 : SM := (sIf (mVal (eOp dEq (eFn m_turned_ray (aCons (eC d_ONE) (aOne (eVar 1)))) (eCall fTuple (aOne (eVar 0))))) (sRet (eVar 1)) sNext)
theorem sx_eighth_of : sm_eighth_of = (sSeq (sFor (iR1 (aOne (eC (.int 8)))) (gN 1) eighth_of_b1)
      (sRet (eC .non))) := rfl
def ulaw_eighth_b1 : SM := (sFor (iSeq (eTup (aCons (eC (.int 1)) (aOne (eUn fNeg (eC (.int 1))))))) (gN 2) (sIf (mVal (eOp dEq (eVar 0) (eOp dAdd (eCall fTuple (aOne (eLc (iR1 (aOne (eC (.int 4)))) (gN 3) mYes (eOp dMul (eVar 2) (eCall fInt (aOne (eOp dEq (eVar 3) (eVar 1))))) [3]))) (eTup (aOne (eC (.int 0))))))) (sRet (eOp dAdd (eVar 1) (eIf (mVal (eOp dLt (eVar 2) (eC (.int 0)))) (eC (.int 4)) (eC (.int 0))))) sNext))
theorem sx_ulaw_eighth : sm_ulaw_eighth = (sSeq (sFor (iR1 (aOne (eC (.int 4)))) (gN 1) ulaw_eighth_b1)
      (sRet (eC .non))) := rfl
def ulaw_cells_b1 : SM := (sSeq (sSet 5 (eOp (dIc cMod fun i j => .int (i % j)) (eCall fInt (aOne (eVar 3))) (eVar 1)))
      (sSub 2 (eOp dAdd (eOp dIx (eVar 2) (eVar 5)) (eOp dMul (eVar 4) (eOp dAdd (eVar 3) (eC (.int 2))))) (eVar 5)))
theorem sx_ulaw_cells : sm_ulaw_cells = (sSeq (sSet 2 (eOr (eCall fList (aOne (eSl dSl (eVar 0) oNo (oPart (eVar 1))))) (eLst (aOne (eC (.int 0))))))
      (sSeq (sFor (iEn (aOne (eSl dSl (eVar 0) (oPart (eVar 1)) (oPart (eC (.int 63)))))) (gU 2 (gsCons (gN 3) (gsCons (gN 4) gsNil))) ulaw_cells_b1)
      (sRet (eVar 2)))) := rfl
def ray_product_e0 : EM := (eOp (dI fun i j => .int (i - j)) (eOp (dI fun i j => .int (i - j)) (eOp (dI fun i j => .int (i - j)) (eOp dMul (eVar 2) (eVar 7)) (eOp dMul (eVar 3) (eVar 10))) (eOp dMul (eVar 4) (eVar 9))) (eOp dMul (eVar 5) (eVar 8)))
def ray_product_e1 : EM := (eOp (dI fun i j => .int (i - j)) (eOp (dI fun i j => .int (i - j)) (eOp dAdd (eOp dMul (eVar 2) (eVar 8)) (eOp dMul (eVar 3) (eVar 7))) (eOp dMul (eVar 4) (eVar 10))) (eOp dMul (eVar 5) (eVar 9)))
def ray_product_e2 : EM := (eOp (dI fun i j => .int (i - j)) (eOp dAdd (eOp dAdd (eOp dMul (eVar 2) (eVar 9)) (eOp dMul (eVar 3) (eVar 8))) (eOp dMul (eVar 4) (eVar 7))) (eOp dMul (eVar 5) (eVar 10)))
def ray_product_e3 : EM := (eOp dAdd (eOp dAdd (eOp dAdd (eOp dMul (eVar 2) (eVar 10)) (eOp dMul (eVar 3) (eVar 9))) (eOp dMul (eVar 4) (eVar 8))) (eOp dMul (eVar 5) (eVar 7)))
theorem sx_ray_product : sm_ray_product = (sSeq (sAsg (gU 5 (gsCons (gN 2) (gsCons (gN 3) (gsCons (gN 4) (gsCons (gN 5) (gsCons (gN 6) gsNil)))))) (eVar 0))
      (sSeq (sAsg (gU 5 (gsCons (gN 7) (gsCons (gN 8) (gsCons (gN 9) (gsCons (gN 10) (gsCons (gN 11) gsNil)))))) (eVar 1))
      (sSeq (sSet 12 (eTup (aCons ray_product_e0 (aCons ray_product_e1 (aCons ray_product_e2 (aOne ray_product_e3))))))
      (sRet (eFn m_ray_of (aCons (eVar 12) (aOne (eOp dAdd (eVar 6) (eVar 11))))))))) := rfl
end K01
end
section
set_option maxRecDepth 100000
set_option linter.all false
namespace K01
open Pd PySem
structure Q4 where
  a : Int
  b : Int
  c : Int
  d : Int
@[simp] theorem eqD_int (i j : Int) : eqD (.int i) (.int j) = (i == j) := by simp [eqD, toP, PyData.eqv]
@[simp] theorem shp_int (i : Int) : shp (.int i) = true := by simp [shp, toP, SeqAt.shaped, PyData.canLay0, PyData.depth]
def sq (f : Bool) (l : List D) : D := if f = true then .tup l else .lst l
abbrev t4 (f : Bool) (q : Q4) : D := sq f [.int q.a, .int q.b, .int q.c, .int q.d]
abbrev ry (f : Bool) (q : Q4) (k : Nat) : D := sq f [.int q.a, .int q.b, .int q.c, .int q.d, .int (k : Int)]
def rd2 (q : Q4) : Bool := ((q.a + q.c) % 2 == 0) && ((q.b + q.d) % 2 == 0)
def half (q : Q4) : Q4 := ⟨(q.b - q.d) / 2, (q.a + q.c) / 2, (q.b + q.d) / 2, (q.c - q.a) / 2⟩
def rt (q : Q4) : Q4 := ⟨q.b - q.d, q.a + q.c, q.b + q.d, q.c - q.a⟩
def rtI : Nat → Q4 → Q4
  | 0, q => q
  | n + 1, q => rtI n (rt q)
def red : Nat → Q4 → Q4 × Nat
  | 0, q => (q, 0)
  | k + 1, q => if rd2 q = true then red k (half q) else (q, k + 1)
theorem root_divides_ok (f : Bool) (q : Q4) : m_root_divides [t4 f q] = some (.v (.bl (rd2 q))) := by
  cases f <;> simp [m_root_divides, sm_root_divides, rd2, sq] <;> cases (q.a + q.c) % 2 == 0 <;> rfl
def env6 (x : D) (k : Nat) (q : Q4) : DEnv := [.val x, .val (.int k), .val (.int q.a), .val (.int q.b), .val (.int q.c), .val (.int q.d)]
theorem red_t (x : D) (k : Nat) (q : Q4) : ray_of_t1 (env6 x (k + 1) q) = some (rd2 q, env6 x (k + 1) q) := by
  have z : decide ((0 : Int) < ((k + 1 : Nat) : Int)) = true := decide_eq_true (by omega)
  have r := root_divides_ok true q
  simp [sq] at r
  have z2 : (0 : Int) < (k : Int) + 1 := by omega
  simp [ray_of_t1, env6, z2, r]
theorem red_b (x : D) (k : Nat) (q : Q4) : ray_of_b1 (env6 x (k + 1) q) = some (.nxt, env6 x k (half q)) := by
  simp [ray_of_b1, env6, half]
theorem red_loop (x : D) : ∀ (k n : Nat) (q : Q4), k < n → sWhile ray_of_t1 ray_of_b1 n (env6 x k q) = some (.nxt, env6 x (red k q).2 (red k q).1)
  | 0, n + 1, q, _ => by
    simp [sWhile, ray_of_t1, env6, red]
  | k + 1, n + 1, q, h => by
    have ih := red_loop x k n (half q) (by omega)
    unfold sWhile
    rw [red_t]
    unfold red
    cases rd2 q
    · simp
    · simp [red_b, ih]
theorem ray_of_ok (f : Bool) (q : Q4) (k : Nat) (h : k < 1000) : m_ray_of [t4 f q, .int k] = some (.v (ry true (red k q).1 (red k q).2)) := by
  have e : ∀ x, sWhile ray_of_t1 ray_of_b1 1000 [.val x, .val (.int k), .val (.int q.a), .val (.int q.b), .val (.int q.c), .val (.int q.d)] = _ := fun x => red_loop x k 1000 q h
  cases f <;> simp [m_ray_of, sx_ray_of, sq, runD, e, env6]
theorem red_zero : ∀ k, red k ⟨0, 0, 0, 0⟩ = (⟨0, 0, 0, 0⟩, 0)
  | 0 => rfl
  | k + 1 => by
    unfold red
    exact red_zero k
theorem sh_t (x : D) (k : Nat) (q : Q4) : ulaw_short_t1 (env6 x (k + 1) q) = some (rd2 q, env6 x (k + 1) q) := by
  have z2 : (0 : Int) < (k : Int) + 1 := by omega
  simp [ulaw_short_t1, env6, z2, rd2]
  cases (q.a + q.c) % 2 == 0 <;> simp
theorem sh_b (x : D) (k : Nat) (q : Q4) : ulaw_short_b1 (env6 x (k + 1) q) = some (.nxt, env6 x k (half q)) := by
  simp [ulaw_short_b1, env6, half]
theorem sh_loop (x : D) : ∀ (k n : Nat) (q : Q4), k < n → sWhile ulaw_short_t1 ulaw_short_b1 n (env6 x k q) = some (.nxt, env6 x (red k q).2 (red k q).1)
  | 0, n + 1, q, _ => by
    simp [sWhile, ulaw_short_t1, env6, red]
  | k + 1, n + 1, q, h => by
    have ih := sh_loop x k n (half q) (by omega)
    unfold sWhile
    rw [sh_t]
    unfold red
    cases rd2 q
    · simp
    · simp [sh_b, ih]
end K01
end
section
set_option maxRecDepth 100000
set_option linter.all false
namespace K01
open Pd PySem
@[simp] theorem eqD_l4 (a b c d e f g h : Int) : eqD (.lst [.int a, .int b, .int c, .int d]) (.lst [.int e, .int f, .int g, .int h]) = (a == e && (b == f && (c == g && d == h))) := by
  simp [eqD, toP, toPs, PyData.eqv, PyData.eqvAll]
@[simp] theorem eqD_t5 (a b c d k e f g h m : Int) : eqD (.tup [.int a, .int b, .int c, .int d, .int k]) (.tup [.int e, .int f, .int g, .int h, .int m]) = (a == e && (b == f && (c == g && (d == h && k == m)))) := by
  simp [eqD, toP, toPs, PyData.eqv, PyData.eqvAll]
@[simp] theorem eqD_t2 (a b e f : Int) : eqD (.tup [.int a, .int b]) (.tup [.int e, .int f]) = (a == e && b == f) := by
  simp [eqD, toP, toPs, PyData.eqv, PyData.eqvAll]
@[simp] theorem eqD_bl (a b : Bool) : eqD (.bl a) (.bl b) = (a == b) := by
  cases a <;> cases b <;> rfl
@[simp] theorem shp_bl (a : Bool) : shp (.bl a) = true := by
  cases a <;> rfl
@[simp] theorem shp_non : shp .non = true := rfl
@[simp] theorem shp_l4 (a b c d : Int) : shp (.lst [.int a, .int b, .int c, .int d]) = true := by
  simp [shp, toP, toPs, SeqAt.shaped, PyData.canLay0, PyData.depth, PyData.canLayAll0, PyData.depthAll]
@[simp] theorem shp_t5 (a b c d e : Int) : shp (.tup [.int a, .int b, .int c, .int d, .int e]) = true := by
  simp [shp, toP, toPs, SeqAt.shaped, PyData.canLay0, PyData.depth, PyData.canLayAll0, PyData.depthAll]
@[simp] theorem shp_t2 (a b : Int) : shp (.tup [.int a, .int b]) = true := by
  simp [shp, toP, toPs, SeqAt.shaped, PyData.canLay0, PyData.depth, PyData.canLayAll0, PyData.depthAll]
theorem short_ok (f : Bool) (q : Q4) (k : Nat) (h : k < 1000) : m_ulaw_short [t4 f q, .int k] = some (.v (ry true (red k q).1 (red k q).2)) := by
  have e : ∀ x, sWhile ulaw_short_t1 ulaw_short_b1 1000 [.val x, .val (.int k), .val (.int q.a), .val (.int q.b), .val (.int q.c), .val (.int q.d)] = _ := fun x => sh_loop x k 1000 q h
  by_cases z : q = ⟨0, 0, 0, 0⟩
  · subst z
    rw [red_zero]
    cases f <;> simp [m_ulaw_short, sx_ulaw_short, sq, runD, env6]
  · have z2 : (q.a == 0 && (q.b == 0 && (q.c == 0 && q.d == 0))) = false := by
      rcases q with ⟨a, b, c, d⟩
      simp
      intro h1 h2 h3 h4
      exact z (by simp [h1, h2, h3, h4])
    cases f <;> simp [m_ulaw_short, sx_ulaw_short, sq, runD, env6, z2, e]
/-! times_root -/
def dbl (m : Nat) (q : Q4) : Q4 := ⟨q.a * 2 ^ m, q.b * 2 ^ m, q.c * 2 ^ m, q.d * 2 ^ m⟩
theorem rt_rt (q : Q4) : rt (rt q) = ⟨q.a * 2, q.b * 2, q.c * 2, q.d * 2⟩ := by
  simp only [rt, Q4.mk.injEq]; omega
theorem rtI_add : ∀ (m n : Nat) (q : Q4), rtI (m + n) q = rtI n (rtI m q)
  | 0, n, q => by simp [rtI]
  | m + 1, n, q => by
    rw [Nat.succ_add]
    exact rtI_add m n (rt q)
theorem rtI_two : ∀ (m : Nat) (q : Q4), rtI (2 * m) q = dbl m q
  | 0, q => by simp [rtI, dbl]
  | m + 1, q => by
    rw [show 2 * (m + 1) = 2 * m + 1 + 1 from rfl]
    show rtI (2 * m) (rt (rt q)) = _
    rw [rtI_two m, rt_rt]
    simp only [dbl, Q4.mk.injEq, Int.pow_succ]
    refine ⟨?_, ?_, ?_, ?_⟩ <;> grind
def sm4 (q : Q4) : Bool := sm q.a && (sm q.b && (sm q.c && sm q.d))
def smQ (q : Q4) : Bool := sm4 q && sm4 (rt q)
theorem times_root_ok (f : Bool) (q : Q4) (n : Nat) (h : n < 1000) (hs : smQ q = true) : m_times_root [t4 f q, .int n] = some (.v (t4 true (rtI n q))) := by
  have d1 : ((n : Int) / 2).toNat = n / 2 := by omega
  have c1 : ∀ i, sm i = true → cShl i ((n : Int) / 2) = true := fun i hi => by
    unfold cShl
    rw [hi]
    simp
    omega
  simp [smQ, sm4] at hs
  obtain ⟨⟨s1, s2, s3, s4⟩, t1, t2, t3, t4⟩ := hs
  have e0 := c1 _ s1
  have e1 := c1 _ s2
  have e2 := c1 _ s3
  have e3 := c1 _ s4
  have g0 := c1 _ t1
  have g1 := c1 _ t2
  have g2 := c1 _ t3
  have g3 := c1 _ t4
  simp only [rt] at g0 g1 g2 g3
  by_cases z0 : n = 0
  · subst z0
    cases f <;> simp [m_times_root, sm_times_root, sq, runD, rtI]
  have z3 : ((n : Int) == 0) = false := by simpa using z0
  rcases Nat.mod_two_eq_zero_or_one n with z | z
  · have z1 : (n : Int) % 2 = 0 := by omega
    have z2 : n = 2 * (n / 2) := by omega
    have w : rtI n q = dbl (n / 2) q := by
      conv => lhs; rw [z2]
      exact rtI_two _ _
    rw [w]
    cases f <;> simp [m_times_root, sm_times_root, sq, runD, lcD, d1, z1, z3, e0, e1, e2, e3, dbl]
  · have z1 : (n : Int) % 2 = 1 := by omega
    have z2 : n = 1 + 2 * (n / 2) := by omega
    have w : rtI n q = dbl (n / 2) (rt q) := by
      conv => lhs; rw [z2]
      rw [rtI_add]
      exact rtI_two _ _
    rw [w]
    cases f <;> simp [m_times_root, sm_times_root, sq, runD, lcD, d1, z1, z3, g0, g1, g2, g3, dbl, rt]
end K01
end
section
set_option maxRecDepth 100000
set_option linter.all false
set_option maxHeartbeats 8000000
set_option exponentiation.threshold 5000
namespace K01
open Pd PySem
@[simp] theorem at5_0 {α : Type} (a b c d e : α) : L2.atI [a, b, c, d, e] 0 = some a := rfl
@[simp] theorem at5_1 {α : Type} (a b c d e : α) : L2.atI [a, b, c, d, e] 1 = some b := rfl
@[simp] theorem at5_2 {α : Type} (a b c d e : α) : L2.atI [a, b, c, d, e] 2 = some c := rfl
@[simp] theorem at5_3 {α : Type} (a b c d e : α) : L2.atI [a, b, c, d, e] 3 = some d := rfl
@[simp] theorem at5_4 {α : Type} (a b c d e : α) : L2.atI [a, b, c, d, e] 4 = some e := rfl
@[simp] theorem at3_0 {α : Type} (a b c : α) : L2.atI [a, b, c] 0 = some a := rfl
@[simp] theorem at3_1 {α : Type} (a b c : α) : L2.atI [a, b, c] 1 = some b := rfl
@[simp] theorem at3_2 {α : Type} (a b c : α) : L2.atI [a, b, c] 2 = some c := rfl
@[simp] theorem sx5n : HT.sIx 5 0 none = 0 := rfl
@[simp] theorem sx54 : HT.sIx 5 5 (some 4) = 4 := rfl
@[simp] theorem sx4n : HT.sIx 4 0 none = 0 := rfl
@[simp] theorem sx44 : HT.sIx 4 4 none = 4 := rfl
@[simp] theorem sx42 : HT.sIx 4 0 (some 2) = 2 := rfl
@[simp] theorem sx4e : HT.sIx 4 4 (some 2) = 2 := rfl
def add (p q : Q4) : Q4 := ⟨p.a + q.a, p.b + q.b, p.c + q.c, p.d + q.d⟩
def mul (p q : Q4) : Q4 := ⟨p.a * q.a - p.b * q.d - p.c * q.c - p.d * q.b, p.a * q.b + p.b * q.a - p.c * q.d - p.d * q.c, p.a * q.c + p.b * q.b + p.c * q.a - p.d * q.d, p.a * q.d + p.b * q.c + p.c * q.b + p.d * q.a⟩
def bd (n : Nat) (q : Q4) : Prop := q.a.natAbs ≤ n ∧ q.b.natAbs ≤ n ∧ q.c.natAbs ≤ n ∧ q.d.natAbs ≤ n
theorem sm_of {i : Int} (h : i.natAbs < 2 ^ 64) : sm i = true := by
  unfold sm
  exact decide_eq_true (Nat.lt_of_lt_of_le h (Nat.pow_le_pow_right (by decide) (by decide)))
theorem sm_of2 {i : Int} (h : i.natAbs < 2 ^ 66) : sm i = true := by
  unfold sm
  exact decide_eq_true (Nat.lt_of_lt_of_le h (Nat.pow_le_pow_right (by decide) (by decide)))
theorem smQ_of {n : Nat} {q : Q4} (h : bd n q) (hn : n < 2 ^ 64) : smQ q = true := by
  obtain ⟨h1, h2, h3, h4⟩ := h
  have g1 : (q.b - q.d).natAbs < 2 ^ 66 := by omega
  have g2 : (q.a + q.c).natAbs < 2 ^ 66 := by omega
  have g3 : (q.b + q.d).natAbs < 2 ^ 66 := by omega
  have g4 : (q.c - q.a).natAbs < 2 ^ 66 := by omega
  simp only [smQ, sm4, rt, sm_of2 g1, sm_of2 g2, sm_of2 g3, sm_of2 g4, sm_of (Nat.lt_of_le_of_lt h1 hn), sm_of (Nat.lt_of_le_of_lt h2 hn), sm_of (Nat.lt_of_le_of_lt h3 hn), sm_of (Nat.lt_of_le_of_lt h4 hn)]
  rfl
theorem cMul_of {i j : Int} (h : i.natAbs < 18446744073709551616) : cMul i j = true := by
  unfold cMul b64
  rw [decide_eq_true h]
  rfl
theorem cMul_r {i j : Int} (h : j.natAbs < 18446744073709551616) : cMul i j = true := by
  unfold cMul b64
  rw [decide_eq_true h]
  simp
abbrev sumOf (p : Q4) (k : Nat) (q : Q4) (l : Nat) : Q4 := add (rtI (max k l - k) p) (rtI (max k l - l) q)
theorem rays_added_ok (f : Bool) (p q : Q4) (k l : Nat) (hk : k < 1000) (hl : l < 1000) (h1 : smQ p = true) (h2 : smQ q = true) :
    m_ray_sum [ry f p k, ry f q l] = some (.v (ry true (red (max k l) (sumOf p k q l)).1 (red (max k l) (sumOf p k q l)).2)) := by
  have t1 := fun f => times_root_ok f p (max k l - k) (by omega) h1
  have t2 := fun f => times_root_ok f q (max k l - l) (by omega) h2
  have r := ray_of_ok true (sumOf p k q l) (max k l) (by omega)
  have hK : maxI 0 [(k : Int), (l : Int)] = ((max k l : Nat) : Int) := by simp [maxI]; omega
  have hk2 : k ≤ max k l := by omega
  have hl2 : l ≤ max k l := by omega
  unfold sumOf at r ⊢
  generalize max k l = K at *
  have e1 : (K : Int) - (k : Int) = ((K - k : Nat) : Int) := by omega
  have e2 : (K : Int) - (l : Int) = ((K - l : Nat) : Int) := by omega
  generalize rtI (K - k) p = x at *
  generalize rtI (K - l) q = y at *
  generalize red K (add x y) = z at *
  have u1 := t1 true
  have v1 := t1 false
  have u2 := t2 true
  have v2 := t2 false
  clear t1 t2
  simp [sq, add] at r u1 u2 v1 v2
  cases f <;> simp [m_ray_sum, sm_ray_sum, m_rays_added, sx_rays_added, rays_added_b1, sq, runD, lcD, forD, intsOf, hK, e1, e2, r, u1, u2, v1, v2]
end K01
end
section
set_option maxRecDepth 100000
set_option linter.all false
set_option exponentiation.threshold 5000
set_option maxHeartbeats 4000000
namespace K01
open Pd PySem
theorem bd_mul {n : Nat} {p : Q4} (h : bd n p) (hn : n < 2 ^ 64) : (∀ j, cMul p.a j = true) ∧ (∀ j, cMul p.b j = true) ∧ (∀ j, cMul p.c j = true) ∧ (∀ j, cMul p.d j = true) :=
  ⟨fun j => cMul_of (Nat.lt_of_le_of_lt h.1 hn), fun j => cMul_of (Nat.lt_of_le_of_lt h.2.1 hn), fun j => cMul_of (Nat.lt_of_le_of_lt h.2.2.1 hn), fun j => cMul_of (Nat.lt_of_le_of_lt h.2.2.2 hn)⟩
def envP (x y : D) (p q : Q4) (k l : Int) : DEnv := [.val x, .val y, .val (.int p.a), .val (.int p.b), .val (.int p.c), .val (.int p.d), .val (.int k), .val (.int q.a), .val (.int q.b), .val (.int q.c), .val (.int q.d), .val (.int l), .none]
theorem prod_e0 {x y : D} {p q : Q4} {k l : Int} {n : Nat} (h1 : bd n p) (hn : n < 2 ^ 64) : ray_product_e0 (envP x y p q k l) = some (.val (.int (mul p q).a), envP x y p q k l) := by
  obtain ⟨c1, c2, c3, c4⟩ := bd_mul h1 hn
  simp [ray_product_e0, envP, c1, c2, c3, c4, mul]
theorem prod_e1 {x y : D} {p q : Q4} {k l : Int} {n : Nat} (h1 : bd n p) (hn : n < 2 ^ 64) : ray_product_e1 (envP x y p q k l) = some (.val (.int (mul p q).b), envP x y p q k l) := by
  obtain ⟨c1, c2, c3, c4⟩ := bd_mul h1 hn
  simp [ray_product_e1, envP, c1, c2, c3, c4, mul]
theorem prod_e2 {x y : D} {p q : Q4} {k l : Int} {n : Nat} (h1 : bd n p) (hn : n < 2 ^ 64) : ray_product_e2 (envP x y p q k l) = some (.val (.int (mul p q).c), envP x y p q k l) := by
  obtain ⟨c1, c2, c3, c4⟩ := bd_mul h1 hn
  simp [ray_product_e2, envP, c1, c2, c3, c4, mul]
theorem prod_e3 {x y : D} {p q : Q4} {k l : Int} {n : Nat} (h1 : bd n p) (hn : n < 2 ^ 64) : ray_product_e3 (envP x y p q k l) = some (.val (.int (mul p q).d), envP x y p q k l) := by
  obtain ⟨c1, c2, c3, c4⟩ := bd_mul h1 hn
  simp [ray_product_e3, envP, c1, c2, c3, c4, mul]
theorem product_ok (f : Bool) (p q : Q4) (k l : Nat) (hk : k + l < 1000) {n : Nat} (h1 : bd n p) (hn : n < 2 ^ 64) :
    m_ray_product [ry f p k, ry f q l] = some (.v (ry true (red (k + l) (mul p q)).1 (red (k + l) (mul p q)).2)) := by
  have r := ray_of_ok true (mul p q) (k + l) hk
  have a0 := fun x y => prod_e0 (x := x) (y := y) (q := q) (k := k) (l := l) h1 hn
  have a1 := fun x y => prod_e1 (x := x) (y := y) (q := q) (k := k) (l := l) h1 hn
  have a2 := fun x y => prod_e2 (x := x) (y := y) (q := q) (k := k) (l := l) h1 hn
  have a3 := fun x y => prod_e3 (x := x) (y := y) (q := q) (k := k) (l := l) h1 hn
  generalize mul p q = z at *
  have e1 : (k : Int) + (l : Int) = ((k + l : Nat) : Int) := by omega
  generalize k + l = N at *
  generalize red N z = w at *
  simp only [sq, if_true] at r
  simp only [envP] at a0 a1 a2 a3
  cases f <;> simp [m_ray_product, sx_ray_product, sq, runD, a0, a1, a2, a3, e1, r]
def trn (q : Q4) : Q4 := ⟨-q.d, q.a, q.b, q.c⟩
def trnI : Nat → Q4 → Q4
  | 0, q => q
  | n + 1, q => trnI n (trn q)
theorem turn_loop (x y k : D) : ∀ (n : Nat) (lo : Int) (s : Sl) (q : Q4), ∃ s', forD (gN 7) turned_ray_b1 (rangeD lo n) [.val x, .val y, .val (.int q.a), .val (.int q.b), .val (.int q.c), .val (.int q.d), .val k, s] = some (.nxt, [.val x, .val y, .val (.int (trnI n q).a), .val (.int (trnI n q).b), .val (.int (trnI n q).c), .val (.int (trnI n q).d), .val k, s'])
  | 0, lo, s, q => ⟨s, rfl⟩
  | n + 1, lo, s, q => by
    obtain ⟨s', ih⟩ := turn_loop x y k n (lo + 1) (.val (.int lo)) (trn q)
    refine ⟨s', ?_⟩
    rw [← show trnI n (trn q) = trnI (n + 1) q from rfl, ← ih]
    simp [forD, turned_ray_b1, trn]
theorem turned_ok (f : Bool) (q : Q4) (k : Nat) (m : Int) : m_turned_ray [ry f q k, .int m] = some (.v (ry true (trnI (m % 8).toNat q) k)) := by
  have h1 : -(2 ^ 62) ≤ m % 8 ∧ m % 8 < 2 ^ 62 := by omega
  have w : ∀ x y k s q, ∃ s', forD (gN 7) turned_ray_b1 (rangeD 0 (m % 8).toNat) _ = _ := fun x y k s q => turn_loop x y k (m % 8).toNat 0 s q
  obtain ⟨s1, w1⟩ := w (.tup [.int q.a, .int q.b, .int q.c, .int q.d, .int (k : Int)]) (.int m) (.int k) .none q
  obtain ⟨s2, w2⟩ := w (.lst [.int q.a, .int q.b, .int q.c, .int q.d, .int (k : Int)]) (.int m) (.int k) .none q
  have h2 : -4611686018427387904 ≤ m % 8 ∧ m % 8 < 4611686018427387904 := by omega
  cases f <;> simp [m_turned_ray, sx_turned_ray, sq, runD, h2, w1, w2]
def mir (q : Q4) : Q4 := ⟨q.a, -q.d, -q.c, -q.b⟩
def twn (q : Q4) (k : Nat) : Q4 := if k % 2 = 1 then ⟨-q.a, q.b, -q.c, q.d⟩ else ⟨q.a, -q.b, q.c, -q.d⟩
theorem mirrored_ok (f : Bool) (q : Q4) (k : Nat) : m_mirrored [ry f q k] = some (.v (ry true (mir q) k)) := by
  cases f <;> simp [m_mirrored, sm_mirrored, sq, runD, mir]
theorem twin_ok (f : Bool) (q : Q4) (k : Nat) : m_twin_of [ry f q k] = some (.v (ry true (twn q k) k)) := by
  rcases Nat.mod_two_eq_zero_or_one k with z | z
  · have z1 : (k : Int) % 2 = 0 := by omega
    cases f <;> simp [m_twin_of, sm_twin_of, sq, runD, twn, z, z1]
  · have z1 : (k : Int) % 2 = 1 := by omega
    cases f <;> simp [m_twin_of, sm_twin_of, sq, runD, twn, z, z1]
theorem size_ok (q : Q4) (k : Nat) (hk : k + k < 1000) {n : Nat} (h1 : bd n q) (hn : n < 2 ^ 64) :
    m_size_of [ry true q k] = some (.v (ry true (red (k + k) (mul q (mir q))).1 (red (k + k) (mul q (mir q))).2)) := by
  have r := product_ok true q (mir q) k k hk h1 hn
  have m := mirrored_ok true q k
  simp [sq] at r m
  simp [m_size_of, sm_size_of, sq, runD, m, r]
def isr (q : Q4) : Bool := (q.c == 0) && (q.b == -q.d)
theorem is_real_ok (f : Bool) (q : Q4) (k : Nat) : m_is_real [ry f q k] = some (.v (.bl (isr q))) := by
  cases f <;> simp [m_is_real, sm_is_real, sq, runD, isr] <;> cases q.c == 0 <;> simp
def ab (i : Int) : Int := if i < 0 then -i else i
def sqs (q : Q4) : Int := q.a * ab q.a + 2 * q.b * ab q.b
def sgn (i : Int) : Int := if i = 0 then 0 else if 0 < i then 1 else -1
theorem sign_ok (f : Bool) (q : Q4) (k : Nat) (hr : isr q = true) {n : Nat} (h1 : bd n q) (hn : n < 2 ^ 62) : m_sign_of [ry f q k] = some (.v (.int (sgn (sqs q)))) := by
  obtain ⟨c1, c2, c3, c4⟩ := bd_mul h1 (by omega)
  have c5 : ∀ j, cMul 2 j = true := fun j => cMul_of (by decide)
  have c6 : ∀ j, cMul (2 * q.b) j = true := fun j => cMul_of (by have := h1.2.1; omega)
  have r := is_real_ok f q k
  rw [hr] at r
  unfold sgn sqs ab
  cases f <;> simp [sq] at r <;> simp [m_sign_of, sm_sign_of, sq, runD, r, c1, c2, c3, c4, c5, c6] <;> generalize (q.a * if q.a < 0 then -q.a else q.a) + 2 * q.b * (if q.b < 0 then -q.b else q.b) = S <;> by_cases z : S = 0 <;> simp [z]
  all_goals have z3 : (S == 0) = false := by simp [z]
  all_goals by_cases z2 : 0 < S <;> simp [z3, z2]
def ovr (q : Q4) (k : Nat) (m : Int) : Q4 × Nat := if 0 ≤ (k : Int) + m then red ((k : Int) + m).toNat q else (rtI (-((k : Int) + m)).toNat q, 0)
theorem over_ok (f : Bool) (q : Q4) (k : Nat) (m : Int) (hk : k < 500) (hm : m.natAbs < 400) (hs : smQ q = true) : m_over_root [ry f q k, .int m] = some (.v (ry true (ovr q k m).1 (ovr q k m).2)) := by
  unfold ovr
  split
  · rename_i h
    have e : (k : Int) + m = ((((k : Int) + m).toNat : Nat) : Int) := by omega
    have r := ray_of_ok f q ((k : Int) + m).toNat (by omega)
    have r2 := ray_of_ok true q ((k : Int) + m).toNat (by omega)
    rw [← e] at r r2
    generalize red _ q = z at *
    cases f <;> simp [sq] at r r2 <;> simp [m_over_root, sm_over_root, sq, runD, h, r, r2]
  · rename_i h
    have e : -((k : Int) + m) = (((-((k : Int) + m)).toNat : Nat) : Int) := by omega
    have t := times_root_ok f q (-((k : Int) + m)).toNat (by omega) hs
    rw [← e] at t
    generalize rtI _ q = z at *
    have r := ray_of_ok true z 0 (by omega)
    cases f <;> simp [sq, red] at r t <;> simp [m_over_root, sm_over_root, sq, runD, h, r, t]
end K01
end
section
set_option linter.all false
set_option exponentiation.threshold 5000
namespace K01
open Pd PySem
/-! the arithmetic of rays, on four whole numbers -/
theorem half_rt (q : Q4) : half (rt q) = q := by
  rcases q with ⟨a, b, c, d⟩
  simp only [half, rt, Q4.mk.injEq]; omega
theorem rd2_rt (q : Q4) : rd2 (rt q) = true := by
  rcases q with ⟨a, b, c, d⟩
  simp only [rd2, rt, Bool.and_eq_true, beq_iff_eq]; omega
theorem rt_half {q : Q4} (h : rd2 q = true) : rt (half q) = q := by
  rcases q with ⟨a, b, c, d⟩
  simp only [rd2, Bool.and_eq_true, beq_iff_eq] at h
  simp only [half, rt, Q4.mk.injEq]; omega
theorem rtI_succ (n : Nat) (q : Q4) : rtI (n + 1) q = rt (rtI n q) := by
  rw [rtI_add]; rfl
theorem rtI_inj : ∀ (n : Nat) {p q : Q4}, rtI n p = rtI n q → p = q
  | 0, p, q, h => h
  | n + 1, p, q, h => by
    have := rtI_inj n (p := rt p) (q := rt q) h
    rw [← half_rt p, ← half_rt q, this]
theorem red_rt : ∀ (n k : Nat) (q : Q4), red (k + n) (rtI n q) = red k q
  | 0, k, q => rfl
  | n + 1, k, q => by
    rw [rtI_succ]
    show (if rd2 (rt (rtI n q)) = true then red (k + n) (half (rt (rtI n q))) else _) = _
    rw [rd2_rt, if_pos rfl, half_rt]
    exact red_rt n k q
theorem red_eq {j k : Nat} {p q : Q4} (h : rtI k p = rtI j q) : red j p = red k q := by
  rw [← red_rt k j p, ← red_rt j k q, h, Nat.add_comm]
theorem red_back : ∀ (k : Nat) (q : Q4), (red k q).2 ≤ k ∧ rtI (k - (red k q).2) (red k q).1 = q
  | 0, q => ⟨Nat.le_refl _, rfl⟩
  | k + 1, q => by
    unfold red
    by_cases h : rd2 q = true
    · rw [if_pos h]
      obtain ⟨h1, h2⟩ := red_back k (half q)
      refine ⟨by omega, ?_⟩
      rw [show k + 1 - (red k (half q)).2 = k - (red k (half q)).2 + 1 by omega, rtI_succ, h2]
      exact rt_half h
    · rw [if_neg h]
      exact ⟨Nat.le_refl _, by simp [rtI]⟩
/-- one pair of numbers and halvings stands for the same value as another -/
def Eqv (p : Q4) (j : Nat) (q : Q4) (k : Nat) : Prop := rtI k p = rtI j q
theorem rtI_comm (m n : Nat) (q : Q4) : rtI m (rtI n q) = rtI n (rtI m q) := by
  rw [← rtI_add, ← rtI_add, Nat.add_comm]
theorem red_eqv (k : Nat) (q : Q4) : Eqv (red k q).1 (red k q).2 q k := by
  obtain ⟨h1, h2⟩ := red_back k q
  have h3 : rtI (red k q).2 (rtI (k - (red k q).2) (red k q).1) = rtI k (red k q).1 := by
    rw [← rtI_add]
    congr 1
    omega
  rw [h2] at h3
  exact h3.symm
theorem Eqv.symm {p q : Q4} {j k : Nat} (h : Eqv p j q k) : Eqv q k p j := Eq.symm h
theorem Eqv.trans {p q r : Q4} {j k l : Nat} (h : Eqv p j q k) (h2 : Eqv q k r l) : Eqv p j r l := by
  unfold Eqv at *
  apply rtI_inj k
  rw [rtI_comm k l, h, rtI_comm l j, h2, rtI_comm j k]
theorem rt_add (p q : Q4) : rt (add p q) = add (rt p) (rt q) := by
  simp only [rt, add, Q4.mk.injEq]; omega
theorem rtI_addq : ∀ (n : Nat) (p q : Q4), rtI n (add p q) = add (rtI n p) (rtI n q)
  | 0, p, q => rfl
  | n + 1, p, q => by
    show rtI n (rt (add p q)) = add (rtI n (rt p)) (rtI n (rt q))
    rw [rt_add]
    exact rtI_addq n _ _
theorem rt_mul_l (p q : Q4) : mul (rt p) q = rt (mul p q) := by
  simp only [rt, mul, Q4.mk.injEq]
  refine ⟨?_, ?_, ?_, ?_⟩ <;> grind
theorem mul_comm (p q : Q4) : mul p q = mul q p := by
  simp only [mul, Q4.mk.injEq]
  refine ⟨?_, ?_, ?_, ?_⟩ <;> grind
theorem mul_add (p q r : Q4) : mul (add p q) r = add (mul p r) (mul q r) := by
  simp only [mul, add, Q4.mk.injEq]
  refine ⟨?_, ?_, ?_, ?_⟩ <;> grind
theorem mul_assoc (p q r : Q4) : mul (mul p q) r = mul p (mul q r) := by
  simp only [mul, Q4.mk.injEq]
  refine ⟨?_, ?_, ?_, ?_⟩ <;> grind
theorem add_comm (p q : Q4) : add p q = add q p := by
  simp only [add, Q4.mk.injEq]; omega
theorem rtI_mul_l : ∀ (n : Nat) (p q : Q4), mul (rtI n p) q = rtI n (mul p q)
  | 0, p, q => rfl
  | n + 1, p, q => by
    show mul (rtI n (rt p)) q = rtI n (rt (mul p q))
    rw [rtI_mul_l n, rt_mul_l]
theorem rtI_mul_r (n : Nat) (p q : Q4) : mul p (rtI n q) = rtI n (mul p q) := by
  rw [mul_comm, rtI_mul_l, mul_comm]
theorem Eqv.mul {p q r s : Q4} {j k l m : Nat} (h : Eqv p j q k) (h2 : Eqv r l s m) : Eqv (mul p r) (j + l) (mul q s) (k + m) := by
  unfold Eqv at *
  rw [rtI_add, ← rtI_mul_l, h, ← rtI_mul_r, h2, rtI_mul_l, rtI_mul_r, ← rtI_add, Nat.add_comm]
theorem eqv_up (p : Q4) (k n : Nat) : Eqv (rtI n p) (k + n) p k := by
  unfold Eqv
  rw [← rtI_add]
  congr 1
  omega
theorem Eqv.add {p q r s : Q4} {j k : Nat} (h : Eqv p j q k) (h2 : Eqv r j s k) : Eqv (add p r) j (add q s) k := by
  unfold Eqv at *
  rw [rtI_addq, rtI_addq, h, h2]
theorem red_of {p q : Q4} {j k : Nat} (h : Eqv p j q k) : red j p = red k q := red_eq h
/-- sums of pairs that stand for the same values -/
theorem sum_eqv {p q r s : Q4} {j k l m : Nat} (h : Eqv p j q k) (h2 : Eqv r l s m) : Eqv (sumOf p j r l) (max j l) (sumOf q k s m) (max k m) := by
  refine Eqv.add ?_ ?_
  · have a := eqv_up p j (max j l - j)
    rw [show j + (max j l - j) = max j l by omega] at a
    have b := eqv_up q k (max k m - k)
    rw [show k + (max k m - k) = max k m by omega] at b
    exact (a.trans h).trans b.symm
  · have a := eqv_up r l (max j l - l)
    rw [show l + (max j l - l) = max j l by omega] at a
    have b := eqv_up s m (max k m - m)
    rw [show m + (max k m - m) = max k m by omega] at b
    exact (a.trans h2).trans b.symm
def norm (q : Q4) (k : Nat) : Prop := red k q = (q, k)
theorem norm_red : ∀ (k : Nat) (q : Q4), norm (red k q).1 (red k q).2
  | 0, q => rfl
  | k + 1, q => by
    unfold red
    by_cases h : rd2 q = true
    · rw [if_pos h]; exact norm_red k (half q)
    · rw [if_neg h]; unfold norm red; rw [if_neg h]
theorem sum_comm' (p q : Q4) (k l : Nat) : sumOf p k q l = sumOf q l p k := by
  unfold sumOf
  rw [Nat.max_comm l k, add_comm]
theorem sumOf_mul (p q r : Q4) (k l m : Nat) : Eqv (mul (sumOf p k q l) r) (max k l + m) (sumOf (mul p r) (k + m) (mul q r) (l + m)) (max (k + m) (l + m)) := by
  have e : max (k + m) (l + m) = max k l + m := by omega
  unfold sumOf
  rw [e, mul_add, rtI_mul_l, rtI_mul_l, show max k l + m - (k + m) = max k l - k by omega, show max k l + m - (l + m) = max k l - l by omega]
  rfl
end K01
end
section
set_option maxRecDepth 100000
set_option linter.all false
set_option exponentiation.threshold 5000
set_option maxHeartbeats 4000000
namespace K01
open Pd PySem
theorem rest_ok (f : Bool) (q : Q4) (k : Nat) (m : Nat) (hm : m < 900) (hs : smQ q = true) : m_rest_of [ry f q k, .int (((k + m : Nat) : Int))] = some (.v (.tup [.int (((rtI m q).a + (rtI m q).c) % 2), .int (((rtI m q).b + (rtI m q).d) % 2)])) := by
  have t := times_root_ok f q m (by omega) hs
  generalize rtI m q = z at *
  generalize hN : k + m = N at *
  have e : (N : Int) - (k : Int) = (m : Int) := by omega
  have e2 : ¬ ((N : Int) < (k : Int)) := by omega
  cases f <;> simp [sq] at t <;> simp [m_rest_of, sm_rest_of, sq, runD, e, e2, t]
@[simp] theorem is_number_ok (i : Int) : m_is_number [.int i] = some (.v (.bl true)) := by
  simp [m_is_number, sm_is_number, runD]
theorem is_ray_ok (q : Q4) (k : Nat) (hn : norm q k) (hk : k ≤ 400) : m_is_ray [ry true q k] = some (.v (.bl true)) := by
  have r := root_divides_ok true q
  simp [sq] at r
  rcases k with _ | k
  · simp [m_is_ray, sm_is_ray, sq, runD, lcD]
  · have h : rd2 q = false := by
      unfold norm red at hn
      cases z : rd2 q
      · rfl
      · rw [if_pos z] at hn
        have := (red_back k (half q)).1
        rw [hn] at this
        simp at this
        omega
    rw [h] at r
    have z1 : ((k : Int) + 1 == 0) = false := by
      simp
      omega
    have z2 : (0 : Int) < (k : Int) + 1 := by omega
    simp [m_is_ray, sm_is_ray, sq, runD, lcD, r, z1, z2]
theorem law_is_ray_ok (q : Q4) (k : Nat) (hn : norm q k) (hk : k ≤ 400) : m_ulaw_is_ray [ry true q k] = some (.v (.bl true)) := by
  have r := short_ok true q k (by omega)
  rw [hn] at r
  simp [sq] at r
  have z1 : (0 : Int) ≤ (k : Int) := by omega
  have z2 : (k : Int) ≤ 400 := by omega
  simp [m_ulaw_is_ray, sm_ulaw_is_ray, sq, runD, lcD, r, z1, z2]
end K01
end
section
set_option maxRecDepth 100000
set_option linter.all false
set_option exponentiation.threshold 5000
set_option maxHeartbeats 4000000
namespace K01
open Pd PySem
/-! what the law takes for the worth of a ray -/
def P : Int := 18446744069414584321
def wT : Nat → Int
  | 0 => 1
  | n + 1 => wT n * 16777216 % P
def rootT (t : Nat) : Int := wT t - wT t * wT t * wT t % P
def backT (t : Nat) : Int := rootT t * 9223372034707292161 % P
def evT (t : Nat) (q : Q4) : Int := q.a + wT t * (q.b + wT t * (q.c + wT t * q.d))
def itb (b : Int) : Nat → Int → Int
  | 0, x => x
  | n + 1, x => itb b n (x * b % P)
def worth (t : Nat) (q : Q4) (k : Nat) : Int := itb (backT t) k (evT t q) % P
theorem worth_loop (x y p w r b : D) (bk : Int) (hb : b = .int bk) : ∀ (n : Nat) (lo : Int) (s : Sl) (z : Int), (∀ i, cMul i bk = true) → ∃ s', forD (gN 4) ulaw_worth_b2 (rangeD lo n) [.val x, .val y, .val (.int P), .val w, s, .val r, .val (.int z), .val b] = some (.nxt, [.val x, .val y, .val (.int P), .val w, s', .val r, .val (.int (itb bk n z)), .val b])
  | 0, lo, s, z, _ => ⟨s, rfl⟩
  | n + 1, lo, s, z, hc => by
    obtain ⟨s', ih⟩ := worth_loop x y p w r b bk hb n (lo + 1) (.val (.int lo)) (z * bk % P) hc
    refine ⟨s', ?_⟩
    rw [← show itb bk n (z * bk % P) = itb bk (n + 1) z from rfl, ← ih]
    subst hb
    have hP : 0 < P := by decide
    simp [forD, ulaw_worth_b2, hc, hP]
theorem w_loop (x y : D) : ∀ (n t0 : Nat) (lo : Int) (s : Sl), ∃ s', forD (gN 4) ulaw_worth_b1 (rangeD lo n) [.val x, .val y, .val (.int P), .val (.int (wT t0)), s, .none, .none, .none] = some (.nxt, [.val x, .val y, .val (.int P), .val (.int (wT (t0 + n))), s', .none, .none, .none])
  | 0, t0, lo, s => ⟨s, rfl⟩
  | n + 1, t0, lo, s => by
    obtain ⟨s', ih⟩ := w_loop x y n (t0 + 1) (lo + 1) (.val (.int lo))
    refine ⟨s', ?_⟩
    rw [show t0 + (n + 1) = t0 + 1 + n by omega, ← ih]
    have hP : 0 < P := by decide
    have hc : ∀ i, cMul i 16777216 = true := fun i => cMul_r (by decide)
    have hp : cPow 2 24 = true := by decide
    simp [forD, ulaw_worth_b1, hc, hP, hp, wT]
theorem wT_b : ∀ t, 0 ≤ wT t ∧ wT t < P
  | 0 => by decide
  | t + 1 => ⟨Int.emod_nonneg _ (by decide), Int.emod_lt_of_pos _ (by decide)⟩
theorem eop_pw (i j : Int) (δ : DEnv) (h : cPow i j = true) : eOp (dIc cPow fun i j => .int (i ^ j.toNat)) (eC (.int i)) (eC (.int j)) δ = some (.val (.int (i ^ j.toNat)), δ) := by
  simp [h]
theorem pw2_64 : (2 : Int) ^ (64 : Int).toNat = 18446744073709551616 := (Int.natCast_pow 2 64).symm
@[simp ↓ high] theorem epw2_64 (δ : DEnv) : eOp (dIc cPow fun i j => .int (i ^ j.toNat)) (eC (.int 2)) (eC (.int 64)) δ = some (.val (.int 18446744073709551616), δ) := by
  rw [eop_pw 2 64 δ (by decide), pw2_64]
theorem pw2_63 : (2 : Int) ^ (63 : Int).toNat = 9223372036854775808 := (Int.natCast_pow 2 63).symm
@[simp ↓ high] theorem epw2_63 (δ : DEnv) : eOp (dIc cPow fun i j => .int (i ^ j.toNat)) (eC (.int 2)) (eC (.int 63)) δ = some (.val (.int 9223372036854775808), δ) := by
  rw [eop_pw 2 63 δ (by decide), pw2_63]
theorem pw2_32 : (2 : Int) ^ (32 : Int).toNat = 4294967296 := (Int.natCast_pow 2 32).symm
@[simp ↓ high] theorem epw2_32 (δ : DEnv) : eOp (dIc cPow fun i j => .int (i ^ j.toNat)) (eC (.int 2)) (eC (.int 32)) δ = some (.val (.int 4294967296), δ) := by
  rw [eop_pw 2 32 δ (by decide), pw2_32]
theorem pw2_31 : (2 : Int) ^ (31 : Int).toNat = 2147483648 := (Int.natCast_pow 2 31).symm
@[simp ↓ high] theorem epw2_31 (δ : DEnv) : eOp (dIc cPow fun i j => .int (i ^ j.toNat)) (eC (.int 2)) (eC (.int 31)) δ = some (.val (.int 2147483648), δ) := by
  rw [eop_pw 2 31 δ (by decide), pw2_31]
theorem pw10_18 : (10 : Int) ^ (18 : Int).toNat = 1000000000000000000 := (Int.natCast_pow 10 18).symm
@[simp ↓ high] theorem epw10_18 (δ : DEnv) : eOp (dIc cPow fun i j => .int (i ^ j.toNat)) (eC (.int 10)) (eC (.int 18)) δ = some (.val (.int 1000000000000000000), δ) := by
  rw [eop_pw 10 18 δ (by decide), pw10_18]
theorem pw10_30 : (10 : Int) ^ (30 : Int).toNat = 1000000000000000000000000000000 := (Int.natCast_pow 10 30).symm
@[simp ↓ high] theorem epw10_30 (δ : DEnv) : eOp (dIc cPow fun i j => .int (i ^ j.toNat)) (eC (.int 10)) (eC (.int 30)) δ = some (.val (.int 1000000000000000000000000000000), δ) := by
  rw [eop_pw 10 30 δ (by decide), pw10_30]
theorem seq_nxt {a b : SM} {δ δ' : DEnv} {r : Option (Ctl × DEnv)} (h : a δ = some (.nxt, δ')) (h2 : b δ' = r) : sSeq a b δ = r := by
  simp [h, h2]
theorem st1 (X : D) (T : Int) (l : List Sl) (δ' : DEnv) (n : Nat) (b : SM) (h : -4611686018427387904 ≤ T ∧ T < 4611686018427387904) (hn : T.toNat = n) (h1 : forD (gN 4) b (rangeD 0 n) (.val X :: .val (.int T) :: l) = some (.nxt, δ')) :
    sFor (iR1 (aOne (eVar 1))) (gN 4) b (.val X :: .val (.int T) :: l) = some (.nxt, δ') := by
  subst hn
  simp [h, h1]
theorem st2 (a b c d : D) (T : Int) (l : List Sl) (δ' : DEnv) {n : Nat} {s : SM} (h : -4611686018427387904 ≤ T ∧ T < 4611686018427387904) (hn : T.toNat = n) (h1 : forD (gN 4) s (rangeD 0 n) (.val (.tup [a, b, c, d, .int T]) :: l) = some (.nxt, δ')) :
    sFor (iR1 (aOne (eOp dIx (eVar 0) (eC (.int 4))))) (gN 4) s (.val (.tup [a, b, c, d, .int T]) :: l) = some (.nxt, δ') := by
  subst hn
  simp [h, h1]
theorem worth_ok (q : Q4) (k : Nat) (t : Nat) (ht : t < 100) (hk : k < 1000) : m_ulaw_worth [ry true q k, .int t] = some (.v (.int (worth t q k))) := by
  have hc : ∀ i : Int, 0 ≤ i ∧ i < P → ∀ j, cMul i j = true := fun i h j => cMul_of (by unfold P at h; omega)
  have hd : ∀ i : Int, 0 ≤ i ∧ i < P → ∀ j, cMul j i = true := fun i h j => cMul_r (by unfold P at h; omega)
  have w := wT_b t
  generalize hX : (.tup [.int q.a, .int q.b, .int q.c, .int q.d, .int (k : Int)] : D) = X
  obtain ⟨s, h1⟩ := w_loop X (.int t) t 0 0 .none
  have b0 : 0 ≤ backT t ∧ backT t < P := ⟨Int.emod_nonneg _ (by decide), Int.emod_lt_of_pos _ (by decide)⟩
  obtain ⟨s', h2⟩ := worth_loop X (.int t) .non (.int (wT t)) (.int (rootT t)) (.int (backT t)) (backT t) rfl k 0 s (evT t q) (fun i => hd _ b0 i)
  simp only [Nat.zero_add, show wT 0 = 1 from rfl] at h1
  have c1 := hc _ w
  have c2 := hd _ w
  have c3 : ∀ j, cMul j 9223372034707292161 = true := hd _ (by decide)
  have r1 : -4611686018427387904 ≤ (t : Int) ∧ (t : Int) < 4611686018427387904 := by omega
  have r2 : -4611686018427387904 ≤ (k : Int) ∧ (k : Int) < 4611686018427387904 := by omega
  have hP : 0 < P := by decide
  have hP2 : (18446744069414584321 : Int) = P := rfl
  have f1 : wT t - wT t * wT t * wT t % P = rootT t := rfl
  have f2 : rootT t * 9223372034707292161 % P = backT t := rfl
  have f3 : q.a + wT t * (q.b + wT t * (q.c + wT t * q.d)) = evT t q := rfl
  have f4 : itb (backT t) k (evT t q) % P = worth t q k := rfl
  have main : sm_ulaw_worth [.val X, .val (.int t), .none, .none, .none, .none, .none, .none] = some (.ret (.val (.int (worth t q k))), [.val X, .val (.int t), .val (.int P), .val (.int (wT t)), s', .val (.int (rootT t)), .val (.int (itb (backT t) k (evT t q))), .val (.int (backT t))]) := by
    rw [sx_ulaw_worth]
    refine seq_nxt (δ' := [.val X, .val (.int t), .val (.int P), .none, .none, .none, .none, .none]) (by simp [hP2]) ?_
    refine seq_nxt (δ' := [.val X, .val (.int t), .val (.int P), .val (.int 1), .none, .none, .none, .none]) (by simp) ?_
    refine seq_nxt (δ' := [.val X, .val (.int t), .val (.int P), .val (.int (wT t)), s, .none, .none, .none]) (st1 _ _ _ _ _ _ r1 (by simp) h1) ?_
    refine seq_nxt (δ' := [.val X, .val (.int t), .val (.int P), .val (.int (wT t)), s, .val (.int (rootT t)), .none, .none]) (by simp [c1, c2, hP, f1]) ?_
    refine seq_nxt (δ' := [.val X, .val (.int t), .val (.int P), .val (.int (wT t)), s, .val (.int (rootT t)), .val (.int (evT t q)), .none]) (by simp [← hX, c1, f3]) ?_
    refine seq_nxt (δ' := [.val X, .val (.int t), .val (.int P), .val (.int (wT t)), s, .val (.int (rootT t)), .val (.int (evT t q)), .val (.int (backT t))]) (by simp [c3, hP, f2]) ?_
    refine seq_nxt (δ' := [.val X, .val (.int t), .val (.int P), .val (.int (wT t)), s', .val (.int (rootT t)), .val (.int (itb (backT t) k (evT t q))), .val (.int (backT t))]) ?_ ?_
    · subst hX
      exact st2 _ _ _ _ _ _ _ r2 (by simp) h2
    · simp [hP, f4]
  have e : ry true q k = X := hX
  rw [e]
  simp [m_ulaw_worth, runD, main]
end K01
end
section
set_option linter.all false
set_option exponentiation.threshold 5000
namespace K01
open Pd PySem
/-! worths modulo the prime: x and y are alike when the prime divides x - y -/
def Cg (x y : Int) : Prop := ∃ z, x = y + P * z
theorem Cg.mod (x : Int) : Cg (x % P) x := ⟨-(x / P), by have := Int.emod_add_mul_ediv x P; grind⟩
theorem Cg.refl (x : Int) : Cg x x := ⟨0, by simp⟩
theorem Cg.symm {x y : Int} (h : Cg x y) : Cg y x := by
  obtain ⟨z, h⟩ := h
  exact ⟨-z, by grind⟩
theorem Cg.trans {x y z : Int} (h : Cg x y) (h2 : Cg y z) : Cg x z := by
  obtain ⟨u, h⟩ := h
  obtain ⟨v, h2⟩ := h2
  exact ⟨u + v, by grind⟩
theorem Cg.add {x y z w : Int} (h : Cg x y) (h2 : Cg z w) : Cg (x + z) (y + w) := by
  obtain ⟨u, h⟩ := h
  obtain ⟨v, h2⟩ := h2
  exact ⟨u + v, by grind⟩
theorem Cg.mul {x y z w : Int} (h : Cg x y) (h2 : Cg z w) : Cg (x * z) (y * w) := by
  obtain ⟨u, h⟩ := h
  obtain ⟨v, h2⟩ := h2
  exact ⟨u * w + y * v + P * u * v, by subst h h2; grind⟩
theorem Cg.eq {x y : Int} (h : Cg x y) : x % P = y % P := by
  obtain ⟨u, h⟩ := h
  rw [h]
  exact Int.add_mul_emod_self_left _ _ _
theorem Cg.of {x y : Int} (h : x % P = y % P) : Cg x y := (Cg.mod x).symm.trans ((h ▸ Cg.refl _ : Cg (x % P) (y % P)).trans (Cg.mod y))
theorem cg_itb (b : Int) : ∀ (n : Nat) (x : Int), Cg (itb b n x) (x * b ^ n)
  | 0, x => by simp [itb]; exact Cg.refl _
  | n + 1, x => by
    refine (cg_itb b n (x * b % P)).trans ?_
    rw [Int.pow_succ, show x * (b ^ n * b) = (x * b) * b ^ n by grind]
    exact (Cg.mod _).mul (Cg.refl _)
theorem cg_worth (t : Nat) (q : Q4) (k : Nat) : Cg (worth t q k) (evT t q * backT t ^ k) := (Cg.mod _).trans (cg_itb _ _ _)
/-- what the four ways of reading have in common -/
structure Way (w r b : Int) : Prop where
  four : Cg (w * w * w * w) (-1)
  root : Cg r (w - w * w * w)
  unit : Cg (r * b) 1
def ev (w : Int) (q : Q4) : Int := q.a + w * (q.b + w * (q.c + w * q.d))
theorem ev_mul {w r b : Int} (h : Way w r b) (p q : Q4) : Cg (ev w (mul p q)) (ev w p * ev w q) := by
  obtain ⟨z, h4⟩ := h.four
  refine ⟨-z * ((p.b * q.d + p.c * q.c + p.d * q.b) + w * (p.c * q.d + p.d * q.c) + w * w * (p.d * q.d)), ?_⟩
  simp only [ev, mul]
  grind
theorem ev_add (w : Int) (p q : Q4) : ev w (add p q) = ev w p + ev w q := by
  simp only [ev, add]
  grind
theorem ev_rt {w r b : Int} (h : Way w r b) (q : Q4) : Cg (ev w (rt q)) (r * ev w q) := by
  obtain ⟨z, h4⟩ := h.four
  obtain ⟨y, hr⟩ := h.root
  refine ⟨?_, ?_⟩
  · exact z * (q.b - q.d + w * q.c + w * w * q.d) - y * ev w q
  · subst hr
    simp only [ev, rt]
    grind
end K01
end
section
set_option maxRecDepth 100000
set_option linter.all false
set_option exponentiation.threshold 5000
set_option maxHeartbeats 4000000
namespace K01
open Pd PySem
theorem worths_s (X : D) (x1 x3 x5 x7 : Int) (w1 : m_ulaw_worth [X, .int 1] = some (.v (.int x1))) (w3 : m_ulaw_worth [X, .int 3] = some (.v (.int x3))) (w5 : m_ulaw_worth [X, .int 5] = some (.v (.int x5))) (w7 : m_ulaw_worth [X, .int 7] = some (.v (.int x7))) : sm_ulaw_worths [.val X, .none] = some (.ret (.tmp [.int x1, .int x3, .int x5, .int x7]), [.val X, .none]) := by
  unfold sm_ulaw_worths
  simp [lcD, w1, w3, w5, w7]
theorem worths_w (X : D) (x1 x3 x5 x7 : Int) (h : sm_ulaw_worths [.val X, .none] = some (.ret (.tmp [.int x1, .int x3, .int x5, .int x7]), [.val X, .none])) : m_ulaw_worths [X] = some (.l [.int x1, .int x3, .int x5, .int x7]) := by
  simp [m_ulaw_worths, h]
theorem worths_ok (q : Q4) (k : Nat) (hk : k < 1000) : m_ulaw_worths [ry true q k] = some (.l [.int (worth 1 q k), .int (worth 3 q k), .int (worth 5 q k), .int (worth 7 q k)]) :=
  worths_w _ _ _ _ _ (worths_s _ _ _ _ _ (worth_ok q k 1 (by omega) hk) (worth_ok q k 3 (by omega) hk) (worth_ok q k 5 (by omega) hk) (worth_ok q k 7 (by omega) hk))
theorem round_ok (i : Int) : m_ulaw_round [.int i] = some (.v (.int (i % P))) := by
  have hP2 : (18446744069414584321 : Int) = P := rfl
  have hP : 0 < P := by decide
  simp [m_ulaw_round, sm_ulaw_round, runD, hP2, hP]
abbrev l4 (a b c d : Int) : D := .lst [.int a, .int b, .int c, .int d]
theorem stands_s (X : D) (a b c d x y z w : Int) (r1 : m_is_ray [X] = some (.v (.bl true))) (r2 : m_ulaw_is_ray [X] = some (.v (.bl true))) (r3 : m_ulaw_worths [X] = some (.l [.int x, .int y, .int z, .int w]))
    (ra : m_ulaw_round [.int a] = some (.v (.int x))) (rb : m_ulaw_round [.int b] = some (.v (.int y))) (rc : m_ulaw_round [.int c] = some (.v (.int z))) (re : m_ulaw_round [.int d] = some (.v (.int w))) :
    sm_ulaw_stands [.val X, .val (l4 a b c d), .none] = some (.ret (.val (.bl true)), [.val X, .val (l4 a b c d), .none]) := by
  unfold sm_ulaw_stands
  simp [lcD, r1, r2, r3, ra, rb, rc, re]
theorem stands_w (X Y : D) (δ : DEnv) (h : sm_ulaw_stands [.val X, .val Y, .none] = some (.ret (.val (.bl true)), δ)) : m_ulaw_stands [X, Y] = some (.v (.bl true)) := by
  simp [m_ulaw_stands, h]
theorem stands_ok (q : Q4) (k : Nat) (hn : norm q k) (hk : k ≤ 400) (a b c d : Int) (h1 : worth 1 q k = a % P) (h3 : worth 3 q k = b % P) (h5 : worth 5 q k = c % P) (h7 : worth 7 q k = d % P) :
    m_ulaw_stands [ry true q k, l4 a b c d] = some (.v (.bl true)) := by
  have r3 := worths_ok q k (by omega)
  rw [h1, h3, h5, h7] at r3
  exact stands_w _ _ _ (stands_s _ _ _ _ _ _ _ _ _ (is_ray_ok q k hn hk) (law_is_ray_ok q k hn hk) r3 (round_ok a) (round_ok b) (round_ok c) (round_ok d))
end K01
end
section
set_option linter.all false
set_option exponentiation.threshold 5000
set_option maxRecDepth 100000
namespace K01
open Pd PySem
theorem way1 : Way (wT 1) (rootT 1) (backT 1) := ⟨⟨(wT 1 * wT 1 * wT 1 * wT 1 + 1) / P, by decide +kernel⟩, ⟨(rootT 1 - (wT 1 - wT 1 * wT 1 * wT 1)) / P, by decide +kernel⟩, ⟨(rootT 1 * backT 1 - 1) / P, by decide +kernel⟩⟩
theorem way3 : Way (wT 3) (rootT 3) (backT 3) := ⟨⟨(wT 3 * wT 3 * wT 3 * wT 3 + 1) / P, by decide +kernel⟩, ⟨(rootT 3 - (wT 3 - wT 3 * wT 3 * wT 3)) / P, by decide +kernel⟩, ⟨(rootT 3 * backT 3 - 1) / P, by decide +kernel⟩⟩
theorem way5 : Way (wT 5) (rootT 5) (backT 5) := ⟨⟨(wT 5 * wT 5 * wT 5 * wT 5 + 1) / P, by decide +kernel⟩, ⟨(rootT 5 - (wT 5 - wT 5 * wT 5 * wT 5)) / P, by decide +kernel⟩, ⟨(rootT 5 * backT 5 - 1) / P, by decide +kernel⟩⟩
theorem way7 : Way (wT 7) (rootT 7) (backT 7) := ⟨⟨(wT 7 * wT 7 * wT 7 * wT 7 + 1) / P, by decide +kernel⟩, ⟨(rootT 7 - (wT 7 - wT 7 * wT 7 * wT 7)) / P, by decide +kernel⟩, ⟨(rootT 7 * backT 7 - 1) / P, by decide +kernel⟩⟩
/-- the value of a pair at one of the four ways -/
def vl (w b : Int) (q : Q4) (k : Nat) : Int := ev w q * b ^ k
theorem worth_vl (t : Nat) (q : Q4) (k : Nat) : worth t q k = vl (wT t) (backT t) q k % P := by
  have h := (cg_worth t q k).eq
  have : worth t q k % P = worth t q k := Int.emod_emod_of_dvd _ (Int.dvd_refl _)
  rw [← this, h]
  rfl
theorem vl_rtI {w r b : Int} (h : Way w r b) : ∀ (n : Nat) (q : Q4) (k : Nat), Cg (vl w b (rtI n q) (k + n)) (vl w b q k)
  | 0, q, k => Cg.refl _
  | n + 1, q, k => by
    have ih := vl_rtI h n (rt q) (k + 1)
    rw [show k + (n + 1) = k + 1 + n by omega]
    refine ih.trans ?_
    unfold vl
    rw [Int.pow_succ]
    have a := (ev_rt h q).mul (Cg.refl (b ^ k * b))
    refine a.trans ?_
    have c := h.unit.mul (Cg.refl (ev w q * b ^ k))
    rw [show r * ev w q * (b ^ k * b) = r * b * (ev w q * b ^ k) by grind]
    rw [show ev w q * b ^ k = 1 * (ev w q * b ^ k) by grind]
    rw [show r * b * (1 * (ev w q * b ^ k)) = r * b * (ev w q * b ^ k) by grind]
    exact c
theorem vl_red {w r b : Int} (h : Way w r b) (q : Q4) (k : Nat) : Cg (vl w b (red k q).1 (red k q).2) (vl w b q k) := by
  obtain ⟨h1, h2⟩ := red_back k q
  have := vl_rtI h (k - (red k q).2) (red k q).1 (red k q).2
  rw [h2, show (red k q).2 + (k - (red k q).2) = k by omega] at this
  exact this.symm
theorem vl_mul {w r b : Int} (h : Way w r b) (p q : Q4) (k l : Nat) : Cg (vl w b (mul p q) (k + l)) (vl w b p k * vl w b q l) := by
  unfold vl
  rw [Int.pow_add]
  have a := (ev_mul h p q).mul (Cg.refl (b ^ k * b ^ l))
  rw [show ev w p * b ^ k * (ev w q * b ^ l) = ev w p * ev w q * (b ^ k * b ^ l) by grind]
  exact a
theorem vl_sum {w r b : Int} (h : Way w r b) (p q : Q4) (k l : Nat) : Cg (vl w b (sumOf p k q l) (max k l)) (vl w b p k + vl w b q l) := by
  have h1 := vl_rtI h (max k l - k) p k
  have h2 := vl_rtI h (max k l - l) q l
  rw [show k + (max k l - k) = max k l by omega] at h1
  rw [show l + (max k l - l) = max k l by omega] at h2
  have e : vl w b (sumOf p k q l) (max k l) = vl w b (rtI (max k l - k) p) (max k l) + vl w b (rtI (max k l - l) q) (max k l) := by
    unfold sumOf vl
    rw [ev_add]
    grind
  rw [e]
  exact h1.add h2
end K01
end
section
set_option maxRecDepth 100000
set_option linter.all false
set_option exponentiation.threshold 5000
set_option maxHeartbeats 4000000
namespace K01
open Pd PySem
def smE : EM := eFn m_ulaw_same (aCons (eVar 2) (aOne (eVar 3)))
def same_e (m : List D → Option OR) : EM := eFn m (aCons (eVar 2) (aOne (eVar 3)))
abbrev same_g : GM := gU 2 (gsCons (gN 2) (gsCons (gN 3) gsNil))
theorem same_loop (m : List D → Option OR) (X Y : D) : ∀ (l acc : List D), (∀ d ∈ l, m [d, d] = some (.v (.bl true))) → acc.length + l.length ≤ 100000 →
    lcD same_g mYes (same_e m) [2, 3] (zipD l l) [.val X, .val Y, .none, .none] acc = some (.tmp (acc ++ l.map fun _ => D.bl true), [.val X, .val Y, .none, .none])
  | [], acc, _, _ => by simp [zipD, lcD]
  | d :: l, acc, h, hl => by
    have h1 := h d (by simp)
    have ih := same_loop m X Y l (acc ++ [.bl true]) (fun x hx => h x (by simp [hx])) (by simp at hl ⊢; omega)
    have hl2 : acc.length < 100000 := by simp at hl; omega
    simp at ih
    simp [zipD, lcD, same_e, h1, hl2]
    simpa [same_e] using ih
theorem bls_true : ∀ l : List D, blsOf (l.map fun _ => D.bl true) = some (l.map fun _ => true)
  | [] => rfl
  | d :: l => by simp [blsOf, bls_true l]
theorem same_lst (n : Nat) (l : List D) (h : ∀ d ∈ l, mr_ulaw_same n [d, d] = some (.v (.bl true))) (hl : l.length ≤ 100000) : mr_ulaw_same (n + 1) [.lst l, .lst l] = some (.v (.bl true)) := by
  have a := same_loop (mr_ulaw_same n) (.lst l) (.lst l) l [] h (by simpa using hl)
  unfold same_e at a
  have b := bls_true l
  simp [mr_ulaw_same, sm_ulaw_same, a, b]
theorem same_tup (n : Nat) (l : List D) (h : ∀ d ∈ l, mr_ulaw_same n [d, d] = some (.v (.bl true))) (hl : l.length ≤ 100000) : mr_ulaw_same (n + 1) [.tup l, .tup l] = some (.v (.bl true)) := by
  have a := same_loop (mr_ulaw_same n) (.tup l) (.tup l) l [] h (by simpa using hl)
  unfold same_e at a
  have b := bls_true l
  simp [mr_ulaw_same, sm_ulaw_same, a, b]
theorem same_int (n : Nat) (i : Int) : mr_ulaw_same (n + 1) [.int i, .int i] = some (.v (.bl true)) := by
  simp [mr_ulaw_same, sm_ulaw_same]
theorem same_bl (n : Nat) (i : Bool) : mr_ulaw_same (n + 1) [.bl i, .bl i] = some (.v (.bl true)) := by
  simp [mr_ulaw_same, sm_ulaw_same]
theorem same_non (n : Nat) : mr_ulaw_same (n + 1) [.non, .non] = some (.v (.bl true)) := rfl
theorem same_ry (n : Nat) (q : Q4) (k : Nat) : mr_ulaw_same (n + 2) [ry true q k, ry true q k] = some (.v (.bl true)) := by
  refine same_tup (n + 1) _ ?_ (by simp)
  intro d hd
  simp at hd
  rcases hd with rfl | rfl | rfl | rfl | rfl <;> exact same_int n _
end K01
end
section
set_option maxRecDepth 100000
set_option linter.all false
set_option exponentiation.threshold 5000
set_option maxHeartbeats 4000000
namespace K01
open Pd PySem
abbrev zry : D := .tup [.int 0, .int 0, .int 0, .int 0, .int 0]
theorem sums_s (la lb : List D) (C S T A4 U V W : D) (x1 x3 x5 x7 y1 y3 y5 y7 : Int)
    (n1 : m_ulaw_worths [.tup la] = some (.l [.int x1, .int x3, .int x5, .int x7])) (n2 : m_ulaw_worths [.tup lb] = some (.l [.int y1, .int y3, .int y5, .int y7]))
    (c1 : ∀ j, cMul x1 j = true) (c3 : ∀ j, cMul x3 j = true) (c5 : ∀ j, cMul x5 j = true) (c7 : ∀ j, cMul x7 j = true)
    (s : m_ray_sum [.tup la, .tup lb] = some (.v S)) (t : m_ray_product [.tup la, .tup lb] = some (.v T))
    (stS : m_ulaw_stands [S, l4 (x1 + y1) (x3 + y3) (x5 + y5) (x7 + y7)] = some (.v (.bl true)))
    (stT : m_ulaw_stands [T, l4 (x1 * y1) (x3 * y3) (x5 * y5) (x7 * y7)] = some (.v (.bl true)))
    (s' : m_ray_sum [.lst lb, .lst la] = some (.v S)) (t' : m_ray_product [.lst lb, .lst la] = some (.v T))
    (tu : m_turned_ray [.tup la, .int 4] = some (.v A4)) (z : m_ray_sum [.tup la, A4] = some (.v zry))
    (pr : m_ray_product [S, C] = some (.v U)) (ac : m_ray_product [.tup la, C] = some (.v V)) (bc : m_ray_product [.tup lb, C] = some (.v W)) (su : m_ray_sum [V, W] = some (.v U))
    (same : m_ulaw_same [.lst [S, T, zry, U], .lst [S, T, zry, U]] = some (.v (.bl true))) :
    ∃ δ, sm_ulaw_sums_right [.val (.tup la), .val (.tup lb), .val C, .none, .none, .none, .none, .none, .none, .none, .none] = some (.ret (.val (.bl true)), δ) := by
  refine ⟨?_, ?_⟩
  rotate_left
  · unfold sm_ulaw_sums_right
    refine seq_nxt (δ' := [.val (.tup la), .val (.tup lb), .val C, .val (l4 x1 x3 x5 x7), .val (l4 y1 y3 y5 y7), .none, .none, .none, .none, .none, .none]) (by simp [n1, n2]) ?_
    refine seq_nxt (δ' := [.val (.tup la), .val (.tup lb), .val C, .val (l4 x1 x3 x5 x7), .val (l4 y1 y3 y5 y7), .val S, .val T, .none, .none, .none, .none]) (by simp [s, t]) ?_
    refine seq_nxt (δ' := [.val (.tup la), .val (.tup lb), .val C, .val (l4 x1 x3 x5 x7), .val (l4 y1 y3 y5 y7), .val S, .val T, .none, .none, .none, .none]) (by simp [lcD, stS, stT, c1, c3, c5, c7]) ?_
    refine seq_nxt (δ' := [.val (.tup la), .val (.tup lb), .val C, .val (l4 x1 x3 x5 x7), .val (l4 y1 y3 y5 y7), .val S, .val T, .own false [S, T, zry], .none, .none, .none]) (by simp [s', t', tu, z]) ?_
    refine seq_nxt (δ' := [.val (.tup la), .val (.tup lb), .val C, .val (l4 x1 x3 x5 x7), .val (l4 y1 y3 y5 y7), .val S, .val T, .own false [S, T, zry, U], .none, .none, .none]) (by simp [pr]) ?_
    refine seq_nxt (δ' := [.val (.tup la), .val (.tup lb), .val C, .val (l4 x1 x3 x5 x7), .val (l4 y1 y3 y5 y7), .val S, .val T, .own false [S, T, zry, U], .own false [S, T, zry, U], .none, .none]) (by simp [ac, bc, su]) ?_
    simp [same]
    rfl
theorem sums_w (A B C : D) (δ : DEnv) (h : sm_ulaw_sums_right [.val A, .val B, .val C, .none, .none, .none, .none, .none, .none, .none, .none] = some (.ret (.val (.bl true)), δ)) : m_ulaw_sums_right [A, B, C] = some (.v (.bl true)) := by
  simp [m_ulaw_sums_right, h]
end K01
end
section
set_option maxRecDepth 100000
set_option linter.all false
set_option exponentiation.threshold 5000
set_option maxHeartbeats 4000000
namespace K01
open Pd PySem
theorem Eqv.rfl' (q : Q4) (k : Nat) : Eqv q k q k := Eq.refl _
theorem bd_half {n : Nat} {q : Q4} (h : bd n q) : bd n (half q) := by
  obtain ⟨h1, h2, h3, h4⟩ := h
  refine ⟨?_, ?_, ?_, ?_⟩ <;> simp only [half] <;> omega
theorem bd_red {n : Nat} : ∀ (k : Nat) {q : Q4}, bd n q → bd n (red k q).1
  | 0, q, h => h
  | k + 1, q, h => by
    unfold red
    by_cases z : rd2 q = true
    · rw [if_pos z]; exact bd_red k (bd_half h)
    · rw [if_neg z]; exact h
theorem bd_rtI : ∀ (j : Nat) {n : Nat} {q : Q4}, bd n q → bd (2 ^ j * n) (rtI j q)
  | 0, n, q, h => by simpa [rtI] using h
  | j + 1, n, q, h => by
    have : bd (2 * n) (rt q) := by
      obtain ⟨h1, h2, h3, h4⟩ := h
      refine ⟨?_, ?_, ?_, ?_⟩ <;> simp only [rt] <;> omega
    have := bd_rtI j this
    rw [Nat.pow_succ, Nat.mul_assoc]
    exact this
theorem bd_le {m n : Nat} {q : Q4} (h : bd m q) (hm : m ≤ n) : bd n q := ⟨Nat.le_trans h.1 hm, Nat.le_trans h.2.1 hm, Nat.le_trans h.2.2.1 hm, Nat.le_trans h.2.2.2 hm⟩
theorem bd_add {m n : Nat} {p q : Q4} (h : bd m p) (h2 : bd n q) : bd (m + n) (add p q) := by
  obtain ⟨a1, a2, a3, a4⟩ := h
  obtain ⟨b1, b2, b3, b4⟩ := h2
  refine ⟨?_, ?_, ?_, ?_⟩ <;> simp only [add] <;> omega
theorem bd_pr {m n : Nat} {x y : Int} (h : x.natAbs ≤ m) (h2 : y.natAbs ≤ n) : (x * y).natAbs ≤ m * n := by
  rw [Int.natAbs_mul]
  exact Nat.mul_le_mul h h2
theorem n4 {x y z w : Int} {N : Nat} (h1 : x.natAbs ≤ N) (h2 : y.natAbs ≤ N) (h3 : z.natAbs ≤ N) (h4 : w.natAbs ≤ N) : (x + y + z + w).natAbs ≤ 4 * N := by
  have e1 := Int.natAbs_add_le (x + y + z) w
  have e2 := Int.natAbs_add_le (x + y) z
  have e3 := Int.natAbs_add_le x y
  omega
theorem nn {x : Int} {N : Nat} (h : x.natAbs ≤ N) : (-x).natAbs ≤ N := by rw [Int.natAbs_neg]; exact h
theorem bd_mulq {m n : Nat} {p q : Q4} (h : bd m p) (h2 : bd n q) : bd (4 * (m * n)) (mul p q) := by
  obtain ⟨a1, a2, a3, a4⟩ := h
  obtain ⟨b1, b2, b3, b4⟩ := h2
  refine ⟨?_, ?_, ?_, ?_⟩
  · have := n4 (bd_pr a1 b1) (nn (bd_pr a2 b4)) (nn (bd_pr a3 b3)) (nn (bd_pr a4 b2))
    simpa only [mul, Int.sub_eq_add_neg] using this
  · have := n4 (bd_pr a1 b2) (bd_pr a2 b1) (nn (bd_pr a3 b4)) (nn (bd_pr a4 b3))
    simpa only [mul, Int.sub_eq_add_neg] using this
  · have := n4 (bd_pr a1 b3) (bd_pr a2 b2) (bd_pr a3 b1) (nn (bd_pr a4 b4))
    simpa only [mul, Int.sub_eq_add_neg] using this
  · exact n4 (bd_pr a1 b4) (bd_pr a2 b3) (bd_pr a3 b2) (bd_pr a4 b1)
theorem bd_sumOf {p q : Q4} {k l n : Nat} (h : bd n p) (h2 : bd n q) : bd (2 ^ (max k l) * n + 2 ^ (max k l) * n) (sumOf p k q l) := by
  refine bd_add ?_ ?_
  · exact bd_le (bd_rtI _ h) (Nat.mul_le_mul_right _ (Nat.pow_le_pow_right (by decide) (by omega)))
  · exact bd_le (bd_rtI _ h2) (Nat.mul_le_mul_right _ (Nat.pow_le_pow_right (by decide) (by omega)))
theorem worth_b (t : Nat) (q : Q4) (k : Nat) : (worth t q k).natAbs < 2 ^ 64 := by
  have h1 : 0 ≤ worth t q k := Int.emod_nonneg _ (by decide)
  have h2 : worth t q k < P := Int.emod_lt_of_pos _ (by decide)
  unfold P at h2
  omega
theorem worth_mod (t : Nat) (q : Q4) (k : Nat) : worth t q k % P = worth t q k := Int.emod_emod_of_dvd _ (Int.dvd_refl _)
theorem worth_cg (t : Nat) (q : Q4) (k : Nat) : Cg (worth t q k) (vl (wT t) (backT t) q k) := cg_worth t q k
theorem worth_sum {t : Nat} (h : Way (wT t) (rootT t) (backT t)) (p q : Q4) (k l : Nat) :
    worth t (red (max k l) (sumOf p k q l)).1 (red (max k l) (sumOf p k q l)).2 = (worth t p k + worth t q l) % P := by
  rw [← worth_mod]
  exact Cg.eq ((worth_cg _ _ _).trans ((vl_red h _ _).trans ((vl_sum h p q k l).trans ((worth_cg t p k).symm.add (worth_cg t q l).symm))))
theorem worth_mul {t : Nat} (h : Way (wT t) (rootT t) (backT t)) (p q : Q4) (k l : Nat) :
    worth t (red (k + l) (mul p q)).1 (red (k + l) (mul p q)).2 = (worth t p k * worth t q l) % P := by
  rw [← worth_mod]
  exact Cg.eq ((worth_cg _ _ _).trans ((vl_red h _ _).trans ((vl_mul h p q k l).trans ((worth_cg t p k).symm.mul (worth_cg t q l).symm))))
theorem sum_neg (p : Q4) (k : Nat) : red (max k k) (sumOf p k (trnI 4 p) k) = (⟨0, 0, 0, 0⟩, 0) := by
  have : sumOf p k (trnI 4 p) k = ⟨0, 0, 0, 0⟩ := by
    unfold sumOf
    rw [Nat.max_self, Nat.sub_self]
    simp only [rtI, trnI, trn, add, Q4.mk.injEq]
    omega
  rw [this, red_zero]
theorem spread (p q r : Q4) (k l m : Nat) :
    red ((red (max k l) (sumOf p k q l)).2 + m) (mul (red (max k l) (sumOf p k q l)).1 r)
    = red (max (red (k + m) (mul p r)).2 (red (l + m) (mul q r)).2) (sumOf (red (k + m) (mul p r)).1 (red (k + m) (mul p r)).2 (red (l + m) (mul q r)).1 (red (l + m) (mul q r)).2) := by
  have h1 := red_of ((red_eqv (max k l) (sumOf p k q l)).mul (Eqv.rfl' r m))
  have h2 := red_of (sumOf_mul p q r k l m)
  have h3 := red_of (sum_eqv (red_eqv (k + m) (mul p r)) (red_eqv (l + m) (mul q r)))
  exact h1.trans (h2.trans h3.symm)
theorem sums_ok (p q r : Q4) (k l m : Nat) (hk : k ≤ 10) (hl : l ≤ 10) (hm : m ≤ 10) (h1 : bd 7 p) (h2 : bd 7 q) (h3 : bd 7 r) :
    m_ulaw_sums_right [ry true p k, ry true q l, ry true r m] = some (.v (.bl true)) := by
  have hb := bd_red (max k l) (bd_sumOf (k := k) (l := l) h1 h2)
  have hp : 2 ^ (max k l) ≤ 2 ^ 10 := Nat.pow_le_pow_right (by decide) (by omega)
  have hv := bd_red (k + m) (bd_mulq h1 h3)
  have hw := bd_red (l + m) (bd_mulq h2 h3)
  have kv := (red_back (k + m) (mul p r)).1
  have kw := (red_back (l + m) (mul q r)).1
  have ks := (red_back (max k l) (sumOf p k q l)).1
  have kt := (red_back (k + l) (mul p q)).1
  have s := rays_added_ok true p q k l (by omega) (by omega) (smQ_of h1 (by decide)) (smQ_of h2 (by decide))
  have t := product_ok true p q k l (by omega) h1 (by decide)
  have s' := rays_added_ok false q p l k (by omega) (by omega) (smQ_of h2 (by decide)) (smQ_of h1 (by decide))
  have t' := product_ok false q p l k (by omega) h2 (by decide)
  rw [Nat.max_comm l k, ← sum_comm' p q k l] at s'
  rw [Nat.add_comm l k, mul_comm q p] at t'
  have tu := turned_ok true p k 4
  have z := rays_added_ok true p (trnI 4 p) k k (by omega) (by omega) (smQ_of h1 (by decide)) (smQ_of (n := 7) (by
    obtain ⟨a1, a2, a3, a4⟩ := h1
    refine ⟨?_, ?_, ?_, ?_⟩ <;> simp only [trnI, trn] <;> omega) (by decide))
  rw [sum_neg p k] at z
  have pr := product_ok true (red (max k l) (sumOf p k q l)).1 r (red (max k l) (sumOf p k q l)).2 m (by omega) hb (by omega)
  have ac := product_ok true p r k m (by omega) h1 (by decide)
  have bc := product_ok true q r l m (by omega) h2 (by decide)
  have su := rays_added_ok true (red (k + m) (mul p r)).1 (red (l + m) (mul q r)).1 (red (k + m) (mul p r)).2 (red (l + m) (mul q r)).2 (by omega) (by omega) (smQ_of hv (by decide)) (smQ_of hw (by decide))
  rw [← spread] at su
  have stS := stands_ok _ _ (norm_red (max k l) (sumOf p k q l)) (by omega) _ _ _ _ (worth_sum way1 p q k l) (worth_sum way3 p q k l) (worth_sum way5 p q k l) (worth_sum way7 p q k l)
  have stT := stands_ok _ _ (norm_red (k + l) (mul p q)) (by omega) _ _ _ _ (worth_mul way1 p q k l) (worth_mul way3 p q k l) (worth_mul way5 p q k l) (worth_mul way7 p q k l)
  obtain ⟨δ, hh⟩ := sums_s _ _ _ _ _ _ _ _ _ _ _ _ _ _ _ _ _ (worths_ok p k (by omega)) (worths_ok q l (by omega))
    (fun j => cMul_of (worth_b _ _ _)) (fun j => cMul_of (worth_b _ _ _)) (fun j => cMul_of (worth_b _ _ _)) (fun j => cMul_of (worth_b _ _ _))
    s t stS stT s' t' tu z pr ac bc su (same_lst 7 _ (by
      intro d hd
      simp only [List.mem_cons, List.not_mem_nil, or_false] at hd
      rcases hd with rfl | rfl | rfl | rfl
      · exact same_ry 5 _ _
      · exact same_ry 5 _ _
      · exact same_ry 5 ⟨0, 0, 0, 0⟩ 0
      · exact same_ry 5 _ _) (by simp))
  exact sums_w _ _ _ _ hh
end K01
end
section
set_option maxRecDepth 100000
set_option linter.all false
set_option exponentiation.threshold 5000
set_option maxHeartbeats 4000000
namespace K01
open Pd PySem
theorem mirrors_s (la : List D) (B M T Z R Q N : D) (x1 x3 x5 x7 g : Int) (re ze : Bool)
    (n1 : m_ulaw_worths [.tup la] = some (.l [.int x1, .int x3, .int x5, .int x7]))
    (c1 : ∀ j, cMul x1 j = true) (c3 : ∀ j, cMul x3 j = true) (c5 : ∀ j, cMul x5 j = true) (c7 : ∀ j, cMul x7 j = true)
    (mi : m_mirrored [.tup la] = some (.v M)) (tw : m_twin_of [.tup la] = some (.v T)) (sz : m_size_of [.tup la] = some (.v Z))
    (s1 : m_ulaw_stands [M, l4 x7 x5 x3 x1] = some (.v (.bl true)))
    (s2 : m_ulaw_stands [T, l4 x5 x7 x1 x3] = some (.v (.bl true)))
    (s3 : m_ulaw_stands [Z, l4 (x1 * x7) (x3 * x5) (x5 * x3) (x7 * x1)] = some (.v (.bl true)))
    (g1 : m_mirrored [M] = some (.v (.tup la))) (g2 : m_twin_of [T] = some (.v (.tup la))) (g3 : m_twin_of [M] = some (.v R))
    (g4 : m_ray_product [.tup la, B] = some (.v Q)) (g5 : m_size_of [Q] = some (.v N)) (g6 : m_is_real [Z] = some (.v (.bl true))) (g7 : m_is_real [.tup la] = some (.v (.bl re)))
    (g8 : m_mirrored [.lst la] = some (.v M)) (d3 : m_mirrored [T] = some (.v R)) (Y : D) (d4 : m_size_of [B] = some (.v Y)) (d5 : m_ray_product [Z, Y] = some (.v N))
    (he : eqD (l4 x1 x3 x5 x7) (l4 x7 x5 x3 x1) = re)
    (sg : m_sign_of [Z] = some (.v (.int g))) (hg : g = 0 ∨ g = 1) (hs : shp (.tup la) = true) (hz : eqD (.tup la) zry = (g == 0))
    (same : m_ulaw_same [.lst [.tup la, .tup la, R, N, .bl true, .bl re, M], .lst [.tup la, .tup la, R, N, .bl true, .bl re, M]] = some (.v (.bl true))) :
    ∃ δ, sm_ulaw_mirrors_right [.val (.tup la), .val B, .none, .none, .none, .none, .none, .none, .none, .none] = some (.ret (.val (.bl true)), δ) := by
  have f0 : m_ulaw_same [.bl false, .bl false] = some (.v (.bl true)) := same_bl 7 false
  have f1 : m_ulaw_same [.bl true, .bl true] = some (.v (.bl true)) := same_bl 7 true
  refine ⟨?_, ?_⟩
  rotate_left
  · unfold sm_ulaw_mirrors_right
    refine seq_nxt (δ' := [.val (.tup la), .val B, .own false [.int x1, .int x3, .int x5, .int x7], .none, .none, .none, .none, .none, .none, .none]) (by simp [n1]) ?_
    refine seq_nxt (δ' := [.val (.tup la), .val B, .own false [.int x1, .int x3, .int x5, .int x7], .val M, .val T, .val Z, .none, .none, .none, .none]) (by simp [mi, tw, sz]) ?_
    refine seq_nxt (δ' := [.val (.tup la), .val B, .own false [.int x1, .int x3, .int x5, .int x7], .val M, .val T, .val Z, .none, .none, .none, .none]) (by simp [s1, s2]) ?_
    refine seq_nxt (δ' := [.val (.tup la), .val B, .val (l4 x1 x3 x5 x7), .val M, .val T, .val Z, .none, .none, .none, .none]) (by simp [lcD, s3, c1, c3, c5, c7]) ?_
    refine seq_nxt (δ' := [.val (.tup la), .val B, .val (l4 x1 x3 x5 x7), .val M, .val T, .val Z, .own false [.tup la, .tup la, R, N, .bl true, .bl re], .none, .none, .none]) (by simp [g1, g2, g3, g4, g5, g6, g7]) ?_
    refine seq_nxt (δ' := [.val (.tup la), .val B, .val (l4 x1 x3 x5 x7), .val M, .val T, .val Z, .own false [.tup la, .tup la, R, N, .bl true, .bl re, M], .none, .none, .none]) (by simp [g8]) ?_
    refine seq_nxt (δ' := [.val (.tup la), .val B, .val (l4 x1 x3 x5 x7), .val M, .val T, .val Z, .own false [.tup la, .tup la, R, N, .bl true, .bl re, M], .own false [.tup la, .tup la, R, N, .bl true, .bl re, M], .none, .none]) (by simp [-eqD_l4, d3, d4, d5, he]) ?_
    rcases hg with rfl | rfl
    · simp [same, sg, hs, hz, f1]
      rfl
    · simp [same, sg, hs, hz, f0]
      rfl
theorem mirrors_w (A B : D) (δ : DEnv) (h : sm_ulaw_mirrors_right [.val A, .val B, .none, .none, .none, .none, .none, .none, .none, .none] = some (.ret (.val (.bl true)), δ)) : m_ulaw_mirrors_right [A, B] = some (.v (.bl true)) := by
  simp [m_ulaw_mirrors_right, h]
end K01
end
section
set_option maxRecDepth 100000
set_option linter.all false
set_option exponentiation.threshold 5000
set_option maxHeartbeats 4000000
namespace K01
open Pd PySem
theorem signs_s (la : List D) (M O F : D) (a b c d k : Int) (due fa : Int)
    (mi : m_mirrored [.tup la] = some (.v M)) (su : m_ray_sum [.tup la, M] = some (.v (.tup [.int a, .int b, .int c, .int d, .int k])))
    (ca : ∀ j, cMul a j = true) (cb : ∀ j, cMul b j = true) (hf : a * 1000000000000000000000000000000 + b * 1414213562373095048801688724209 = fa)
    (hd : (if (a == 0 && (b == 0 && (c == 0 && (d == 0 && k == 0)))) = true then 0 else if 0 < fa then 1 else -1) = due)
    (g1 : m_sign_of [.tup [.int a, .int b, .int c, .int d, .int k]] = some (.v (.int due))) (g2 : m_sign_of [.lst [.int a, .int b, .int c, .int d, .int k]] = some (.v (.int due)))
    (tu : m_turned_ray [.tup [.int a, .int b, .int c, .int d, .int k], .int 4] = some (.v F)) (g3 : m_sign_of [F] = some (.v (.int (-due))))
    (ov : m_over_root [.tup [.int a, .int b, .int c, .int d, .int k], .int 3] = some (.v O)) (g4 : m_sign_of [O] = some (.v (.int due)))
    (g5 : m_is_real [.tup [.int a, .int b, .int c, .int d, .int k]] = some (.v (.bl true))) :
    ∃ δ, sm_ulaw_signs_right [.val (.tup la), .none, .none, .none, .none] = some (.ret (.val (.bl true)), δ) := by
  have same : m_ulaw_same [.lst [.int due, .int due, .int (-due), .int due, .bl true], .lst [.int due, .int due, .int (-due), .int due, .bl true]] = some (.v (.bl true)) := same_lst 7 _ (by
    intro x hx
    simp only [List.mem_cons, List.not_mem_nil, or_false] at hx
    rcases hx with rfl | rfl | rfl | rfl | rfl
    · exact same_int 6 _
    · exact same_int 6 _
    · exact same_int 6 _
    · exact same_int 6 _
    · exact same_bl 6 _) (by simp)
  refine ⟨?_, ?_⟩
  rotate_left
  · unfold sm_ulaw_signs_right
    refine seq_nxt (δ' := [.val (.tup la), .val (.tup [.int a, .int b, .int c, .int d, .int k]), .none, .none, .none]) (by simp [mi, su]) ?_
    refine seq_nxt (δ' := [.val (.tup la), .val (.tup [.int a, .int b, .int c, .int d, .int k]), .val (.int fa), .none, .none]) (by simp [ca, cb, hf]) ?_
    refine seq_nxt (δ' := [.val (.tup la), .val (.tup [.int a, .int b, .int c, .int d, .int k]), .val (.int fa), .val (.int due), .none]) ?_ ?_
    · subst hd
      cases z : (a == 0 && (b == 0 && (c == 0 && (d == 0 && k == 0)))) <;> by_cases z2 : 0 < fa <;> simp [z, z2]
    refine seq_nxt (δ' := [.val (.tup la), .val (.tup [.int a, .int b, .int c, .int d, .int k]), .val (.int fa), .val (.int due), .own false [.int due, .int due, .int (-due), .int due, .bl true]]) (by simp [g1, g2, tu, g3, ov, g4, g5]) ?_
    simp [same]
    rfl
theorem signs_w (A : D) (δ : DEnv) (h : sm_ulaw_signs_right [.val A, .none, .none, .none, .none] = some (.ret (.val (.bl true)), δ)) : m_ulaw_signs_right [A] = some (.v (.bl true)) := by
  simp [m_ulaw_signs_right, h]
end K01
end
section
set_option maxRecDepth 100000
set_option linter.all false
set_option exponentiation.threshold 5000
set_option maxHeartbeats 4000000
namespace K01
open Pd PySem
theorem rests_loop (a b c d : Sl) : ∀ (n : Nat) (lo : Int) (s : Sl) (q : Q4), ∃ s', forD (gN 8) ulaw_rests_right_b1 (rangeD lo n) [a, b, c, d, .val (.int q.a), .val (.int q.b), .val (.int q.c), .val (.int q.d), s, .none] = some (.nxt, [a, b, c, d, .val (.int (rtI n q).a), .val (.int (rtI n q).b), .val (.int (rtI n q).c), .val (.int (rtI n q).d), s', .none])
  | 0, lo, s, q => ⟨s, rfl⟩
  | n + 1, lo, s, q => by
    obtain ⟨s', ih⟩ := rests_loop a b c d n (lo + 1) (.val (.int lo)) (rt q)
    refine ⟨s', ?_⟩
    rw [← show rtI n (rt q) = rtI (n + 1) q from rfl, ← ih]
    simp [forD, ulaw_rests_right_b1, rt]
theorem st3 (X : Sl) (T : Int) (l : List Sl) (δ' : DEnv) {n : Nat} {b : SM} (h : -4611686018427387904 ≤ T ∧ T < 4611686018427387904) (hn : T.toNat = n) (h1 : forD (gN 8) b (rangeD 0 n) (X :: .val (.int T) :: l) = some (.nxt, δ')) :
    sFor (iR1 (aOne (eVar 1))) (gN 8) b (X :: .val (.int T) :: l) = some (.nxt, δ') := by
  subst hn
  simp [h, h1]
theorem rests_s (a b c d k m w0 w1 w2 w3 k2 : Int) (q : Q4) (n : Nat) (hm : m.toNat = n) (hr : -4611686018427387904 ≤ m ∧ m < 4611686018427387904) (km : Int) (hk : k + m = km) (ha : q = ⟨a, b, c, d⟩)
    (r1 : m_rest_of [.tup [.int a, .int b, .int c, .int d, .int k], .int km] = some (.v (.tup [.int (((rtI n q).a + (rtI n q).c) % 2), .int (((rtI n q).b + (rtI n q).d) % 2)])))
    (r2 : m_rest_of [.lst [.int a, .int b, .int c, .int d, .int k], .int km] = some (.v (.tup [.int (((rtI n q).a + (rtI n q).c) % 2), .int (((rtI n q).b + (rtI n q).d) % 2)])))
    (sh : m_ulaw_short [.tup [.int (rtI n q).a, .int (rtI n q).b, .int (rtI n q).c, .int (rtI n q).d], .int 1] = some (.v (.tup [.int w0, .int w1, .int w2, .int w3, .int k2])))
    (hz : (((rtI n q).a + (rtI n q).c) % 2 == 0 && ((rtI n q).b + (rtI n q).d) % 2 == 0) = (k2 == 0)) :
    ∃ δ, sm_ulaw_rests_right [.val (.tup [.int a, .int b, .int c, .int d, .int k]), .val (.int m), .none, .none, .none, .none, .none, .none, .none, .none] = some (.ret (.val (.bl true)), δ) := by
  obtain ⟨s', hl⟩ := rests_loop (.val (.tup [.int a, .int b, .int c, .int d, .int k])) (.val (.int m)) (.val (.int km)) (.val (.tup [.int (((rtI n q).a + (rtI n q).c) % 2), .int (((rtI n q).b + (rtI n q).d) % 2)])) n 0 .none q
  generalize rtI n q = z at *
  subst ha
  generalize hx : (z.a + z.c) % 2 = x at *
  generalize hy : (z.b + z.d) % 2 = y at *
  have same : m_ulaw_same [.lst [.tup [.int x, .int y], .tup [.int x, .int y]], .lst [.tup [.int x, .int y], .tup [.int x, .int y]]] = some (.v (.bl true)) := same_lst 7 _ (by
    intro e he
    simp at he
    subst he
    exact same_tup 6 _ (by
      intro e he
      simp at he
      rcases he with rfl | rfl <;> exact same_int 5 _) (by simp)) (by simp)
  have same2 : ∀ b, m_ulaw_same [.bl b, .bl b] = some (.v (.bl true)) := same_bl 7
  refine ⟨?_, ?_⟩
  rotate_left
  · rw [sx_ulaw_rests_right]
    refine seq_nxt (δ' := [.val (.tup [.int a, .int b, .int c, .int d, .int k]), .val (.int m), .val (.int km), .none, .none, .none, .none, .none, .none, .none]) (by simp [hk]) ?_
    refine seq_nxt (δ' := [.val (.tup [.int a, .int b, .int c, .int d, .int k]), .val (.int m), .val (.int km), .val (.tup [.int x, .int y]), .none, .none, .none, .none, .none, .none]) (by simp [r1]) ?_
    refine seq_nxt (δ' := [.val (.tup [.int a, .int b, .int c, .int d, .int k]), .val (.int m), .val (.int km), .val (.tup [.int x, .int y]), .val (.int a), .val (.int b), .val (.int c), .val (.int d), .none, .none]) (by simp) ?_
    refine seq_nxt (δ' := [.val (.tup [.int a, .int b, .int c, .int d, .int k]), .val (.int m), .val (.int km), .val (.tup [.int x, .int y]), .val (.int z.a), .val (.int z.b), .val (.int z.c), .val (.int z.d), s', .none]) (st3 _ _ _ _ hr hm hl) ?_
    refine seq_nxt (δ' := [.val (.tup [.int a, .int b, .int c, .int d, .int k]), .val (.int m), .val (.int km), .val (.tup [.int x, .int y]), .val (.int z.a), .val (.int z.b), .val (.int z.c), .val (.int z.d), s', .none]) (by simp [hx, hy, r2, same]) ?_
    refine seq_nxt (δ' := [.val (.tup [.int a, .int b, .int c, .int d, .int k]), .val (.int m), .val (.int km), .val (.tup [.int x, .int y]), .val (.int z.a), .val (.int z.b), .val (.int z.c), .val (.int z.d), s', .val (.tup [.int w0, .int w1, .int w2, .int w3, .int k2])]) (by simp [sh]) ?_
    simp [hz, same2]
    rfl
theorem rests_w (A B : D) (δ : DEnv) (h : sm_ulaw_rests_right [.val A, .val B, .none, .none, .none, .none, .none, .none, .none, .none] = some (.ret (.val (.bl true)), δ)) : m_ulaw_rests_right [A, B] = some (.v (.bl true)) := by
  simp [m_ulaw_rests_right, h]
end K01
end
section
set_option maxRecDepth 100000
set_option linter.all false
set_option exponentiation.threshold 5000
set_option maxHeartbeats 4000000
namespace K01
open Pd PySem
theorem rests_ok (q : Q4) (k : Nat) (m : Int) (hm : 0 ≤ m ∧ m < 4) (hk : k ≤ 10) (hb : bd 7 q) : m_ulaw_rests_right [ry true q k, .int m] = some (.v (.bl true)) := by
  have r1 := rest_ok true q k m.toNat (by omega) (smQ_of hb (by decide))
  have r2 := rest_ok false q k m.toNat (by omega) (smQ_of hb (by decide))
  have sh := short_ok true (rtI m.toNat q) 1 (by omega)
  have e : ((k + m.toNat : Nat) : Int) = (k : Int) + m := by omega
  rw [e] at r1 r2
  have hz : (((rtI m.toNat q).a + (rtI m.toNat q).c) % 2 == 0 && ((rtI m.toNat q).b + (rtI m.toNat q).d) % 2 == 0) = ((((red 1 (rtI m.toNat q)).2 : Nat) : Int) == 0) := by
    generalize rtI m.toNat q = z
    show rd2 z = _
    unfold red
    cases rd2 z <;> rfl
  obtain ⟨δ, h⟩ := rests_s q.a q.b q.c q.d k m _ _ _ _ _ q m.toNat rfl (by omega) _ rfl rfl r1 r2 sh hz
  exact rests_w _ _ _ h
theorem isr_half {q : Q4} (h : isr q = true) (h2 : rd2 q = true) : isr (half q) = true := by
  simp only [isr, rd2, Bool.and_eq_true, beq_iff_eq] at h h2
  simp only [isr, half, Bool.and_eq_true, beq_iff_eq]
  omega
theorem isr_red : ∀ (k : Nat) {q : Q4}, isr q = true → isr (red k q).1 = true
  | 0, q, h => h
  | k + 1, q, h => by
    unfold red
    by_cases z : rd2 q = true
    · rw [if_pos z]; exact isr_red k (isr_half h z)
    · rw [if_neg z]; exact h
theorem ab_two (x : Int) : ab (2 * x) = 2 * ab x := by
  unfold ab
  split <;> split <;> omega
theorem sqs_half {q : Q4} (h : isr q = true) (h2 : rd2 q = true) : sqs q = 2 * sqs (half q) := by
  rcases q with ⟨a, b, c, d⟩
  simp only [isr, rd2, Bool.and_eq_true, beq_iff_eq] at h h2
  obtain ⟨rfl, h3⟩ := h
  have hd : d = -b := by omega
  subst hd
  obtain ⟨x, rfl⟩ : ∃ x, a = 2 * x := ⟨a / 2, by omega⟩
  have e1 : (b - -b) / 2 = b := by omega
  have e2 : (2 * x + 0) / 2 = x := by omega
  simp only [sqs, half, e1, e2, ab_two]
  grind
theorem sgn_two (x : Int) : sgn (2 * x) = sgn x := by
  unfold sgn
  split <;> split <;> (try split) <;> (try split) <;> omega
theorem sgn_neg (x : Int) : sgn (-x) = -sgn x := by
  unfold sgn
  split <;> split <;> (try split) <;> (try split) <;> omega
theorem ab_neg (x : Int) : ab (-x) = ab x := by
  unfold ab
  split <;> split <;> omega
theorem sgn_red : ∀ (k : Nat) {q : Q4}, isr q = true → sgn (sqs (red k q).1) = sgn (sqs q)
  | 0, q, h => rfl
  | k + 1, q, h => by
    unfold red
    by_cases z : rd2 q = true
    · rw [if_pos z, sgn_red k (isr_half h z), sqs_half h z, sgn_two]
    · rw [if_neg z]
theorem far_ok : ∀ x < 29, ∀ y < 29, ¬(x = 14 ∧ y = 14) → sgn (sqs ⟨(x : Nat) - 14, (y : Nat) - 14, 0, 14 - (y : Nat)⟩) = if 0 < ((x : Int) - 14) * 1000000000000000000000000000000 + ((y : Int) - 14) * 1414213562373095048801688724209 then 1 else -1 := by
  decide +kernel
theorem norm_zero {k : Nat} (h : norm ⟨0, 0, 0, 0⟩ k) : k = 0 := by
  unfold norm at h
  rw [red_zero] at h
  exact (Prod.mk.inj h).2.symm
theorem signs_ok (q : Q4) (k : Nat) (hk : k ≤ 10) (hb : bd 7 q) : m_ulaw_signs_right [ry true q k] = some (.v (.bl true)) := by
  have mi := mirrored_ok true q k
  have hbm : bd 7 (mir q) := by
    obtain ⟨a1, a2, a3, a4⟩ := hb
    refine ⟨?_, ?_, ?_, ?_⟩ <;> simp only [mir] <;> omega
  have su := rays_added_ok true q (mir q) k k (by omega) (by omega) (smQ_of hb (by decide)) (smQ_of hbm (by decide))
  have e0 : isr (sumOf q k (mir q) k) = true := by
    unfold sumOf
    rw [Nat.max_self, Nat.sub_self]
    simp only [rtI, mir, add, isr, Bool.and_eq_true, beq_iff_eq]
    omega
  have eb : bd 14 (sumOf q k (mir q) k) := by
    unfold sumOf
    rw [Nat.max_self, Nat.sub_self]
    exact bd_add hb hbm
  have ir := isr_red (max k k) e0
  have br := bd_red (max k k) eb
  have nr := norm_red (max k k) (sumOf q k (mir q) k)
  have kr := (red_back (max k k) (sumOf q k (mir q) k)).1
  rw [Nat.max_self] at *
  generalize red k (sumOf q k (mir q) k) = Z at *
  rcases Z with ⟨⟨a, b, c, d⟩, j⟩
  simp only at *
  have hc : c = 0 := by simp [isr] at ir; omega
  have hd : d = -b := by simp [isr] at ir; omega
  subst hc hd
  have ba : a.natAbs ≤ 14 := br.1
  have bb : b.natAbs ≤ 14 := br.2.1
  have g5 := is_real_ok true ⟨a, b, 0, -b⟩ j
  rw [ir] at g5
  have g1 := sign_ok true ⟨a, b, 0, -b⟩ j ir br (by decide)
  have g2 := sign_ok false ⟨a, b, 0, -b⟩ j ir br (by decide)
  have tu := turned_ok true ⟨a, b, 0, -b⟩ j 4
  have it : isr (trnI 4 ⟨a, b, 0, -b⟩) = true := by
    simp [trnI, trn, isr]
  have bt : bd 14 (trnI 4 ⟨a, b, 0, -b⟩) := by
    refine ⟨?_, ?_, ?_, ?_⟩ <;> simp only [trnI, trn] <;> omega
  have g3 := sign_ok true (trnI 4 ⟨a, b, 0, -b⟩) j it bt (by decide)
  have en : sgn (sqs (trnI 4 ⟨a, b, 0, -b⟩)) = -sgn (sqs ⟨a, b, 0, -b⟩) := by
    have : sqs (trnI 4 ⟨a, b, 0, -b⟩) = -sqs ⟨a, b, 0, -b⟩ := by
      simp only [sqs, trnI, trn, ab_neg]
      grind
    rw [this, sgn_neg]
  rw [en] at g3
  have ov := over_ok true ⟨a, b, 0, -b⟩ j 3 (by omega) (by decide) (smQ_of br (by decide))
  have eo : ovr ⟨a, b, 0, -b⟩ j 3 = red (j + 3) ⟨a, b, 0, -b⟩ := by
    unfold ovr
    rw [if_pos (by omega)]
    rfl
  rw [eo] at ov
  have g4 := sign_ok true (red (j + 3) ⟨a, b, 0, -b⟩).1 (red (j + 3) ⟨a, b, 0, -b⟩).2 (isr_red _ ir) (bd_red _ br) (by decide)
  rw [sgn_red _ ir] at g4
  have hdue : (if (a == 0 && (b == 0 && ((0 : Int) == 0 && (-b == 0 && (j : Int) == 0)))) = true then 0 else if 0 < a * 1000000000000000000000000000000 + b * 1414213562373095048801688724209 then 1 else -1) = sgn (sqs ⟨a, b, 0, -b⟩) := by
    by_cases z : a = 0 ∧ b = 0
    · obtain ⟨rfl, rfl⟩ := z
      have := norm_zero nr
      subst this
      rfl
    · have f := far_ok (a + 14).toNat (by omega) (b + 14).toNat (by omega) (by omega)
      have ea : (((a + 14).toNat : Nat) : Int) - 14 = a := by omega
      have eb : (((b + 14).toNat : Nat) : Int) - 14 = b := by omega
      have ec : 14 - (((b + 14).toNat : Nat) : Int) = -b := by omega
      rw [ea, eb, ec] at f
      rw [f, if_neg (by simp; omega)]
  obtain ⟨δ, h⟩ := signs_s _ _ _ _ a b 0 (-b) j _ _ mi su (fun j => cMul_of (by omega)) (fun j => cMul_of (by omega)) rfl hdue g1 g2 tu g3 ov g4 g5
  exact signs_w _ _ h
end K01
end
section
set_option maxRecDepth 100000
set_option linter.all false
set_option exponentiation.threshold 5000
set_option maxHeartbeats 4000000
namespace K01
open Pd PySem
theorem norm_iff (q : Q4) (k : Nat) : norm q k ↔ k = 0 ∨ rd2 q = false := by
  rcases k with _ | k
  · simp [norm, red]
  · unfold norm red
    by_cases z : rd2 q = true
    · rw [if_pos z]
      constructor
      · intro h
        have := (red_back k (half q)).1
        rw [h] at this
        simp at this
        omega
      · intro h
        rcases h with h | h
        · omega
        · rw [z] at h
          exact absurd h (by decide)
    · rw [if_neg z]
      simp at z
      simp [z]
theorem rd2_mir (q : Q4) : rd2 (mir q) = rd2 q := by
  have h1 : (q.a + -q.c) % 2 = (q.a + q.c) % 2 := by omega
  have h2 : (-q.d + -q.b) % 2 = (q.b + q.d) % 2 := by omega
  simp only [rd2, mir, h1, h2]
theorem rd2_twn (q : Q4) (k : Nat) : rd2 (twn q k) = rd2 q := by
  unfold twn
  split
  · have h1 : (-q.a + -q.c) % 2 = (q.a + q.c) % 2 := by omega
    simp only [rd2, h1]
  · have h1 : (-q.b + -q.d) % 2 = (q.b + q.d) % 2 := by omega
    simp only [rd2, h1]
theorem norm_mir {q : Q4} {k : Nat} (h : norm q k) : norm (mir q) k := by
  rw [norm_iff] at *
  rw [rd2_mir]
  exact h
theorem norm_twn {q : Q4} {k : Nat} (h : norm q k) : norm (twn q k) k := by
  rw [norm_iff] at *
  rw [rd2_twn]
  exact h
theorem Cg.pow {x y : Int} (h : Cg x y) : ∀ n : Nat, Cg (x ^ n) (y ^ n)
  | 0 => by
    rw [Int.pow_zero, Int.pow_zero]
    exact Cg.refl _
  | n + 1 => by
    rw [Int.pow_succ, Int.pow_succ]
    exact (Cg.pow h n).mul h
theorem ev_cg {w v : Int} (h : Cg w v) (q : Q4) : Cg (ev w q) (ev v q) := by
  unfold ev
  exact (Cg.refl _).add (h.mul ((Cg.refl _).add (h.mul ((Cg.refl _).add (h.mul (Cg.refl _))))))
theorem vl_mir {w v b e : Int} (h4 : Cg (w * w * w * w) (-1)) (hw : Cg v (-(w * w * w))) (hb : Cg e b) (q : Q4) (k : Nat) : Cg (vl w b (mir q) k) (vl v e q k) := by
  unfold vl
  refine Cg.mul (Cg.trans ?_ (ev_cg hw q).symm) (hb.pow k).symm
  obtain ⟨z, h4⟩ := h4
  refine ⟨-(q.c * w * w * z) + q.d * w * (-2 * z + P * z * z), ?_⟩
  simp only [ev, mir]
  grind
theorem vl_twn {w v b e : Int} (hw : Cg v (-w)) (hb : Cg e (-b)) (q : Q4) (k : Nat) : Cg (vl w b (twn q k) k) (vl v e q k) := by
  have h : vl w b (twn q k) k = vl (-w) (-b) q k := by
    unfold vl twn
    have hp : (-b) ^ k = if k % 2 = 1 then -(b ^ k) else b ^ k := by
      induction k with
      | zero => simp
      | succ n ih =>
        rw [Int.pow_succ, Int.pow_succ, ih]
        split <;> split <;> first | omega | grind
    rw [hp]
    split
    · simp only [ev]; grind
    · simp only [ev]; grind
  rw [h]
  unfold vl
  exact Cg.mul (ev_cg hw q).symm (hb.pow k).symm
theorem worth_mir {s t : Nat} (h4 : Cg (wT s * wT s * wT s * wT s) (-1)) (hw : Cg (wT t) (-(wT s * wT s * wT s))) (hb : Cg (backT t) (backT s)) (q : Q4) (k : Nat) : worth s (mir q) k = worth t q k := by
  rw [← worth_mod, ← worth_mod t]
  exact Cg.eq ((worth_cg _ _ _).trans ((vl_mir h4 hw hb q k).trans (worth_cg _ _ _).symm))
theorem worth_twn {s t : Nat} (hw : Cg (wT t) (-wT s)) (hb : Cg (backT t) (-backT s)) (q : Q4) (k : Nat) : worth s (twn q k) k = worth t q k := by
  rw [← worth_mod, ← worth_mod t]
  exact Cg.eq ((worth_cg _ _ _).trans ((vl_twn hw hb q k).trans (worth_cg _ _ _).symm))
theorem cgd {x y : Int} (h : (x - y) % P = 0) : Cg x y := ⟨(x - y) / P, by have := Int.emod_add_mul_ediv (x - y) P; omega⟩
theorem wm1 (q : Q4) (k : Nat) : worth 1 (mir q) k = worth 7 q k := worth_mir way1.four (cgd (by decide +kernel)) (cgd (by decide +kernel)) q k
theorem wm3 (q : Q4) (k : Nat) : worth 3 (mir q) k = worth 5 q k := worth_mir way3.four (cgd (by decide +kernel)) (cgd (by decide +kernel)) q k
theorem wm5 (q : Q4) (k : Nat) : worth 5 (mir q) k = worth 3 q k := worth_mir way5.four (cgd (by decide +kernel)) (cgd (by decide +kernel)) q k
theorem wm7 (q : Q4) (k : Nat) : worth 7 (mir q) k = worth 1 q k := worth_mir way7.four (cgd (by decide +kernel)) (cgd (by decide +kernel)) q k
theorem wt1 (q : Q4) (k : Nat) : worth 1 (twn q k) k = worth 5 q k := worth_twn (cgd (by decide +kernel)) (cgd (by decide +kernel)) q k
theorem wt3 (q : Q4) (k : Nat) : worth 3 (twn q k) k = worth 7 q k := worth_twn (cgd (by decide +kernel)) (cgd (by decide +kernel)) q k
theorem wt5 (q : Q4) (k : Nat) : worth 5 (twn q k) k = worth 1 q k := worth_twn (cgd (by decide +kernel)) (cgd (by decide +kernel)) q k
theorem wt7 (q : Q4) (k : Nat) : worth 7 (twn q k) k = worth 3 q k := worth_twn (cgd (by decide +kernel)) (cgd (by decide +kernel)) q k
theorem mir_mir (q : Q4) : mir (mir q) = q := by simp [mir]
theorem twn_twn (q : Q4) (k : Nat) : twn (twn q k) k = q := by
  unfold twn
  split <;> simp
theorem mir_twn (q : Q4) (k : Nat) : mir (twn q k) = twn (mir q) k := by
  unfold twn mir
  split <;> simp
theorem mir_rt (q : Q4) : mir (rt q) = rt (mir q) := by
  simp only [mir, rt, Q4.mk.injEq]; omega
theorem mir_rtI : ∀ (n : Nat) (q : Q4), mir (rtI n q) = rtI n (mir q)
  | 0, q => rfl
  | n + 1, q => by
    show mir (rtI n (rt q)) = rtI n (rt (mir q))
    rw [mir_rtI n, mir_rt]
theorem Eqv.mir {p q : Q4} {j k : Nat} (h : Eqv p j q k) : Eqv (mir p) j (mir q) k := by
  unfold Eqv at *
  rw [← mir_rtI, h, mir_rtI]
theorem mir_mul (p q : Q4) : mir (mul p q) = mul (mir p) (mir q) := by
  simp only [mir, mul, Q4.mk.injEq]
  refine ⟨?_, ?_, ?_, ?_⟩ <;> grind
theorem mul_four (p q r s : Q4) : mul (mul p q) (mul r s) = mul (mul p r) (mul q s) := by
  rw [mul_assoc, ← mul_assoc q r s, mul_comm q r, mul_assoc r q s, ← mul_assoc]
theorem size_mul (p q : Q4) (k l : Nat) :
    red ((red (k + l) (mul p q)).2 + (red (k + l) (mul p q)).2) (mul (red (k + l) (mul p q)).1 (mir (red (k + l) (mul p q)).1))
    = red ((red (k + k) (mul p (mir p))).2 + (red (l + l) (mul q (mir q))).2) (mul (red (k + k) (mul p (mir p))).1 (red (l + l) (mul q (mir q))).1) := by
  have a := red_eqv (k + l) (mul p q)
  have h1 := red_of (a.mul a.mir)
  have h2 := red_of ((red_eqv (k + k) (mul p (mir p))).mul (red_eqv (l + l) (mul q (mir q))))
  rw [h1, h2, mir_mul, mul_four]
  congr 1
  omega
theorem isr_size (p : Q4) : isr (mul p (mir p)) = true := by
  simp only [isr, mul, mir, Bool.and_eq_true, beq_iff_eq]
  grind
theorem bd_mir {n : Nat} {q : Q4} (h : bd n q) : bd n (mir q) := ⟨h.1, nn h.2.2.2, nn h.2.2.1, nn h.2.1⟩
end K01
end
section
set_option maxRecDepth 100000
set_option linter.all false
set_option exponentiation.threshold 5000
set_option maxHeartbeats 4000000
namespace K01
open Pd PySem
theorem two_sq : ∀ A < 197, ∀ B < 197, A * A = 2 * (B * B) → A = 0 := by
  decide +kernel
theorem sq_nn (x : Int) : 0 ≤ x * x := by
  rcases Int.le_total 0 x with h | h
  · exact Int.mul_nonneg h h
  · have := Int.mul_nonneg (show 0 ≤ -x by omega) (show 0 ≤ -x by omega)
    grind
theorem size_sgn (p : Q4) (hb : bd 7 p) : sgn (sqs (mul p (mir p))) = if p.a = 0 ∧ p.b = 0 ∧ p.c = 0 ∧ p.d = 0 then 0 else 1 := by
  have bs := bd_mulq hb (bd_mir hb)
  have eA : (mul p (mir p)).a = p.a * p.a + p.b * p.b + p.c * p.c + p.d * p.d := by simp only [mul, mir]; grind
  have hN : (mul p (mir p)).a * (mul p (mir p)).a - 2 * ((mul p (mir p)).b * (mul p (mir p)).b) = (p.a * p.a - p.c * p.c + 2 * (p.b * p.d)) * (p.a * p.a - p.c * p.c + 2 * (p.b * p.d)) + (2 * (p.a * p.c) - p.b * p.b + p.d * p.d) * (2 * (p.a * p.c) - p.b * p.b + p.d * p.d) := by
    simp only [mul, mir]; grind
  have nA := sq_nn p.a
  have nB := sq_nn p.b
  have nC := sq_nn p.c
  have nD := sq_nn p.d
  have n1 := sq_nn (p.a * p.a - p.c * p.c + 2 * (p.b * p.d))
  have n2 := sq_nn (2 * (p.a * p.c) - p.b * p.b + p.d * p.d)
  have bA : (mul p (mir p)).a.natAbs ≤ 196 := bs.1
  have bB : (mul p (mir p)).b.natAbs ≤ 196 := bs.2.1
  unfold sqs
  generalize (mul p (mir p)).a = A at *
  generalize (mul p (mir p)).b = B at *
  have hA : 0 ≤ A := by omega
  have eb : ab A = A := by unfold ab; split <;> omega
  rw [eb]
  by_cases z : p.a = 0 ∧ p.b = 0 ∧ p.c = 0 ∧ p.d = 0
  · rw [if_pos z]
    obtain ⟨z1, z2, z3, z4⟩ := z
    rw [z1, z2, z3, z4] at eA hN
    have : A = 0 := by simpa using eA
    subst this
    have : B * B = 0 := by simp at hN; omega
    have : B = 0 := by
      rcases Int.mul_eq_zero.mp this with h | h <;> exact h
    subst this
    rfl
  · rw [if_neg z]
    have pA : 0 < A := by
      have q1 : p.a ≠ 0 → 0 < p.a * p.a := fun h => by
        rcases Int.lt_or_gt_of_ne h with h | h
        · exact Int.mul_pos_of_neg_of_neg h h
        · exact Int.mul_pos h h
      have q2 : p.b ≠ 0 → 0 < p.b * p.b := fun h => by
        rcases Int.lt_or_gt_of_ne h with h | h
        · exact Int.mul_pos_of_neg_of_neg h h
        · exact Int.mul_pos h h
      have q3 : p.c ≠ 0 → 0 < p.c * p.c := fun h => by
        rcases Int.lt_or_gt_of_ne h with h | h
        · exact Int.mul_pos_of_neg_of_neg h h
        · exact Int.mul_pos h h
      have q4 : p.d ≠ 0 → 0 < p.d * p.d := fun h => by
        rcases Int.lt_or_gt_of_ne h with h | h
        · exact Int.mul_pos_of_neg_of_neg h h
        · exact Int.mul_pos h h
      by_cases u1 : p.a = 0
      · by_cases u2 : p.b = 0
        · by_cases u3 : p.c = 0
          · have := q4 (fun u4 => z ⟨u1, u2, u3, u4⟩)
            omega
          · have := q3 u3
            omega
        · have := q2 u2
          omega
      · have := q1 u1
        omega
    have pAA := Int.mul_pos pA pA
    have ge : 0 ≤ A * A - 2 * (B * B) := by omega
    have nz : A * A - 2 * (B * B) ≠ 0 := fun h => by
      have := two_sq A.natAbs (by omega) B.natAbs (by omega) (by
        have e1 : ((A.natAbs * A.natAbs : Nat) : Int) = A * A := Int.natAbs_mul_self
        have e2 : ((B.natAbs * B.natAbs : Nat) : Int) = B * B := Int.natAbs_mul_self
        omega)
      omega
    have pos : 0 < A * A + 2 * B * ab B := by
      unfold ab
      have e : 2 * B * -B = -(2 * (B * B)) := by grind
      have e2 : 2 * B * B = 2 * (B * B) := by grind
      have := sq_nn B
      split
      · rw [e]; omega
      · rw [e2]; omega
    unfold sgn
    rw [if_neg (by omega), if_pos pos]
theorem cancel {w r b : Int} (h : Way w r b) (k : Nat) {x y : Int} (e : Cg (x * b ^ k) (y * b ^ k)) : Cg x y := by
  have u : Cg (b ^ k * r ^ k) 1 := by
    rw [← Int.mul_pow, Int.mul_comm b r]
    have := h.unit.pow k
    rwa [Int.one_pow] at this
  have f := e.mul (Cg.refl (r ^ k))
  rw [Int.mul_assoc, Int.mul_assoc] at f
  have a := (Cg.refl x).mul u
  have c := (Cg.refl y).mul u
  rw [Int.mul_one] at a c
  exact a.symm.trans (f.trans c)
theorem cg_small {x : Int} (h : Cg x 0) (hx : x.natAbs < 1000) : x = 0 := by
  obtain ⟨z, h⟩ := h
  unfold P at h
  omega
theorem lin1 {x y w W X Y S u v p : Int} (d1 : x * (w + W) + 2 * y * S = p * u) (d2 : x * (W + (w + p * X)) + 2 * y * (-S + p * Y) = p * v) : 2 * x * (w + W) = p * (u + v - x * X - 2 * y * Y) := by grind
theorem lin2 {x y w W X Y S u v p : Int} (d1 : x * (w + W) + 2 * y * S = p * u) (d2 : x * (W + (w + p * X)) + 2 * y * (-S + p * Y) = p * v) : 4 * y * S = p * (u - v + 2 * y * Y + x * X) := by grind
theorem lin3 {x E F s p : Int} (h : 2 * x * (-2 + p * F) = p * E * s) : 4 * x = 0 + p * (2 * x * F - E * s) := by grind
theorem lin4 {y E f S p : Int} (h : 4 * y * (-1 + p * f) = p * E * S) : 4 * y = 0 + p * (4 * y * f - E * S) := by grind
theorem small_core {w f u v : Int} {q : Q4} (h4 : w * w * w * w = -1 + P * f) (c1 : ev w q = ev w (mir q) + P * u) (c4 : ev (w * w * w) q = ev (w * w * w) (mir q) + P * v) : Cg (4 * (q.b + q.d)) 0 ∧ Cg (4 * q.c) 0 := by
  have d1 : (q.b + q.d) * (w + w * w * w) + 2 * q.c * (w * w) = P * u := by
    simp only [ev, mir] at c1
    grind
  have d2 : (q.b + q.d) * (w * w * w + (w * w * w) * (w * w * w) * (w * w * w)) + 2 * q.c * ((w * w * w) * (w * w * w)) = P * v := by
    simp only [ev, mir] at c4
    grind
  generalize q.b + q.d = x at *
  generalize q.c = y at *
  have w6 : (w * w * w) * (w * w * w) = -(w * w) + P * (f * (w * w)) := by
    have : (w * w * w) * (w * w * w) = (w * w * w * w) * (w * w) := by grind
    rw [this, h4]; grind
  have w9 : (w * w * w) * (w * w * w) * (w * w * w) = w + P * (w * (-2 * f + P * f * f)) := by
    have : (w * w * w) * (w * w * w) * (w * w * w) = (w * w * w * w) * (w * w * w * w) * w := by grind
    rw [this, h4]; grind
  rw [w9, w6] at d2
  have s2 : (w + w * w * w) * (w + w * w * w) = -2 + P * (2 * f + f * (w * w)) := by
    have : (w + w * w * w) * (w + w * w * w) = w * w + 2 * (w * w * w * w) + (w * w * w) * (w * w * w) := by grind
    rw [this, h4, w6]; grind
  have e1 := lin1 d1 d2
  have e2 := lin2 d1 d2
  generalize u + v - x * (w * (-2 * f + P * f * f)) - 2 * y * (f * (w * w)) = E1 at *
  generalize u - v + 2 * y * (f * (w * w)) + x * (w * (-2 * f + P * f * f)) = E2 at *
  have f1 : 2 * x * ((w + w * w * w) * (w + w * w * w)) = P * E1 * (w + w * w * w) := by
    rw [← Int.mul_assoc, e1]
  have f2 : 4 * y * (w * w * w * w) = P * E2 * (w * w) := by
    rw [← e2]
    clear e1 e2 d1 d2 h4 c1 c4 w6 w9 s2 f1
    grind
  rw [s2] at f1
  rw [h4] at f2
  exact ⟨⟨_, lin3 f1⟩, ⟨_, lin4 f2⟩⟩
theorem real_iff (q : Q4) (k : Nat) (hb : bd 7 q) : (worth 1 q k == worth 7 q k && (worth 3 q k == worth 5 q k && (worth 5 q k == worth 3 q k && worth 7 q k == worth 1 q k))) = isr q := by
  cases z : isr q
  · by_cases h : worth 1 q k = worth 7 q k ∧ worth 3 q k = worth 5 q k
    · exfalso
      obtain ⟨h1, h3⟩ := h
      rw [← wm1] at h1
      rw [← wm3] at h3
      have c1 := cancel way1 k ((worth_cg 1 q k).symm.trans ((h1 ▸ Cg.refl _ : Cg (worth 1 q k) (worth 1 (mir q) k)).trans (worth_cg 1 (mir q) k)))
      have c3 := cancel way3 k ((worth_cg 3 q k).symm.trans ((h3 ▸ Cg.refl _ : Cg (worth 3 q k) (worth 3 (mir q) k)).trans (worth_cg 3 (mir q) k)))
      have w3 : Cg (wT 3) (wT 1 * wT 1 * wT 1) := cgd (by decide +kernel)
      have c4 := ((ev_cg w3 q).symm.trans c3).trans (ev_cg w3 (mir q))
      obtain ⟨f, h4⟩ := way1.four
      obtain ⟨u, c1⟩ := c1
      obtain ⟨v, c4⟩ := c4
      generalize wT 1 = w at *
      obtain ⟨x0, y0⟩ := small_core h4 c1 c4
      obtain ⟨b1, b2, b3, b4⟩ := hb
      have e1 := cg_small x0 (by omega)
      have e2 := cg_small y0 (by omega)
      have : isr q = true := by
        simp only [isr, Bool.and_eq_true, beq_iff_eq]
        exact ⟨by omega, by omega⟩
      rw [this] at z
      exact absurd z (by decide)
    · simp
      intro a b
      exact absurd ⟨a, b⟩ h
  · have e : mir q = q := by
      rcases q with ⟨a, b, c, d⟩
      simp only [isr, Bool.and_eq_true, beq_iff_eq] at z
      obtain ⟨z1, z2⟩ := z
      have z1 : c = 0 := z1
      have z2 : b = -d := z2
      subst z1 z2
      simp [mir]
    have a1 := wm1 q k
    have a3 := wm3 q k
    rw [e] at a1 a3
    simp [a1, a3]
end K01
end
section
set_option maxRecDepth 100000
set_option linter.all false
set_option exponentiation.threshold 5000
set_option maxHeartbeats 4000000
namespace K01
open Pd PySem
theorem mirrors_ok (p q : Q4) (k l : Nat) (hk : k ≤ 10) (hl : l ≤ 10) (hp : bd 7 p) (hq : bd 7 q) (hn : norm p k) : m_ulaw_mirrors_right [ry true p k, ry true q l] = some (.v (.bl true)) := by
  have bz := bd_red (k + k) (bd_mulq hp (bd_mir hp))
  have by' := bd_red (l + l) (bd_mulq hq (bd_mir hq))
  have bq := bd_red (k + l) (bd_mulq hp hq)
  have kz := (red_back (k + k) (mul p (mir p))).1
  have ky := (red_back (l + l) (mul q (mir q))).1
  have kq := (red_back (k + l) (mul p q)).1
  have s1 := stands_ok (mir p) k (norm_mir hn) (by omega) (worth 7 p k) (worth 5 p k) (worth 3 p k) (worth 1 p k) (by rw [wm1, worth_mod]) (by rw [wm3, worth_mod]) (by rw [wm5, worth_mod]) (by rw [wm7, worth_mod])
  have s2 := stands_ok (twn p k) k (norm_twn hn) (by omega) (worth 5 p k) (worth 7 p k) (worth 1 p k) (worth 3 p k) (by rw [wt1, worth_mod]) (by rw [wt3, worth_mod]) (by rw [wt5, worth_mod]) (by rw [wt7, worth_mod])
  have s3 := stands_ok _ _ (norm_red (k + k) (mul p (mir p))) (by omega) (worth 1 p k * worth 7 p k) (worth 3 p k * worth 5 p k) (worth 5 p k * worth 3 p k) (worth 7 p k * worth 1 p k)
    (by rw [worth_mul way1, wm1]) (by rw [worth_mul way3, wm3]) (by rw [worth_mul way5, wm5]) (by rw [worth_mul way7, wm7])
  have g1 := mirrored_ok true (mir p) k
  rw [mir_mir] at g1
  have g2 := twin_ok true (twn p k) k
  rw [twn_twn] at g2
  have g3 := twin_ok true (mir p) k
  have d3 := mirrored_ok true (twn p k) k
  rw [mir_twn] at d3
  have g4 := product_ok true p q k l (by omega) hp (by decide)
  have g5 := size_ok (red (k + l) (mul p q)).1 (red (k + l) (mul p q)).2 (by omega) bq (by decide)
  have g6 := is_real_ok true (red (k + k) (mul p (mir p))).1 (red (k + k) (mul p (mir p))).2
  have iz := isr_red (k + k) (isr_size p)
  rw [iz] at g6
  have g7 := is_real_ok true p k
  have g8 := mirrored_ok false p k
  have d4 := size_ok q l (by omega) hq (by decide)
  have d5 := product_ok true (red (k + k) (mul p (mir p))).1 (red (l + l) (mul q (mir q))).1 (red (k + k) (mul p (mir p))).2 (red (l + l) (mul q (mir q))).2 (by omega) bz (by decide)
  rw [← size_mul] at d5
  have sg := sign_ok true (red (k + k) (mul p (mir p))).1 (red (k + k) (mul p (mir p))).2 iz bz (by decide)
  rw [sgn_red _ (isr_size p), size_sgn p hp] at sg
  have he := real_iff p k hp
  rw [← eqD_l4] at he
  have hz : eqD (ry true p k) zry = ((if p.a = 0 ∧ p.b = 0 ∧ p.c = 0 ∧ p.d = 0 then (0 : Int) else 1) == 0) := by
    show eqD (.tup [.int p.a, .int p.b, .int p.c, .int p.d, .int (k : Int)]) zry = _
    rw [eqD_t5]
    by_cases z : p.a = 0 ∧ p.b = 0 ∧ p.c = 0 ∧ p.d = 0
    · rw [if_pos z]
      obtain ⟨z1, z2, z3, z4⟩ := z
      have : p = ⟨0, 0, 0, 0⟩ := by
        rcases p with ⟨a, b, c, d⟩
        simp only at z1 z2 z3 z4
        rw [z1, z2, z3, z4]
      subst this
      have := norm_zero hn
      subst this
      rfl
    · rw [if_neg z]
      simp
      intro a b c d
      exact absurd ⟨a, b, c, d⟩ z
  have hg : ∀ z : Prop, [Decidable z] → (if z then (0 : Int) else 1) = 0 ∨ (if z then (0 : Int) else 1) = 1 := fun z _ => by
    split
    · exact Or.inl rfl
    · exact Or.inr rfl
  obtain ⟨δ, h⟩ := mirrors_s [.int p.a, .int p.b, .int p.c, .int p.d, .int (k : Int)] (ry true q l) (ry true (mir p) k) (ry true (twn p k) k) _ _ _ _ _ _ _ _ _ _ true (worths_ok p k (by omega))
    (fun j => cMul_of (worth_b _ _ _)) (fun j => cMul_of (worth_b _ _ _)) (fun j => cMul_of (worth_b _ _ _)) (fun j => cMul_of (worth_b _ _ _))
    (mirrored_ok true p k) (twin_ok true p k) (size_ok p k (by omega) hp (by decide)) s1 s2 s3 g1 g2 g3 g4 g5 g6 g7 g8 d3 _ d4 d5 he sg (hg _) (shp_t5 _ _ _ _ _) hz (same_lst 7 _ (by
      intro d hd
      simp only [List.mem_cons, List.not_mem_nil, or_false] at hd
      rcases hd with rfl | rfl | rfl | rfl | rfl | rfl | rfl
      · exact same_ry 5 p k
      · exact same_ry 5 p k
      · exact same_ry 5 _ _
      · exact same_ry 5 _ _
      · exact same_bl 6 _
      · exact same_bl 6 _
      · exact same_ry 5 _ _) (by simp))
  exact mirrors_w _ _ _ h
end K01
end
section
set_option maxRecDepth 100000
set_option linter.all false
set_option exponentiation.threshold 5000
set_option maxHeartbeats 4000000
namespace K01
open Pd PySem
theorem eqv_worth {t : Nat} (h : Way (wT t) (rootT t) (backT t)) {p q : Q4} {j k : Nat} (e : Eqv p j q k) : worth t p j = worth t q k := by
  rw [← worth_mod, ← worth_mod t q]
  refine Cg.eq ((worth_cg _ _ _).trans (Cg.trans ?_ (worth_cg _ _ _).symm))
  have a := vl_rtI h k p j
  have b := vl_rtI h j q k
  unfold Eqv at e
  rw [e, Nat.add_comm] at a
  exact a.symm.trans b
theorem worth_mul0 {t : Nat} (h : Way (wT t) (rootT t) (backT t)) (p q : Q4) (k : Nat) : worth t (mul p q) k = (worth t p k * worth t q 0) % P := by
  rw [← worth_mod]
  exact Cg.eq ((worth_cg _ _ _).trans ((vl_mul h p q k 0).trans ((worth_cg t p k).symm.mul (worth_cg t q 0).symm)))
abbrev eW : Q4 := ⟨0, 1, 0, 0⟩
abbrev eR : Q4 := ⟨0, 1, 0, -1⟩
theorem mul_eW (q : Q4) : mul q eW = trn q := by simp [mul, trn, eW]
theorem mul_eR (q : Q4) : mul q eR = rt q := by
  simp only [mul, rt, eR, Q4.mk.injEq]
  refine ⟨?_, ?_, ?_, ?_⟩ <;> grind
abbrev ws (q : Q4) (k : Nat) : List D := [.int (worth 1 q k), .int (worth 3 q k), .int (worth 5 q k), .int (worth 7 q k)]
inductive Hs : Sl → List D → Prop
  | own (l : List D) : Hs (.own false l) l
  | val (l : List D) : Hs (.val (.lst l)) l
theorem ws_mul (q e : Q4) (k : Nat) : ws (mul q e) k = [.int ((worth 1 q k * worth 1 e 0) % P), .int ((worth 3 q k * worth 3 e 0) % P), .int ((worth 5 q k * worth 5 e 0) % P), .int ((worth 7 q k * worth 7 e 0) % P)] := by
  rw [← worth_mul0 way1, ← worth_mul0 way3, ← worth_mul0 way5, ← worth_mul0 way7]
theorem turn_step (s0 s1 s2 s4 s3 s5 s6 s7 s8 s9 s10 s11 s12 : Sl) (x1 x3 x5 x7 u1 u3 u5 u7 : Int) (h3 : Hs s3 [.int x1, .int x3, .int x5, .int x7]) (h5 : Hs s5 [.int u1, .int u3, .int u5, .int u7])
    (h11 : s11 = .none) (h12 : s12 = .none) (c1 : ∀ j, cMul x1 j = true) (c3 : ∀ j, cMul x3 j = true) (c5 : ∀ j, cMul x5 j = true) (c7 : ∀ j, cMul x7 j = true) :
    ulaw_turns_right_b1 [s0, s1, s2, s3, s4, s5, s6, s7, s8, s9, s10, s11, s12] = some (.nxt, [s0, s1, s2, .own false [.int (x1 * u1 % P), .int (x3 * u3 % P), .int (x5 * u5 % P), .int (x7 * u7 % P)], s4, .val (.lst [.int u1, .int u3, .int u5, .int u7]), s6, s7, s8, s9, s10, s11, s12]) := by
  subst h11 h12
  cases h3 <;> cases h5 <;> simp [ulaw_turns_right_b1, lcD, c1, c3, c5, c7, round_ok]
theorem root_step10 (s0 s1 s3 s4 s5 s6 s7 s8 s9 s10 s11 s12 : Sl) (m : Int) (hm : 0 < m) (x1 x3 x5 x7 u1 u3 u5 u7 : Int) (h10 : Hs s10 [.int x1, .int x3, .int x5, .int x7]) (h7 : Hs s7 [.int u1, .int u3, .int u5, .int u7])
    (h11 : s11 = .none) (h12 : s12 = .none) (c1 : ∀ j, cMul x1 j = true) (c3 : ∀ j, cMul x3 j = true) (c5 : ∀ j, cMul x5 j = true) (c7 : ∀ j, cMul x7 j = true) :
    ulaw_turns_right_b2 [s0, s1, .val (.int m), s3, s4, s5, s6, s7, s8, s9, s10, s11, s12] = some (.nxt, [s0, s1, .val (.int m), s3, s4, s5, s6, .val (.lst [.int u1, .int u3, .int u5, .int u7]), s8, s9, .own false [.int (x1 * u1 % P), .int (x3 * u3 % P), .int (x5 * u5 % P), .int (x7 * u7 % P)], s11, s12]) := by
  subst h11 h12
  cases h10 <;> cases h7 <;> simp [ulaw_turns_right_b2, lcD, hm, c1, c3, c5, c7, round_ok]
theorem root_step9 (s0 s1 s3 s4 s5 s6 s7 s8 s9 s10 s11 s12 : Sl) (m : Int) (hm : ¬ 0 < m) (x1 x3 x5 x7 u1 u3 u5 u7 : Int) (h9 : Hs s9 [.int x1, .int x3, .int x5, .int x7]) (h7 : Hs s7 [.int u1, .int u3, .int u5, .int u7])
    (h11 : s11 = .none) (h12 : s12 = .none) (c1 : ∀ j, cMul x1 j = true) (c3 : ∀ j, cMul x3 j = true) (c5 : ∀ j, cMul x5 j = true) (c7 : ∀ j, cMul x7 j = true) :
    ulaw_turns_right_b2 [s0, s1, .val (.int m), s3, s4, s5, s6, s7, s8, s9, s10, s11, s12] = some (.nxt, [s0, s1, .val (.int m), s3, s4, s5, s6, .val (.lst [.int u1, .int u3, .int u5, .int u7]), s8, .own false [.int (x1 * u1 % P), .int (x3 * u3 % P), .int (x5 * u5 % P), .int (x7 * u7 % P)], s10, s11, s12]) := by
  subst h11 h12
  cases h9 <;> cases h7 <;> simp [ulaw_turns_right_b2, lcD, hm, c1, c3, c5, c7, round_ok]
theorem turns_loop (s0 s1 s2 s4 s7 s8 s9 s10 : Sl) (k : Nat) : ∀ (n : Nat) (lo : Int) (s3 s5 s6 : Sl) (q : Q4), Hs s3 (ws q k) → Hs s5 (ws eW 0) →
    ∃ s3' s5' s6', Hs s3' (ws (trnI n q) k) ∧ forD (gN 6) ulaw_turns_right_b1 (rangeD lo n) [s0, s1, s2, s3, s4, s5, s6, s7, s8, s9, s10, .none, .none] = some (.nxt, [s0, s1, s2, s3', s4, s5', s6', s7, s8, s9, s10, .none, .none])
  | 0, lo, s3, s5, s6, q, h3, h5 => ⟨s3, s5, s6, h3, rfl⟩
  | n + 1, lo, s3, s5, s6, q, h3, h5 => by
    have st := turn_step s0 s1 s2 s4 s3 s5 (.val (.int lo)) s7 s8 s9 s10 .none .none _ _ _ _ _ _ _ _ h3 h5 rfl rfl (fun j => cMul_of (worth_b _ _ _)) (fun j => cMul_of (worth_b _ _ _)) (fun j => cMul_of (worth_b _ _ _)) (fun j => cMul_of (worth_b _ _ _))
    rw [← ws_mul, mul_eW] at st
    obtain ⟨a, b, c, h, e⟩ := turns_loop s0 s1 s2 s4 s7 s8 s9 s10 k n (lo + 1) _ _ (.val (.int lo)) (trn q) (.own _) (.val (ws eW 0))
    refine ⟨a, b, c, h, ?_⟩
    simp [forD, st, e]
theorem roots_loop10 (s0 s1 s3 s4 s5 s8 s9 : Sl) (m : Int) (hm : 0 < m) (k : Nat) : ∀ (n : Nat) (lo : Int) (s10 s7 s6 : Sl) (q : Q4), Hs s10 (ws q k) → Hs s7 (ws eR 0) →
    ∃ s10' s7' s6', Hs s10' (ws (rtI n q) k) ∧ forD (gN 6) ulaw_turns_right_b2 (rangeD lo n) [s0, s1, .val (.int m), s3, s4, s5, s6, s7, s8, s9, s10, .none, .none] = some (.nxt, [s0, s1, .val (.int m), s3, s4, s5, s6', s7', s8, s9, s10', .none, .none])
  | 0, lo, s10, s7, s6, q, h3, h5 => ⟨s10, s7, s6, h3, rfl⟩
  | n + 1, lo, s10, s7, s6, q, h3, h5 => by
    have st := root_step10 s0 s1 s3 s4 s5 (.val (.int lo)) s7 s8 s9 s10 .none .none m hm _ _ _ _ _ _ _ _ h3 h5 rfl rfl (fun j => cMul_of (worth_b _ _ _)) (fun j => cMul_of (worth_b _ _ _)) (fun j => cMul_of (worth_b _ _ _)) (fun j => cMul_of (worth_b _ _ _))
    rw [← ws_mul, mul_eR] at st
    obtain ⟨a, b, c, h, e⟩ := roots_loop10 s0 s1 s3 s4 s5 s8 s9 m hm k n (lo + 1) _ _ (.val (.int lo)) (rt q) (.own _) (.val (ws eR 0))
    refine ⟨a, b, c, h, ?_⟩
    simp [forD, st, e]
theorem roots_loop9 (s0 s1 s3 s4 s5 s8 s10 : Sl) (m : Int) (hm : ¬ 0 < m) (k : Nat) : ∀ (n : Nat) (lo : Int) (s9 s7 s6 : Sl) (q : Q4), Hs s9 (ws q k) → Hs s7 (ws eR 0) →
    ∃ s9' s7' s6', Hs s9' (ws (rtI n q) k) ∧ forD (gN 6) ulaw_turns_right_b2 (rangeD lo n) [s0, s1, .val (.int m), s3, s4, s5, s6, s7, s8, s9, s10, .none, .none] = some (.nxt, [s0, s1, .val (.int m), s3, s4, s5, s6', s7', s8, s9', s10, .none, .none])
  | 0, lo, s9, s7, s6, q, h3, h5 => ⟨s9, s7, s6, h3, rfl⟩
  | n + 1, lo, s9, s7, s6, q, h3, h5 => by
    have st := root_step9 s0 s1 s3 s4 s5 (.val (.int lo)) s7 s8 s9 s10 .none .none m hm _ _ _ _ _ _ _ _ h3 h5 rfl rfl (fun j => cMul_of (worth_b _ _ _)) (fun j => cMul_of (worth_b _ _ _)) (fun j => cMul_of (worth_b _ _ _)) (fun j => cMul_of (worth_b _ _ _))
    rw [← ws_mul, mul_eR] at st
    obtain ⟨a, b, c, h, e⟩ := roots_loop9 s0 s1 s3 s4 s5 s8 s10 m hm k n (lo + 1) _ _ (.val (.int lo)) (rt q) (.own _) (.val (ws eR 0))
    refine ⟨a, b, c, h, ?_⟩
    simp [forD, st, e]
theorem norm_trn {q : Q4} {k : Nat} (h : norm q k) : norm (trn q) k := by
  rw [norm_iff] at *
  have : rd2 (trn q) = rd2 q := by
    have h1 : (-q.d + q.b) % 2 = (q.b + q.d) % 2 := by omega
    have h2 : (q.a + q.c) % 2 = (q.a + q.c) % 2 := rfl
    simp only [rd2, trn, h1]
    exact Bool.and_comm _ _
  rw [this]
  exact h
theorem norm_trnI : ∀ (n : Nat) {q : Q4} {k : Nat}, norm q k → norm (trnI n q) k
  | 0, q, k, h => h
  | n + 1, q, k, h => norm_trnI n (norm_trn h)
theorem trnI_add : ∀ (m n : Nat) (q : Q4), trnI (m + n) q = trnI n (trnI m q)
  | 0, n, q => by simp [trnI]
  | m + 1, n, q => by
    rw [Nat.succ_add]
    exact trnI_add m n (trn q)
theorem trnI_back (q : Q4) (m : Int) : trnI ((0 - m) % 8).toNat (trnI (m % 8).toNat q) = q := by
  rw [← trnI_add]
  have h : (m % 8).toNat + ((0 - m) % 8).toNat = 0 ∨ (m % 8).toNat + ((0 - m) % 8).toNat = 8 := by omega
  rcases h with h | h <;> rw [h] <;> simp [trnI, trn]
theorem ovr_eqv (q : Q4) (k : Nat) (m : Int) (h : 0 ≤ (k : Int) + m) : Eqv (ovr q k m).1 (ovr q k m).2 q ((k : Int) + m).toNat := by
  unfold ovr
  rw [if_pos h]
  exact red_eqv _ _
end K01
end
section
set_option maxRecDepth 100000
set_option linter.all false
set_option exponentiation.threshold 5000
set_option maxHeartbeats 4000000
namespace K01
open Pd PySem
theorem st4 (X : Sl) (T : Int) (l : List Sl) (δ' : DEnv) {n : Nat} {b : SM} (hn : (T % 8).toNat = n) (h1 : forD (gN 6) b (rangeD 0 n) (X :: .val (.int T) :: l) = some (.nxt, δ')) :
    sFor (iR1 (aOne (eOp (dIc cMod fun i j => .int (i % j)) (eCall fInt (aOne (eVar 1))) (eC (.int 8))))) (gN 6) b (X :: .val (.int T) :: l) = some (.nxt, δ') := by
  subst hn
  have h : -4611686018427387904 ≤ T % 8 ∧ T % 8 < 4611686018427387904 := by omega
  simp [h, h1]
theorem st5 (X Y : Sl) (T : Int) (l : List Sl) (δ' : DEnv) {n : Nat} {b : SM} (h : -4611686018427387904 ≤ ab T ∧ ab T < 4611686018427387904) (hn : (ab T).toNat = n) (h1 : forD (gN 6) b (rangeD 0 n) (X :: Y :: .val (.int T) :: l) = some (.nxt, δ')) :
    sFor (iR1 (aOne (eCall fAbs (aOne (eVar 2))))) (gN 6) b (X :: Y :: .val (.int T) :: l) = some (.nxt, δ') := by
  subst hn
  unfold ab at *
  simp [h, h1]
theorem turns_s (la : List D) (T L : D) (many times : Int) (x1 x3 x5 x7 y1 y3 y5 y7 u1 u3 u5 u7 r1 r3 r5 r7 z1 z3 z5 z7 f1 f3 f5 f7 : Int) (n n2 : Nat)
    (w1 : m_ulaw_worths [.tup la] = some (.l [.int x1, .int x3, .int x5, .int x7])) (tu : m_turned_ray [.tup la, .int many] = some (.v T))
    (w2 : m_ulaw_worths [.tup [.int 0, .int 1, .int 0, .int 0, .int 0]] = some (.l [.int u1, .int u3, .int u5, .int u7]))
    (hn : (many % 8).toNat = n) (hn2 : (ab times).toNat = n2) (hr : -4611686018427387904 ≤ ab times ∧ ab times < 4611686018427387904)
    (lo1 : ∃ s3' s5' s6', Hs s3' [.int y1, .int y3, .int y5, .int y7] ∧ forD (gN 6) ulaw_turns_right_b1 (rangeD 0 n) [.val (.tup la), .val (.int many), .val (.int times), .own false [.int x1, .int x3, .int x5, .int x7], .val T, .own false [.int u1, .int u3, .int u5, .int u7], .none, .none, .none, .none, .none, .none, .none] = some (.nxt, [.val (.tup la), .val (.int many), .val (.int times), s3', .val T, s5', s6', .none, .none, .none, .none, .none, .none]))
    (sd : m_ulaw_stands [T, l4 y1 y3 y5 y7] = some (.v (.bl true))) (tb : m_turned_ray [T, .int (0 - many)] = some (.v (.tup la))) (sa : m_ulaw_same [.tup la, .tup la] = some (.v (.bl true)))
    (w3 : m_ulaw_worths [.tup [.int 0, .int 1, .int 0, .int (-1), .int 0]] = some (.l [.int r1, .int r3, .int r5, .int r7]))
    (ov : m_over_root [.tup la, .int times] = some (.v L)) (ir : m_ulaw_is_ray [L] = some (.v (.bl true))) (w4 : m_ulaw_worths [L] = some (.l [.int z1, .int z3, .int z5, .int z7]))
    (lo2 : ∀ s3 s5 s6, ∃ s6' s7' s9' s10', Hs s9' [.int f1, .int f3, .int f5, .int f7] ∧ Hs s10' [.int f1, .int f3, .int f5, .int f7] ∧ forD (gN 6) ulaw_turns_right_b2 (rangeD 0 n2) [.val (.tup la), .val (.int many), .val (.int times), s3, .val T, s5, s6, .own false [.int r1, .int r3, .int r5, .int r7], .val L, .val (l4 x1 x3 x5 x7), .val (l4 z1 z3 z5 z7), .none, .none] = some (.nxt, [.val (.tup la), .val (.int many), .val (.int times), s3, .val T, s5, s6', s7', .val L, s9', s10', .none, .none]))
    (o1 : m_over_root [L, .int (0 - times)] = some (.v (.tup la))) (o2 : m_over_root [.lst la, .int times] = some (.v L))
    (sb : m_ulaw_same [.lst [.tup la, L], .lst [.tup la, L]] = some (.v (.bl true))) :
    ∃ δ, sm_ulaw_turns_right [.val (.tup la), .val (.int many), .val (.int times), .none, .none, .none, .none, .none, .none, .none, .none, .none, .none] = some (.ret (.val (.bl true)), δ) := by
  obtain ⟨s3, s5, s6, k3, e1⟩ := lo1
  obtain ⟨s6', s7', s9, s10, k9, k10, e2⟩ := lo2 (.val (l4 y1 y3 y5 y7)) s5 s6
  simp only [Int.zero_sub] at tb o1
  refine ⟨[.val (.tup la), .val (.int many), .val (.int times), .val (l4 y1 y3 y5 y7), .val T, s5, s6', s7', .val L, s9, s10, .none, .none], ?_⟩
  · rw [sx_ulaw_turns_right]
    refine seq_nxt (δ' := [.val (.tup la), .val (.int many), .val (.int times), .own false [.int x1, .int x3, .int x5, .int x7], .none, .none, .none, .none, .none, .none, .none, .none, .none]) (by simp [w1]) ?_
    refine seq_nxt (δ' := [.val (.tup la), .val (.int many), .val (.int times), .own false [.int x1, .int x3, .int x5, .int x7], .val T, .none, .none, .none, .none, .none, .none, .none, .none]) (by simp [tu]) ?_
    refine seq_nxt (δ' := [.val (.tup la), .val (.int many), .val (.int times), .own false [.int x1, .int x3, .int x5, .int x7], .val T, .own false [.int u1, .int u3, .int u5, .int u7], .none, .none, .none, .none, .none, .none, .none]) (by simp [w2]) ?_
    refine seq_nxt (st4 _ _ _ _ hn e1) ?_
    refine seq_nxt (δ' := [.val (.tup la), .val (.int many), .val (.int times), .val (l4 y1 y3 y5 y7), .val T, s5, s6, .none, .none, .none, .none, .none, .none]) (by cases k3 <;> simp [sd, tb, sa]) ?_
    refine seq_nxt (δ' := [.val (.tup la), .val (.int many), .val (.int times), .val (l4 y1 y3 y5 y7), .val T, s5, s6, .own false [.int r1, .int r3, .int r5, .int r7], .none, .none, .none, .none, .none]) (by simp [w3]) ?_
    refine seq_nxt (δ' := [.val (.tup la), .val (.int many), .val (.int times), .val (l4 y1 y3 y5 y7), .val T, s5, s6, .own false [.int r1, .int r3, .int r5, .int r7], .val L, .none, .none, .none, .none]) (by simp [ov]) ?_
    refine seq_nxt (δ' := [.val (.tup la), .val (.int many), .val (.int times), .val (l4 y1 y3 y5 y7), .val T, s5, s6, .own false [.int r1, .int r3, .int r5, .int r7], .val L, .val (l4 x1 x3 x5 x7), .val (l4 z1 z3 z5 z7), .none, .none]) (by simp [w1, ir, w4]) ?_
    refine seq_nxt (st5 _ _ _ _ _ hr hn2 e2) ?_
    cases k9 <;> cases k10 <;> simp [o1, o2, sb]
theorem turns_w (A B C : D) (δ : DEnv) (h : sm_ulaw_turns_right [.val A, .val B, .val C, .none, .none, .none, .none, .none, .none, .none, .none, .none, .none] = some (.ret (.val (.bl true)), δ)) : m_ulaw_turns_right [A, B, C] = some (.v (.bl true)) := by
  simp [m_ulaw_turns_right, h]
end K01
end
section
set_option maxRecDepth 100000
set_option linter.all false
set_option exponentiation.threshold 5000
set_option maxHeartbeats 4000000
namespace K01
open Pd PySem
theorem ovr_there (q : Q4) (k : Nat) (m : Int) (hn : norm q k) : ovr (ovr q k m).1 (ovr q k m).2 (0 - m) = (q, k) := by
  have hq : red k q = (q, k) := hn
  by_cases h : 0 ≤ (k : Int) + m
  · have e := ovr_eqv q k m h
    obtain ⟨b1, b2⟩ : (ovr q k m).2 ≤ ((k : Int) + m).toNat ∧ rtI (((k : Int) + m).toNat - (ovr q k m).2) (ovr q k m).1 = q := by
      unfold ovr
      rw [if_pos h]
      exact red_back _ _
    have b3 : 0 < k → (ovr q k m).2 = ((k : Int) + m).toNat := fun hk => by
      have z : rd2 q = false := by
        rcases (norm_iff q k).mp hn with h1 | h1
        · omega
        · exact h1
      have : norm q ((k : Int) + m).toNat := (norm_iff _ _).mpr (Or.inr z)
      unfold ovr
      rw [if_pos h, this]
    generalize (ovr q k m).1 = x at *
    generalize hj : (ovr q k m).2 = j at *
    by_cases h2 : 0 ≤ (j : Int) + (0 - m)
    · unfold ovr
      rw [if_pos h2, ← hq]
      refine red_of ?_
      unfold Eqv
      have : rtI ((j : Int) + (0 - m)).toNat (rtI (((k : Int) + m).toNat - j) x) = rtI k x := by
        rw [← rtI_add]
        congr 1
        omega
      rw [← this, b2]
    · have k0 : k = 0 := by
        rcases Nat.eq_zero_or_pos k with h3 | h3
        · exact h3
        · have := b3 h3
          omega
      subst k0
      unfold ovr
      rw [if_neg h2, show (-((j : Int) + (0 - m))).toNat = (((0 : Nat) : Int) + m).toNat - j by omega, b2]
  · have e : ovr q k m = (rtI (-((k : Int) + m)).toNat q, 0) := by
      unfold ovr
      rw [if_neg h]
    rw [e]
    unfold ovr
    rw [if_pos (by simp only; omega), ← hq, show ((((rtI (-((k : Int) + m)).toNat q, 0) : Q4 × Nat).2 : Int) + (0 - m)).toNat = k + (-((k : Int) + m)).toNat by simp only; omega]
    exact red_rt _ _ _
theorem ovr_norm (q : Q4) (k : Nat) (m : Int) : norm (ovr q k m).1 (ovr q k m).2 := by
  unfold ovr
  split
  · exact norm_red _ _
  · rfl
theorem ovr_le (q : Q4) (k : Nat) (m : Int) : (ovr q k m).2 ≤ k + m.natAbs := by
  unfold ovr
  split
  · have := (red_back ((k : Int) + m).toNat q).1
    omega
  · exact Nat.zero_le _
theorem ovr_bd (q : Q4) (k : Nat) (m : Int) (hm : m.natAbs ≤ 4) {n : Nat} (h : bd n q) : bd (16 * n) (ovr q k m).1 := by
  unfold ovr
  split
  · exact bd_le (bd_red _ h) (by omega)
  · exact bd_le (bd_rtI _ h) (Nat.mul_le_mul_right _ (by
      have : (-((k : Int) + m)).toNat ≤ 4 := by omega
      exact Nat.pow_le_pow_right (by decide) this))
theorem ovr_up (q : Q4) (k : Nat) (m : Int) (hm : 0 < m) : Eqv (rtI (ab m).toNat (ovr q k m).1) (ovr q k m).2 q k := by
  have e := ovr_eqv q k m (by omega)
  have ha : ab m = m := by unfold ab; split <;> omega
  unfold Eqv at *
  rw [← e, ← rtI_add]
  congr 1
  rw [ha]
  omega
theorem ovr_down (q : Q4) (k : Nat) (m : Int) (hm : ¬ 0 < m) : Eqv (rtI (ab m).toNat q) k (ovr q k m).1 (ovr q k m).2 := by
  have ha : ab m = -m := by unfold ab; split <;> omega
  by_cases h : 0 ≤ (k : Int) + m
  · have e := ovr_eqv q k m h
    unfold Eqv at *
    rw [rtI_comm, ← e, ← rtI_add]
    congr 1
    rw [ha]
    omega
  · unfold ovr
    rw [if_neg h]
    unfold Eqv
    show rtI (ab m).toNat q = rtI k (rtI (-((k : Int) + m)).toNat q)
    rw [← rtI_add]
    congr 1
    rw [ha]
    omega
end K01
end
section
set_option maxRecDepth 100000
set_option linter.all false
set_option exponentiation.threshold 5000
set_option maxHeartbeats 4000000
namespace K01
open Pd PySem
theorem turns_ok (q : Q4) (k : Nat) (many times : Int) (ht : times.natAbs ≤ 4) (hk : k ≤ 10) (hb : bd 7 q) (hn : norm q k) : m_ulaw_turns_right [ry true q k, .int many, .int times] = some (.v (.bl true)) := by
  have kl := ovr_le q k times
  have bl := ovr_bd q k times ht hb
  have ha : (ab times).natAbs ≤ 4 := by unfold ab; split <;> omega
  have tu := turned_ok true q k many
  have tb := turned_ok true (trnI (many % 8).toNat q) k (0 - many)
  rw [trnI_back] at tb
  have sd := stands_ok (trnI (many % 8).toNat q) k (norm_trnI _ hn) (by omega) _ _ _ _ (worth_mod _ _ _).symm (worth_mod _ _ _).symm (worth_mod _ _ _).symm (worth_mod _ _ _).symm
  have ov := over_ok true q k times (by omega) (by omega) (smQ_of hb (by decide))
  have o2 := over_ok false q k times (by omega) (by omega) (smQ_of hb (by decide))
  have o1 := over_ok true (ovr q k times).1 (ovr q k times).2 (0 - times) (by omega) (by omega) (smQ_of bl (by decide))
  rw [ovr_there q k times hn] at o1
  have ir := law_is_ray_ok (ovr q k times).1 (ovr q k times).2 (ovr_norm _ _ _) (by omega)
  have w4 := worths_ok (ovr q k times).1 (ovr q k times).2 (by omega)
  have w1 := worths_ok q k (by omega)
  have sa : m_ulaw_same [ry true q k, ry true q k] = some (.v (.bl true)) := same_ry 6 q k
  have sb : m_ulaw_same [.lst [ry true q k, ry true (ovr q k times).1 (ovr q k times).2], .lst [ry true q k, ry true (ovr q k times).1 (ovr q k times).2]] = some (.v (.bl true)) := same_lst 7 _ (by
    intro d hd
    simp only [List.mem_cons, List.not_mem_nil, or_false] at hd
    rcases hd with rfl | rfl
    · exact same_ry 5 _ _
    · exact same_ry 5 _ _) (by simp)
  have key : ∃ F : List D, ∃ f1 f3 f5 f7 : Int, F = [.int f1, .int f3, .int f5, .int f7] ∧ ((0 < times ∧ F = ws q k ∧ F = ws (rtI (ab times).toNat (ovr q k times).1) (ovr q k times).2) ∨ (¬ 0 < times ∧ F = ws (rtI (ab times).toNat q) k ∧ F = ws (ovr q k times).1 (ovr q k times).2)) := by
    by_cases h : 0 < times
    · refine ⟨_, _, _, _, _, rfl, Or.inl ⟨h, rfl, ?_⟩⟩
      have e := ovr_up q k times h
      unfold ws
      rw [eqv_worth way1 e, eqv_worth way3 e, eqv_worth way5 e, eqv_worth way7 e]
    · refine ⟨_, _, _, _, _, rfl, Or.inr ⟨h, rfl, ?_⟩⟩
      have e := ovr_down q k times h
      unfold ws
      rw [eqv_worth way1 e, eqv_worth way3 e, eqv_worth way5 e, eqv_worth way7 e]
  obtain ⟨F, f1, f3, f5, f7, hF, key⟩ := key
  subst hF
  obtain ⟨δ, h⟩ := turns_s [.int q.a, .int q.b, .int q.c, .int q.d, .int (k : Int)] (ry true (trnI (many % 8).toNat q) k) (ry true (ovr q k times).1 (ovr q k times).2) many times
    _ _ _ _ (worth 1 (trnI (many % 8).toNat q) k) (worth 3 (trnI (many % 8).toNat q) k) (worth 5 (trnI (many % 8).toNat q) k) (worth 7 (trnI (many % 8).toNat q) k)
    _ _ _ _ _ _ _ _ _ _ _ _ f1 f3 f5 f7 _ _ w1 tu (worths_ok eW 0 (by decide)) rfl rfl (by omega)
    (turns_loop _ _ _ _ _ _ _ _ k _ 0 _ _ _ q (.own _) (.own _)) sd tb sa (worths_ok eR 0 (by decide)) ov ir w4
    (fun s3 s5 s6 => by
      rcases key with ⟨hm, e1, e2⟩ | ⟨hm, e1, e2⟩
      · obtain ⟨a, b, c, g, e⟩ := roots_loop10 (.val (ry true q k)) (.val (.int many)) s3 (.val (ry true (trnI (many % 8).toNat q) k)) s5 (.val (ry true (ovr q k times).1 (ovr q k times).2)) (.val (.lst (ws q k))) times hm (ovr q k times).2 (ab times).toNat 0 (.val (.lst (ws (ovr q k times).1 (ovr q k times).2))) (.own false (ws eR 0)) s6 (ovr q k times).1 (.val _) (.own _)
        exact ⟨c, b, _, a, e1 ▸ .val _, e2 ▸ g, e⟩
      · obtain ⟨a, b, c, g, e⟩ := roots_loop9 (.val (ry true q k)) (.val (.int many)) s3 (.val (ry true (trnI (many % 8).toNat q) k)) s5 (.val (ry true (ovr q k times).1 (ovr q k times).2)) (.val (.lst (ws (ovr q k times).1 (ovr q k times).2))) times hm k (ab times).toNat 0 (.val (.lst (ws q k))) (.own false (ws eR 0)) s6 q (.val _) (.own _)
        exact ⟨c, b, a, _, e1 ▸ g, e2 ▸ .val _, e⟩)
    o1 o2 sb
  exact turns_w _ _ _ _ h
end K01
end
section
set_option maxRecDepth 100000
set_option linter.all false
set_option exponentiation.threshold 5000
set_option maxHeartbeats 4000000
namespace K01
open Pd PySem
theorem ix30 : L2.ixN 3 0 = some 0 := rfl
theorem ix32 : L2.ixN 3 2 = some 2 := rfl
theorem take_pos (x y z b : Int) (hx : 0 < x) (hb : 0 < b ∧ b < 1073741824) : m_ulaw_take [.int x, .int y, .int z] [.int b] = some (.v (.int (x % b)), [.int (x / b), .int y, .int z]) := by
  obtain ⟨b1, b2⟩ := hb
  have main : sm_ulaw_take [.own true [.int x, .int y, .int z], .val (.int b), .none, .none, .none, .none] = some (.ret (.val (.int (x % b))), [.own true [.int (x / b), .int y, .int z], .val (.int b), .val (.int (x % b)), .none, .none, .none]) := by
    unfold sm_ulaw_take
    simp [hx, b1, b2, ix30]
  simp [m_ulaw_take, main]
theorem take_zero (x y z b : Int) (hx : ¬ 0 < x) (hy : 0 ≤ y ∧ y < 2 ^ 62) (hz : 0 ≤ z ∧ z < 1000) (hb : 0 < b ∧ b < 1073741824) : ∃ r, m_ulaw_take [.int x, .int y, .int z] [.int b] = some (.v (.int (r % b)), [.int x, .int y, .int (z + 1)]) := by
  obtain ⟨b1, b2⟩ := hb
  generalize hw : z + 1 = w
  have m1 : ∀ i, cMul 48271 i = true := fun i => cMul_of (by decide)
  have m2 : ∀ i, cMul i (39373 + w) = true := fun i => cMul_r (by omega)
  generalize ho : (y + 48271 * w) * (39373 + w) % 2147483647 = o
  generalize hv : o % 40009 + 7 = v
  have m3 : ∀ i, cMul i v = true := fun i => cMul_r (by omega)
  generalize ht : (o + w + y / 1000003) * v % 2147483629 = t
  have m4 : ∀ i, cMul i 48271 = true := fun i => cMul_r (by decide)
  refine ⟨(t * 48271 + o) % 2147483587 / 64, ?_⟩
  have main : sm_ulaw_take [.own true [.int x, .int y, .int z], .val (.int b), .none, .none, .none, .none] = some (.ret (.val (.int ((t * 48271 + o) % 2147483587 / 64 % b))), [.own true [.int x, .int y, .int w], .val (.int b), .none, .val (.int o), .val (.int v), .val (.int t)]) := by
    unfold sm_ulaw_take
    refine seq_nxt (δ' := [.own true [.int x, .int y, .int z], .val (.int b), .none, .none, .none, .none]) (by simp [hx]) ?_
    refine seq_nxt (δ' := [.own true [.int x, .int y, .int w], .val (.int b), .none, .none, .none, .none]) (by simp [hw, ix32]) ?_
    refine seq_nxt (δ' := [.own true [.int x, .int y, .int w], .val (.int b), .none, .val (.int o), .none, .none]) (by simp [m1, m2, ho]) ?_
    refine seq_nxt (δ' := [.own true [.int x, .int y, .int w], .val (.int b), .none, .val (.int o), .val (.int v), .none]) (by simp [hv]) ?_
    refine seq_nxt (δ' := [.own true [.int x, .int y, .int w], .val (.int b), .none, .val (.int o), .val (.int v), .val (.int t)]) (by simp [m3, ht]) ?_
    simp [m4, b1]
  simp [m_ulaw_take, main]
/-- a lot of three numbers that takes may be made from -/
structure Tin (l : List D) (n : Int) : Prop where
  ok : ∃ x y z, l = [.int x, .int y, .int z] ∧ 0 ≤ x ∧ 0 ≤ y ∧ y < 2 ^ 62 ∧ 0 ≤ z ∧ z < n
theorem take_ok {l : List D} {n : Int} (h : Tin l n) (hn : n ≤ 1000) (b : Int) (hb : 0 < b ∧ b < 1073741824) : ∃ r l', m_ulaw_take l [.int b] = some (.v (.int r), l') ∧ 0 ≤ r ∧ r < b ∧ Tin l' (n + 1) := by
  obtain ⟨x, y, z, rfl, hx, hy, hy2, hz, hz2⟩ := h.ok
  by_cases p : 0 < x
  · exact ⟨_, _, take_pos x y z b p hb, Int.emod_nonneg _ (by omega), Int.emod_lt_of_pos _ hb.1, ⟨_, _, _, rfl, Int.ediv_nonneg hx (by omega), hy, hy2, hz, by omega⟩⟩
  · obtain ⟨r, e⟩ := take_zero x y z b p ⟨hy, hy2⟩ ⟨hz, by omega⟩ hb
    exact ⟨_, _, e, Int.emod_nonneg _ (by omega), Int.emod_lt_of_pos _ hb.1, ⟨_, _, _, rfl, hx, hy, hy2, by omega, by omega⟩⟩
end K01
end
section
set_option maxRecDepth 100000
set_option linter.all false
set_option exponentiation.threshold 5000
set_option maxHeartbeats 4000000
namespace K01
open Pd PySem
theorem ray_s0 (l0 l1 l2 l3 l4' l5 l6 l7 l8 l9 l10 : List D) (r1 r2 r3 r4 m1 m2 m3 m4 r10 : Int) (R : D)
    (t1 : m_ulaw_take l0 [.int 15] = some (.v (.int r1), l1)) (t2 : m_ulaw_take l1 [.int 15] = some (.v (.int r2), l2)) (t3 : m_ulaw_take l2 [.int 15] = some (.v (.int r3), l3)) (t4 : m_ulaw_take l3 [.int 15] = some (.v (.int r4), l4'))
    (t5 : m_ulaw_take l4' [.int 4] = some (.v (.int 0), l5))
    (t6 : m_ulaw_take l5 [.int 2] = some (.v (.int m1), l6)) (t7 : m_ulaw_take l6 [.int 2] = some (.v (.int m2), l7)) (t8 : m_ulaw_take l7 [.int 2] = some (.v (.int m3), l8)) (t9 : m_ulaw_take l8 [.int 2] = some (.v (.int m4), l9))
    (t10 : m_ulaw_take l9 [.int 6] = some (.v (.int r10), l10))
    (c1 : ∀ j, cMul (r1 - 7) j = true) (c2 : ∀ j, cMul (r2 - 7) j = true) (c3 : ∀ j, cMul (r3 - 7) j = true) (c4 : ∀ j, cMul (r4 - 7) j = true)
    (sh : m_ulaw_short [.lst [.int ((r1 - 7) * m1), .int ((r2 - 7) * m2), .int ((r3 - 7) * m3), .int ((r4 - 7) * m4)], .int r10] = some (.v R)) :
    ∃ δ, sm_ulaw_ray [.own true l0, .none, .none, .none] = some (.ret (.val R), .own true l10 :: δ) := by
  refine ⟨?_, ?_⟩
  rotate_left
  · unfold sm_ulaw_ray
    refine seq_nxt (δ' := [.own true l4', .own false [.int (r1 - 7), .int (r2 - 7), .int (r3 - 7), .int (r4 - 7)], .none, .none]) (by simp [lcD, t1, t2, t3, t4]) ?_
    refine seq_nxt (δ' := [.own true l9, .own false [.int ((r1 - 7) * m1), .int ((r2 - 7) * m2), .int ((r3 - 7) * m3), .int ((r4 - 7) * m4)], .none, .none]) (by simp [lcD, t5, t6, t7, t8, t9, c1, c2, c3, c4]) ?_
    simp [t10, sh]
    rfl
theorem ray_s1 (l0 l1 l2 l3 l4' l5 l10 : List D) (r1 r2 r3 r4 r5 r10 : Int) (R : D)
    (t1 : m_ulaw_take l0 [.int 15] = some (.v (.int r1), l1)) (t2 : m_ulaw_take l1 [.int 15] = some (.v (.int r2), l2)) (t3 : m_ulaw_take l2 [.int 15] = some (.v (.int r3), l3)) (t4 : m_ulaw_take l3 [.int 15] = some (.v (.int r4), l4'))
    (t5 : m_ulaw_take l4' [.int 4] = some (.v (.int r5), l5)) (h5 : (r5 == 0) = false)
    (t10 : m_ulaw_take l5 [.int 6] = some (.v (.int r10), l10))
    (sh : m_ulaw_short [.lst [.int (r1 - 7), .int (r2 - 7), .int (r3 - 7), .int (r4 - 7)], .int r10] = some (.v R)) :
    ∃ δ, sm_ulaw_ray [.own true l0, .none, .none, .none] = some (.ret (.val R), .own true l10 :: δ) := by
  refine ⟨?_, ?_⟩
  rotate_left
  · unfold sm_ulaw_ray
    refine seq_nxt (δ' := [.own true l4', .own false [.int (r1 - 7), .int (r2 - 7), .int (r3 - 7), .int (r4 - 7)], .none, .none]) (by simp [lcD, t1, t2, t3, t4]) ?_
    refine seq_nxt (δ' := [.own true l5, .own false [.int (r1 - 7), .int (r2 - 7), .int (r3 - 7), .int (r4 - 7)], .none, .none]) (by simp [t5, h5]) ?_
    simp [t10, sh]
    rfl
theorem ray_w (l0 l1 : List D) (R : D) (δ : DEnv) (h : sm_ulaw_ray [.own true l0, .none, .none, .none] = some (.ret (.val R), .own true l1 :: δ)) : m_ulaw_ray l0 [] = some (.v R, l1) := by
  simp [m_ulaw_ray, h]
theorem ray_ok {l : List D} {n : Int} (h : Tin l n) (hn : n ≤ 900) : ∃ q k l', m_ulaw_ray l [] = some (.v (ry true q k), l') ∧ bd 7 q ∧ k ≤ 5 ∧ norm q k ∧ Tin l' (n + 10) := by
  obtain ⟨r1, l1, t1, a1, b1, h1⟩ := take_ok h (by omega) 15 (by omega)
  obtain ⟨r2, l2, t2, a2, b2, h2⟩ := take_ok h1 (by omega) 15 (by omega)
  obtain ⟨r3, l3, t3, a3, b3, h3⟩ := take_ok h2 (by omega) 15 (by omega)
  obtain ⟨r4, l4', t4, a4, b4, h4⟩ := take_ok h3 (by omega) 15 (by omega)
  obtain ⟨r5, l5, t5, a5, b5, h5⟩ := take_ok h4 (by omega) 4 (by omega)
  by_cases z : r5 = 0
  · subst z
    obtain ⟨m1, l6, t6, a6, b6, h6⟩ := take_ok h5 (by omega) 2 (by omega)
    obtain ⟨m2, l7, t7, a7, b7, h7⟩ := take_ok h6 (by omega) 2 (by omega)
    obtain ⟨m3, l8, t8, a8, b8, h8⟩ := take_ok h7 (by omega) 2 (by omega)
    obtain ⟨m4, l9, t9, a9, b9, h9⟩ := take_ok h8 (by omega) 2 (by omega)
    obtain ⟨r10, l10, t10, a10, b10, h10⟩ := take_ok h9 (by omega) 6 (by omega)
    have sh := short_ok false ⟨(r1 - 7) * m1, (r2 - 7) * m2, (r3 - 7) * m3, (r4 - 7) * m4⟩ r10.toNat (by omega)
    have e : ((r10.toNat : Nat) : Int) = r10 := by omega
    have hb : bd 7 ⟨(r1 - 7) * m1, (r2 - 7) * m2, (r3 - 7) * m3, (r4 - 7) * m4⟩ := by
      have g : ∀ r m : Int, 0 ≤ r → r < 15 → 0 ≤ m → m < 2 → ((r - 7) * m).natAbs ≤ 7 := fun r m u1 u2 u3 u4 => by
        have := bd_pr (x := r - 7) (y := m) (m := 7) (n := 1) (by omega) (by omega)
        omega
      exact ⟨g _ _ a1 b1 a6 b6, g _ _ a2 b2 a7 b7, g _ _ a3 b3 a8 b8, g _ _ a4 b4 a9 b9⟩
    have hbr := bd_red r10.toNat hb
    have hnr := norm_red r10.toNat ⟨(r1 - 7) * m1, (r2 - 7) * m2, (r3 - 7) * m3, (r4 - 7) * m4⟩
    have hkr := (red_back r10.toNat ⟨(r1 - 7) * m1, (r2 - 7) * m2, (r3 - 7) * m3, (r4 - 7) * m4⟩).1
    rw [e] at sh
    obtain ⟨δ, w⟩ := ray_s0 _ _ _ _ _ _ _ _ _ _ _ _ _ _ _ _ _ _ _ _ _ t1 t2 t3 t4 t5 t6 t7 t8 t9 t10 (fun j => cMul_of (by omega)) (fun j => cMul_of (by omega)) (fun j => cMul_of (by omega)) (fun j => cMul_of (by omega)) sh
    exact ⟨_, _, _, ray_w _ _ _ _ w, hbr, by omega, hnr, (show n + 1 + 1 + 1 + 1 + 1 + 1 + 1 + 1 + 1 + 1 = n + 10 by omega) ▸ h10⟩
  · obtain ⟨r10, l10, t10, a10, b10, h10⟩ := take_ok h5 (by omega) 6 (by omega)
    have sh := short_ok false ⟨r1 - 7, r2 - 7, r3 - 7, r4 - 7⟩ r10.toNat (by omega)
    have e : ((r10.toNat : Nat) : Int) = r10 := by omega
    have hb : bd 7 ⟨r1 - 7, r2 - 7, r3 - 7, r4 - 7⟩ := ⟨by simp only; omega, by simp only; omega, by simp only; omega, by simp only; omega⟩
    have hbr := bd_red r10.toNat hb
    have hnr := norm_red r10.toNat ⟨r1 - 7, r2 - 7, r3 - 7, r4 - 7⟩
    have hkr := (red_back r10.toNat ⟨r1 - 7, r2 - 7, r3 - 7, r4 - 7⟩).1
    rw [e] at sh
    obtain ⟨δ, w⟩ := ray_s1 _ _ _ _ _ _ _ _ _ _ _ _ _ _ t1 t2 t3 t4 t5 (by simp [z]) t10 sh
    obtain ⟨x, y, zz, hl, q1, q2, q3, q4, q5⟩ := h10.ok
    exact ⟨_, _, _, ray_w _ _ _ _ w, hbr, by omega, hnr, ⟨x, y, zz, hl, q1, q2, q3, q4, by omega⟩⟩
end K01
end
section
set_option maxRecDepth 100000
set_option linter.all false
set_option exponentiation.threshold 5000
set_option maxHeartbeats 4000000
namespace K01
open Pd PySem
theorem right_s (l0 l1 l2 l3 l4' l5 l6 : List D) (a b c d k e : Int) (B C E : D) (r1 r2 r3 : Int)
    (t1 : m_ulaw_ray l0 [] = some (.v (.tup [.int a, .int b, .int c, .int d, .int k]), l1)) (t2 : m_ulaw_ray l1 [] = some (.v B, l2)) (t3 : m_ulaw_ray l2 [] = some (.v C, l3))
    (ca : ∀ j, cMul a j = true) (cb : ∀ j, cMul b j = true) (cc : ∀ j, cMul c j = true) (cd : ∀ j, cMul d j = true)
    (hk : k + 2 = e) (o1 : m_ray_of [.tup [.int (a * 2), .int (b * 2), .int (c * 2), .int (d * 2)], .int e] = some (.v (.tup [.int a, .int b, .int c, .int d, .int k])))
    (o2 : m_ray_of [.tup [.int a, .int b, .int c, .int d], .int k] = some (.v (.tup [.int a, .int b, .int c, .int d, .int k])))
    (e1 : m_eighth_of [.tup [.int a, .int b, .int c, .int d, .int k]] = some (.v E)) (e2 : m_ulaw_eighth [.tup [.int a, .int b, .int c, .int d, .int k]] = some (.v E))
    (sa : m_ulaw_same [.lst [.tup [.int a, .int b, .int c, .int d, .int k], .tup [.int a, .int b, .int c, .int d, .int k], E], .lst [.tup [.int a, .int b, .int c, .int d, .int k], .tup [.int a, .int b, .int c, .int d, .int k], E]] = some (.v (.bl true)))
    (p1 : m_ulaw_sums_right [.tup [.int a, .int b, .int c, .int d, .int k], B, C] = some (.v (.bl true)))
    (t4 : m_ulaw_take l3 [.int 41] = some (.v (.int r1), l4')) (t5 : m_ulaw_take l4' [.int 9] = some (.v (.int r2), l5))
    (p2 : m_ulaw_turns_right [.tup [.int a, .int b, .int c, .int d, .int k], .int (r1 - 20), .int (r2 - 4)] = some (.v (.bl true)))
    (p3 : m_ulaw_mirrors_right [.tup [.int a, .int b, .int c, .int d, .int k], B] = some (.v (.bl true))) (p4 : m_ulaw_signs_right [.tup [.int a, .int b, .int c, .int d, .int k]] = some (.v (.bl true)))
    (t6 : m_ulaw_take l5 [.int 4] = some (.v (.int r3), l6)) (p5 : m_ulaw_rests_right [B, .int r3] = some (.v (.bl true))) :
    ∃ δ, sm_ulaw_right [.own true l0, .none, .none, .none, .none, .none] = some (.ret (.val (.bl true)), .own true l6 :: δ) := by
  refine ⟨?_, ?_⟩
  rotate_left
  · unfold sm_ulaw_right
    refine seq_nxt (δ' := [.own true l3, .val (.tup [.int a, .int b, .int c, .int d, .int k]), .val B, .val C, .none, .none]) (by simp [t1, t2, t3]) ?_
    refine seq_nxt (δ' := [.own true l3, .val (.tup [.int a, .int b, .int c, .int d, .int k]), .val B, .val C, .val (.tup [.int (a * 2), .int (b * 2), .int (c * 2), .int (d * 2)]), .none]) (by simp [lcD, ca, cb, cc, cd]) ?_
    refine seq_nxt (δ' := [.own true l3, .val (.tup [.int a, .int b, .int c, .int d, .int k]), .val B, .val C, .val (.tup [.int (a * 2), .int (b * 2), .int (c * 2), .int (d * 2)]), .none]) (by simp [hk, o1, o2, e1, e2, sa]) ?_
    refine seq_nxt (δ' := [.own true l5, .val (.tup [.int a, .int b, .int c, .int d, .int k]), .val B, .val C, .val (.tup [.int (a * 2), .int (b * 2), .int (c * 2), .int (d * 2)]), .none]) (by simp [p1, t4, t5, p2]) ?_
    simp [p3, p4, t6, p5]
    rfl
theorem right_w (l0 l1 : List D) (δ : DEnv) (h : sm_ulaw_right [.own true l0, .none, .none, .none, .none, .none] = some (.ret (.val (.bl true)), .own true l1 :: δ)) : m_ulaw_right l0 [] = some (.v (.bl true), l1) := by
  simp [m_ulaw_right, h]
theorem right_ok {l : List D} {n : Int} (h : Tin l n) (hn : n ≤ 800) (eighths : ∀ q k, ∃ E, m_eighth_of [ry true q k] = some (.v E) ∧ m_ulaw_eighth [ry true q k] = some (.v E) ∧ m_ulaw_same [.lst [ry true q k, ry true q k, E], .lst [ry true q k, ry true q k, E]] = some (.v (.bl true))) :
    ∃ l', m_ulaw_right l [] = some (.v (.bl true), l') := by
  obtain ⟨q1, k1, l1, t1, b1, c1, n1, h1⟩ := ray_ok h (by omega)
  obtain ⟨q2, k2, l2, t2, b2, c2, n2, h2⟩ := ray_ok h1 (by omega)
  obtain ⟨q3, k3, l3, t3, b3, c3, n3, h3⟩ := ray_ok h2 (by omega)
  obtain ⟨r1, l4', t4, a4, d4, h4⟩ := take_ok h3 (by omega) 41 (by omega)
  obtain ⟨r2, l5, t5, a5, d5, h5⟩ := take_ok h4 (by omega) 9 (by omega)
  obtain ⟨r3, l6, t6, a6, d6, h6⟩ := take_ok h5 (by omega) 4 (by omega)
  obtain ⟨E, e1, e2, sa⟩ := eighths q1 k1
  obtain ⟨m1, m2, m3, m4⟩ := bd_mul b1 (by decide)
  have o2 := ray_of_ok true q1 k1 (by omega)
  have o1 := ray_of_ok true ⟨q1.a * 2, q1.b * 2, q1.c * 2, q1.d * 2⟩ (k1 + 2) (by omega)
  rw [← rt_rt] at o1
  rw [show rt (rt q1) = rtI 2 q1 from rfl, red_rt, n1] at o1
  rw [n1] at o2
  rw [show rtI 2 q1 = ⟨q1.a * 2, q1.b * 2, q1.c * 2, q1.d * 2⟩ from rt_rt q1] at o1
  obtain ⟨δ, w⟩ := right_s l l1 l2 l3 l4' l5 l6 q1.a q1.b q1.c q1.d k1 _ _ _ E r1 r2 r3 t1 t2 t3 m1 m2 m3 m4 (by omega) o1 o2 e1 e2 sa
    (sums_ok q1 q2 q3 k1 k2 k3 (by omega) (by omega) (by omega) b1 b2 b3) t4 t5 (turns_ok q1 k1 (r1 - 20) (r2 - 4) (by omega) (by omega) b1 n1)
    (mirrors_ok q1 q2 k1 k2 (by omega) (by omega) b1 b2 n1) (signs_ok q1 k1 (by omega) b1) t6 (rests_ok q2 k2 r3 (by omega) (by omega) b2)
  exact ⟨_, right_w _ _ _ w⟩
end K01
end
section
set_option maxRecDepth 100000
set_option linter.all false
set_option exponentiation.threshold 5000
set_option maxHeartbeats 4000000
namespace K01
open Pd PySem
theorem for_nxt {g : GM} {b : SM} {d : D} {ds : List D} {δ δ1 δ2 : DEnv} {r : Option (Ctl × DEnv)} (h1 : g d δ = some δ1) (h2 : b δ1 = some (.nxt, δ2)) (h3 : forD g b ds δ2 = r) : forD g b (d :: ds) δ = r := by
  simp [forD, h1, h2, h3]
theorem eb (r c : List D) (j : Int) (h1 : m_turned_ray [d_ONE, .int j] = some (.v (.tup c))) (h2 : eqD (.tup c) (.tup r) = false) (s1 : shp (.tup c) = true) (s2 : shp (.tup r) = true) :
    eighth_of_b1 [.val (.tup r), .val (.int j)] = some (.nxt, [.val (.tup r), .val (.int j)]) := by
  simp [eighth_of_b1, h1, h2, s1, s2]
theorem eg (X : Sl) (s : Sl) (j : Int) : gN 1 (.int j) [X, s] = some [X, .val (.int j)] := by simp
theorem tj0 : m_turned_ray [d_ONE, .int 0] = some (.v (.tup [.int 1, .int 0, .int 0, .int 0, .int 0])) := by
  have h := turned_ok true ⟨1, 0, 0, 0⟩ 0 0
  simpa [trnI, trn, sq, d_ONE] using h
theorem tj1 : m_turned_ray [d_ONE, .int 1] = some (.v (.tup [.int 0, .int 1, .int 0, .int 0, .int 0])) := by
  have h := turned_ok true ⟨1, 0, 0, 0⟩ 0 1
  simpa [trnI, trn, sq, d_ONE] using h
theorem tj2 : m_turned_ray [d_ONE, .int 2] = some (.v (.tup [.int 0, .int 0, .int 1, .int 0, .int 0])) := by
  have h := turned_ok true ⟨1, 0, 0, 0⟩ 0 2
  simpa [trnI, trn, sq, d_ONE] using h
theorem tj3 : m_turned_ray [d_ONE, .int 3] = some (.v (.tup [.int 0, .int 0, .int 0, .int 1, .int 0])) := by
  have h := turned_ok true ⟨1, 0, 0, 0⟩ 0 3
  simpa [trnI, trn, sq, d_ONE] using h
theorem tj4 : m_turned_ray [d_ONE, .int 4] = some (.v (.tup [.int (-1), .int 0, .int 0, .int 0, .int 0])) := by
  have h := turned_ok true ⟨1, 0, 0, 0⟩ 0 4
  simpa [trnI, trn, sq, d_ONE] using h
theorem tj5 : m_turned_ray [d_ONE, .int 5] = some (.v (.tup [.int 0, .int (-1), .int 0, .int 0, .int 0])) := by
  have h := turned_ok true ⟨1, 0, 0, 0⟩ 0 5
  simpa [trnI, trn, sq, d_ONE] using h
theorem tj6 : m_turned_ray [d_ONE, .int 6] = some (.v (.tup [.int 0, .int 0, .int (-1), .int 0, .int 0])) := by
  have h := turned_ok true ⟨1, 0, 0, 0⟩ 0 6
  simpa [trnI, trn, sq, d_ONE] using h
theorem tj7 : m_turned_ray [d_ONE, .int 7] = some (.v (.tup [.int 0, .int 0, .int 0, .int (-1), .int 0])) := by
  have h := turned_ok true ⟨1, 0, 0, 0⟩ 0 7
  simpa [trnI, trn, sq, d_ONE] using h
theorem eighth_s (a b c d K : Int)
    (h0 : (1 == a && (0 == b && (0 == c && (0 == d && 0 == K)))) = false) (h1 : (0 == a && (1 == b && (0 == c && (0 == d && 0 == K)))) = false)
    (h2 : (0 == a && (0 == b && (1 == c && (0 == d && 0 == K)))) = false) (h3 : (0 == a && (0 == b && (0 == c && (1 == d && 0 == K)))) = false)
    (h4 : (-1 == a && (0 == b && (0 == c && (0 == d && 0 == K)))) = false) (h5 : (0 == a && (-1 == b && (0 == c && (0 == d && 0 == K)))) = false)
    (h6 : (0 == a && (0 == b && (-1 == c && (0 == d && 0 == K)))) = false) (h7 : (0 == a && (0 == b && (0 == c && (-1 == d && 0 == K)))) = false) :
    m_eighth_of [.tup [.int a, .int b, .int c, .int d, .int K]] = some (.v .non) := by
  have lo : forD (gN 1) eighth_of_b1 [.int 0, .int 1, .int 2, .int 3, .int 4, .int 5, .int 6, .int 7] [.val (.tup [.int a, .int b, .int c, .int d, .int K]), .none] = some (.nxt, [.val (.tup [.int a, .int b, .int c, .int d, .int K]), .val (.int 7)]) := by
    refine for_nxt (eg _ _ _) (eb _ [.int 1, .int 0, .int 0, .int 0, .int 0] 0 tj0 ((eqD_t5 _ _ _ _ _ _ _ _ _ _).trans h0) (shp_t5 _ _ _ _ _) (shp_t5 _ _ _ _ _)) ?_
    refine for_nxt (eg _ _ _) (eb _ [.int 0, .int 1, .int 0, .int 0, .int 0] 1 tj1 ((eqD_t5 _ _ _ _ _ _ _ _ _ _).trans h1) (shp_t5 _ _ _ _ _) (shp_t5 _ _ _ _ _)) ?_
    refine for_nxt (eg _ _ _) (eb _ [.int 0, .int 0, .int 1, .int 0, .int 0] 2 tj2 ((eqD_t5 _ _ _ _ _ _ _ _ _ _).trans h2) (shp_t5 _ _ _ _ _) (shp_t5 _ _ _ _ _)) ?_
    refine for_nxt (eg _ _ _) (eb _ [.int 0, .int 0, .int 0, .int 1, .int 0] 3 tj3 ((eqD_t5 _ _ _ _ _ _ _ _ _ _).trans h3) (shp_t5 _ _ _ _ _) (shp_t5 _ _ _ _ _)) ?_
    refine for_nxt (eg _ _ _) (eb _ [.int (-1), .int 0, .int 0, .int 0, .int 0] 4 tj4 ((eqD_t5 _ _ _ _ _ _ _ _ _ _).trans h4) (shp_t5 _ _ _ _ _) (shp_t5 _ _ _ _ _)) ?_
    refine for_nxt (eg _ _ _) (eb _ [.int 0, .int (-1), .int 0, .int 0, .int 0] 5 tj5 ((eqD_t5 _ _ _ _ _ _ _ _ _ _).trans h5) (shp_t5 _ _ _ _ _) (shp_t5 _ _ _ _ _)) ?_
    refine for_nxt (eg _ _ _) (eb _ [.int 0, .int 0, .int (-1), .int 0, .int 0] 6 tj6 ((eqD_t5 _ _ _ _ _ _ _ _ _ _).trans h6) (shp_t5 _ _ _ _ _) (shp_t5 _ _ _ _ _)) ?_
    refine for_nxt (eg _ _ _) (eb _ [.int 0, .int 0, .int 0, .int (-1), .int 0] 7 tj7 ((eqD_t5 _ _ _ _ _ _ _ _ _ _).trans h7) (shp_t5 _ _ _ _ _) (shp_t5 _ _ _ _ _)) ?_
    rfl
  have main : sm_eighth_of [.val (.tup [.int a, .int b, .int c, .int d, .int K]), .none] = some (.ret (.val .non), [.val (.tup [.int a, .int b, .int c, .int d, .int K]), .val (.int 7)]) := by
    rw [sx_eighth_of]
    refine seq_nxt (δ' := [.val (.tup [.int a, .int b, .int c, .int d, .int K]), .val (.int 7)]) (by simp [lo]) (by simp)
  simp [m_eighth_of, main]
theorem leb (a b c d K i : Int) (s2 : Sl) (p m : List D) (hs2 : s2 = .none ∨ s2 = .val (.int (-1)))
    (hi : i = 0 ∧ p = [.int 1, .int 0, .int 0, .int 0, .int 0] ∧ m = [.int (-1), .int 0, .int 0, .int 0, .int 0] ∨ i = 1 ∧ p = [.int 0, .int 1, .int 0, .int 0, .int 0] ∧ m = [.int 0, .int (-1), .int 0, .int 0, .int 0] ∨ i = 2 ∧ p = [.int 0, .int 0, .int 1, .int 0, .int 0] ∧ m = [.int 0, .int 0, .int (-1), .int 0, .int 0] ∨ i = 3 ∧ p = [.int 0, .int 0, .int 0, .int 1, .int 0] ∧ m = [.int 0, .int 0, .int 0, .int (-1), .int 0])
    (h1 : eqD (.tup [.int a, .int b, .int c, .int d, .int K]) (.tup p) = false) (h2 : eqD (.tup [.int a, .int b, .int c, .int d, .int K]) (.tup m) = false) :
    ulaw_eighth_b1 [.val (.tup [.int a, .int b, .int c, .int d, .int K]), .val (.int i), s2, .none] = some (.nxt, [.val (.tup [.int a, .int b, .int c, .int d, .int K]), .val (.int i), .val (.int (-1)), .none]) := by
  have m1 : ∀ i, cMul 1 i = true := fun i => cMul_of (by decide)
  have m2 : ∀ i, cMul (-1) i = true := fun i => cMul_of (by decide)
  rcases hi with ⟨rfl, rfl, rfl⟩ | ⟨rfl, rfl, rfl⟩ | ⟨rfl, rfl, rfl⟩ | ⟨rfl, rfl, rfl⟩ <;> rcases hs2 with rfl | rfl <;> simp [-eqD_t5, ulaw_eighth_b1, forD, lcD, m1, m2, h1, h2]
end K01
end
section
set_option maxRecDepth 100000
set_option linter.all false
set_option exponentiation.threshold 5000
set_option maxHeartbeats 4000000
namespace K01
open Pd PySem
theorem leg (X s : Sl) (t : Sl) (j : Int) : gN 1 (.int j) [X, s, t, .none] = some [X, .val (.int j), t, .none] := by simp
theorem lei_s (a b c d K : Int)
    (h0 : eqD (.tup [.int a, .int b, .int c, .int d, .int K]) (.tup [.int 1, .int 0, .int 0, .int 0, .int 0]) = false) (h1 : eqD (.tup [.int a, .int b, .int c, .int d, .int K]) (.tup [.int 0, .int 1, .int 0, .int 0, .int 0]) = false)
    (h2 : eqD (.tup [.int a, .int b, .int c, .int d, .int K]) (.tup [.int 0, .int 0, .int 1, .int 0, .int 0]) = false) (h3 : eqD (.tup [.int a, .int b, .int c, .int d, .int K]) (.tup [.int 0, .int 0, .int 0, .int 1, .int 0]) = false)
    (h4 : eqD (.tup [.int a, .int b, .int c, .int d, .int K]) (.tup [.int (-1), .int 0, .int 0, .int 0, .int 0]) = false) (h5 : eqD (.tup [.int a, .int b, .int c, .int d, .int K]) (.tup [.int 0, .int (-1), .int 0, .int 0, .int 0]) = false)
    (h6 : eqD (.tup [.int a, .int b, .int c, .int d, .int K]) (.tup [.int 0, .int 0, .int (-1), .int 0, .int 0]) = false) (h7 : eqD (.tup [.int a, .int b, .int c, .int d, .int K]) (.tup [.int 0, .int 0, .int 0, .int (-1), .int 0]) = false) :
    m_ulaw_eighth [.tup [.int a, .int b, .int c, .int d, .int K]] = some (.v .non) := by
  have lo : forD (gN 1) ulaw_eighth_b1 [.int 0, .int 1, .int 2, .int 3] [.val (.tup [.int a, .int b, .int c, .int d, .int K]), .none, .none, .none] = some (.nxt, [.val (.tup [.int a, .int b, .int c, .int d, .int K]), .val (.int 3), .val (.int (-1)), .none]) := by
    refine for_nxt (leg _ _ _ _) (leb a b c d K 0 _ _ _ (Or.inl rfl) (Or.inl ⟨rfl, rfl, rfl⟩) h0 h4) ?_
    refine for_nxt (leg _ _ _ _) (leb a b c d K 1 _ _ _ (Or.inr rfl) (Or.inr (Or.inl ⟨rfl, rfl, rfl⟩)) h1 h5) ?_
    refine for_nxt (leg _ _ _ _) (leb a b c d K 2 _ _ _ (Or.inr rfl) (Or.inr (Or.inr (Or.inl ⟨rfl, rfl, rfl⟩))) h2 h6) ?_
    refine for_nxt (leg _ _ _ _) (leb a b c d K 3 _ _ _ (Or.inr rfl) (Or.inr (Or.inr (Or.inr ⟨rfl, rfl, rfl⟩))) h3 h7) ?_
    rfl
  have main : sm_ulaw_eighth [.val (.tup [.int a, .int b, .int c, .int d, .int K]), .none, .none, .none] = some (.ret (.val .non), [.val (.tup [.int a, .int b, .int c, .int d, .int K]), .val (.int 3), .val (.int (-1)), .none]) := by
    rw [sx_ulaw_eighth]
    refine seq_nxt (δ' := [.val (.tup [.int a, .int b, .int c, .int d, .int K]), .val (.int 3), .val (.int (-1)), .none]) (by simp [lo]) (by simp)
  simp [m_ulaw_eighth, main]
theorem same3 (q : Q4) (k : Nat) (E : D) (h : ∀ n, mr_ulaw_same (n + 1) [E, E] = some (.v (.bl true))) : m_ulaw_same [.lst [ry true q k, ry true q k, E], .lst [ry true q k, ry true q k, E]] = some (.v (.bl true)) := same_lst 7 _ (by
  intro d hd
  simp only [List.mem_cons, List.not_mem_nil, or_false] at hd
  rcases hd with rfl | rfl | rfl
  · exact same_ry 5 _ _
  · exact same_ry 5 _ _
  · exact h 6) (by simp)
theorem z0 : m_eighth_of [ry true ⟨1, 0, 0, 0⟩ 0] = some (.v (.int 0)) ∧ m_ulaw_eighth [ry true ⟨1, 0, 0, 0⟩ 0] = some (.v (.int 0)) := by constructor <;> kernel_rfl
end K01
end
section
set_option maxRecDepth 100000
set_option linter.all false
set_option exponentiation.threshold 5000
set_option maxHeartbeats 4000000
namespace K01
open Pd PySem
theorem z1 : m_eighth_of [ry true ⟨0, 1, 0, 0⟩ 0] = some (.v (.int 1)) ∧ m_ulaw_eighth [ry true ⟨0, 1, 0, 0⟩ 0] = some (.v (.int 1)) := by constructor <;> kernel_rfl
theorem z2 : m_eighth_of [ry true ⟨0, 0, 1, 0⟩ 0] = some (.v (.int 2)) ∧ m_ulaw_eighth [ry true ⟨0, 0, 1, 0⟩ 0] = some (.v (.int 2)) := by constructor <;> kernel_rfl
theorem z3 : m_eighth_of [ry true ⟨0, 0, 0, 1⟩ 0] = some (.v (.int 3)) ∧ m_ulaw_eighth [ry true ⟨0, 0, 0, 1⟩ 0] = some (.v (.int 3)) := by constructor <;> kernel_rfl
theorem z4 : m_eighth_of [ry true ⟨-1, 0, 0, 0⟩ 0] = some (.v (.int 4)) ∧ m_ulaw_eighth [ry true ⟨-1, 0, 0, 0⟩ 0] = some (.v (.int 4)) := by constructor <;> kernel_rfl
theorem z5 : m_eighth_of [ry true ⟨0, -1, 0, 0⟩ 0] = some (.v (.int 5)) ∧ m_ulaw_eighth [ry true ⟨0, -1, 0, 0⟩ 0] = some (.v (.int 5)) := by constructor <;> kernel_rfl
theorem z6 : m_eighth_of [ry true ⟨0, 0, -1, 0⟩ 0] = some (.v (.int 6)) ∧ m_ulaw_eighth [ry true ⟨0, 0, -1, 0⟩ 0] = some (.v (.int 6)) := by constructor <;> kernel_rfl
theorem z7 : m_eighth_of [ry true ⟨0, 0, 0, -1⟩ 0] = some (.v (.int 7)) ∧ m_ulaw_eighth [ry true ⟨0, 0, 0, -1⟩ 0] = some (.v (.int 7)) := by constructor <;> kernel_rfl
theorem nf {q : Q4} {k : Nat} {a b c d : Int} (z : ¬(q = ⟨a, b, c, d⟩ ∧ k = 0)) : (a == q.a && (b == q.b && (c == q.c && (d == q.d && 0 == (k : Int))))) = false ∧ eqD (.tup [.int q.a, .int q.b, .int q.c, .int q.d, .int (k : Int)]) (.tup [.int a, .int b, .int c, .int d, .int 0]) = false := by
  have g : ¬(a = q.a ∧ b = q.b ∧ c = q.c ∧ d = q.d ∧ (0 : Int) = (k : Int)) := fun ⟨h1, h2, h3, h4, h5⟩ => z ⟨by rw [h1, h2, h3, h4], by omega⟩
  constructor
  · cases h : (a == q.a && (b == q.b && (c == q.c && (d == q.d && 0 == (k : Int)))))
    · rfl
    · simp only [Bool.and_eq_true, beq_iff_eq] at h
      exact absurd h g
  · rw [eqD_t5]
    cases h : (q.a == a && (q.b == b && (q.c == c && (q.d == d && (k : Int) == 0))))
    · rfl
    · simp only [Bool.and_eq_true, beq_iff_eq] at h
      exact absurd ⟨h.1.symm, h.2.1.symm, h.2.2.1.symm, h.2.2.2.1.symm, h.2.2.2.2.symm⟩ g
theorem eighths (q : Q4) (k : Nat) : ∃ E, m_eighth_of [ry true q k] = some (.v E) ∧ m_ulaw_eighth [ry true q k] = some (.v E) ∧ m_ulaw_same [.lst [ry true q k, ry true q k, E], .lst [ry true q k, ry true q k, E]] = some (.v (.bl true)) := by
  have si : ∀ i, m_ulaw_same [.lst [ry true q k, ry true q k, .int i], .lst [ry true q k, ry true q k, .int i]] = some (.v (.bl true)) := fun i => same3 q k _ fun n => same_int n i
  by_cases y0 : q = ⟨1, 0, 0, 0⟩ ∧ k = 0
  · obtain ⟨rfl, rfl⟩ := y0; exact ⟨_, z0.1, z0.2, si _⟩
  by_cases y1 : q = ⟨0, 1, 0, 0⟩ ∧ k = 0
  · obtain ⟨rfl, rfl⟩ := y1; exact ⟨_, z1.1, z1.2, si _⟩
  by_cases y2 : q = ⟨0, 0, 1, 0⟩ ∧ k = 0
  · obtain ⟨rfl, rfl⟩ := y2; exact ⟨_, z2.1, z2.2, si _⟩
  by_cases y3 : q = ⟨0, 0, 0, 1⟩ ∧ k = 0
  · obtain ⟨rfl, rfl⟩ := y3; exact ⟨_, z3.1, z3.2, si _⟩
  by_cases y4 : q = ⟨-1, 0, 0, 0⟩ ∧ k = 0
  · obtain ⟨rfl, rfl⟩ := y4; exact ⟨_, z4.1, z4.2, si _⟩
  by_cases y5 : q = ⟨0, -1, 0, 0⟩ ∧ k = 0
  · obtain ⟨rfl, rfl⟩ := y5; exact ⟨_, z5.1, z5.2, si _⟩
  by_cases y6 : q = ⟨0, 0, -1, 0⟩ ∧ k = 0
  · obtain ⟨rfl, rfl⟩ := y6; exact ⟨_, z6.1, z6.2, si _⟩
  by_cases y7 : q = ⟨0, 0, 0, -1⟩ ∧ k = 0
  · obtain ⟨rfl, rfl⟩ := y7; exact ⟨_, z7.1, z7.2, si _⟩
  exact ⟨.non, eighth_s _ _ _ _ _ (nf y0).1 (nf y1).1 (nf y2).1 (nf y3).1 (nf y4).1 (nf y5).1 (nf y6).1 (nf y7).1,
    lei_s _ _ _ _ _ (nf y0).2 (nf y1).2 (nf y2).2 (nf y3).2 (nf y4).2 (nf y5).2 (nf y6).2 (nf y7).2, same3 q k _ same_non⟩
end K01
end
section
set_option maxRecDepth 100000
set_option linter.all false
set_option exponentiation.threshold 5000
set_option maxHeartbeats 4000000
namespace K01
open Pd PySem
theorem box_s (L : List D) (k c : Int) (hk : k < (L.length : Int)) (hg : L2.atI L k = some (.int c)) (h0 : 0 ≤ k ∧ k < 3) : ∃ l, m_ulaw_box [.lst L, .int k] = some (.l l) ∧ Tin l 1 := by
  have m1 : ∀ i, cMul i 1 = true := fun i => cMul_r (by decide)
  have m0 : ∀ i, cMul i 0 = true := fun i => cMul_r (by decide)
  have m2 : ∀ i, cMul 39373 i = true := fun i => cMul_of (by decide)
  generalize ha : (if c < 0 then -c else c) = a
  have a0 : 0 ≤ a := by rw [← ha]; split <;> omega
  have key : ∃ x : Int, 0 ≤ x ∧ a * (if decide ((1000000000000000000 : Int) ≤ a) = true then 1 else 0) = x ∧ cMul a (if decide ((1000000000000000000 : Int) ≤ a) = true then 1 else 0) = true := by
    by_cases h : (1000000000000000000 : Int) ≤ a
    · exact ⟨a, a0, by simp [h], by rw [if_pos (decide_eq_true h)]; exact m1 _⟩
    · exact ⟨0, by omega, by simp [h], by rw [if_neg (by simpa using h)]; exact m0 _⟩
  obtain ⟨x, x0, x1, x2⟩ := key
  refine ⟨[.int x, .int (c % 2305843009213693951 + 39373 * k + 9317), .int 0], ?_, ⟨_, _, _, rfl, x0, by omega, by omega, by omega, by omega⟩⟩
  have main : sm_ulaw_box [.val (.lst L), .val (.int k), .none] = some (.ret (.tmp [.int x, .int (c % 2305843009213693951 + 39373 * k + 9317), .int 0]), [.val (.lst L), .val (.int k), .val (.int c)]) := by
    unfold sm_ulaw_box
    refine seq_nxt (δ' := [.val (.lst L), .val (.int k), .val (.int c)]) (by simp [hk, hg]) ?_
    simp at x1 x2
    simp [ha, x1, x2, m2]
  simp [m_ulaw_box, main]
end K01
end
section
set_option maxRecDepth 100000
set_option linter.all false
set_option exponentiation.threshold 5000
set_option maxHeartbeats 4000000
namespace K01
open Pd PySem
theorem a20 {α : Type} (a b : α) : L2.atI [a, b] 0 = some a := rfl
theorem a21 {α : Type} (a b : α) : L2.atI [a, b] 1 = some b := rfl
theorem ix20 : L2.ixN 2 0 = some 0 := rfl
theorem ix21 : L2.ixN 2 1 = some 1 := rfl
theorem cells_step (X s5 : Sl) (c0 c1 k v : Int) (hk : 0 ≤ k ∧ k < 100) : ∃ d0 d1, ulaw_cells_b1 [X, .val (.int 2), .own false [.int c0, .int c1], .val (.int k), .val (.int v), s5] = some (.nxt, [X, .val (.int 2), .own false [.int d0, .int d1], .val (.int k), .val (.int v), .val (.int (k % 2))]) := by
  have m : ∀ i, cMul i (k + 2) = true := fun i => cMul_r (by omega)
  rcases (show k % 2 = 0 ∨ k % 2 = 1 by omega) with h | h
  · exact ⟨c0 + v * (k + 2), c1, by simp [ulaw_cells_b1, h, m, a20, ix20]⟩
  · exact ⟨c0, c1 + v * (k + 2), by simp [ulaw_cells_b1, h, m, a21, ix21]⟩
theorem cells_loop (X : Sl) : ∀ (ns : List Int) (lo c0 c1 : Int) (s3 s4 s5 : Sl), 0 ≤ lo → lo + ns.length < 100 →
    ∃ d0 d1 t3 t4 t5, forD (gU 2 (gsCons (gN 3) (gsCons (gN 4) gsNil))) ulaw_cells_b1 (enumD lo (ns.map D.int)) [X, .val (.int 2), .own false [.int c0, .int c1], s3, s4, s5] = some (.nxt, [X, .val (.int 2), .own false [.int d0, .int d1], t3, t4, t5])
  | [], lo, c0, c1, s3, s4, s5, _, _ => ⟨c0, c1, s3, s4, s5, rfl⟩
  | v :: ns, lo, c0, c1, s3, s4, s5, h1, h2 => by
    simp only [List.length_cons] at h2
    obtain ⟨e0, e1, st⟩ := cells_step X s5 c0 c1 lo v ⟨h1, by omega⟩
    obtain ⟨d0, d1, t3, t4, t5, ih⟩ := cells_loop X ns (lo + 1) e0 e1 (.val (.int lo)) (.val (.int v)) (.val (.int (lo % 2))) (by omega) (by omega)
    refine ⟨d0, d1, t3, t4, t5, ?_⟩
    simp [forD, enumD, st, ih]
theorem cells_ok (ns : List Int) (h : ns.length ≤ 63) : ∃ c0 c1, m_ulaw_cells [.ro (ns.map D.int), .int 2] = some (.l [.int c0]) ∨ m_ulaw_cells [.ro (ns.map D.int), .int 2] = some (.l [.int c0, .int c1]) := by
  match ns, h with
  | [], _ => exact ⟨0, 0, Or.inl rfl⟩
  | [a], _ => exact ⟨a, a, Or.inl rfl⟩
  | a :: b :: r, h =>
    simp only [List.length_cons] at h
    have h2 : ∀ d, HT.sIx (r.length + 1 + 1) d (some 2) = 2 := fun d => by
      show min 2 (r.length + 1 + 1) = 2
      omega
    have h63 : ∀ d, HT.sIx (r.length + 1 + 1) d (some 63) = r.length + 1 + 1 := fun d => by
      show min 63 (r.length + 1 + 1) = r.length + 1 + 1
      omega
    have hn : HT.sIx (r.length + 1 + 1) 0 none = 0 := rfl
    have ht : List.take r.length (r.map D.int) = r.map D.int := List.take_of_length_le (by simp)
    obtain ⟨d0, d1, t3, t4, t5, lo⟩ := cells_loop (.val (.ro (.int a :: .int b :: r.map D.int))) r 0 a b .none .none .none (by omega) (by omega)
    refine ⟨d0, d1, Or.inr ?_⟩
    have main : sm_ulaw_cells [.val (.ro (.int a :: .int b :: r.map D.int)), .val (.int 2), .none, .none, .none, .none] = some (.ret (.slot 2), [.val (.ro (.int a :: .int b :: r.map D.int)), .val (.int 2), .own false [.int d0, .int d1], t3, t4, t5]) := by
      rw [sx_ulaw_cells]
      refine seq_nxt (δ' := [.val (.ro (.int a :: .int b :: r.map D.int)), .val (.int 2), .own false [.int a, .int b], .none, .none, .none]) (by simp [h2, hn]) ?_
      refine seq_nxt (δ' := [.val (.ro (.int a :: .int b :: r.map D.int)), .val (.int 2), .own false [.int d0, .int d1], t3, t4, t5]) (by simp [h2, h63, ht, lo]) ?_
      simp
    simp [m_ulaw_cells, main]
theorem hand : m_ulaw_by_hand_right [] = some (.v (.bl true)) := by kernel_rfl
theorem law_s1 (S : D) (L l0 l0' : List D) (c0 : Int) (hL : L = [.int c0]) (hc : m_ulaw_cells [S, .int 2] = some (.l L)) (b0 : m_ulaw_box [.lst L, .int 0] = some (.l l0)) (r0 : m_ulaw_right l0 [] = some (.v (.bl true), l0')) :
    sm_law [.val S, .none, .none] = some (.ret (.val (.bl true)), [.val S, .val (.lst L), .none]) := by
  have hh := hand
  unfold sm_law
  subst hL
  refine seq_nxt (δ' := [.val S, .none, .none]) (by simp [hh]) ?_
  refine seq_nxt (δ' := [.val S, .own false [.int c0], .none]) (by simp [hc]) ?_
  simp [lcD, b0, r0]
theorem law_s2 (S : D) (L l0 l0' l1 l1' : List D) (c0 c1 : Int) (hL : L = [.int c0, .int c1]) (hc : m_ulaw_cells [S, .int 2] = some (.l L)) (b0 : m_ulaw_box [.lst L, .int 0] = some (.l l0)) (r0 : m_ulaw_right l0 [] = some (.v (.bl true), l0')) (b1 : m_ulaw_box [.lst L, .int 1] = some (.l l1)) (r1 : m_ulaw_right l1 [] = some (.v (.bl true), l1')) :
    sm_law [.val S, .none, .none] = some (.ret (.val (.bl true)), [.val S, .val (.lst L), .none]) := by
  have hh := hand
  unfold sm_law
  subst hL
  refine seq_nxt (δ' := [.val S, .none, .none]) (by simp [hh]) ?_
  refine seq_nxt (δ' := [.val S, .own false [.int c0, .int c1], .none]) (by simp [hc]) ?_
  simp [lcD, b0, r0, b1, r1]
theorem law_w (S : D) (δ : DEnv) (h : sm_law [.val S, .none, .none] = some (.ret (.val (.bl true)), δ)) : m_law [S] = some (.v (.bl true)) := by
  simp [m_law, h]
theorem law_true (ns : List Int) (h : ns.length ≤ 63) : m_law [.ro (ns.map D.int)] = some (.v (.bl true)) := by
  obtain ⟨c0, c1, hc | hc⟩ := cells_ok ns h
  · obtain ⟨l0, b0, t0⟩ := box_s [.int c0] 0 c0 (by simp) rfl (by decide)
    obtain ⟨l0', r0⟩ := right_ok t0 (by decide) eighths
    exact law_w _ _ (law_s1 _ _ _ _ c0 rfl hc b0 r0)
  · obtain ⟨l0, b0, t0⟩ := box_s [.int c0, .int c1] 0 c0 (by simp) rfl (by decide)
    obtain ⟨l1, b1, t1⟩ := box_s [.int c0, .int c1] 1 c1 (by simp) rfl (by decide)
    obtain ⟨l0', r0⟩ := right_ok t0 (by decide) eighths
    obtain ⟨l1', r1⟩ := right_ok t1 (by decide) eighths
    exact law_w _ _ (law_s2 _ _ _ _ _ _ c0 c1 rfl hc b0 r0 b1 r1)
end K01
end
section
set_option Elab.async false
set_option linter.all false
set_option maxRecDepth 100000
set_option maxHeartbeats 4000000
namespace K01
open PySem PySem.Spec PyProof.Rows L2 Evl Pd
structure Tx (K : PySem.W.Frag) (mg : Str → Option Value) where
  a_is_number : Addr
  f_is_number : FuncData
  F_is_number : Fun K "is_number" "is_number" s_is_number a_is_number f_is_number
  g_is_number : mg "is_number" = some (.ref a_is_number)
  b_is_number : Binds K f_is_number ["thing"] []
  a_root_divides : Addr
  f_root_divides : FuncData
  F_root_divides : Fun K "root_divides" "root_divides" s_root_divides a_root_divides f_root_divides
  g_root_divides : mg "root_divides" = some (.ref a_root_divides)
  b_root_divides : Binds K f_root_divides ["numbers"] []
  a_times_root : Addr
  f_times_root : FuncData
  F_times_root : Fun K "times_root" "times_root" s_times_root a_times_root f_times_root
  g_times_root : mg "times_root" = some (.ref a_times_root)
  b_times_root : Binds K f_times_root ["numbers", "many"] []
  a_is_ray : Addr
  f_is_ray : FuncData
  F_is_ray : Fun K "is_ray" "is_ray" s_is_ray a_is_ray f_is_ray
  g_is_ray : mg "is_ray" = some (.ref a_is_ray)
  b_is_ray : Binds K f_is_ray ["thing"] []
  a_ray_of : Addr
  f_ray_of : FuncData
  F_ray_of : Fun K "ray_of" "ray_of" s_ray_of a_ray_of f_ray_of
  g_ray_of : mg "ray_of" = some (.ref a_ray_of)
  b_ray_of : Binds K f_ray_of ["numbers", "k"] []
  a_rays_added : Addr
  f_rays_added : FuncData
  F_rays_added : Fun K "rays_added" "rays_added" s_rays_added a_rays_added f_rays_added
  g_rays_added : mg "rays_added" = some (.ref a_rays_added)
  b_rays_added : Binds K f_rays_added ["rays"] []
  a_ray_sum : Addr
  f_ray_sum : FuncData
  F_ray_sum : Fun K "ray_sum" "ray_sum" s_ray_sum a_ray_sum f_ray_sum
  g_ray_sum : mg "ray_sum" = some (.ref a_ray_sum)
  b_ray_sum : Binds K f_ray_sum ["one", "other"] []
  a_ray_product : Addr
  f_ray_product : FuncData
  F_ray_product : Fun K "ray_product" "ray_product" s_ray_product a_ray_product f_ray_product
  g_ray_product : mg "ray_product" = some (.ref a_ray_product)
  b_ray_product : Binds K f_ray_product ["one", "other"] []
  a_turned_ray : Addr
  f_turned_ray : FuncData
  F_turned_ray : Fun K "turned_ray" "turned_ray" s_turned_ray a_turned_ray f_turned_ray
  g_turned_ray : mg "turned_ray" = some (.ref a_turned_ray)
  b_turned_ray : Binds K f_turned_ray ["ray", "many"] []
  a_mirrored : Addr
  f_mirrored : FuncData
  F_mirrored : Fun K "mirrored" "mirrored" s_mirrored a_mirrored f_mirrored
  g_mirrored : mg "mirrored" = some (.ref a_mirrored)
  b_mirrored : Binds K f_mirrored ["ray"] []
  a_twin_of : Addr
  f_twin_of : FuncData
  F_twin_of : Fun K "twin_of" "twin_of" s_twin_of a_twin_of f_twin_of
  g_twin_of : mg "twin_of" = some (.ref a_twin_of)
  b_twin_of : Binds K f_twin_of ["ray"] []
  a_size_of : Addr
  f_size_of : FuncData
  F_size_of : Fun K "size_of" "size_of" s_size_of a_size_of f_size_of
  g_size_of : mg "size_of" = some (.ref a_size_of)
  b_size_of : Binds K f_size_of ["ray"] []
  a_is_real : Addr
  f_is_real : FuncData
  F_is_real : Fun K "is_real" "is_real" s_is_real a_is_real f_is_real
  g_is_real : mg "is_real" = some (.ref a_is_real)
  b_is_real : Binds K f_is_real ["ray"] []
  a_sign_of : Addr
  f_sign_of : FuncData
  F_sign_of : Fun K "sign_of" "sign_of" s_sign_of a_sign_of f_sign_of
  g_sign_of : mg "sign_of" = some (.ref a_sign_of)
  b_sign_of : Binds K f_sign_of ["ray"] []
  a_over_root : Addr
  f_over_root : FuncData
  F_over_root : Fun K "over_root" "over_root" s_over_root a_over_root f_over_root
  g_over_root : mg "over_root" = some (.ref a_over_root)
  b_over_root : Binds K f_over_root ["ray", "many"] []
  a_rest_of : Addr
  f_rest_of : FuncData
  F_rest_of : Fun K "rest_of" "rest_of" s_rest_of a_rest_of f_rest_of
  g_rest_of : mg "rest_of" = some (.ref a_rest_of)
  b_rest_of : Binds K f_rest_of ["ray", "k"] []
  a_eighth_of : Addr
  f_eighth_of : FuncData
  F_eighth_of : Fun K "eighth_of" "eighth_of" s_eighth_of a_eighth_of f_eighth_of
  g_eighth_of : mg "eighth_of" = some (.ref a_eighth_of)
  b_eighth_of : Binds K f_eighth_of ["ray"] []
  a_ulaw_box : Addr
  f_ulaw_box : FuncData
  F_ulaw_box : Fun K "_law_box" "_law_box" s_ulaw_box a_ulaw_box f_ulaw_box
  g_ulaw_box : mg "_law_box" = some (.ref a_ulaw_box)
  b_ulaw_box : Binds K f_ulaw_box ["script", "k"] []
  a_ulaw_take : Addr
  f_ulaw_take : FuncData
  F_ulaw_take : Fun K "_law_take" "_law_take" s_ulaw_take a_ulaw_take f_ulaw_take
  g_ulaw_take : mg "_law_take" = some (.ref a_ulaw_take)
  b_ulaw_take : Binds K f_ulaw_take ["tin", "below_so"] []
  a_ulaw_cells : Addr
  f_ulaw_cells : FuncData
  F_ulaw_cells : Fun K "_law_cells" "_law_cells" s_ulaw_cells a_ulaw_cells f_ulaw_cells
  g_ulaw_cells : mg "_law_cells" = some (.ref a_ulaw_cells)
  b_ulaw_cells : Binds K f_ulaw_cells ["script", "most_so"] []
  a_ulaw_same : Addr
  f_ulaw_same : FuncData
  F_ulaw_same : Fun K "_law_same" "_law_same" s_ulaw_same a_ulaw_same f_ulaw_same
  g_ulaw_same : mg "_law_same" = some (.ref a_ulaw_same)
  b_ulaw_same : Binds K f_ulaw_same ["got", "due"] []
  a_ulaw_short : Addr
  f_ulaw_short : FuncData
  F_ulaw_short : Fun K "_law_short" "_law_short" s_ulaw_short a_ulaw_short f_ulaw_short
  g_ulaw_short : mg "_law_short" = some (.ref a_ulaw_short)
  b_ulaw_short : Binds K f_ulaw_short ["numbers_so", "k"] []
  a_ulaw_is_ray : Addr
  f_ulaw_is_ray : FuncData
  F_ulaw_is_ray : Fun K "_law_is_ray" "_law_is_ray" s_ulaw_is_ray a_ulaw_is_ray f_ulaw_is_ray
  g_ulaw_is_ray : mg "_law_is_ray" = some (.ref a_ulaw_is_ray)
  b_ulaw_is_ray : Binds K f_ulaw_is_ray ["own"] []
  a_ulaw_worth : Addr
  f_ulaw_worth : FuncData
  F_ulaw_worth : Fun K "_law_worth" "_law_worth" s_ulaw_worth a_ulaw_worth f_ulaw_worth
  g_ulaw_worth : mg "_law_worth" = some (.ref a_ulaw_worth)
  b_ulaw_worth : Binds K f_ulaw_worth ["ray_so", "turn_so"] []
  a_ulaw_worths : Addr
  f_ulaw_worths : FuncData
  F_ulaw_worths : Fun K "_law_worths" "_law_worths" s_ulaw_worths a_ulaw_worths f_ulaw_worths
  g_ulaw_worths : mg "_law_worths" = some (.ref a_ulaw_worths)
  b_ulaw_worths : Binds K f_ulaw_worths ["ray_so"] []
  a_ulaw_round : Addr
  f_ulaw_round : FuncData
  F_ulaw_round : Fun K "_law_round" "_law_round" s_ulaw_round a_ulaw_round f_ulaw_round
  g_ulaw_round : mg "_law_round" = some (.ref a_ulaw_round)
  b_ulaw_round : Binds K f_ulaw_round ["number"] []
  a_ulaw_ray : Addr
  f_ulaw_ray : FuncData
  F_ulaw_ray : Fun K "_law_ray" "_law_ray" s_ulaw_ray a_ulaw_ray f_ulaw_ray
  g_ulaw_ray : mg "_law_ray" = some (.ref a_ulaw_ray)
  b_ulaw_ray : Binds K f_ulaw_ray ["tin"] []
  a_ulaw_stands : Addr
  f_ulaw_stands : FuncData
  F_ulaw_stands : Fun K "_law_stands" "_law_stands" s_ulaw_stands a_ulaw_stands f_ulaw_stands
  g_ulaw_stands : mg "_law_stands" = some (.ref a_ulaw_stands)
  b_ulaw_stands : Binds K f_ulaw_stands ["told", "dues"] []
  a_ulaw_sums_right : Addr
  f_ulaw_sums_right : FuncData
  F_ulaw_sums_right : Fun K "_law_sums_right" "_law_sums_right" s_ulaw_sums_right a_ulaw_sums_right f_ulaw_sums_right
  g_ulaw_sums_right : mg "_law_sums_right" = some (.ref a_ulaw_sums_right)
  b_ulaw_sums_right : Binds K f_ulaw_sums_right ["one_so", "two_so", "three_so"] []
  a_ulaw_turns_right : Addr
  f_ulaw_turns_right : FuncData
  F_ulaw_turns_right : Fun K "_law_turns_right" "_law_turns_right" s_ulaw_turns_right a_ulaw_turns_right f_ulaw_turns_right
  g_ulaw_turns_right : mg "_law_turns_right" = some (.ref a_ulaw_turns_right)
  b_ulaw_turns_right : Binds K f_ulaw_turns_right ["one_so", "many", "times"] []
  a_ulaw_mirrors_right : Addr
  f_ulaw_mirrors_right : FuncData
  F_ulaw_mirrors_right : Fun K "_law_mirrors_right" "_law_mirrors_right" s_ulaw_mirrors_right a_ulaw_mirrors_right f_ulaw_mirrors_right
  g_ulaw_mirrors_right : mg "_law_mirrors_right" = some (.ref a_ulaw_mirrors_right)
  b_ulaw_mirrors_right : Binds K f_ulaw_mirrors_right ["one_so", "two_so"] []
  a_ulaw_signs_right : Addr
  f_ulaw_signs_right : FuncData
  F_ulaw_signs_right : Fun K "_law_signs_right" "_law_signs_right" s_ulaw_signs_right a_ulaw_signs_right f_ulaw_signs_right
  g_ulaw_signs_right : mg "_law_signs_right" = some (.ref a_ulaw_signs_right)
  b_ulaw_signs_right : Binds K f_ulaw_signs_right ["one_so"] []
  a_ulaw_rests_right : Addr
  f_ulaw_rests_right : FuncData
  F_ulaw_rests_right : Fun K "_law_rests_right" "_law_rests_right" s_ulaw_rests_right a_ulaw_rests_right f_ulaw_rests_right
  g_ulaw_rests_right : mg "_law_rests_right" = some (.ref a_ulaw_rests_right)
  b_ulaw_rests_right : Binds K f_ulaw_rests_right ["one_so", "more"] []
  a_ulaw_by_hand_right : Addr
  f_ulaw_by_hand_right : FuncData
  F_ulaw_by_hand_right : Fun K "_law_by_hand_right" "_law_by_hand_right" s_ulaw_by_hand_right a_ulaw_by_hand_right f_ulaw_by_hand_right
  g_ulaw_by_hand_right : mg "_law_by_hand_right" = some (.ref a_ulaw_by_hand_right)
  b_ulaw_by_hand_right : Binds K f_ulaw_by_hand_right [] []
  a_ulaw_eighth : Addr
  f_ulaw_eighth : FuncData
  F_ulaw_eighth : Fun K "_law_eighth" "_law_eighth" s_ulaw_eighth a_ulaw_eighth f_ulaw_eighth
  g_ulaw_eighth : mg "_law_eighth" = some (.ref a_ulaw_eighth)
  b_ulaw_eighth : Binds K f_ulaw_eighth ["ray_so"] []
  a_ulaw_right : Addr
  f_ulaw_right : FuncData
  F_ulaw_right : Fun K "_law_right" "_law_right" s_ulaw_right a_ulaw_right f_ulaw_right
  g_ulaw_right : mg "_law_right" = some (.ref a_ulaw_right)
  b_ulaw_right : Binds K f_ulaw_right ["tin"] []
  a_law : Addr
  f_law : FuncData
  F_law : Fun K "law" "law" s_law a_law f_law
  g_law : mg "law" = some (.ref a_law)
  b_law : Binds K f_law ["script"] []
  m_abs : mg "abs" = none
  m_all : mg "all" = none
  m_bool : mg "bool" = none
  m_enumerate : mg "enumerate" = none
  m_int : mg "int" = none
  m_isinstance : mg "isinstance" = none
  m_len : mg "len" = none
  m_list : mg "list" = none
  m_max : mg "max" = none
  m_range : mg "range" = none
  m_str : mg "str" = none
  m_tuple : mg "tuple" = none
  m_zip : mg "zip" = none
  a_ONE : Addr
  g_ONE : mg "ONE" = some (.ref a_ONE)
  r_ONE : ∀ G, Rep K G d_ONE (.ref a_ONE)
section
variable {P : Program} {w : World} {K : PySem.W.Frag} {mg : Str → Option Value} {base : Heap}
theorem ok_is_number (T : Tx K mg) : FnOk P w K mg base CX0 1 T.a_is_number T.f_is_number ["thing"] (spP K m_is_number) := by
  have hs : SdS K _ sm_is_number := (ss_ret (sd_and (sd_isi (t := .int) sd_var) (sd_not (sd_isi (t := .bool) sd_var))))
  have h1 : FnOk P w K mg base CX0 1 T.a_is_number T.f_is_number ["thing"] (spP K (runD 1 1 sm_is_number)) := by
    refine fn_pure (k := 0) (N := n_is_number) (ps := ["thing"]) T.F_is_number sc_is_number (by decide) hs fun cdv A outer s H E hr => ?_
    have HU := hu64 hr
    have HU65 := hu65 hr
    have HU70 := hu70 hr
    exact (pss_one (ps_ret (pe_andT (xe_callB call_isi (by rfl) T.m_isinstance bt_isinstance (xa_cons (pv 0) (xa_cons (pe_bltn (v := .ty "int") (by rfl) T.m_int bt_int rfl) pa_nil))) (pe_one (pe_notT (xe_callB call_isi (by rfl) T.m_isinstance bt_isinstance (xa_cons (pv 0) (xa_cons (pe_bltn (v := .ty "bool") (by rfl) T.m_bool bt_bool rfl) pa_nil))))))))
  delta m_is_number
  exact h1
theorem ok_root_divides (T : Tx K mg) : FnOk P w K mg base CX0 1 T.a_root_divides T.f_root_divides ["numbers"] (spP K m_root_divides) := by
  have hs : SdS K _ sm_root_divides := (ss_seq (ss_asg sd_var (sg_any (sgs_cons sg_name (sgs_cons sg_name (sgs_cons sg_name (sgs_cons sg_name sgs_nil))))))
      (ss_ret (sd_and (sd_op ob_eq (sd_op ob_mod (sd_op ob_add sd_var sd_var) sd_int) sd_int) (sd_op ob_eq (sd_op ob_mod (sd_op ob_add sd_var sd_var) sd_int) sd_int))))
  have h1 : FnOk P w K mg base CX0 1 T.a_root_divides T.f_root_divides ["numbers"] (spP K (runD 1 5 sm_root_divides)) := by
    refine fn_pure (k := 0) (N := n_root_divides) (ps := ["numbers"]) T.F_root_divides sc_root_divides (by decide) hs fun cdv A outer s H E hr => ?_
    have HU := hu64 hr
    have HU65 := hu65 hr
    have HU70 := hu70 hr
    exact (pss_cons (ps_asg (pv 0) (pg_any rfl (pgs_cons (pg_name (i := 1) sc_root_divides.nd rfl (Or.inl rfl)) (pgs_cons (pg_name (i := 2) sc_root_divides.nd rfl (Or.inl rfl)) (pgs_cons (pg_name (i := 3) sc_root_divides.nd rfl (Or.inl rfl)) (pgs_cons (pg_name (i := 4) sc_root_divides.nd rfl (Or.inl rfl)) pgs_nil)))))) (pss_one (ps_ret (pe_andT (pe_cmpR (op_eqD HU) (pe_op op_mod (pe_op op_addA (pv 1) (pv 3)) pe_int) pe_int (nomark _)) (pe_one (pe_cmpR (op_eqD HU) (pe_op op_mod (pe_op op_addA (pv 2) (pv 4)) pe_int) pe_int (nomark _)))))))
  delta m_root_divides
  exact h1
theorem ok_times_root (T : Tx K mg) : FnOk P w K mg base CX0 1 T.a_times_root T.f_times_root ["numbers", "many"] (spP K m_times_root) := by
  have hs : SdS K _ sm_times_root := (ss_seq (ss_if (st_tTest (sd_op ob_eq sd_var sd_int)) (ss_ret (sd_cb co_tuple (sa_one sd_var))) ss_next)
      (ss_seq (ss_set (i := 2) (sd_op ob_fdiv sd_var sd_int))
      (ss_seq (ss_asg sd_var (sg_any (sgs_cons sg_name (sgs_cons sg_name (sgs_cons sg_name (sgs_cons sg_name sgs_nil))))))
      (ss_seq (ss_if (st_tTest (sd_op ob_eq (sd_op ob_mod sd_var sd_int) sd_int)) (ss_asg (sd_tup (sa_cons (sd_op ob_sub sd_var sd_var) (sa_cons (sd_op ob_add sd_var sd_var) (sa_cons (sd_op ob_add sd_var sd_var) (sa_one (sd_op ob_sub sd_var sd_var)))))) (sg_any (sgs_cons sg_name (sgs_cons sg_name (sgs_cons sg_name (sgs_cons sg_name sgs_nil)))))) ss_next)
      (ss_ret (sd_tup (sa_cons (sd_op ob_shl sd_var sd_var) (sa_cons (sd_op ob_shl sd_var sd_var) (sa_cons (sd_op ob_shl sd_var sd_var) (sa_one (sd_op ob_shl sd_var sd_var)))))))))))
  have h1 : FnOk P w K mg base CX0 1 T.a_times_root T.f_times_root ["numbers", "many"] (spP K (runD 2 7 sm_times_root)) := by
    refine fn_pure (k := 0) (N := n_times_root) (ps := ["numbers", "many"]) T.F_times_root sc_times_root (by decide) hs fun cdv A outer s H E hr => ?_
    have HU := hu64 hr
    have HU65 := hu65 hr
    have HU70 := hu70 hr
    refine (pss_cons ?_ ?_)
    · exact (ps_if (pt_cmpR (op_eqD HU) (pv 1) pe_int (nomark _)) (pss_one (ps_ret (xe_callT call_tuple_ofN (by rfl) T.m_tuple bt_tuple (xa_cons (pv 0) pa_nil)))) pss_nil)
    · refine (pss_cons ?_ ?_)
      · exact (ps_set (i := 2) sc_times_root.nd rfl (Or.inl rfl) (pe_op op_fdiv (pv 1) pe_int))
      · refine (pss_cons ?_ ?_)
        · exact (ps_asg (pv 0) (pg_any rfl (pgs_cons (pg_name (i := 3) sc_times_root.nd rfl (Or.inl rfl)) (pgs_cons (pg_name (i := 4) sc_times_root.nd rfl (Or.inl rfl)) (pgs_cons (pg_name (i := 5) sc_times_root.nd rfl (Or.inl rfl)) (pgs_cons (pg_name (i := 6) sc_times_root.nd rfl (Or.inl rfl)) pgs_nil))))))
        · refine (pss_cons ?_ ?_)
          · exact (ps_if (pt_cmpR (op_eqD HU) (pe_op op_mod (pv 1) pe_int) pe_int (nomark _)) (pss_one (ps_asg (pe_tupN (xa_cons (pe_op op_sub (pv 4) (pv 6)) (xa_cons (pe_op op_addA (pv 3) (pv 5)) (xa_cons (pe_op op_addA (pv 4) (pv 6)) (xa_cons (pe_op op_sub (pv 5) (pv 3)) pa_nil))))) (pg_any rfl (pgs_cons (pg_name (i := 3) sc_times_root.nd rfl (Or.inl rfl)) (pgs_cons (pg_name (i := 4) sc_times_root.nd rfl (Or.inl rfl)) (pgs_cons (pg_name (i := 5) sc_times_root.nd rfl (Or.inl rfl)) (pgs_cons (pg_name (i := 6) sc_times_root.nd rfl (Or.inl rfl)) pgs_nil))))))) pss_nil)
          · exact (pss_one (ps_ret (pe_tupN (xa_cons (pe_op op_shlW (pv 3) (pv 2)) (xa_cons (pe_op op_shlW (pv 4) (pv 2)) (xa_cons (pe_op op_shlW (pv 5) (pv 2)) (xa_cons (pe_op op_shlW (pv 6) (pv 2)) pa_nil)))))))
  delta m_times_root
  exact h1
theorem ok_is_ray (T : Tx K mg) : FnOk P w K mg base CX0 2 T.a_is_ray T.f_is_ray ["thing"] (spP K m_is_ray) := by
  have G_is_number := ok_is_number (P := P) (w := w) (base := base) T
  have G_root_divides := ok_root_divides (P := P) (w := w) (base := base) T
  have hs : SdS K _ sm_is_ray := (ss_seq (ss_if (st_or (st_not (st_tru (sd_isi (t := .tuple) sd_var))) (st_tTest (sd_op ob_ne (sd_cb co_len (sa_one sd_var)) sd_int))) (ss_ret sd_bl) ss_next)
      (ss_seq (ss_if (st_not (st_tru (sd_cb co_all (sa_one (sd_lc (js := [1]) (si_any sd_var) sg_name st_yes' (sd_fn (sa_one sd_var)) (by decide)))))) (ss_ret sd_bl) ss_next)
      (ss_ret (sd_or (sd_op ob_eq (sd_op ob_ix sd_var sd_int) sd_int) (sd_and (sd_op ob_gt (sd_op ob_ix sd_var sd_int) sd_int) (sd_not (sd_fn (sa_one (sd_sl so_any sd_var so_no (so_part sd_int))))))))))
  have h1 : FnOk P w K mg base CX0 2 T.a_is_ray T.f_is_ray ["thing"] (spP K (runD 1 2 sm_is_ray)) := by
    refine fn_pure (k := 1) (N := n_is_ray) (ps := ["thing"]) T.F_is_ray sc_is_ray (by decide) hs fun cdv A outer s H E hr => ?_
    have HU := hu64 hr
    have HU65 := hu65 hr
    have HU70 := hu70 hr
    have HR_is_number : Room 1 _ := hr.mono (by decide)
    have HR_root_divides : Room 1 _ := hr.mono (by decide)
    refine (pss_cons ?_ ?_)
    · exact (ps_if (PW.pt (pw_or (pt_not (pt_truth (xe_callB call_isi (by rfl) T.m_isinstance bt_isinstance (xa_cons (pv 0) (xa_cons (pe_bltn (v := .ty "tuple") (by rfl) T.m_tuple bt_tuple rfl) pa_nil))) (by intro _; rfl))) (pw_or1 (pt_cmpR (op_neD HU) (xe_callB call_len_seq (by rfl) T.m_len bt_len (xa_cons (pv 0) pa_nil)) pe_int (nomark _))))) (pss_one (ps_ret pe_bl)) pss_nil)
    · refine (pss_cons ?_ ?_)
      · exact (ps_if (pt_not (pt_truth (xe_callB (cr_all rfl) (by rfl) T.m_all bt_all (xa_cons (pe_lc (own := [("part", 1)]) (g := (gName 1)) rfl sc_is_ray.nd (pi_any (pv 0)) (blkOk_by (N := n_is_ray) (sc := defScope s_is_ray) (by decide +kernel)) (fun _ _ _ _ _ => (pg_name (i := 1) sc_is_ray.nd rfl (by first | exact Or.inl rfl | exact Or.inr rfl))) (fun _ _ _ _ _ => pts_nil) (fun _ _ _ _ _ => (xe_call G_is_number HR_is_number (by rfl) T.g_is_number T.F_is_number.kp T.b_is_number (xa_cons (pv 1) pa_nil)))) pa_nil)) (by intro _; rfl))) (pss_one (ps_ret pe_bl)) pss_nil)
      · exact (pss_one (ps_ret (pe_orT (pe_cmpR (op_eqD HU) (pe_ix ix_seq (pv 0) pe_int (fun _ _ => rfl)) pe_int (nomark _)) (pe_one (pe_andT (pe_cmpR op_gt (pe_ix ix_seq (pv 0) pe_int (fun _ _ => rfl)) pe_int (nomark _)) (pe_one (pe_notT (xe_call G_root_divides HR_root_divides (by rfl) T.g_root_divides T.F_root_divides.kp T.b_root_divides (xa_cons (pe_slice sl_any (pv 0) po_none (po_some pe_int)) pa_nil)))))))))
  delta m_is_ray
  exact h1
theorem ok_ray_of (T : Tx K mg) : FnOk P w K mg base CX0 2 T.a_ray_of T.f_ray_of ["numbers", "k"] (spP K m_ray_of) := by
  have G_root_divides := ok_root_divides (P := P) (w := w) (base := base) T
  have hs : SdS K _ sm_ray_of := (ss_seq (ss_asg sd_var (sg_any (sgs_cons sg_name (sgs_cons sg_name (sgs_cons sg_name (sgs_cons sg_name sgs_nil))))))
      (ss_seq (ss_while (st_and (st_tTest (sd_op ob_gt sd_var sd_int)) (st_tru (sd_fn (sa_one (sd_tup (sa_cons sd_var (sa_cons sd_var (sa_cons sd_var (sa_one sd_var))))))))) (ss_seq (ss_asg (sd_tup (sa_cons (sd_op ob_fdiv (sd_op ob_sub sd_var sd_var) sd_int) (sa_cons (sd_op ob_fdiv (sd_op ob_add sd_var sd_var) sd_int) (sa_cons (sd_op ob_fdiv (sd_op ob_add sd_var sd_var) sd_int) (sa_one (sd_op ob_fdiv (sd_op ob_sub sd_var sd_var) sd_int)))))) (sg_any (sgs_cons sg_name (sgs_cons sg_name (sgs_cons sg_name (sgs_cons sg_name sgs_nil))))))
      (ss_aug sd_int)))
      (ss_ret (sd_tup (sa_cons sd_var (sa_cons sd_var (sa_cons sd_var (sa_cons sd_var (sa_one sd_var)))))))))
  have h1 : FnOk P w K mg base CX0 2 T.a_ray_of T.f_ray_of ["numbers", "k"] (spP K (runD 2 6 sm_ray_of)) := by
    refine fn_pure (k := 1) (N := n_ray_of) (ps := ["numbers", "k"]) T.F_ray_of sc_ray_of (by decide) hs fun cdv A outer s H E hr => ?_
    have HU := hu64 hr
    have HU65 := hu65 hr
    have HU70 := hu70 hr
    have HR_root_divides : Room 1 _ := hr.mono (by decide)
    refine (pss_cons ?_ ?_)
    · exact (ps_asg (pv 0) (pg_any rfl (pgs_cons (pg_name (i := 2) sc_ray_of.nd rfl (Or.inl rfl)) (pgs_cons (pg_name (i := 3) sc_ray_of.nd rfl (Or.inl rfl)) (pgs_cons (pg_name (i := 4) sc_ray_of.nd rfl (Or.inl rfl)) (pgs_cons (pg_name (i := 5) sc_ray_of.nd rfl (Or.inl rfl)) pgs_nil))))))
    · refine (pss_cons ?_ ?_)
      · refine (ps_while PassesOwn.never ?_ ?_)
        · exact (PW.pt (pw_and (pt_cmpR op_gt (pv 1) pe_int (nomark _)) (pw_and1 (pt_truth (xe_call G_root_divides HR_root_divides (by rfl) T.g_root_divides T.F_root_divides.kp T.b_root_divides (xa_cons (pe_tupN (xa_cons (pv 2) (xa_cons (pv 3) (xa_cons (pv 4) (xa_cons (pv 5) pa_nil))))) pa_nil)) (by intro _; rfl)))))
        · exact (pss_cons (ps_asg (pe_tupN (xa_cons (pe_op op_fdiv (pe_op op_sub (pv 3) (pv 5)) pe_int) (xa_cons (pe_op op_fdiv (pe_op op_addA (pv 2) (pv 4)) pe_int) (xa_cons (pe_op op_fdiv (pe_op op_addA (pv 3) (pv 5)) pe_int) (xa_cons (pe_op op_fdiv (pe_op op_sub (pv 4) (pv 2)) pe_int) pa_nil))))) (pg_any rfl (pgs_cons (pg_name (i := 2) sc_ray_of.nd rfl (Or.inl rfl)) (pgs_cons (pg_name (i := 3) sc_ray_of.nd rfl (Or.inl rfl)) (pgs_cons (pg_name (i := 4) sc_ray_of.nd rfl (Or.inl rfl)) (pgs_cons (pg_name (i := 5) sc_ray_of.nd rfl (Or.inl rfl)) pgs_nil)))))) (pss_one (ps_aug (i := 1) sc_ray_of.nd rfl (Or.inl rfl) pe_int ip_sub)))
      · exact (pss_one (ps_ret (pe_tupN (xa_cons (pv 2) (xa_cons (pv 3) (xa_cons (pv 4) (xa_cons (pv 5) (xa_cons (pv 1) pa_nil))))))))
  delta m_ray_of
  exact h1
theorem ok_rays_added (T : Tx K mg) : FnOk P w K mg base CX0 3 T.a_rays_added T.f_rays_added ["rays"] (spP K m_rays_added) := by
  have G_times_root := ok_times_root (P := P) (w := w) (base := base) T
  have G_ray_of := ok_ray_of (P := P) (w := w) (base := base) T
  have hs : SdS K _ sm_rays_added := (ss_seq (ss_set (i := 2) (sd_maxD (sa_one (sd_lc (js := [1]) (si_any sd_var) sg_name st_yes' (sd_op ob_ix sd_var sd_int) (by decide)))))
      (ss_seq (ss_asg4 sd_int)
      (ss_seq (ss_for (si_any sd_var) sg_name (ss_seq (ss_asg (sd_fn (sa_cons (sd_sl so_any sd_var so_no (so_part sd_int)) (sa_one (sd_op ob_sub sd_var (sd_op ob_ix sd_var sd_int))))) (sg_any (sgs_cons sg_name (sgs_cons sg_name (sgs_cons sg_name (sgs_cons sg_name sgs_nil))))))
      (ss_asg (sd_tup (sa_cons (sd_op ob_add sd_var sd_var) (sa_cons (sd_op ob_add sd_var sd_var) (sa_cons (sd_op ob_add sd_var sd_var) (sa_one (sd_op ob_add sd_var sd_var)))))) (sg_any (sgs_cons sg_name (sgs_cons sg_name (sgs_cons sg_name (sgs_cons sg_name sgs_nil))))))))
      (ss_ret (sd_fn (sa_cons (sd_tup (sa_cons sd_var (sa_cons sd_var (sa_cons sd_var (sa_one sd_var))))) (sa_one sd_var)))))))
  have h1 : FnOk P w K mg base CX0 3 T.a_rays_added T.f_rays_added ["rays"] (spP K (runD 1 11 sm_rays_added)) := by
    refine fn_pure (k := 2) (N := n_rays_added) (ps := ["rays"]) T.F_rays_added sc_rays_added (by decide) hs fun cdv A outer s H E hr => ?_
    have HU := hu64 hr
    have HU65 := hu65 hr
    have HU70 := hu70 hr
    have HR_times_root : Room 1 _ := hr.mono (by decide)
    have HR_ray_of : Room 2 _ := hr.mono (by decide)
    refine (pss_cons ?_ ?_)
    · exact (ps_set (i := 2) sc_rays_added.nd rfl (Or.inl rfl) (pe_callBK (cr_maxD rfl HU) (by rfl) T.m_max bt_max (xa_cons (pe_lc (own := [("ray", 1)]) (g := (gName 1)) rfl sc_rays_added.nd (pi_any (pv 0)) (blkOk_by (N := n_rays_added) (sc := defScope s_rays_added) (by decide +kernel)) (fun _ _ _ _ _ => (pg_name (i := 1) sc_rays_added.nd rfl (by first | exact Or.inl rfl | exact Or.inr rfl))) (fun _ _ _ _ _ => pts_nil) (fun _ _ _ _ _ => (pe_ix ix_seq (pv 1) pe_int (fun _ _ => rfl)))) pa_nil) (pk_cons pe_int pk_nil)))
    · refine (pss_cons ?_ ?_)
      · exact (ps_asg4 pe_int (pg_name (i := 3) sc_rays_added.nd rfl (Or.inl rfl)) (pg_name (i := 4) sc_rays_added.nd rfl (Or.inl rfl)) (pg_name (i := 5) sc_rays_added.nd rfl (Or.inl rfl)) (pg_name (i := 6) sc_rays_added.nd rfl (Or.inl rfl)))
      · refine (pss_cons ?_ ?_)
        · refine (ps_for PassesOwn.never rfl ?_ ?_ ?_)
          · exact (pi_any (pv 0))
          · exact (pg_name (i := 1) sc_rays_added.nd rfl (Or.inl rfl))
          · refine (pss_cons ?_ ?_)
            · exact (ps_asg (xe_call G_times_root HR_times_root (by rfl) T.g_times_root T.F_times_root.kp T.b_times_root (xa_cons (pe_slice sl_any (pv 1) po_none (po_some pe_int)) (xa_cons (pe_op op_sub (pv 2) (pe_ix ix_seq (pv 1) pe_int (fun _ _ => rfl))) pa_nil))) (pg_any rfl (pgs_cons (pg_name (i := 7) sc_rays_added.nd rfl (Or.inl rfl)) (pgs_cons (pg_name (i := 8) sc_rays_added.nd rfl (Or.inl rfl)) (pgs_cons (pg_name (i := 9) sc_rays_added.nd rfl (Or.inl rfl)) (pgs_cons (pg_name (i := 10) sc_rays_added.nd rfl (Or.inl rfl)) pgs_nil))))))
            · exact (pss_one (ps_asg (pe_tupN (xa_cons (pe_op op_addA (pv 3) (pv 7)) (xa_cons (pe_op op_addA (pv 4) (pv 8)) (xa_cons (pe_op op_addA (pv 5) (pv 9)) (xa_cons (pe_op op_addA (pv 6) (pv 10)) pa_nil))))) (pg_any rfl (pgs_cons (pg_name (i := 3) sc_rays_added.nd rfl (Or.inl rfl)) (pgs_cons (pg_name (i := 4) sc_rays_added.nd rfl (Or.inl rfl)) (pgs_cons (pg_name (i := 5) sc_rays_added.nd rfl (Or.inl rfl)) (pgs_cons (pg_name (i := 6) sc_rays_added.nd rfl (Or.inl rfl)) pgs_nil)))))))
        · exact (pss_one (ps_ret (xe_call G_ray_of HR_ray_of (by rfl) T.g_ray_of T.F_ray_of.kp T.b_ray_of (xa_cons (pe_tupN (xa_cons (pv 3) (xa_cons (pv 4) (xa_cons (pv 5) (xa_cons (pv 6) pa_nil))))) (xa_cons (pv 2) pa_nil)))))
  delta m_rays_added
  exact h1
theorem ok_ray_sum (T : Tx K mg) : FnOk P w K mg base CX0 4 T.a_ray_sum T.f_ray_sum ["one", "other"] (spP K m_ray_sum) := by
  have G_rays_added := ok_rays_added (P := P) (w := w) (base := base) T
  have hs : SdS K _ sm_ray_sum := (ss_ret (sd_fn (sa_one (sd_tup (sa_cons sd_var (sa_one sd_var))))))
  have h1 : FnOk P w K mg base CX0 4 T.a_ray_sum T.f_ray_sum ["one", "other"] (spP K (runD 2 2 sm_ray_sum)) := by
    refine fn_pure (k := 3) (N := n_ray_sum) (ps := ["one", "other"]) T.F_ray_sum sc_ray_sum (by decide) hs fun cdv A outer s H E hr => ?_
    have HU := hu64 hr
    have HU65 := hu65 hr
    have HU70 := hu70 hr
    have HR_rays_added : Room 3 _ := hr.mono (by decide)
    exact (pss_one (ps_ret (xe_call G_rays_added HR_rays_added (by rfl) T.g_rays_added T.F_rays_added.kp T.b_rays_added (xa_cons (pe_tupN (xa_cons (pv 0) (xa_cons (pv 1) pa_nil))) pa_nil))))
  delta m_ray_sum
  exact h1
theorem ok_ray_product (T : Tx K mg) : FnOk P w K mg base CX0 3 T.a_ray_product T.f_ray_product ["one", "other"] (spP K m_ray_product) := by
  have G_ray_of := ok_ray_of (P := P) (w := w) (base := base) T
  have hs : SdS K _ sm_ray_product := (ss_seq (ss_asg sd_var (sg_any (sgs_cons sg_name (sgs_cons sg_name (sgs_cons sg_name (sgs_cons sg_name (sgs_cons sg_name sgs_nil)))))))
      (ss_seq (ss_asg sd_var (sg_any (sgs_cons sg_name (sgs_cons sg_name (sgs_cons sg_name (sgs_cons sg_name (sgs_cons sg_name sgs_nil)))))))
      (ss_seq (ss_set (i := 12) (sd_tup (sa_cons (sd_op ob_sub (sd_op ob_sub (sd_op ob_sub (sd_op ob_mul sd_var sd_var) (sd_op ob_mul sd_var sd_var)) (sd_op ob_mul sd_var sd_var)) (sd_op ob_mul sd_var sd_var)) (sa_cons (sd_op ob_sub (sd_op ob_sub (sd_op ob_add (sd_op ob_mul sd_var sd_var) (sd_op ob_mul sd_var sd_var)) (sd_op ob_mul sd_var sd_var)) (sd_op ob_mul sd_var sd_var)) (sa_cons (sd_op ob_sub (sd_op ob_add (sd_op ob_add (sd_op ob_mul sd_var sd_var) (sd_op ob_mul sd_var sd_var)) (sd_op ob_mul sd_var sd_var)) (sd_op ob_mul sd_var sd_var)) (sa_one (sd_op ob_add (sd_op ob_add (sd_op ob_add (sd_op ob_mul sd_var sd_var) (sd_op ob_mul sd_var sd_var)) (sd_op ob_mul sd_var sd_var)) (sd_op ob_mul sd_var sd_var))))))))
      (ss_ret (sd_fn (sa_cons sd_var (sa_one (sd_op ob_add sd_var sd_var))))))))
  have h1 : FnOk P w K mg base CX0 3 T.a_ray_product T.f_ray_product ["one", "other"] (spP K (runD 2 13 sm_ray_product)) := by
    refine fn_pure (k := 2) (N := n_ray_product) (ps := ["one", "other"]) T.F_ray_product sc_ray_product (by decide) hs fun cdv A outer s H E hr => ?_
    have HU := hu64 hr
    have HU65 := hu65 hr
    have HU70 := hu70 hr
    have HR_ray_of : Room 2 _ := hr.mono (by decide)
    refine (pss_cons ?_ ?_)
    · exact (ps_asg (pv 0) (pg_any rfl (pgs_cons (pg_name (i := 2) sc_ray_product.nd rfl (Or.inl rfl)) (pgs_cons (pg_name (i := 3) sc_ray_product.nd rfl (Or.inl rfl)) (pgs_cons (pg_name (i := 4) sc_ray_product.nd rfl (Or.inl rfl)) (pgs_cons (pg_name (i := 5) sc_ray_product.nd rfl (Or.inl rfl)) (pgs_cons (pg_name (i := 6) sc_ray_product.nd rfl (Or.inl rfl)) pgs_nil)))))))
    · refine (pss_cons ?_ ?_)
      · exact (ps_asg (pv 1) (pg_any rfl (pgs_cons (pg_name (i := 7) sc_ray_product.nd rfl (Or.inl rfl)) (pgs_cons (pg_name (i := 8) sc_ray_product.nd rfl (Or.inl rfl)) (pgs_cons (pg_name (i := 9) sc_ray_product.nd rfl (Or.inl rfl)) (pgs_cons (pg_name (i := 10) sc_ray_product.nd rfl (Or.inl rfl)) (pgs_cons (pg_name (i := 11) sc_ray_product.nd rfl (Or.inl rfl)) pgs_nil)))))))
      · refine (pss_cons ?_ ?_)
        · refine (ps_set (i := 12) sc_ray_product.nd rfl (Or.inl rfl) ?_)
          · refine (pe_tupN ?_)
            · refine (xa_cons ?_ ?_)
              · exact (pe_op op_sub (pe_op op_sub (pe_op op_sub (pe_op op_mulA (pv 2) (pv 7)) (pe_op op_mulA (pv 3) (pv 10))) (pe_op op_mulA (pv 4) (pv 9))) (pe_op op_mulA (pv 5) (pv 8)))
              · exact (xa_cons (pe_op op_sub (pe_op op_sub (pe_op op_addA (pe_op op_mulA (pv 2) (pv 8)) (pe_op op_mulA (pv 3) (pv 7))) (pe_op op_mulA (pv 4) (pv 10))) (pe_op op_mulA (pv 5) (pv 9))) (xa_cons (pe_op op_sub (pe_op op_addA (pe_op op_addA (pe_op op_mulA (pv 2) (pv 9)) (pe_op op_mulA (pv 3) (pv 8))) (pe_op op_mulA (pv 4) (pv 7))) (pe_op op_mulA (pv 5) (pv 10))) (xa_cons (pe_op op_addA (pe_op op_addA (pe_op op_addA (pe_op op_mulA (pv 2) (pv 10)) (pe_op op_mulA (pv 3) (pv 9))) (pe_op op_mulA (pv 4) (pv 8))) (pe_op op_mulA (pv 5) (pv 7))) pa_nil)))
        · exact (pss_one (ps_ret (xe_call G_ray_of HR_ray_of (by rfl) T.g_ray_of T.F_ray_of.kp T.b_ray_of (xa_cons (pv 12) (xa_cons (pe_op op_addA (pv 6) (pv 11)) pa_nil)))))
  delta m_ray_product
  exact h1
theorem ok_turned_ray (T : Tx K mg) : FnOk P w K mg base CX0 1 T.a_turned_ray T.f_turned_ray ["ray", "many"] (spP K m_turned_ray) := by
  have hs : SdS K _ sm_turned_ray := (ss_seq (ss_asg sd_var (sg_any (sgs_cons sg_name (sgs_cons sg_name (sgs_cons sg_name (sgs_cons sg_name (sgs_cons sg_name sgs_nil)))))))
      (ss_seq (ss_for (si_r1 (sa_one (sd_op ob_mod sd_var sd_int))) sg_name (ss_asg (sd_tup (sa_cons (sd_un uo_neg sd_var) (sa_cons sd_var (sa_cons sd_var (sa_one sd_var))))) (sg_any (sgs_cons sg_name (sgs_cons sg_name (sgs_cons sg_name (sgs_cons sg_name sgs_nil)))))))
      (ss_ret (sd_tup (sa_cons sd_var (sa_cons sd_var (sa_cons sd_var (sa_cons sd_var (sa_one sd_var)))))))))
  have h1 : FnOk P w K mg base CX0 1 T.a_turned_ray T.f_turned_ray ["ray", "many"] (spP K (runD 2 8 sm_turned_ray)) := by
    refine fn_pure (k := 0) (N := n_turned_ray) (ps := ["ray", "many"]) T.F_turned_ray sc_turned_ray (by decide) hs fun cdv A outer s H E hr => ?_
    have HU := hu64 hr
    have HU65 := hu65 hr
    have HU70 := hu70 hr
    refine (pss_cons ?_ ?_)
    · exact (ps_asg (pv 0) (pg_any rfl (pgs_cons (pg_name (i := 2) sc_turned_ray.nd rfl (Or.inl rfl)) (pgs_cons (pg_name (i := 3) sc_turned_ray.nd rfl (Or.inl rfl)) (pgs_cons (pg_name (i := 4) sc_turned_ray.nd rfl (Or.inl rfl)) (pgs_cons (pg_name (i := 5) sc_turned_ray.nd rfl (Or.inl rfl)) (pgs_cons (pg_name (i := 6) sc_turned_ray.nd rfl (Or.inl rfl)) pgs_nil)))))))
    · exact (pss_cons (ps_for PassesOwn.never rfl (pi_range1 (by rfl) T.m_range (xa_cons (pe_op op_mod (pv 1) pe_int) pa_nil)) (pg_name (i := 7) sc_turned_ray.nd rfl (Or.inl rfl)) (pss_one (ps_asg (pe_tupN (xa_cons (pe_un un_neg (pv 5)) (xa_cons (pv 2) (xa_cons (pv 3) (xa_cons (pv 4) pa_nil))))) (pg_any rfl (pgs_cons (pg_name (i := 2) sc_turned_ray.nd rfl (Or.inl rfl)) (pgs_cons (pg_name (i := 3) sc_turned_ray.nd rfl (Or.inl rfl)) (pgs_cons (pg_name (i := 4) sc_turned_ray.nd rfl (Or.inl rfl)) (pgs_cons (pg_name (i := 5) sc_turned_ray.nd rfl (Or.inl rfl)) pgs_nil)))))))) (pss_one (ps_ret (pe_tupN (xa_cons (pv 2) (xa_cons (pv 3) (xa_cons (pv 4) (xa_cons (pv 5) (xa_cons (pv 6) pa_nil)))))))))
  delta m_turned_ray
  exact h1
theorem ok_mirrored (T : Tx K mg) : FnOk P w K mg base CX0 1 T.a_mirrored T.f_mirrored ["ray"] (spP K m_mirrored) := by
  have hs : SdS K _ sm_mirrored := (ss_seq (ss_asg sd_var (sg_any (sgs_cons sg_name (sgs_cons sg_name (sgs_cons sg_name (sgs_cons sg_name (sgs_cons sg_name sgs_nil)))))))
      (ss_ret (sd_tup (sa_cons sd_var (sa_cons (sd_un uo_neg sd_var) (sa_cons (sd_un uo_neg sd_var) (sa_cons (sd_un uo_neg sd_var) (sa_one sd_var))))))))
  have h1 : FnOk P w K mg base CX0 1 T.a_mirrored T.f_mirrored ["ray"] (spP K (runD 1 6 sm_mirrored)) := by
    refine fn_pure (k := 0) (N := n_mirrored) (ps := ["ray"]) T.F_mirrored sc_mirrored (by decide) hs fun cdv A outer s H E hr => ?_
    have HU := hu64 hr
    have HU65 := hu65 hr
    have HU70 := hu70 hr
    exact (pss_cons (ps_asg (pv 0) (pg_any rfl (pgs_cons (pg_name (i := 1) sc_mirrored.nd rfl (Or.inl rfl)) (pgs_cons (pg_name (i := 2) sc_mirrored.nd rfl (Or.inl rfl)) (pgs_cons (pg_name (i := 3) sc_mirrored.nd rfl (Or.inl rfl)) (pgs_cons (pg_name (i := 4) sc_mirrored.nd rfl (Or.inl rfl)) (pgs_cons (pg_name (i := 5) sc_mirrored.nd rfl (Or.inl rfl)) pgs_nil))))))) (pss_one (ps_ret (pe_tupN (xa_cons (pv 1) (xa_cons (pe_un un_neg (pv 4)) (xa_cons (pe_un un_neg (pv 3)) (xa_cons (pe_un un_neg (pv 2)) (xa_cons (pv 5) pa_nil)))))))))
  delta m_mirrored
  exact h1
theorem ok_twin_of (T : Tx K mg) : FnOk P w K mg base CX0 1 T.a_twin_of T.f_twin_of ["ray"] (spP K m_twin_of) := by
  have hs : SdS K _ sm_twin_of := (ss_seq (ss_asg sd_var (sg_any (sgs_cons sg_name (sgs_cons sg_name (sgs_cons sg_name (sgs_cons sg_name (sgs_cons sg_name sgs_nil)))))))
      (ss_seq (ss_if (st_tTest (sd_op ob_eq (sd_op ob_mod sd_var sd_int) sd_int)) (ss_ret (sd_tup (sa_cons (sd_un uo_neg sd_var) (sa_cons sd_var (sa_cons (sd_un uo_neg sd_var) (sa_cons sd_var (sa_one sd_var))))))) ss_next)
      (ss_ret (sd_tup (sa_cons sd_var (sa_cons (sd_un uo_neg sd_var) (sa_cons sd_var (sa_cons (sd_un uo_neg sd_var) (sa_one sd_var)))))))))
  have h1 : FnOk P w K mg base CX0 1 T.a_twin_of T.f_twin_of ["ray"] (spP K (runD 1 6 sm_twin_of)) := by
    refine fn_pure (k := 0) (N := n_twin_of) (ps := ["ray"]) T.F_twin_of sc_twin_of (by decide) hs fun cdv A outer s H E hr => ?_
    have HU := hu64 hr
    have HU65 := hu65 hr
    have HU70 := hu70 hr
    refine (pss_cons ?_ ?_)
    · exact (ps_asg (pv 0) (pg_any rfl (pgs_cons (pg_name (i := 1) sc_twin_of.nd rfl (Or.inl rfl)) (pgs_cons (pg_name (i := 2) sc_twin_of.nd rfl (Or.inl rfl)) (pgs_cons (pg_name (i := 3) sc_twin_of.nd rfl (Or.inl rfl)) (pgs_cons (pg_name (i := 4) sc_twin_of.nd rfl (Or.inl rfl)) (pgs_cons (pg_name (i := 5) sc_twin_of.nd rfl (Or.inl rfl)) pgs_nil)))))))
    · exact (pss_cons (ps_if (pt_cmpR (op_eqD HU) (pe_op op_mod (pv 5) pe_int) pe_int (nomark _)) (pss_one (ps_ret (pe_tupN (xa_cons (pe_un un_neg (pv 1)) (xa_cons (pv 2) (xa_cons (pe_un un_neg (pv 3)) (xa_cons (pv 4) (xa_cons (pv 5) pa_nil)))))))) pss_nil) (pss_one (ps_ret (pe_tupN (xa_cons (pv 1) (xa_cons (pe_un un_neg (pv 2)) (xa_cons (pv 3) (xa_cons (pe_un un_neg (pv 4)) (xa_cons (pv 5) pa_nil)))))))))
  delta m_twin_of
  exact h1
theorem ok_size_of (T : Tx K mg) : FnOk P w K mg base CX0 4 T.a_size_of T.f_size_of ["ray"] (spP K m_size_of) := by
  have G_mirrored := ok_mirrored (P := P) (w := w) (base := base) T
  have G_ray_product := ok_ray_product (P := P) (w := w) (base := base) T
  have hs : SdS K _ sm_size_of := (ss_ret (sd_fn (sa_cons sd_var (sa_one (sd_fn (sa_one sd_var))))))
  have h1 : FnOk P w K mg base CX0 4 T.a_size_of T.f_size_of ["ray"] (spP K (runD 1 1 sm_size_of)) := by
    refine fn_pure (k := 3) (N := n_size_of) (ps := ["ray"]) T.F_size_of sc_size_of (by decide) hs fun cdv A outer s H E hr => ?_
    have HU := hu64 hr
    have HU65 := hu65 hr
    have HU70 := hu70 hr
    have HR_mirrored : Room 1 _ := hr.mono (by decide)
    have HR_ray_product : Room 3 _ := hr.mono (by decide)
    exact (pss_one (ps_ret (xe_call G_ray_product HR_ray_product (by rfl) T.g_ray_product T.F_ray_product.kp T.b_ray_product (xa_cons (pv 0) (xa_cons (xe_call G_mirrored HR_mirrored (by rfl) T.g_mirrored T.F_mirrored.kp T.b_mirrored (xa_cons (pv 0) pa_nil)) pa_nil)))))
  delta m_size_of
  exact h1
theorem ok_is_real (T : Tx K mg) : FnOk P w K mg base CX0 1 T.a_is_real T.f_is_real ["ray"] (spP K m_is_real) := by
  have hs : SdS K _ sm_is_real := (ss_ret (sd_and (sd_op ob_eq (sd_op ob_ix sd_var sd_int) sd_int) (sd_op ob_eq (sd_op ob_ix sd_var sd_int) (sd_un uo_neg (sd_op ob_ix sd_var sd_int)))))
  have h1 : FnOk P w K mg base CX0 1 T.a_is_real T.f_is_real ["ray"] (spP K (runD 1 1 sm_is_real)) := by
    refine fn_pure (k := 0) (N := n_is_real) (ps := ["ray"]) T.F_is_real sc_is_real (by decide) hs fun cdv A outer s H E hr => ?_
    have HU := hu64 hr
    have HU65 := hu65 hr
    have HU70 := hu70 hr
    exact (pss_one (ps_ret (pe_andT (pe_cmpR (op_eqD HU) (pe_ix ix_seq (pv 0) pe_int (fun _ _ => rfl)) pe_int (nomark _)) (pe_one (pe_cmpR (op_eqD HU) (pe_ix ix_seq (pv 0) pe_int (fun _ _ => rfl)) (pe_un un_neg (pe_ix ix_seq (pv 0) pe_int (fun _ _ => rfl))) (nomark _))))))
  delta m_is_real
  exact h1
theorem ok_sign_of (T : Tx K mg) : FnOk P w K mg base CX0 2 T.a_sign_of T.f_sign_of ["ray"] (spP K m_sign_of) := by
  have G_is_real := ok_is_real (P := P) (w := w) (base := base) T
  have hs : SdS K _ sm_sign_of := (ss_seq (ss_if (st_not (st_tru (sd_fn (sa_one sd_var)))) ss_never ss_next)
      (ss_seq (ss_set (i := 1) (sd_op ob_add (sd_op ob_mul (sd_op ob_ix sd_var sd_int) (sd_cb co_abs (sa_one (sd_op ob_ix sd_var sd_int)))) (sd_op ob_mul (sd_op ob_mul sd_int (sd_op ob_ix sd_var sd_int)) (sd_cb co_abs (sa_one (sd_op ob_ix sd_var sd_int))))))
      (ss_seq (ss_if (st_tTest (sd_op ob_eq sd_var sd_int)) (ss_ret sd_int) ss_next)
      (ss_ret (sd_if (st_tTest (sd_op ob_gt sd_var sd_int)) sd_int (sd_un uo_neg sd_int))))))
  have h1 : FnOk P w K mg base CX0 2 T.a_sign_of T.f_sign_of ["ray"] (spP K (runD 1 2 sm_sign_of)) := by
    refine fn_pure (k := 1) (N := n_sign_of) (ps := ["ray"]) T.F_sign_of sc_sign_of (by decide) hs fun cdv A outer s H E hr => ?_
    have HU := hu64 hr
    have HU65 := hu65 hr
    have HU70 := hu70 hr
    have HR_is_real : Room 1 _ := hr.mono (by decide)
    refine (pss_cons ?_ ?_)
    · exact (ps_if (pt_not (pt_truth (xe_call G_is_real HR_is_real (by rfl) T.g_is_real T.F_is_real.kp T.b_is_real (xa_cons (pv 0) pa_nil)) (by intro _; rfl))) (pss_one ps_never) pss_nil)
    · exact (pss_cons (ps_set (i := 1) sc_sign_of.nd rfl (Or.inl rfl) (pe_op op_addA (pe_op op_mulA (pe_ix ix_seq (pv 0) pe_int (fun _ _ => rfl)) (xe_callB call_abs (by rfl) T.m_abs bt_abs (xa_cons (pe_ix ix_seq (pv 0) pe_int (fun _ _ => rfl)) pa_nil))) (pe_op op_mulA (pe_op op_mulA pe_int (pe_ix ix_seq (pv 0) pe_int (fun _ _ => rfl))) (xe_callB call_abs (by rfl) T.m_abs bt_abs (xa_cons (pe_ix ix_seq (pv 0) pe_int (fun _ _ => rfl)) pa_nil))))) (pss_cons (ps_if (pt_cmpR (op_eqD HU) (pv 1) pe_int (nomark _)) (pss_one (ps_ret pe_int)) pss_nil) (pss_one (ps_ret (pe_ifExp (pt_cmpR op_gt (pv 1) pe_int (nomark _)) pe_int (pe_un un_neg pe_int))))))
  delta m_sign_of
  exact h1
theorem ok_over_root (T : Tx K mg) : FnOk P w K mg base CX0 3 T.a_over_root T.f_over_root ["ray", "many"] (spP K m_over_root) := by
  have G_ray_of := ok_ray_of (P := P) (w := w) (base := base) T
  have G_times_root := ok_times_root (P := P) (w := w) (base := base) T
  have hs : SdS K _ sm_over_root := (ss_seq (ss_set (i := 2) (sd_op ob_add (sd_op ob_ix sd_var sd_int) sd_var))
      (ss_seq (ss_if (st_tTest (sd_op ob_ge sd_var sd_int)) (ss_ret (sd_fn (sa_cons (sd_sl so_any sd_var so_no (so_part sd_int)) (sa_one sd_var)))) ss_next)
      (ss_ret (sd_fn (sa_cons (sd_fn (sa_cons (sd_sl so_any sd_var so_no (so_part sd_int)) (sa_one (sd_un uo_neg sd_var)))) (sa_one sd_int))))))
  have h1 : FnOk P w K mg base CX0 3 T.a_over_root T.f_over_root ["ray", "many"] (spP K (runD 2 3 sm_over_root)) := by
    refine fn_pure (k := 2) (N := n_over_root) (ps := ["ray", "many"]) T.F_over_root sc_over_root (by decide) hs fun cdv A outer s H E hr => ?_
    have HU := hu64 hr
    have HU65 := hu65 hr
    have HU70 := hu70 hr
    have HR_ray_of : Room 2 _ := hr.mono (by decide)
    have HR_times_root : Room 1 _ := hr.mono (by decide)
    exact (pss_cons (ps_set (i := 2) sc_over_root.nd rfl (Or.inl rfl) (pe_op op_addA (pe_ix ix_seq (pv 0) pe_int (fun _ _ => rfl)) (pv 1))) (pss_cons (ps_if (pt_cmpR op_ge (pv 2) pe_int (nomark _)) (pss_one (ps_ret (xe_call G_ray_of HR_ray_of (by rfl) T.g_ray_of T.F_ray_of.kp T.b_ray_of (xa_cons (pe_slice sl_any (pv 0) po_none (po_some pe_int)) (xa_cons (pv 2) pa_nil))))) pss_nil) (pss_one (ps_ret (xe_call G_ray_of HR_ray_of (by rfl) T.g_ray_of T.F_ray_of.kp T.b_ray_of (xa_cons (xe_call G_times_root HR_times_root (by rfl) T.g_times_root T.F_times_root.kp T.b_times_root (xa_cons (pe_slice sl_any (pv 0) po_none (po_some pe_int)) (xa_cons (pe_un un_neg (pv 2)) pa_nil))) (xa_cons pe_int pa_nil)))))))
  delta m_over_root
  exact h1
theorem ok_rest_of (T : Tx K mg) : FnOk P w K mg base CX0 2 T.a_rest_of T.f_rest_of ["ray", "k"] (spP K m_rest_of) := by
  have G_times_root := ok_times_root (P := P) (w := w) (base := base) T
  have hs : SdS K _ sm_rest_of := (ss_seq (ss_if (st_tTest (sd_op ob_gt (sd_op ob_ix sd_var sd_int) sd_var)) ss_never ss_next)
      (ss_seq (ss_asg (sd_fn (sa_cons (sd_sl so_any sd_var so_no (so_part sd_int)) (sa_one (sd_op ob_sub sd_var (sd_op ob_ix sd_var sd_int))))) (sg_any (sgs_cons sg_name (sgs_cons sg_name (sgs_cons sg_name (sgs_cons sg_name sgs_nil))))))
      (ss_ret (sd_tup (sa_cons (sd_op ob_mod (sd_op ob_add sd_var sd_var) sd_int) (sa_one (sd_op ob_mod (sd_op ob_add sd_var sd_var) sd_int)))))))
  have h1 : FnOk P w K mg base CX0 2 T.a_rest_of T.f_rest_of ["ray", "k"] (spP K (runD 2 6 sm_rest_of)) := by
    refine fn_pure (k := 1) (N := n_rest_of) (ps := ["ray", "k"]) T.F_rest_of sc_rest_of (by decide) hs fun cdv A outer s H E hr => ?_
    have HU := hu64 hr
    have HU65 := hu65 hr
    have HU70 := hu70 hr
    have HR_times_root : Room 1 _ := hr.mono (by decide)
    refine (pss_cons ?_ ?_)
    · exact (ps_if (pt_cmpR op_gt (pe_ix ix_seq (pv 0) pe_int (fun _ _ => rfl)) (pv 1) (nomark _)) (pss_one ps_never) pss_nil)
    · exact (pss_cons (ps_asg (xe_call G_times_root HR_times_root (by rfl) T.g_times_root T.F_times_root.kp T.b_times_root (xa_cons (pe_slice sl_any (pv 0) po_none (po_some pe_int)) (xa_cons (pe_op op_sub (pv 1) (pe_ix ix_seq (pv 0) pe_int (fun _ _ => rfl))) pa_nil))) (pg_any rfl (pgs_cons (pg_name (i := 2) sc_rest_of.nd rfl (Or.inl rfl)) (pgs_cons (pg_name (i := 3) sc_rest_of.nd rfl (Or.inl rfl)) (pgs_cons (pg_name (i := 4) sc_rest_of.nd rfl (Or.inl rfl)) (pgs_cons (pg_name (i := 5) sc_rest_of.nd rfl (Or.inl rfl)) pgs_nil)))))) (pss_one (ps_ret (pe_tupN (xa_cons (pe_op op_mod (pe_op op_addA (pv 2) (pv 4)) pe_int) (xa_cons (pe_op op_mod (pe_op op_addA (pv 3) (pv 5)) pe_int) pa_nil))))))
  delta m_rest_of
  exact h1
theorem ok_eighth_of (T : Tx K mg) : FnOk P w K mg base CX0 2 T.a_eighth_of T.f_eighth_of ["ray"] (spP K m_eighth_of) := by
  have G_turned_ray := ok_turned_ray (P := P) (w := w) (base := base) T
  have hs : SdS K _ sm_eighth_of := (ss_seq (ss_for (si_r1 (sa_one sd_int)) sg_name (ss_if (st_tTest (sd_op ob_eq (sd_fn (sa_cons (sd_c T.r_ONE) (sa_one sd_var))) (sd_cb co_tuple (sa_one sd_var)))) (ss_ret sd_var) ss_next))
      (ss_ret sd_non))
  have h1 : FnOk P w K mg base CX0 2 T.a_eighth_of T.f_eighth_of ["ray"] (spP K (runD 1 2 sm_eighth_of)) := by
    refine fn_pure (k := 1) (N := n_eighth_of) (ps := ["ray"]) T.F_eighth_of sc_eighth_of (by decide) hs fun cdv A outer s H E hr => ?_
    have HU := hu64 hr
    have HU65 := hu65 hr
    have HU70 := hu70 hr
    have HR_turned_ray : Room 1 _ := hr.mono (by decide)
    exact (pss_cons (ps_for PassesOwn.never rfl (pi_range1 (by rfl) T.m_range (xa_cons pe_int pa_nil)) (pg_name (i := 1) sc_eighth_of.nd rfl (Or.inl rfl)) (pss_one (ps_if (pt_cmpR (op_eqD HU) (xe_call G_turned_ray HR_turned_ray (by rfl) T.g_turned_ray T.F_turned_ray.kp T.b_turned_ray (xa_cons (pe_glob (by rfl) T.g_ONE (show RelV (.ref T.a_ONE) (.ref T.a_ONE) from rfl)) (xa_cons (pv 1) pa_nil))) (xe_callT call_tuple_ofN (by rfl) T.m_tuple bt_tuple (xa_cons (pv 0) pa_nil)) (nomark _)) (pss_one (ps_ret (pv 1))) pss_nil))) (pss_one (ps_ret pe_non)))
  delta m_eighth_of
  exact h1
theorem ok_ulaw_box (T : Tx K mg) : FnOk P w K mg base CX0 1 T.a_ulaw_box T.f_ulaw_box ["script", "k"] (spP K m_ulaw_box) := by
  have hs : SdS K _ sm_ulaw_box := (ss_seq (ss_set (i := 2) (sd_if (st_tTest (sd_op ob_ltA sd_var (sd_cb co_len (sa_one sd_var)))) (sd_op ob_ix sd_var sd_var) sd_int))
      (ss_ret (sd_lst (sa_cons (sd_op ob_mul (sd_cb co_abs (sa_one sd_var)) (sd_cb co_int (sa_one (sd_op ob_ge (sd_cb co_abs (sa_one sd_var)) (sd_op ob_pow sd_int sd_int))))) (sa_cons (sd_op ob_add (sd_op ob_add (sd_op ob_mod (sd_cb co_int (sa_one sd_var)) sd_int) (sd_op ob_mul sd_int sd_var)) sd_int) (sa_one sd_int))))))
  have h1 : FnOk P w K mg base CX0 1 T.a_ulaw_box T.f_ulaw_box ["script", "k"] (spP K (runD 2 3 sm_ulaw_box)) := by
    refine fn_pure (k := 0) (N := n_ulaw_box) (ps := ["script", "k"]) T.F_ulaw_box sc_ulaw_box (by decide) hs fun cdv A outer s H E hr => ?_
    have HU := hu64 hr
    have HU65 := hu65 hr
    have HU70 := hu70 hr
    refine (pss_cons ?_ ?_)
    · exact (ps_set (i := 2) sc_ulaw_box.nd rfl (Or.inl rfl) (pe_ifExp (pt_cmpR (op_ltA HU) (pv 1) (xe_callB call_len_seq (by rfl) T.m_len bt_len (xa_cons (pv 0) pa_nil)) (nomark _)) (pe_ix ix_seq (pv 0) (pv 1) (fun _ _ => rfl)) pe_int))
    · exact (pss_one (ps_ret (pe_lst (xa_cons (pe_op op_mulA (xe_callB call_abs (by rfl) T.m_abs bt_abs (xa_cons (pv 2) pa_nil)) (xe_callT call_int1 (by rfl) T.m_int bt_int (xa_cons (pe_cmpR op_ge (xe_callB call_abs (by rfl) T.m_abs bt_abs (xa_cons (pv 2) pa_nil)) (pe_op op_pow pe_int pe_int) (nomark _)) pa_nil))) (xa_cons (pe_op op_addA (pe_op op_addA (pe_op op_mod (xe_callT call_int1 (by rfl) T.m_int bt_int (xa_cons (pv 2) pa_nil)) pe_int) (pe_op op_mulA pe_int (pv 1))) pe_int) (xa_cons pe_int pa_nil))))))
  delta m_ulaw_box
  exact h1
theorem ok_ulaw_take (T : Tx K mg) : FnOk P w K mg base CX0 1 T.a_ulaw_take T.f_ulaw_take ["tin", "below_so"] (spM K m_ulaw_take) := by
  have hs : SdS K _ sm_ulaw_take := (ss_seq (ss_if (st_tTest (sd_op ob_gt (sd_op ob_ix sd_var sd_int) sd_int)) (ss_seq (ss_set (i := 2) (sd_op ob_mod (sd_cb co_int (sa_one (sd_op ob_ix sd_var sd_int))) sd_var))
      (ss_seq (ss_sub (sd_op ob_fdiv (sd_op ob_ix sd_var sd_int) sd_var) sd_int)
      (ss_ret sd_var))) ss_next)
      (ss_seq (ss_sub (sd_op ob_add (sd_op ob_ix sd_var sd_int) sd_int) sd_int)
      (ss_seq (ss_set (i := 3) (sd_op ob_mod (sd_cb co_int (sa_one (sd_op ob_mul (sd_op ob_add (sd_op ob_ix sd_var sd_int) (sd_op ob_mul sd_int (sd_op ob_ix sd_var sd_int))) (sd_op ob_add sd_int (sd_op ob_ix sd_var sd_int))))) sd_int))
      (ss_seq (ss_set (i := 4) (sd_op ob_add (sd_op ob_mod (sd_cb co_int (sa_one sd_var)) sd_int) sd_int))
      (ss_seq (ss_set (i := 5) (sd_op ob_mod (sd_cb co_int (sa_one (sd_op ob_mul (sd_op ob_add (sd_op ob_add sd_var (sd_op ob_ix sd_var sd_int)) (sd_op ob_fdiv (sd_op ob_ix sd_var sd_int) sd_int)) sd_var))) sd_int))
      (ss_ret (sd_op ob_mod (sd_cb co_int (sa_one (sd_op ob_fdiv (sd_op ob_mod (sd_cb co_int (sa_one (sd_op ob_add (sd_op ob_mul sd_var sd_int) sd_var))) sd_int) sd_int))) sd_var)))))))
  have h1 : FnOk P w K mg base CX0 1 T.a_ulaw_take T.f_ulaw_take ["tin", "below_so"] (spM K (runM 2 6 sm_ulaw_take)) := by
    refine fn_mut (k := 0) (N := n_ulaw_take) (ps := ["tin", "below_so"]) T.F_ulaw_take sc_ulaw_take (by decide) hs fun cdv A outer s H E hr => ?_
    have HU := hu64 hr
    have HU65 := hu65 hr
    have HU70 := hu70 hr
    refine (pss_cons ?_ ?_)
    · exact (ps_if (pt_cmpR op_gt (pe_ix ix_seq (pv 0) pe_int (fun _ _ => rfl)) pe_int (nomark _)) (pss_cons (ps_set (i := 2) sc_ulaw_take.nd rfl (Or.inl rfl) (pe_op op_mod (xe_callT call_int1 (by rfl) T.m_int bt_int (xa_cons (pe_ix ix_seq (pv 0) pe_int (fun _ _ => rfl)) pa_nil)) (pv 1))) (pss_cons (ps_asg (pe_op op_fdiv (pe_ix ix_seq (pv 0) pe_int (fun _ _ => rfl)) (pv 1)) (pg_sub (pv 0) pe_int set_list)) (pss_one (ps_ret (pv 2))))) pss_nil)
    · refine (pss_cons ?_ ?_)
      · exact (ps_asg (pe_op op_addA (pe_ix ix_seq (pv 0) pe_int (fun _ _ => rfl)) pe_int) (pg_sub (pv 0) pe_int set_list))
      · refine (pss_cons ?_ ?_)
        · exact (ps_set (i := 3) sc_ulaw_take.nd rfl (Or.inl rfl) (pe_op op_mod (xe_callT call_int1 (by rfl) T.m_int bt_int (xa_cons (pe_op op_mulA (pe_op op_addA (pe_ix ix_seq (pv 0) pe_int (fun _ _ => rfl)) (pe_op op_mulA pe_int (pe_ix ix_seq (pv 0) pe_int (fun _ _ => rfl)))) (pe_op op_addA pe_int (pe_ix ix_seq (pv 0) pe_int (fun _ _ => rfl)))) pa_nil)) pe_int))
        · refine (pss_cons ?_ ?_)
          · exact (ps_set (i := 4) sc_ulaw_take.nd rfl (Or.inl rfl) (pe_op op_addA (pe_op op_mod (xe_callT call_int1 (by rfl) T.m_int bt_int (xa_cons (pv 3) pa_nil)) pe_int) pe_int))
          · exact (pss_cons (ps_set (i := 5) sc_ulaw_take.nd rfl (Or.inl rfl) (pe_op op_mod (xe_callT call_int1 (by rfl) T.m_int bt_int (xa_cons (pe_op op_mulA (pe_op op_addA (pe_op op_addA (pv 3) (pe_ix ix_seq (pv 0) pe_int (fun _ _ => rfl))) (pe_op op_fdiv (pe_ix ix_seq (pv 0) pe_int (fun _ _ => rfl)) pe_int)) (pv 4)) pa_nil)) pe_int)) (pss_one (ps_ret (pe_op op_mod (xe_callT call_int1 (by rfl) T.m_int bt_int (xa_cons (pe_op op_fdiv (pe_op op_mod (xe_callT call_int1 (by rfl) T.m_int bt_int (xa_cons (pe_op op_addA (pe_op op_mulA (pv 5) pe_int) (pv 3)) pa_nil)) pe_int) pe_int) pa_nil)) (pv 1)))))
  delta m_ulaw_take
  exact h1
theorem ok_ulaw_cells (T : Tx K mg) : FnOk P w K mg base CX0 1 T.a_ulaw_cells T.f_ulaw_cells ["script", "most_so"] (spP K m_ulaw_cells) := by
  have hs : SdS K _ sm_ulaw_cells := (ss_seq (ss_set (i := 2) (sd_or (sd_cb co_list (sa_one (sd_sl so_any sd_var so_no (so_part sd_var)))) (sd_lst (sa_one sd_int))))
      (ss_seq (ss_for (si_enum (sa_one (sd_sl so_any sd_var (so_part sd_var) (so_part sd_int)))) (sg_any (sgs_cons sg_name (sgs_cons sg_name sgs_nil))) (ss_seq (ss_set (i := 5) (sd_op ob_mod (sd_cb co_int (sa_one sd_var)) sd_var))
      (ss_sub (sd_op ob_add (sd_op ob_ix sd_var sd_var) (sd_op ob_mul sd_var (sd_op ob_add sd_var sd_int))) sd_var)))
      (ss_ret sd_var)))
  have h1 : FnOk P w K mg base CX0 1 T.a_ulaw_cells T.f_ulaw_cells ["script", "most_so"] (spP K (runD 2 6 sm_ulaw_cells)) := by
    refine fn_pure (k := 0) (N := n_ulaw_cells) (ps := ["script", "most_so"]) T.F_ulaw_cells sc_ulaw_cells (by decide) hs fun cdv A outer s H E hr => ?_
    have HU := hu64 hr
    have HU65 := hu65 hr
    have HU70 := hu70 hr
    refine (pss_cons ?_ ?_)
    · exact (ps_set (i := 2) sc_ulaw_cells.nd rfl (Or.inl rfl) (pe_orT (xe_callT call_list_of (by rfl) T.m_list bt_list (xa_cons (pe_slice sl_any (pv 0) po_none (po_some (pv 1))) pa_nil)) (pe_one (pe_lst (xa_cons pe_int pa_nil)))))
    · exact (pss_cons (ps_for PassesOwn.never rfl (pi_enum (by rfl) T.m_enumerate (xa_cons (pe_slice sl_any (pv 0) (po_some (pv 1)) (po_some pe_int)) pa_nil)) (pg_any rfl (pgs_cons (pg_name (i := 3) sc_ulaw_cells.nd rfl (Or.inl rfl)) (pgs_cons (pg_name (i := 4) sc_ulaw_cells.nd rfl (Or.inl rfl)) pgs_nil))) (pss_cons (ps_set (i := 5) sc_ulaw_cells.nd rfl (Or.inl rfl) (pe_op op_mod (xe_callT call_int1 (by rfl) T.m_int bt_int (xa_cons (pv 3) pa_nil)) (pv 1))) (pss_one (ps_asg (pe_op op_addA (pe_ix ix_seq (pv 2) (pv 5) (fun _ _ => rfl)) (pe_op op_mulA (pv 4) (pe_op op_addA (pv 3) pe_int))) (pg_sub (pv 2) (pv 5) set_list))))) (pss_one (ps_ret (pv 2))))
  delta m_ulaw_cells
  exact h1
theorem okr_ulaw_same (T : Tx K mg) : ∀ n : Nat, FnOk P w K mg base CX0 (n + 1) T.a_ulaw_same T.f_ulaw_same ["got", "due"] (spP K (mr_ulaw_same n))
  | 0 => fn_void
  | n + 1 => by
    have G_ulaw_same := okr_ulaw_same T n
    have hs : SdS K _ (sm_ulaw_same (mr_ulaw_same n)) := (ss_seq (ss_if (st_tru (sd_isi2 (t := .list) (u := .tuple) sd_var)) (ss_seq (ss_if (st_or (st_tTest (sd_op ob_ne (sd_isi (t := .list) sd_var) (sd_isi (t := .list) sd_var))) (st_tTest (sd_op ob_ne (sd_isi (t := .tuple) sd_var) (sd_isi (t := .tuple) sd_var)))) (ss_ret sd_bl) ss_next)
      (ss_ret (sd_and (sd_op ob_eq (sd_cb co_len (sa_one sd_var)) (sd_cb co_len (sa_one sd_var))) (sd_cb co_all (sa_one (sd_lc (js := [2, 3]) (si_zip (sa_cons sd_var (sa_one sd_var))) (sg_any (sgs_cons sg_name (sgs_cons sg_name sgs_nil))) st_yes' (sd_fn (sa_cons sd_var (sa_one sd_var))) (by decide))))))) ss_next)
      (ss_seq (ss_if (st_or (st_tTest (sd_op ob_is sd_var sd_non)) (st_tru (sd_isi2 (t := .bool) (u := .str) sd_var))) (ss_ret (sd_and (sd_op ob_eq sd_var sd_var) (sd_and (sd_op ob_eq (sd_isi (t := .bool) sd_var) (sd_isi (t := .bool) sd_var)) (sd_op ob_eq (sd_op ob_is sd_var sd_non) (sd_op ob_is sd_var sd_non))))) ss_next)
      (ss_ret (sd_and (sd_isi (t := .int) sd_var) (sd_and (sd_not (sd_isi (t := .bool) sd_var)) (sd_op ob_eq sd_var sd_var))))))
    refine fn_pure T.F_ulaw_same sc_ulaw_same (by decide) hs fun cdv A outer s H E hr => ?_
    have HU := hu64 hr
    have HU65 := hu65 hr
    have HU70 := hu70 hr
    have HR_ulaw_same := hr
    refine (pss_cons ?_ ?_)
    · refine (ps_if ?_ ?_ ?_)
      · exact (pt_truth (xe_callB call_isiT (by rfl) T.m_isinstance bt_isinstance (xa_cons (pv 1) (xa_cons (pe_tup (xa_cons (pe_bltn (v := .ty "list") (by rfl) T.m_list bt_list rfl) (xa_cons (pe_bltn (v := .ty "tuple") (by rfl) T.m_tuple bt_tuple rfl) pa_nil))) pa_nil))) (by intro _; rfl))
      · refine (pss_cons ?_ ?_)
        · refine (ps_if ?_ ?_ ?_)
          · exact (PW.pt (pw_or (pt_cmpR (op_neD HU) (xe_callB call_isi (by rfl) T.m_isinstance bt_isinstance (xa_cons (pv 0) (xa_cons (pe_bltn (v := .ty "list") (by rfl) T.m_list bt_list rfl) pa_nil))) (xe_callB call_isi (by rfl) T.m_isinstance bt_isinstance (xa_cons (pv 1) (xa_cons (pe_bltn (v := .ty "list") (by rfl) T.m_list bt_list rfl) pa_nil))) (nomark _)) (pw_or1 (pt_cmpR (op_neD HU) (xe_callB call_isi (by rfl) T.m_isinstance bt_isinstance (xa_cons (pv 0) (xa_cons (pe_bltn (v := .ty "tuple") (by rfl) T.m_tuple bt_tuple rfl) pa_nil))) (xe_callB call_isi (by rfl) T.m_isinstance bt_isinstance (xa_cons (pv 1) (xa_cons (pe_bltn (v := .ty "tuple") (by rfl) T.m_tuple bt_tuple rfl) pa_nil))) (nomark _)))))
          · exact (pss_one (ps_ret pe_bl))
          · exact pss_nil
        · refine (pss_one ?_)
          · refine (ps_ret ?_)
            · refine (pe_andT ?_ ?_)
              · exact (pe_cmpR (op_eqD HU) (xe_callB call_len_seq (by rfl) T.m_len bt_len (xa_cons (pv 0) pa_nil)) (xe_callB call_len_seq (by rfl) T.m_len bt_len (xa_cons (pv 1) pa_nil)) (nomark _))
              · refine (pe_one ?_)
                · refine (xe_callB (cr_all rfl) (by rfl) T.m_all bt_all ?_)
                  · exact (xa_cons (pe_lc (own := [("mine", 2), ("its", 3)]) (g := (gAny K 2 (gCons (gName 2) (gCons (gName 3) gNil)))) rfl sc_ulaw_same.nd (pi_zipK (by rfl) T.m_zip (xa_cons (pv 0) (xa_cons (pv 1) pa_nil))) (blkOk_by (N := n_ulaw_same) (sc := defScope s_ulaw_same) (by decide +kernel)) (fun _ _ _ _ _ => (pg_any rfl (pgs_cons (pg_name (i := 2) sc_ulaw_same.nd rfl (by first | exact Or.inl rfl | exact Or.inr rfl)) (pgs_cons (pg_name (i := 3) sc_ulaw_same.nd rfl (by first | exact Or.inl rfl | exact Or.inr rfl)) pgs_nil)))) (fun _ _ _ _ _ => pts_nil) (fun _ _ _ _ _ => (xe_call G_ulaw_same HR_ulaw_same (by rfl) T.g_ulaw_same T.F_ulaw_same.kp T.b_ulaw_same (xa_cons (pv 2) (xa_cons (pv 3) pa_nil))))) pa_nil)
      · exact pss_nil
    · refine (pss_cons ?_ ?_)
      · refine (ps_if ?_ ?_ ?_)
        · exact (PW.pt (pw_or (pt_cmpR op_isA (pv 1) pe_non (nomark _)) (pw_or1 (pt_truth (xe_callB call_isiT (by rfl) T.m_isinstance bt_isinstance (xa_cons (pv 1) (xa_cons (pe_tup (xa_cons (pe_bltn (v := .ty "bool") (by rfl) T.m_bool bt_bool rfl) (xa_cons (pe_bltn (v := .ty "str") (by rfl) T.m_str bt_str rfl) pa_nil))) pa_nil))) (by intro _; rfl)))))
        · exact (pss_one (ps_ret (pe_andT (pe_cmpR (op_eqD HU) (pv 0) (pv 1) (nomark _)) (pe_andT (pe_cmpR (op_eqD HU) (xe_callB call_isi (by rfl) T.m_isinstance bt_isinstance (xa_cons (pv 0) (xa_cons (pe_bltn (v := .ty "bool") (by rfl) T.m_bool bt_bool rfl) pa_nil))) (xe_callB call_isi (by rfl) T.m_isinstance bt_isinstance (xa_cons (pv 1) (xa_cons (pe_bltn (v := .ty "bool") (by rfl) T.m_bool bt_bool rfl) pa_nil))) (nomark _)) (pe_one (pe_cmpR (op_eqD HU) (pe_cmpR op_isA (pv 0) pe_non (nomark _)) (pe_cmpR op_isA (pv 1) pe_non (nomark _)) (nomark _)))))))
        · exact pss_nil
      · exact (pss_one (ps_ret (pe_andT (xe_callB call_isi (by rfl) T.m_isinstance bt_isinstance (xa_cons (pv 0) (xa_cons (pe_bltn (v := .ty "int") (by rfl) T.m_int bt_int rfl) pa_nil))) (pe_andT (pe_notT (xe_callB call_isi (by rfl) T.m_isinstance bt_isinstance (xa_cons (pv 0) (xa_cons (pe_bltn (v := .ty "bool") (by rfl) T.m_bool bt_bool rfl) pa_nil)))) (pe_one (pe_cmpR (op_eqD HU) (pv 0) (pv 1) (nomark _)))))))
theorem ok_ulaw_same (T : Tx K mg) : FnOk P w K mg base CX0 9 T.a_ulaw_same T.f_ulaw_same ["got", "due"] (spP K m_ulaw_same) := okr_ulaw_same T 8
theorem ok_ulaw_short (T : Tx K mg) : FnOk P w K mg base CX0 1 T.a_ulaw_short T.f_ulaw_short ["numbers_so", "k"] (spP K m_ulaw_short) := by
  have hs : SdS K _ sm_ulaw_short := (ss_seq (ss_asg sd_var (sg_any (sgs_cons sg_name (sgs_cons sg_name (sgs_cons sg_name (sgs_cons sg_name sgs_nil))))))
      (ss_seq (ss_if (st_tTest (sd_op ob_eq (sd_lst (sa_cons sd_var (sa_cons sd_var (sa_cons sd_var (sa_one sd_var))))) (sd_lst (sa_cons sd_int (sa_cons sd_int (sa_cons sd_int (sa_one sd_int))))))) (ss_ret (sd_tup (sa_cons sd_int (sa_cons sd_int (sa_cons sd_int (sa_cons sd_int (sa_one sd_int))))))) ss_next)
      (ss_seq (ss_while (st_and (st_tTest (sd_op ob_gt sd_var sd_int)) (st_and (st_tTest (sd_op ob_eq (sd_op ob_mod (sd_cb co_int (sa_one (sd_op ob_add sd_var sd_var))) sd_int) sd_int)) (st_tTest (sd_op ob_eq (sd_op ob_mod (sd_cb co_int (sa_one (sd_op ob_add sd_var sd_var))) sd_int) sd_int)))) (ss_asg (sd_tup (sa_cons (sd_op ob_fdiv (sd_op ob_sub sd_var sd_var) sd_int) (sa_cons (sd_op ob_fdiv (sd_op ob_add sd_var sd_var) sd_int) (sa_cons (sd_op ob_fdiv (sd_op ob_add sd_var sd_var) sd_int) (sa_cons (sd_op ob_fdiv (sd_op ob_sub sd_var sd_var) sd_int) (sa_one (sd_op ob_sub sd_var sd_int))))))) (sg_any (sgs_cons sg_name (sgs_cons sg_name (sgs_cons sg_name (sgs_cons sg_name (sgs_cons sg_name sgs_nil))))))))
      (ss_ret (sd_tup (sa_cons sd_var (sa_cons sd_var (sa_cons sd_var (sa_cons sd_var (sa_one sd_var))))))))))
  have h1 : FnOk P w K mg base CX0 1 T.a_ulaw_short T.f_ulaw_short ["numbers_so", "k"] (spP K (runD 2 6 sm_ulaw_short)) := by
    refine fn_pure (k := 0) (N := n_ulaw_short) (ps := ["numbers_so", "k"]) T.F_ulaw_short sc_ulaw_short (by decide) hs fun cdv A outer s H E hr => ?_
    have HU := hu64 hr
    have HU65 := hu65 hr
    have HU70 := hu70 hr
    refine (pss_cons ?_ ?_)
    · exact (ps_asg (pv 0) (pg_any rfl (pgs_cons (pg_name (i := 2) sc_ulaw_short.nd rfl (Or.inl rfl)) (pgs_cons (pg_name (i := 3) sc_ulaw_short.nd rfl (Or.inl rfl)) (pgs_cons (pg_name (i := 4) sc_ulaw_short.nd rfl (Or.inl rfl)) (pgs_cons (pg_name (i := 5) sc_ulaw_short.nd rfl (Or.inl rfl)) pgs_nil))))))
    · refine (pss_cons ?_ ?_)
      · exact (ps_if (pt_cmpR (op_eqD HU) (pe_lst (xa_cons (pv 2) (xa_cons (pv 3) (xa_cons (pv 4) (xa_cons (pv 5) pa_nil))))) (pe_lst (xa_cons pe_int (xa_cons pe_int (xa_cons pe_int (xa_cons pe_int pa_nil))))) (nomark _)) (pss_one (ps_ret (pe_tupN (xa_cons pe_int (xa_cons pe_int (xa_cons pe_int (xa_cons pe_int (xa_cons pe_int pa_nil)))))))) pss_nil)
      · refine (pss_cons ?_ ?_)
        · refine (ps_while PassesOwn.never ?_ ?_)
          · exact (PW.pt (pw_and (pt_cmpR op_gt (pv 1) pe_int (nomark _)) (pw_and (pt_cmpR (op_eqD HU) (pe_op op_mod (xe_callT call_int1 (by rfl) T.m_int bt_int (xa_cons (pe_op op_addA (pv 2) (pv 4)) pa_nil)) pe_int) pe_int (nomark _)) (pw_and1 (pt_cmpR (op_eqD HU) (pe_op op_mod (xe_callT call_int1 (by rfl) T.m_int bt_int (xa_cons (pe_op op_addA (pv 3) (pv 5)) pa_nil)) pe_int) pe_int (nomark _))))))
          · exact (pss_one (ps_asg (pe_tupN (xa_cons (pe_op op_fdiv (pe_op op_sub (pv 3) (pv 5)) pe_int) (xa_cons (pe_op op_fdiv (pe_op op_addA (pv 2) (pv 4)) pe_int) (xa_cons (pe_op op_fdiv (pe_op op_addA (pv 3) (pv 5)) pe_int) (xa_cons (pe_op op_fdiv (pe_op op_sub (pv 4) (pv 2)) pe_int) (xa_cons (pe_op op_sub (pv 1) pe_int) pa_nil)))))) (pg_any rfl (pgs_cons (pg_name (i := 2) sc_ulaw_short.nd rfl (Or.inl rfl)) (pgs_cons (pg_name (i := 3) sc_ulaw_short.nd rfl (Or.inl rfl)) (pgs_cons (pg_name (i := 4) sc_ulaw_short.nd rfl (Or.inl rfl)) (pgs_cons (pg_name (i := 5) sc_ulaw_short.nd rfl (Or.inl rfl)) (pgs_cons (pg_name (i := 1) sc_ulaw_short.nd rfl (Or.inl rfl)) pgs_nil))))))))
        · exact (pss_one (ps_ret (pe_tupN (xa_cons (pv 2) (xa_cons (pv 3) (xa_cons (pv 4) (xa_cons (pv 5) (xa_cons (pv 1) pa_nil))))))))
  delta m_ulaw_short
  exact h1
theorem ok_ulaw_is_ray (T : Tx K mg) : FnOk P w K mg base CX0 2 T.a_ulaw_is_ray T.f_ulaw_is_ray ["own"] (spP K m_ulaw_is_ray) := by
  have G_ulaw_short := ok_ulaw_short (P := P) (w := w) (base := base) T
  have hs : SdS K _ sm_ulaw_is_ray := (ss_seq (ss_if (st_or (st_not (st_tru (sd_isi (t := .tuple) sd_var))) (st_or (st_tTest (sd_op ob_ne (sd_cb co_len (sa_one sd_var)) sd_int)) (st_not (st_tru (sd_cb co_all (sa_one (sd_lc (js := [1]) (si_any sd_var) sg_name st_yes' (sd_and (sd_isi (t := .int) sd_var) (sd_not (sd_isi (t := .bool) sd_var))) (by decide)))))))) (ss_ret sd_bl) ss_next)
      (ss_ret (sd_and (sd_chain ob_le ob_le sd_int (sd_op ob_ix sd_var sd_int) sd_int) (sd_op ob_eq (sd_fn (sa_cons (sd_sl so_any sd_var so_no (so_part sd_int)) (sa_one (sd_op ob_ix sd_var sd_int)))) sd_var))))
  have h1 : FnOk P w K mg base CX0 2 T.a_ulaw_is_ray T.f_ulaw_is_ray ["own"] (spP K (runD 1 2 sm_ulaw_is_ray)) := by
    refine fn_pure (k := 1) (N := n_ulaw_is_ray) (ps := ["own"]) T.F_ulaw_is_ray sc_ulaw_is_ray (by decide) hs fun cdv A outer s H E hr => ?_
    have HU := hu64 hr
    have HU65 := hu65 hr
    have HU70 := hu70 hr
    have HR_ulaw_short : Room 1 _ := hr.mono (by decide)
    refine (pss_cons ?_ ?_)
    · refine (ps_if ?_ ?_ ?_)
      · refine (PW.pt ?_)
        · refine (pw_or ?_ ?_)
          · exact (pt_not (pt_truth (xe_callB call_isi (by rfl) T.m_isinstance bt_isinstance (xa_cons (pv 0) (xa_cons (pe_bltn (v := .ty "tuple") (by rfl) T.m_tuple bt_tuple rfl) pa_nil))) (by intro _; rfl)))
          · refine (pw_or ?_ ?_)
            · exact (pt_cmpR (op_neD HU) (xe_callB call_len_seq (by rfl) T.m_len bt_len (xa_cons (pv 0) pa_nil)) pe_int (nomark _))
            · refine (pw_or1 ?_)
              · refine (pt_not ?_)
                · refine (pt_truth ?_ (by intro _; rfl))
                  · refine (xe_callB (cr_all rfl) (by rfl) T.m_all bt_all ?_)
                    · exact (xa_cons (pe_lc (own := [("bit", 1)]) (g := (gName 1)) rfl sc_ulaw_is_ray.nd (pi_any (pv 0)) (blkOk_by (N := n_ulaw_is_ray) (sc := defScope s_ulaw_is_ray) (by decide +kernel)) (fun _ _ _ _ _ => (pg_name (i := 1) sc_ulaw_is_ray.nd rfl (by first | exact Or.inl rfl | exact Or.inr rfl))) (fun _ _ _ _ _ => pts_nil) (fun _ _ _ _ _ => (pe_andT (xe_callB call_isi (by rfl) T.m_isinstance bt_isinstance (xa_cons (pv 1) (xa_cons (pe_bltn (v := .ty "int") (by rfl) T.m_int bt_int rfl) pa_nil))) (pe_one (pe_notT (xe_callB call_isi (by rfl) T.m_isinstance bt_isinstance (xa_cons (pv 1) (xa_cons (pe_bltn (v := .ty "bool") (by rfl) T.m_bool bt_bool rfl) pa_nil)))))))) pa_nil)
      · exact (pss_one (ps_ret pe_bl))
      · exact pss_nil
    · exact (pss_one (ps_ret (pe_andT (pe_chain op_le op_le pe_int (pe_ix ix_seq (pv 0) pe_int (fun _ _ => rfl)) pe_int) (pe_one (pe_cmpR (op_eqD HU) (xe_call G_ulaw_short HR_ulaw_short (by rfl) T.g_ulaw_short T.F_ulaw_short.kp T.b_ulaw_short (xa_cons (pe_slice sl_any (pv 0) po_none (po_some pe_int)) (xa_cons (pe_ix ix_seq (pv 0) pe_int (fun _ _ => rfl)) pa_nil))) (pv 0) (nomark _))))))
  delta m_ulaw_is_ray
  exact h1
theorem ok_ulaw_worth (T : Tx K mg) : FnOk P w K mg base CX0 1 T.a_ulaw_worth T.f_ulaw_worth ["ray_so", "turn_so"] (spP K m_ulaw_worth) := by
  have hs : SdS K _ sm_ulaw_worth := (ss_seq (ss_set (i := 2) (sd_op ob_add (sd_op ob_sub (sd_op ob_pow sd_int sd_int) (sd_op ob_pow sd_int sd_int)) sd_int))
      (ss_seq (ss_set (i := 3) sd_int)
      (ss_seq (ss_for (si_r1 (sa_one sd_var)) sg_name (ss_set (i := 3) (sd_op ob_mod (sd_cb co_int (sa_one (sd_op ob_mul sd_var (sd_op ob_pow sd_int sd_int)))) sd_var)))
      (ss_seq (ss_set (i := 5) (sd_op ob_sub sd_var (sd_op ob_mod (sd_cb co_int (sa_one (sd_op ob_mul (sd_op ob_mul sd_var sd_var) sd_var))) sd_var)))
      (ss_seq (ss_set (i := 6) (sd_op ob_add (sd_op ob_ix sd_var sd_int) (sd_op ob_mul sd_var (sd_op ob_add (sd_op ob_ix sd_var sd_int) (sd_op ob_mul sd_var (sd_op ob_add (sd_op ob_ix sd_var sd_int) (sd_op ob_mul sd_var (sd_op ob_ix sd_var sd_int))))))))
      (ss_seq (ss_set (i := 7) (sd_op ob_mod (sd_cb co_int (sa_one (sd_op ob_mul sd_var (sd_op ob_add (sd_op ob_sub (sd_op ob_pow sd_int sd_int) (sd_op ob_pow sd_int sd_int)) sd_int)))) sd_var))
      (ss_seq (ss_for (si_r1 (sa_one (sd_op ob_ix sd_var sd_int))) sg_name (ss_set (i := 6) (sd_op ob_mod (sd_cb co_int (sa_one (sd_op ob_mul sd_var sd_var))) sd_var)))
      (ss_ret (sd_op ob_mod (sd_cb co_int (sa_one sd_var)) sd_var)))))))))
  have h1 : FnOk P w K mg base CX0 1 T.a_ulaw_worth T.f_ulaw_worth ["ray_so", "turn_so"] (spP K (runD 2 8 sm_ulaw_worth)) := by
    refine fn_pure (k := 0) (N := n_ulaw_worth) (ps := ["ray_so", "turn_so"]) T.F_ulaw_worth sc_ulaw_worth (by decide) hs fun cdv A outer s H E hr => ?_
    have HU := hu64 hr
    have HU65 := hu65 hr
    have HU70 := hu70 hr
    refine (pss_cons ?_ ?_)
    · exact (ps_set (i := 2) sc_ulaw_worth.nd rfl (Or.inl rfl) (pe_op op_addA (pe_op op_sub (pe_op op_pow pe_int pe_int) (pe_op op_pow pe_int pe_int)) pe_int))
    · refine (pss_cons ?_ ?_)
      · exact (ps_set (i := 3) sc_ulaw_worth.nd rfl (Or.inl rfl) pe_int)
      · refine (pss_cons ?_ ?_)
        · exact (ps_for PassesOwn.never rfl (pi_range1 (by rfl) T.m_range (xa_cons (pv 1) pa_nil)) (pg_name (i := 4) sc_ulaw_worth.nd rfl (Or.inl rfl)) (pss_one (ps_set (i := 3) sc_ulaw_worth.nd rfl (Or.inl rfl) (pe_op op_mod (xe_callT call_int1 (by rfl) T.m_int bt_int (xa_cons (pe_op op_mulA (pv 3) (pe_op op_pow pe_int pe_int)) pa_nil)) (pv 2)))))
        · refine (pss_cons ?_ ?_)
          · exact (ps_set (i := 5) sc_ulaw_worth.nd rfl (Or.inl rfl) (pe_op op_sub (pv 3) (pe_op op_mod (xe_callT call_int1 (by rfl) T.m_int bt_int (xa_cons (pe_op op_mulA (pe_op op_mulA (pv 3) (pv 3)) (pv 3)) pa_nil)) (pv 2))))
          · refine (pss_cons ?_ ?_)
            · exact (ps_set (i := 6) sc_ulaw_worth.nd rfl (Or.inl rfl) (pe_op op_addA (pe_ix ix_seq (pv 0) pe_int (fun _ _ => rfl)) (pe_op op_mulA (pv 3) (pe_op op_addA (pe_ix ix_seq (pv 0) pe_int (fun _ _ => rfl)) (pe_op op_mulA (pv 3) (pe_op op_addA (pe_ix ix_seq (pv 0) pe_int (fun _ _ => rfl)) (pe_op op_mulA (pv 3) (pe_ix ix_seq (pv 0) pe_int (fun _ _ => rfl)))))))))
            · refine (pss_cons ?_ ?_)
              · exact (ps_set (i := 7) sc_ulaw_worth.nd rfl (Or.inl rfl) (pe_op op_mod (xe_callT call_int1 (by rfl) T.m_int bt_int (xa_cons (pe_op op_mulA (pv 5) (pe_op op_addA (pe_op op_sub (pe_op op_pow pe_int pe_int) (pe_op op_pow pe_int pe_int)) pe_int)) pa_nil)) (pv 2)))
              · exact (pss_cons (ps_for PassesOwn.never rfl (pi_range1 (by rfl) T.m_range (xa_cons (pe_ix ix_seq (pv 0) pe_int (fun _ _ => rfl)) pa_nil)) (pg_name (i := 4) sc_ulaw_worth.nd rfl (Or.inl rfl)) (pss_one (ps_set (i := 6) sc_ulaw_worth.nd rfl (Or.inl rfl) (pe_op op_mod (xe_callT call_int1 (by rfl) T.m_int bt_int (xa_cons (pe_op op_mulA (pv 6) (pv 7)) pa_nil)) (pv 2))))) (pss_one (ps_ret (pe_op op_mod (xe_callT call_int1 (by rfl) T.m_int bt_int (xa_cons (pv 6) pa_nil)) (pv 2)))))
  delta m_ulaw_worth
  exact h1
theorem ok_ulaw_worths (T : Tx K mg) : FnOk P w K mg base CX0 2 T.a_ulaw_worths T.f_ulaw_worths ["ray_so"] (spP K m_ulaw_worths) := by
  have G_ulaw_worth := ok_ulaw_worth (P := P) (w := w) (base := base) T
  have hs : SdS K _ sm_ulaw_worths := (ss_ret (sd_lc (js := [1]) (si_any (sd_tup (sa_cons sd_int (sa_cons sd_int (sa_cons sd_int (sa_one sd_int)))))) sg_name st_yes' (sd_fn (sa_cons sd_var (sa_one sd_var))) (by decide)))
  have h1 : FnOk P w K mg base CX0 2 T.a_ulaw_worths T.f_ulaw_worths ["ray_so"] (spP K (runD 1 2 sm_ulaw_worths)) := by
    refine fn_pure (k := 1) (N := n_ulaw_worths) (ps := ["ray_so"]) T.F_ulaw_worths sc_ulaw_worths (by decide) hs fun cdv A outer s H E hr => ?_
    have HU := hu64 hr
    have HU65 := hu65 hr
    have HU70 := hu70 hr
    have HR_ulaw_worth : Room 1 _ := hr.mono (by decide)
    exact (pss_one (ps_ret (pe_lc (own := [("turn_so", 1)]) (g := (gName 1)) rfl sc_ulaw_worths.nd (pi_any (pe_tupN (xa_cons pe_int (xa_cons pe_int (xa_cons pe_int (xa_cons pe_int pa_nil)))))) (blkOk_by (N := n_ulaw_worths) (sc := defScope s_ulaw_worths) (by decide +kernel)) (fun _ _ _ _ _ => (pg_name (i := 1) sc_ulaw_worths.nd rfl (by first | exact Or.inl rfl | exact Or.inr rfl))) (fun _ _ _ _ _ => pts_nil) (fun _ _ _ _ _ => (xe_call G_ulaw_worth HR_ulaw_worth (by rfl) T.g_ulaw_worth T.F_ulaw_worth.kp T.b_ulaw_worth (xa_cons (pv 0) (xa_cons (pv 1) pa_nil)))))))
  delta m_ulaw_worths
  exact h1
theorem ok_ulaw_round (T : Tx K mg) : FnOk P w K mg base CX0 1 T.a_ulaw_round T.f_ulaw_round ["number"] (spP K m_ulaw_round) := by
  have hs : SdS K _ sm_ulaw_round := (ss_ret (sd_op ob_mod (sd_cb co_int (sa_one sd_var)) (sd_op ob_add (sd_op ob_sub (sd_op ob_pow sd_int sd_int) (sd_op ob_pow sd_int sd_int)) sd_int)))
  have h1 : FnOk P w K mg base CX0 1 T.a_ulaw_round T.f_ulaw_round ["number"] (spP K (runD 1 1 sm_ulaw_round)) := by
    refine fn_pure (k := 0) (N := n_ulaw_round) (ps := ["number"]) T.F_ulaw_round sc_ulaw_round (by decide) hs fun cdv A outer s H E hr => ?_
    have HU := hu64 hr
    have HU65 := hu65 hr
    have HU70 := hu70 hr
    exact (pss_one (ps_ret (pe_op op_mod (xe_callT call_int1 (by rfl) T.m_int bt_int (xa_cons (pv 0) pa_nil)) (pe_op op_addA (pe_op op_sub (pe_op op_pow pe_int pe_int) (pe_op op_pow pe_int pe_int)) pe_int))))
  delta m_ulaw_round
  exact h1
theorem ok_ulaw_ray (T : Tx K mg) : FnOk P w K mg base CX0 2 T.a_ulaw_ray T.f_ulaw_ray ["tin"] (spM K m_ulaw_ray) := by
  have G_ulaw_take := ok_ulaw_take (P := P) (w := w) (base := base) T
  have G_ulaw_short := ok_ulaw_short (P := P) (w := w) (base := base) T
  have hs : SdS K _ sm_ulaw_ray := (ss_seq (ss_set (i := 1) (sd_lc (js := [2]) (si_r1 (sa_one sd_int)) sg_name st_yes' (sd_op ob_sub (sd_fnM (sa_cons sd_var (sa_one sd_int))) sd_int) (by decide)))
      (ss_seq (ss_if (st_tTest (sd_op ob_eq (sd_fnM (sa_cons sd_var (sa_one sd_int))) sd_int)) (ss_set (i := 1) (sd_lc (js := [3]) (si_any sd_var) sg_name st_yes' (sd_op ob_mul sd_var (sd_fnM (sa_cons sd_var (sa_one sd_int)))) (by decide))) ss_next)
      (ss_ret (sd_fn (sa_cons sd_var (sa_one (sd_fnM (sa_cons sd_var (sa_one sd_int)))))))))
  have h1 : FnOk P w K mg base CX0 2 T.a_ulaw_ray T.f_ulaw_ray ["tin"] (spM K (runM 1 4 sm_ulaw_ray)) := by
    refine fn_mut (k := 1) (N := n_ulaw_ray) (ps := ["tin"]) T.F_ulaw_ray sc_ulaw_ray (by decide) hs fun cdv A outer s H E hr => ?_
    have HU := hu64 hr
    have HU65 := hu65 hr
    have HU70 := hu70 hr
    have HR_ulaw_take : Room 1 _ := hr.mono (by decide)
    have HR_ulaw_short : Room 1 _ := hr.mono (by decide)
    refine (pss_cons ?_ ?_)
    · exact (ps_setLc (i := 1) (own := [("k", 2)]) (g := (gName 2)) rfl sc_ulaw_ray.nd rfl rfl (sw_true rfl rfl rfl (by decide +kernel)) (pi_range1 (by rfl) T.m_range (xa_cons pe_int pa_nil)) (blkOk_by (N := n_ulaw_ray) (sc := defScope s_ulaw_ray) (by decide +kernel)) (fun _ _ _ _ _ => (pg_name (i := 2) sc_ulaw_ray.nd rfl (by first | exact Or.inl rfl | exact Or.inr rfl))) (fun _ _ _ _ _ => pts_nil) (fun _ _ _ _ _ => (pe_op op_sub (xe_call G_ulaw_take HR_ulaw_take (by rfl) T.g_ulaw_take T.F_ulaw_take.kp T.b_ulaw_take (xa_cons (pv 0) (xa_cons pe_int pa_nil))) pe_int)))
    · refine (pss_cons ?_ ?_)
      · refine (ps_if ?_ ?_ ?_)
        · exact (pt_cmpR (op_eqD HU) (xe_call G_ulaw_take HR_ulaw_take (by rfl) T.g_ulaw_take T.F_ulaw_take.kp T.b_ulaw_take (xa_cons (pv 0) (xa_cons pe_int pa_nil))) pe_int (nomark _))
        · exact (pss_one (ps_setLc (i := 1) (own := [("own", 3)]) (g := (gName 3)) rfl sc_ulaw_ray.nd rfl rfl (sw_true rfl rfl rfl (by decide +kernel)) (pi_any (pv 1)) (blkOk_by (N := n_ulaw_ray) (sc := defScope s_ulaw_ray) (by decide +kernel)) (fun _ _ _ _ _ => (pg_name (i := 3) sc_ulaw_ray.nd rfl (by first | exact Or.inl rfl | exact Or.inr rfl))) (fun _ _ _ _ _ => pts_nil) (fun _ _ _ _ _ => (pe_op op_mulA (pv 3) (xe_call G_ulaw_take HR_ulaw_take (by rfl) T.g_ulaw_take T.F_ulaw_take.kp T.b_ulaw_take (xa_cons (pv 0) (xa_cons pe_int pa_nil)))))))
        · exact pss_nil
      · exact (pss_one (ps_ret (xe_call G_ulaw_short HR_ulaw_short (by rfl) T.g_ulaw_short T.F_ulaw_short.kp T.b_ulaw_short (xa_cons (pv 1) (xa_cons (xe_call G_ulaw_take HR_ulaw_take (by rfl) T.g_ulaw_take T.F_ulaw_take.kp T.b_ulaw_take (xa_cons (pv 0) (xa_cons pe_int pa_nil))) pa_nil)))))
  delta m_ulaw_ray
  exact h1
theorem ok_ulaw_stands (T : Tx K mg) : FnOk P w K mg base CX0 3 T.a_ulaw_stands T.f_ulaw_stands ["told", "dues"] (spP K m_ulaw_stands) := by
  have G_ulaw_is_ray := ok_ulaw_is_ray (P := P) (w := w) (base := base) T
  have G_is_ray := ok_is_ray (P := P) (w := w) (base := base) T
  have G_ulaw_worths := ok_ulaw_worths (P := P) (w := w) (base := base) T
  have G_ulaw_round := ok_ulaw_round (P := P) (w := w) (base := base) T
  have hs : SdS K _ sm_ulaw_stands := (ss_ret (sd_and (sd_fn (sa_one sd_var)) (sd_and (sd_op ob_is (sd_fn (sa_one sd_var)) sd_bl) (sd_op ob_eq (sd_fn (sa_one sd_var)) (sd_lc (js := [2]) (si_any sd_var) sg_name st_yes' (sd_fn (sa_one sd_var)) (by decide))))))
  have h1 : FnOk P w K mg base CX0 3 T.a_ulaw_stands T.f_ulaw_stands ["told", "dues"] (spP K (runD 2 3 sm_ulaw_stands)) := by
    refine fn_pure (k := 2) (N := n_ulaw_stands) (ps := ["told", "dues"]) T.F_ulaw_stands sc_ulaw_stands (by decide) hs fun cdv A outer s H E hr => ?_
    have HU := hu64 hr
    have HU65 := hu65 hr
    have HU70 := hu70 hr
    have HR_ulaw_is_ray : Room 2 _ := hr.mono (by decide)
    have HR_is_ray : Room 2 _ := hr.mono (by decide)
    have HR_ulaw_worths : Room 2 _ := hr.mono (by decide)
    have HR_ulaw_round : Room 1 _ := hr.mono (by decide)
    refine (pss_one ?_)
    · refine (ps_ret ?_)
      · refine (pe_andT ?_ ?_)
        · exact (xe_call G_ulaw_is_ray HR_ulaw_is_ray (by rfl) T.g_ulaw_is_ray T.F_ulaw_is_ray.kp T.b_ulaw_is_ray (xa_cons (pv 0) pa_nil))
        · refine (pe_andT ?_ ?_)
          · exact (pe_cmpR op_isA (xe_call G_is_ray HR_is_ray (by rfl) T.g_is_ray T.F_is_ray.kp T.b_is_ray (xa_cons (pv 0) pa_nil)) pe_bl (nomark _))
          · exact (pe_one (pe_cmpR (op_eqD HU) (xe_call G_ulaw_worths HR_ulaw_worths (by rfl) T.g_ulaw_worths T.F_ulaw_worths.kp T.b_ulaw_worths (xa_cons (pv 0) pa_nil)) (pe_lc (own := [("own", 2)]) (g := (gName 2)) rfl sc_ulaw_stands.nd (pi_any (pv 1)) (blkOk_by (N := n_ulaw_stands) (sc := defScope s_ulaw_stands) (by decide +kernel)) (fun _ _ _ _ _ => (pg_name (i := 2) sc_ulaw_stands.nd rfl (by first | exact Or.inl rfl | exact Or.inr rfl))) (fun _ _ _ _ _ => pts_nil) (fun _ _ _ _ _ => (xe_call G_ulaw_round HR_ulaw_round (by rfl) T.g_ulaw_round T.F_ulaw_round.kp T.b_ulaw_round (xa_cons (pv 2) pa_nil)))) (nomark _)))
  delta m_ulaw_stands
  exact h1
theorem ok_ulaw_sums_right (T : Tx K mg) : FnOk P w K mg base CX0 10 T.a_ulaw_sums_right T.f_ulaw_sums_right ["one_so", "two_so", "three_so"] (spP K m_ulaw_sums_right) := by
  have G_ulaw_worths := ok_ulaw_worths (P := P) (w := w) (base := base) T
  have G_ray_sum := ok_ray_sum (P := P) (w := w) (base := base) T
  have G_ray_product := ok_ray_product (P := P) (w := w) (base := base) T
  have G_ulaw_stands := ok_ulaw_stands (P := P) (w := w) (base := base) T
  have G_turned_ray := ok_turned_ray (P := P) (w := w) (base := base) T
  have G_ulaw_same := ok_ulaw_same (P := P) (w := w) (base := base) T
  have hs : SdS K _ sm_ulaw_sums_right := (ss_seq (ss_par (sa_cons (sd_fn (sa_one sd_var)) (sa_one (sd_fn (sa_one sd_var)))))
      (ss_seq (ss_par (sa_cons (sd_fn (sa_cons sd_var (sa_one sd_var))) (sa_one (sd_fn (sa_cons sd_var (sa_one sd_var))))))
      (ss_seq (ss_if (st_or (st_not (st_tru (sd_fn (sa_cons sd_var (sa_one (sd_lc (js := [9, 10]) (si_zip (sa_cons sd_var (sa_one sd_var))) (sg_any (sgs_cons sg_name (sgs_cons sg_name sgs_nil))) st_yes' (sd_op ob_add sd_var sd_var) (by decide))))))) (st_not (st_tru (sd_fn (sa_cons sd_var (sa_one (sd_lc (js := [9, 10]) (si_zip (sa_cons sd_var (sa_one sd_var))) (sg_any (sgs_cons sg_name (sgs_cons sg_name sgs_nil))) st_yes' (sd_op ob_mul sd_var sd_var) (by decide)))))))) (ss_ret sd_bl) ss_next)
      (ss_seq (ss_set (i := 7) (sd_lst (sa_cons (sd_fn (sa_cons (sd_cb co_list (sa_one sd_var)) (sa_one (sd_cb co_list (sa_one sd_var))))) (sa_cons (sd_fn (sa_cons (sd_cb co_list (sa_one sd_var)) (sa_one (sd_cb co_list (sa_one sd_var))))) (sa_one (sd_fn (sa_cons sd_var (sa_one (sd_fn (sa_cons sd_var (sa_one sd_int)))))))))))
      (ss_seq (ss_set (i := 7) (sd_op ob_add sd_var (sd_lst (sa_one (sd_fn (sa_cons sd_var (sa_one sd_var)))))))
      (ss_seq (ss_set (i := 8) (sd_lst (sa_cons sd_var (sa_cons sd_var (sa_cons (sd_tup (sa_cons sd_int (sa_cons sd_int (sa_cons sd_int (sa_cons sd_int (sa_one sd_int)))))) (sa_one (sd_fn (sa_cons (sd_fn (sa_cons sd_var (sa_one sd_var))) (sa_one (sd_fn (sa_cons sd_var (sa_one sd_var))))))))))))
      (ss_ret (sd_fn (sa_cons sd_var (sa_one sd_var))))))))))
  have h1 : FnOk P w K mg base CX0 10 T.a_ulaw_sums_right T.f_ulaw_sums_right ["one_so", "two_so", "three_so"] (spP K (runD 3 11 sm_ulaw_sums_right)) := by
    refine fn_pure (k := 9) (N := n_ulaw_sums_right) (ps := ["one_so", "two_so", "three_so"]) T.F_ulaw_sums_right sc_ulaw_sums_right (by decide) hs fun cdv A outer s H E hr => ?_
    have HU := hu64 hr
    have HU65 := hu65 hr
    have HU70 := hu70 hr
    have HR_ulaw_worths : Room 2 _ := hr.mono (by decide)
    have HR_ray_sum : Room 4 _ := hr.mono (by decide)
    have HR_ray_product : Room 3 _ := hr.mono (by decide)
    have HR_ulaw_stands : Room 3 _ := hr.mono (by decide)
    have HR_turned_ray : Room 1 _ := hr.mono (by decide)
    have HR_ulaw_same : Room 9 _ := hr.mono (by decide)
    refine (pss_cons ?_ ?_)
    · exact (ps_par (i := 3) (j := 4) (by rfl) sc_ulaw_sums_right.nd rfl rfl (by decide) rfl rfl (xa_cons (xe_call G_ulaw_worths HR_ulaw_worths (by rfl) T.g_ulaw_worths T.F_ulaw_worths.kp T.b_ulaw_worths (xa_cons (pv 0) pa_nil)) (xa_cons (xe_call G_ulaw_worths HR_ulaw_worths (by rfl) T.g_ulaw_worths T.F_ulaw_worths.kp T.b_ulaw_worths (xa_cons (pv 1) pa_nil)) pa_nil)) (by rfl))
    · refine (pss_cons ?_ ?_)
      · exact (ps_par (i := 5) (j := 6) (by rfl) sc_ulaw_sums_right.nd rfl rfl (by decide) rfl rfl (xa_cons (xe_call G_ray_sum HR_ray_sum (by rfl) T.g_ray_sum T.F_ray_sum.kp T.b_ray_sum (xa_cons (pv 0) (xa_cons (pv 1) pa_nil))) (xa_cons (xe_call G_ray_product HR_ray_product (by rfl) T.g_ray_product T.F_ray_product.kp T.b_ray_product (xa_cons (pv 0) (xa_cons (pv 1) pa_nil))) pa_nil)) (by rfl))
      · refine (pss_cons ?_ ?_)
        · refine (ps_if ?_ ?_ ?_)
          · refine (PW.pt ?_)
            · refine (pw_or ?_ ?_)
              · refine (pt_not ?_)
                · refine (pt_truth ?_ (by intro _; rfl))
                  · refine (xe_call G_ulaw_stands HR_ulaw_stands (by rfl) T.g_ulaw_stands T.F_ulaw_stands.kp T.b_ulaw_stands ?_)
                    · exact (xa_cons (pv 5) (xa_cons (pe_lc (own := [("a", 9), ("b", 10)]) (g := (gAny K 2 (gCons (gName 9) (gCons (gName 10) gNil)))) rfl sc_ulaw_sums_right.nd (pi_zipK (by rfl) T.m_zip (xa_cons (pv 3) (xa_cons (pv 4) pa_nil))) (blkOk_by (N := n_ulaw_sums_right) (sc := defScope s_ulaw_sums_right) (by decide +kernel)) (fun _ _ _ _ _ => (pg_any rfl (pgs_cons (pg_name (i := 9) sc_ulaw_sums_right.nd rfl (by first | exact Or.inl rfl | exact Or.inr rfl)) (pgs_cons (pg_name (i := 10) sc_ulaw_sums_right.nd rfl (by first | exact Or.inl rfl | exact Or.inr rfl)) pgs_nil)))) (fun _ _ _ _ _ => pts_nil) (fun _ _ _ _ _ => (pe_op op_addA (pv 9) (pv 10)))) pa_nil))
              · refine (pw_or1 ?_)
                · refine (pt_not ?_)
                  · refine (pt_truth ?_ (by intro _; rfl))
                    · refine (xe_call G_ulaw_stands HR_ulaw_stands (by rfl) T.g_ulaw_stands T.F_ulaw_stands.kp T.b_ulaw_stands ?_)
                      · exact (xa_cons (pv 6) (xa_cons (pe_lc (own := [("a", 9), ("b", 10)]) (g := (gAny K 2 (gCons (gName 9) (gCons (gName 10) gNil)))) rfl sc_ulaw_sums_right.nd (pi_zipK (by rfl) T.m_zip (xa_cons (pv 3) (xa_cons (pv 4) pa_nil))) (blkOk_by (N := n_ulaw_sums_right) (sc := defScope s_ulaw_sums_right) (by decide +kernel)) (fun _ _ _ _ _ => (pg_any rfl (pgs_cons (pg_name (i := 9) sc_ulaw_sums_right.nd rfl (by first | exact Or.inl rfl | exact Or.inr rfl)) (pgs_cons (pg_name (i := 10) sc_ulaw_sums_right.nd rfl (by first | exact Or.inl rfl | exact Or.inr rfl)) pgs_nil)))) (fun _ _ _ _ _ => pts_nil) (fun _ _ _ _ _ => (pe_op op_mulA (pv 9) (pv 10)))) pa_nil))
          · exact (pss_one (ps_ret pe_bl))
          · exact pss_nil
        · refine (pss_cons ?_ ?_)
          · refine (ps_set (i := 7) sc_ulaw_sums_right.nd rfl (Or.inl rfl) ?_)
            · refine (pe_lst ?_)
              · refine (xa_cons ?_ ?_)
                · exact (xe_call G_ray_sum HR_ray_sum (by rfl) T.g_ray_sum T.F_ray_sum.kp T.b_ray_sum (xa_cons (xe_callT call_list_of (by rfl) T.m_list bt_list (xa_cons (pv 1) pa_nil)) (xa_cons (xe_callT call_list_of (by rfl) T.m_list bt_list (xa_cons (pv 0) pa_nil)) pa_nil)))
                · exact (xa_cons (xe_call G_ray_product HR_ray_product (by rfl) T.g_ray_product T.F_ray_product.kp T.b_ray_product (xa_cons (xe_callT call_list_of (by rfl) T.m_list bt_list (xa_cons (pv 1) pa_nil)) (xa_cons (xe_callT call_list_of (by rfl) T.m_list bt_list (xa_cons (pv 0) pa_nil)) pa_nil))) (xa_cons (xe_call G_ray_sum HR_ray_sum (by rfl) T.g_ray_sum T.F_ray_sum.kp T.b_ray_sum (xa_cons (pv 0) (xa_cons (xe_call G_turned_ray HR_turned_ray (by rfl) T.g_turned_ray T.F_turned_ray.kp T.b_turned_ray (xa_cons (pv 0) (xa_cons pe_int pa_nil))) pa_nil))) pa_nil))
          · refine (pss_cons ?_ ?_)
            · exact (ps_set (i := 7) sc_ulaw_sums_right.nd rfl (Or.inl rfl) (pe_op op_addA (pv 7) (pe_lst (xa_cons (xe_call G_ray_product HR_ray_product (by rfl) T.g_ray_product T.F_ray_product.kp T.b_ray_product (xa_cons (pv 5) (xa_cons (pv 2) pa_nil))) pa_nil))))
            · refine (pss_cons ?_ ?_)
              · exact (ps_set (i := 8) sc_ulaw_sums_right.nd rfl (Or.inl rfl) (pe_lst (xa_cons (pv 5) (xa_cons (pv 6) (xa_cons (pe_tupN (xa_cons pe_int (xa_cons pe_int (xa_cons pe_int (xa_cons pe_int (xa_cons pe_int pa_nil)))))) (xa_cons (xe_call G_ray_sum HR_ray_sum (by rfl) T.g_ray_sum T.F_ray_sum.kp T.b_ray_sum (xa_cons (xe_call G_ray_product HR_ray_product (by rfl) T.g_ray_product T.F_ray_product.kp T.b_ray_product (xa_cons (pv 0) (xa_cons (pv 2) pa_nil))) (xa_cons (xe_call G_ray_product HR_ray_product (by rfl) T.g_ray_product T.F_ray_product.kp T.b_ray_product (xa_cons (pv 1) (xa_cons (pv 2) pa_nil))) pa_nil))) pa_nil))))))
              · exact (pss_one (ps_ret (xe_call G_ulaw_same HR_ulaw_same (by rfl) T.g_ulaw_same T.F_ulaw_same.kp T.b_ulaw_same (xa_cons (pv 7) (xa_cons (pv 8) pa_nil)))))
  delta m_ulaw_sums_right
  exact h1
theorem ok_ulaw_turns_right (T : Tx K mg) : FnOk P w K mg base CX0 10 T.a_ulaw_turns_right T.f_ulaw_turns_right ["one_so", "many", "times"] (spP K m_ulaw_turns_right) := by
  have G_ulaw_worths := ok_ulaw_worths (P := P) (w := w) (base := base) T
  have G_turned_ray := ok_turned_ray (P := P) (w := w) (base := base) T
  have G_ulaw_round := ok_ulaw_round (P := P) (w := w) (base := base) T
  have G_ulaw_stands := ok_ulaw_stands (P := P) (w := w) (base := base) T
  have G_ulaw_same := ok_ulaw_same (P := P) (w := w) (base := base) T
  have G_over_root := ok_over_root (P := P) (w := w) (base := base) T
  have G_ulaw_is_ray := ok_ulaw_is_ray (P := P) (w := w) (base := base) T
  have hs : SdS K _ sm_ulaw_turns_right := (ss_seq (ss_set (i := 3) (sd_fn (sa_one sd_var)))
      (ss_seq (ss_set (i := 4) (sd_fn (sa_cons sd_var (sa_one sd_var))))
      (ss_seq (ss_set (i := 5) (sd_fn (sa_one (sd_tup (sa_cons sd_int (sa_cons sd_int (sa_cons sd_int (sa_cons sd_int (sa_one sd_int)))))))))
      (ss_seq (ss_for (si_r1 (sa_one (sd_op ob_mod (sd_cb co_int (sa_one sd_var)) sd_int))) sg_name (ss_set (i := 3) (sd_lc (js := [11, 12]) (si_zip (sa_cons sd_var (sa_one sd_var))) (sg_any (sgs_cons sg_name (sgs_cons sg_name sgs_nil))) st_yes' (sd_fn (sa_one (sd_op ob_mul sd_var sd_var))) (by decide))))
      (ss_seq (ss_if (st_or (st_not (st_tru (sd_fn (sa_cons sd_var (sa_one sd_var))))) (st_not (st_tru (sd_fn (sa_cons (sd_fn (sa_cons sd_var (sa_one (sd_op ob_sub sd_int sd_var)))) (sa_one sd_var)))))) (ss_ret sd_bl) ss_next)
      (ss_seq (ss_set (i := 7) (sd_fn (sa_one (sd_tup (sa_cons sd_int (sa_cons sd_int (sa_cons sd_int (sa_cons (sd_un uo_neg sd_int) (sa_one sd_int)))))))))
      (ss_seq (ss_set (i := 8) (sd_fn (sa_cons sd_var (sa_one sd_var))))
      (ss_seq (ss_par (sa_cons (sd_fn (sa_one sd_var)) (sa_one (sd_if (st_tru (sd_fn (sa_one sd_var))) (sd_fn (sa_one sd_var)) (sd_lst sa_nil)))))
      (ss_seq (ss_for (si_r1 (sa_one (sd_cb co_abs (sa_one sd_var)))) sg_name (ss_if (st_tTest (sd_op ob_gt sd_var sd_int)) (ss_set (i := 10) (sd_lc (js := [11, 12]) (si_zip (sa_cons sd_var (sa_one sd_var))) (sg_any (sgs_cons sg_name (sgs_cons sg_name sgs_nil))) st_yes' (sd_fn (sa_one (sd_op ob_mul sd_var sd_var))) (by decide))) (ss_set (i := 9) (sd_lc (js := [11, 12]) (si_zip (sa_cons sd_var (sa_one sd_var))) (sg_any (sgs_cons sg_name (sgs_cons sg_name sgs_nil))) st_yes' (sd_fn (sa_one (sd_op ob_mul sd_var sd_var))) (by decide)))))
      (ss_ret (sd_and (sd_op ob_eq sd_var sd_var) (sd_fn (sa_cons (sd_lst (sa_cons (sd_fn (sa_cons sd_var (sa_one (sd_op ob_sub sd_int sd_var)))) (sa_one (sd_fn (sa_cons (sd_cb co_list (sa_one sd_var)) (sa_one sd_var)))))) (sa_one (sd_lst (sa_cons sd_var (sa_one sd_var)))))))))))))))))
  have h1 : FnOk P w K mg base CX0 10 T.a_ulaw_turns_right T.f_ulaw_turns_right ["one_so", "many", "times"] (spP K (runD 3 13 sm_ulaw_turns_right)) := by
    refine fn_pure (k := 9) (N := n_ulaw_turns_right) (ps := ["one_so", "many", "times"]) T.F_ulaw_turns_right sc_ulaw_turns_right (by decide) hs fun cdv A outer s H E hr => ?_
    have HU := hu64 hr
    have HU65 := hu65 hr
    have HU70 := hu70 hr
    have HR_ulaw_worths : Room 2 _ := hr.mono (by decide)
    have HR_turned_ray : Room 1 _ := hr.mono (by decide)
    have HR_ulaw_round : Room 1 _ := hr.mono (by decide)
    have HR_ulaw_stands : Room 3 _ := hr.mono (by decide)
    have HR_ulaw_same : Room 9 _ := hr.mono (by decide)
    have HR_over_root : Room 3 _ := hr.mono (by decide)
    have HR_ulaw_is_ray : Room 2 _ := hr.mono (by decide)
    refine (pss_cons ?_ ?_)
    · exact (ps_set (i := 3) sc_ulaw_turns_right.nd rfl (Or.inl rfl) (xe_call G_ulaw_worths HR_ulaw_worths (by rfl) T.g_ulaw_worths T.F_ulaw_worths.kp T.b_ulaw_worths (xa_cons (pv 0) pa_nil)))
    · refine (pss_cons ?_ ?_)
      · exact (ps_set (i := 4) sc_ulaw_turns_right.nd rfl (Or.inl rfl) (xe_call G_turned_ray HR_turned_ray (by rfl) T.g_turned_ray T.F_turned_ray.kp T.b_turned_ray (xa_cons (pv 0) (xa_cons (pv 1) pa_nil))))
      · refine (pss_cons ?_ ?_)
        · exact (ps_set (i := 5) sc_ulaw_turns_right.nd rfl (Or.inl rfl) (xe_call G_ulaw_worths HR_ulaw_worths (by rfl) T.g_ulaw_worths T.F_ulaw_worths.kp T.b_ulaw_worths (xa_cons (pe_tupN (xa_cons pe_int (xa_cons pe_int (xa_cons pe_int (xa_cons pe_int (xa_cons pe_int pa_nil)))))) pa_nil)))
        · refine (pss_cons ?_ ?_)
          · refine (ps_for PassesOwn.never rfl ?_ ?_ ?_)
            · exact (pi_range1 (by rfl) T.m_range (xa_cons (pe_op op_mod (xe_callT call_int1 (by rfl) T.m_int bt_int (xa_cons (pv 1) pa_nil)) pe_int) pa_nil))
            · exact (pg_name (i := 6) sc_ulaw_turns_right.nd rfl (Or.inl rfl))
            · refine (pss_one ?_)
              · exact (ps_setLc (i := 3) (own := [("a", 11), ("b", 12)]) (g := (gAny K 2 (gCons (gName 11) (gCons (gName 12) gNil)))) rfl sc_ulaw_turns_right.nd rfl rfl (sw_true rfl rfl rfl (by decide +kernel)) (pi_zipK (by rfl) T.m_zip (xa_cons (pv 3) (xa_cons (pv 5) pa_nil))) (blkOk_by (N := n_ulaw_turns_right) (sc := defScope s_ulaw_turns_right) (by decide +kernel)) (fun _ _ _ _ _ => (pg_any rfl (pgs_cons (pg_name (i := 11) sc_ulaw_turns_right.nd rfl (by first | exact Or.inl rfl | exact Or.inr rfl)) (pgs_cons (pg_name (i := 12) sc_ulaw_turns_right.nd rfl (by first | exact Or.inl rfl | exact Or.inr rfl)) pgs_nil)))) (fun _ _ _ _ _ => pts_nil) (fun _ _ _ _ _ => (xe_call G_ulaw_round HR_ulaw_round (by rfl) T.g_ulaw_round T.F_ulaw_round.kp T.b_ulaw_round (xa_cons (pe_op op_mulA (pv 11) (pv 12)) pa_nil))))
          · refine (pss_cons ?_ ?_)
            · exact (ps_if (PW.pt (pw_or (pt_not (pt_truth (xe_call G_ulaw_stands HR_ulaw_stands (by rfl) T.g_ulaw_stands T.F_ulaw_stands.kp T.b_ulaw_stands (xa_cons (pv 4) (xa_cons (pv 3) pa_nil))) (by intro _; rfl))) (pw_or1 (pt_not (pt_truth (xe_call G_ulaw_same HR_ulaw_same (by rfl) T.g_ulaw_same T.F_ulaw_same.kp T.b_ulaw_same (xa_cons (xe_call G_turned_ray HR_turned_ray (by rfl) T.g_turned_ray T.F_turned_ray.kp T.b_turned_ray (xa_cons (pv 4) (xa_cons (pe_op op_sub pe_int (pv 1)) pa_nil))) (xa_cons (pv 0) pa_nil))) (by intro _; rfl)))))) (pss_one (ps_ret pe_bl)) pss_nil)
            · refine (pss_cons ?_ ?_)
              · exact (ps_set (i := 7) sc_ulaw_turns_right.nd rfl (Or.inl rfl) (xe_call G_ulaw_worths HR_ulaw_worths (by rfl) T.g_ulaw_worths T.F_ulaw_worths.kp T.b_ulaw_worths (xa_cons (pe_tupN (xa_cons pe_int (xa_cons pe_int (xa_cons pe_int (xa_cons (pe_un un_neg pe_int) (xa_cons pe_int pa_nil)))))) pa_nil)))
              · refine (pss_cons ?_ ?_)
                · exact (ps_set (i := 8) sc_ulaw_turns_right.nd rfl (Or.inl rfl) (xe_call G_over_root HR_over_root (by rfl) T.g_over_root T.F_over_root.kp T.b_over_root (xa_cons (pv 0) (xa_cons (pv 2) pa_nil))))
                · refine (pss_cons ?_ ?_)
                  · exact (ps_par (i := 9) (j := 10) (by rfl) sc_ulaw_turns_right.nd rfl rfl (by decide) rfl rfl (xa_cons (xe_call G_ulaw_worths HR_ulaw_worths (by rfl) T.g_ulaw_worths T.F_ulaw_worths.kp T.b_ulaw_worths (xa_cons (pv 0) pa_nil)) (xa_cons (pe_ifExp (pt_truth (xe_call G_ulaw_is_ray HR_ulaw_is_ray (by rfl) T.g_ulaw_is_ray T.F_ulaw_is_ray.kp T.b_ulaw_is_ray (xa_cons (pv 8) pa_nil)) (by intro _; rfl)) (xe_call G_ulaw_worths HR_ulaw_worths (by rfl) T.g_ulaw_worths T.F_ulaw_worths.kp T.b_ulaw_worths (xa_cons (pv 8) pa_nil)) (pe_lst pa_nil)) pa_nil)) (by rfl))
                  · refine (pss_cons ?_ ?_)
                    · refine (ps_for PassesOwn.never rfl ?_ ?_ ?_)
                      · exact (pi_range1 (by rfl) T.m_range (xa_cons (xe_callB call_abs (by rfl) T.m_abs bt_abs (xa_cons (pv 2) pa_nil)) pa_nil))
                      · exact (pg_name (i := 6) sc_ulaw_turns_right.nd rfl (Or.inl rfl))
                      · refine (pss_one ?_)
                        · refine (ps_if ?_ ?_ ?_)
                          · exact (pt_cmpR op_gt (pv 2) pe_int (nomark _))
                          · refine (pss_one ?_)
                            · exact (ps_setLc (i := 10) (own := [("a", 11), ("b", 12)]) (g := (gAny K 2 (gCons (gName 11) (gCons (gName 12) gNil)))) rfl sc_ulaw_turns_right.nd rfl rfl (sw_true rfl rfl rfl (by decide +kernel)) (pi_zipK (by rfl) T.m_zip (xa_cons (pv 10) (xa_cons (pv 7) pa_nil))) (blkOk_by (N := n_ulaw_turns_right) (sc := defScope s_ulaw_turns_right) (by decide +kernel)) (fun _ _ _ _ _ => (pg_any rfl (pgs_cons (pg_name (i := 11) sc_ulaw_turns_right.nd rfl (by first | exact Or.inl rfl | exact Or.inr rfl)) (pgs_cons (pg_name (i := 12) sc_ulaw_turns_right.nd rfl (by first | exact Or.inl rfl | exact Or.inr rfl)) pgs_nil)))) (fun _ _ _ _ _ => pts_nil) (fun _ _ _ _ _ => (xe_call G_ulaw_round HR_ulaw_round (by rfl) T.g_ulaw_round T.F_ulaw_round.kp T.b_ulaw_round (xa_cons (pe_op op_mulA (pv 11) (pv 12)) pa_nil))))
                          · refine (pss_one ?_)
                            · exact (ps_setLc (i := 9) (own := [("a", 11), ("b", 12)]) (g := (gAny K 2 (gCons (gName 11) (gCons (gName 12) gNil)))) rfl sc_ulaw_turns_right.nd rfl rfl (sw_true rfl rfl rfl (by decide +kernel)) (pi_zipK (by rfl) T.m_zip (xa_cons (pv 9) (xa_cons (pv 7) pa_nil))) (blkOk_by (N := n_ulaw_turns_right) (sc := defScope s_ulaw_turns_right) (by decide +kernel)) (fun _ _ _ _ _ => (pg_any rfl (pgs_cons (pg_name (i := 11) sc_ulaw_turns_right.nd rfl (by first | exact Or.inl rfl | exact Or.inr rfl)) (pgs_cons (pg_name (i := 12) sc_ulaw_turns_right.nd rfl (by first | exact Or.inl rfl | exact Or.inr rfl)) pgs_nil)))) (fun _ _ _ _ _ => pts_nil) (fun _ _ _ _ _ => (xe_call G_ulaw_round HR_ulaw_round (by rfl) T.g_ulaw_round T.F_ulaw_round.kp T.b_ulaw_round (xa_cons (pe_op op_mulA (pv 11) (pv 12)) pa_nil))))
                    · exact (pss_one (ps_ret (pe_andT (pe_cmpR (op_eqD HU) (pv 9) (pv 10) (nomark _)) (pe_one (xe_call G_ulaw_same HR_ulaw_same (by rfl) T.g_ulaw_same T.F_ulaw_same.kp T.b_ulaw_same (xa_cons (pe_lst (xa_cons (xe_call G_over_root HR_over_root (by rfl) T.g_over_root T.F_over_root.kp T.b_over_root (xa_cons (pv 8) (xa_cons (pe_op op_sub pe_int (pv 2)) pa_nil))) (xa_cons (xe_call G_over_root HR_over_root (by rfl) T.g_over_root T.F_over_root.kp T.b_over_root (xa_cons (xe_callT call_list_of (by rfl) T.m_list bt_list (xa_cons (pv 0) pa_nil)) (xa_cons (pv 2) pa_nil))) pa_nil))) (xa_cons (pe_lst (xa_cons (pv 0) (xa_cons (pv 8) pa_nil))) pa_nil)))))))
  delta m_ulaw_turns_right
  exact h1
theorem ok_ulaw_mirrors_right (T : Tx K mg) : FnOk P w K mg base CX0 10 T.a_ulaw_mirrors_right T.f_ulaw_mirrors_right ["one_so", "two_so"] (spP K m_ulaw_mirrors_right) := by
  have G_ulaw_worths := ok_ulaw_worths (P := P) (w := w) (base := base) T
  have G_mirrored := ok_mirrored (P := P) (w := w) (base := base) T
  have G_twin_of := ok_twin_of (P := P) (w := w) (base := base) T
  have G_size_of := ok_size_of (P := P) (w := w) (base := base) T
  have G_ulaw_stands := ok_ulaw_stands (P := P) (w := w) (base := base) T
  have G_ray_product := ok_ray_product (P := P) (w := w) (base := base) T
  have G_is_real := ok_is_real (P := P) (w := w) (base := base) T
  have G_ulaw_same := ok_ulaw_same (P := P) (w := w) (base := base) T
  have G_sign_of := ok_sign_of (P := P) (w := w) (base := base) T
  have hs : SdS K _ sm_ulaw_mirrors_right := (ss_seq (ss_set (i := 2) (sd_fn (sa_one sd_var)))
      (ss_seq (ss_par3 (sa_cons (sd_fn (sa_one sd_var)) (sa_cons (sd_fn (sa_one sd_var)) (sa_one (sd_fn (sa_one sd_var))))))
      (ss_seq (ss_if (st_or (st_not (st_tru (sd_fn (sa_cons sd_var (sa_one (sd_revL sd_var)))))) (st_not (st_tru (sd_fn (sa_cons sd_var (sa_one (sd_op ob_add (sd_sl so_any sd_var (so_part sd_int) so_no) (sd_sl so_any sd_var so_no (so_part sd_int))))))))) (ss_ret sd_bl) ss_next)
      (ss_seq (ss_if (st_not (st_tru (sd_fn (sa_cons sd_var (sa_one (sd_lc (js := [8, 9]) (si_zip (sa_cons sd_var (sa_one (sd_revL sd_var)))) (sg_any (sgs_cons sg_name (sgs_cons sg_name sgs_nil))) st_yes' (sd_op ob_mul sd_var sd_var) (by decide))))))) (ss_ret sd_bl) ss_next)
      (ss_seq (ss_set (i := 6) (sd_lst (sa_cons (sd_fn (sa_one sd_var)) (sa_cons (sd_fn (sa_one sd_var)) (sa_cons (sd_fn (sa_one sd_var)) (sa_cons (sd_fn (sa_one (sd_fn (sa_cons sd_var (sa_one sd_var))))) (sa_cons (sd_fn (sa_one sd_var)) (sa_one (sd_fn (sa_one sd_var))))))))))
      (ss_seq (ss_set (i := 6) (sd_op ob_add sd_var (sd_lst (sa_one (sd_fn (sa_one (sd_cb co_list (sa_one sd_var))))))))
      (ss_seq (ss_set (i := 7) (sd_lst (sa_cons sd_var (sa_cons sd_var (sa_cons (sd_fn (sa_one sd_var)) (sa_cons (sd_fn (sa_cons sd_var (sa_one (sd_fn (sa_one sd_var))))) (sa_cons sd_bl (sa_cons (sd_op ob_eq sd_var (sd_revL sd_var)) (sa_one sd_var)))))))))
      (ss_ret (sd_and (sd_fn (sa_cons sd_var (sa_one sd_var))) (sd_and (sd_op ob_in (sd_fn (sa_one sd_var)) (sd_tup (sa_cons sd_int (sa_one sd_int)))) (sd_fn (sa_cons (sd_op ob_eq (sd_fn (sa_one sd_var)) sd_int) (sa_one (sd_op ob_eq sd_var (sd_tup (sa_cons sd_int (sa_cons sd_int (sa_cons sd_int (sa_cons sd_int (sa_one sd_int))))))))))))))))))))
  have h1 : FnOk P w K mg base CX0 10 T.a_ulaw_mirrors_right T.f_ulaw_mirrors_right ["one_so", "two_so"] (spP K (runD 2 10 sm_ulaw_mirrors_right)) := by
    refine fn_pure (k := 9) (N := n_ulaw_mirrors_right) (ps := ["one_so", "two_so"]) T.F_ulaw_mirrors_right sc_ulaw_mirrors_right (by decide) hs fun cdv A outer s H E hr => ?_
    have HU := hu64 hr
    have HU65 := hu65 hr
    have HU70 := hu70 hr
    have HR_ulaw_worths : Room 2 _ := hr.mono (by decide)
    have HR_mirrored : Room 1 _ := hr.mono (by decide)
    have HR_twin_of : Room 1 _ := hr.mono (by decide)
    have HR_size_of : Room 4 _ := hr.mono (by decide)
    have HR_ulaw_stands : Room 3 _ := hr.mono (by decide)
    have HR_ray_product : Room 3 _ := hr.mono (by decide)
    have HR_is_real : Room 1 _ := hr.mono (by decide)
    have HR_ulaw_same : Room 9 _ := hr.mono (by decide)
    have HR_sign_of : Room 2 _ := hr.mono (by decide)
    refine (pss_cons ?_ ?_)
    · exact (ps_set (i := 2) sc_ulaw_mirrors_right.nd rfl (Or.inl rfl) (xe_call G_ulaw_worths HR_ulaw_worths (by rfl) T.g_ulaw_worths T.F_ulaw_worths.kp T.b_ulaw_worths (xa_cons (pv 0) pa_nil)))
    · refine (pss_cons ?_ ?_)
      · exact (ps_par3 (i := 3) (j := 4) (l := 5) (by rfl) sc_ulaw_mirrors_right.nd rfl rfl rfl (by decide) (by decide) (by decide) rfl rfl rfl (xa_cons (xe_call G_mirrored HR_mirrored (by rfl) T.g_mirrored T.F_mirrored.kp T.b_mirrored (xa_cons (pv 0) pa_nil)) (xa_cons (xe_call G_twin_of HR_twin_of (by rfl) T.g_twin_of T.F_twin_of.kp T.b_twin_of (xa_cons (pv 0) pa_nil)) (xa_cons (xe_call G_size_of HR_size_of (by rfl) T.g_size_of T.F_size_of.kp T.b_size_of (xa_cons (pv 0) pa_nil)) pa_nil))) (by rfl))
      · refine (pss_cons ?_ ?_)
        · exact (ps_if (PW.pt (pw_or (pt_not (pt_truth (xe_call G_ulaw_stands HR_ulaw_stands (by rfl) T.g_ulaw_stands T.F_ulaw_stands.kp T.b_ulaw_stands (xa_cons (pv 3) (xa_cons (pe_revL (pv 2)) pa_nil))) (by intro _; rfl))) (pw_or1 (pt_not (pt_truth (xe_call G_ulaw_stands HR_ulaw_stands (by rfl) T.g_ulaw_stands T.F_ulaw_stands.kp T.b_ulaw_stands (xa_cons (pv 4) (xa_cons (pe_op op_addA (pe_slice sl_any (pv 2) (po_some pe_int) po_none) (pe_slice sl_any (pv 2) po_none (po_some pe_int))) pa_nil))) (by intro _; rfl)))))) (pss_one (ps_ret pe_bl)) pss_nil)
        · refine (pss_cons ?_ ?_)
          · refine (ps_if ?_ ?_ ?_)
            · refine (pt_not ?_)
              · refine (pt_truth ?_ (by intro _; rfl))
                · refine (xe_call G_ulaw_stands HR_ulaw_stands (by rfl) T.g_ulaw_stands T.F_ulaw_stands.kp T.b_ulaw_stands ?_)
                  · exact (xa_cons (pv 5) (xa_cons (pe_lc (own := [("a", 8), ("b", 9)]) (g := (gAny K 2 (gCons (gName 8) (gCons (gName 9) gNil)))) rfl sc_ulaw_mirrors_right.nd (pi_zipK (by rfl) T.m_zip (xa_cons (pv 2) (xa_cons (pe_revL (pv 2)) pa_nil))) (blkOk_by (N := n_ulaw_mirrors_right) (sc := defScope s_ulaw_mirrors_right) (by decide +kernel)) (fun _ _ _ _ _ => (pg_any rfl (pgs_cons (pg_name (i := 8) sc_ulaw_mirrors_right.nd rfl (by first | exact Or.inl rfl | exact Or.inr rfl)) (pgs_cons (pg_name (i := 9) sc_ulaw_mirrors_right.nd rfl (by first | exact Or.inl rfl | exact Or.inr rfl)) pgs_nil)))) (fun _ _ _ _ _ => pts_nil) (fun _ _ _ _ _ => (pe_op op_mulA (pv 8) (pv 9)))) pa_nil))
            · exact (pss_one (ps_ret pe_bl))
            · exact pss_nil
          · refine (pss_cons ?_ ?_)
            · refine (ps_set (i := 6) sc_ulaw_mirrors_right.nd rfl (Or.inl rfl) ?_)
              · refine (pe_lst ?_)
                · refine (xa_cons ?_ ?_)
                  · exact (xe_call G_mirrored HR_mirrored (by rfl) T.g_mirrored T.F_mirrored.kp T.b_mirrored (xa_cons (pv 3) pa_nil))
                  · refine (xa_cons ?_ ?_)
                    · exact (xe_call G_twin_of HR_twin_of (by rfl) T.g_twin_of T.F_twin_of.kp T.b_twin_of (xa_cons (pv 4) pa_nil))
                    · exact (xa_cons (xe_call G_twin_of HR_twin_of (by rfl) T.g_twin_of T.F_twin_of.kp T.b_twin_of (xa_cons (pv 3) pa_nil)) (xa_cons (xe_call G_size_of HR_size_of (by rfl) T.g_size_of T.F_size_of.kp T.b_size_of (xa_cons (xe_call G_ray_product HR_ray_product (by rfl) T.g_ray_product T.F_ray_product.kp T.b_ray_product (xa_cons (pv 0) (xa_cons (pv 1) pa_nil))) pa_nil)) (xa_cons (xe_call G_is_real HR_is_real (by rfl) T.g_is_real T.F_is_real.kp T.b_is_real (xa_cons (pv 5) pa_nil)) (xa_cons (xe_call G_is_real HR_is_real (by rfl) T.g_is_real T.F_is_real.kp T.b_is_real (xa_cons (pv 0) pa_nil)) pa_nil))))
            · refine (pss_cons ?_ ?_)
              · exact (ps_set (i := 6) sc_ulaw_mirrors_right.nd rfl (Or.inl rfl) (pe_op op_addA (pv 6) (pe_lst (xa_cons (xe_call G_mirrored HR_mirrored (by rfl) T.g_mirrored T.F_mirrored.kp T.b_mirrored (xa_cons (xe_callT call_list_of (by rfl) T.m_list bt_list (xa_cons (pv 0) pa_nil)) pa_nil)) pa_nil))))
              · refine (pss_cons ?_ ?_)
                · exact (ps_set (i := 7) sc_ulaw_mirrors_right.nd rfl (Or.inl rfl) (pe_lst (xa_cons (pv 0) (xa_cons (pv 0) (xa_cons (xe_call G_mirrored HR_mirrored (by rfl) T.g_mirrored T.F_mirrored.kp T.b_mirrored (xa_cons (pv 4) pa_nil)) (xa_cons (xe_call G_ray_product HR_ray_product (by rfl) T.g_ray_product T.F_ray_product.kp T.b_ray_product (xa_cons (pv 5) (xa_cons (xe_call G_size_of HR_size_of (by rfl) T.g_size_of T.F_size_of.kp T.b_size_of (xa_cons (pv 1) pa_nil)) pa_nil))) (xa_cons pe_bl (xa_cons (pe_cmpR (op_eqD HU) (pv 2) (pe_revL (pv 2)) (nomark _)) (xa_cons (pv 3) pa_nil)))))))))
                · refine (pss_one ?_)
                  · refine (ps_ret ?_)
                    · refine (pe_andT ?_ ?_)
                      · exact (xe_call G_ulaw_same HR_ulaw_same (by rfl) T.g_ulaw_same T.F_ulaw_same.kp T.b_ulaw_same (xa_cons (pv 6) (xa_cons (pv 7) pa_nil)))
                      · exact (pe_andT (pe_cmpR op_in_seq (xe_call G_sign_of HR_sign_of (by rfl) T.g_sign_of T.F_sign_of.kp T.b_sign_of (xa_cons (pv 5) pa_nil)) (pe_tupN (xa_cons pe_int (xa_cons pe_int pa_nil))) (by rfl)) (pe_one (xe_call G_ulaw_same HR_ulaw_same (by rfl) T.g_ulaw_same T.F_ulaw_same.kp T.b_ulaw_same (xa_cons (pe_cmpR (op_eqD HU) (xe_call G_sign_of HR_sign_of (by rfl) T.g_sign_of T.F_sign_of.kp T.b_sign_of (xa_cons (pv 5) pa_nil)) pe_int (nomark _)) (xa_cons (pe_cmpR (op_eqD HU) (pv 0) (pe_tupN (xa_cons pe_int (xa_cons pe_int (xa_cons pe_int (xa_cons pe_int (xa_cons pe_int pa_nil)))))) (nomark _)) pa_nil)))))
  delta m_ulaw_mirrors_right
  exact h1
theorem ok_ulaw_signs_right (T : Tx K mg) : FnOk P w K mg base CX0 10 T.a_ulaw_signs_right T.f_ulaw_signs_right ["one_so"] (spP K m_ulaw_signs_right) := by
  have G_mirrored := ok_mirrored (P := P) (w := w) (base := base) T
  have G_ray_sum := ok_ray_sum (P := P) (w := w) (base := base) T
  have G_sign_of := ok_sign_of (P := P) (w := w) (base := base) T
  have G_turned_ray := ok_turned_ray (P := P) (w := w) (base := base) T
  have G_over_root := ok_over_root (P := P) (w := w) (base := base) T
  have G_is_real := ok_is_real (P := P) (w := w) (base := base) T
  have G_ulaw_same := ok_ulaw_same (P := P) (w := w) (base := base) T
  have hs : SdS K _ sm_ulaw_signs_right := (ss_seq (ss_set (i := 1) (sd_fn (sa_cons sd_var (sa_one (sd_fn (sa_one sd_var))))))
      (ss_seq (ss_set (i := 2) (sd_op ob_add (sd_op ob_mul (sd_op ob_ix sd_var sd_int) (sd_op ob_pow sd_int sd_int)) (sd_op ob_mul (sd_op ob_ix sd_var sd_int) sd_int)))
      (ss_seq (ss_set (i := 3) (sd_if (st_tTest (sd_op ob_eq sd_var (sd_tup (sa_cons sd_int (sa_cons sd_int (sa_cons sd_int (sa_cons sd_int (sa_one sd_int)))))))) sd_int (sd_if (st_tTest (sd_op ob_gt sd_var sd_int)) sd_int (sd_un uo_neg sd_int))))
      (ss_seq (ss_set (i := 4) (sd_lst (sa_cons (sd_fn (sa_one sd_var)) (sa_cons (sd_fn (sa_one (sd_cb co_list (sa_one sd_var)))) (sa_cons (sd_fn (sa_one (sd_fn (sa_cons sd_var (sa_one sd_int))))) (sa_cons (sd_fn (sa_one (sd_fn (sa_cons sd_var (sa_one sd_int))))) (sa_one (sd_fn (sa_one sd_var)))))))))
      (ss_ret (sd_fn (sa_cons sd_var (sa_one (sd_lst (sa_cons sd_var (sa_cons sd_var (sa_cons (sd_op ob_sub sd_int sd_var) (sa_cons sd_var (sa_one sd_bl))))))))))))))
  have h1 : FnOk P w K mg base CX0 10 T.a_ulaw_signs_right T.f_ulaw_signs_right ["one_so"] (spP K (runD 1 5 sm_ulaw_signs_right)) := by
    refine fn_pure (k := 9) (N := n_ulaw_signs_right) (ps := ["one_so"]) T.F_ulaw_signs_right sc_ulaw_signs_right (by decide) hs fun cdv A outer s H E hr => ?_
    have HU := hu64 hr
    have HU65 := hu65 hr
    have HU70 := hu70 hr
    have HR_mirrored : Room 1 _ := hr.mono (by decide)
    have HR_ray_sum : Room 4 _ := hr.mono (by decide)
    have HR_sign_of : Room 2 _ := hr.mono (by decide)
    have HR_turned_ray : Room 1 _ := hr.mono (by decide)
    have HR_over_root : Room 3 _ := hr.mono (by decide)
    have HR_is_real : Room 1 _ := hr.mono (by decide)
    have HR_ulaw_same : Room 9 _ := hr.mono (by decide)
    refine (pss_cons ?_ ?_)
    · exact (ps_set (i := 1) sc_ulaw_signs_right.nd rfl (Or.inl rfl) (xe_call G_ray_sum HR_ray_sum (by rfl) T.g_ray_sum T.F_ray_sum.kp T.b_ray_sum (xa_cons (pv 0) (xa_cons (xe_call G_mirrored HR_mirrored (by rfl) T.g_mirrored T.F_mirrored.kp T.b_mirrored (xa_cons (pv 0) pa_nil)) pa_nil))))
    · refine (pss_cons ?_ ?_)
      · exact (ps_set (i := 2) sc_ulaw_signs_right.nd rfl (Or.inl rfl) (pe_op op_addA (pe_op op_mulA (pe_ix ix_seq (pv 1) pe_int (fun _ _ => rfl)) (pe_op op_pow pe_int pe_int)) (pe_op op_mulA (pe_ix ix_seq (pv 1) pe_int (fun _ _ => rfl)) pe_int)))
      · refine (pss_cons ?_ ?_)
        · exact (ps_set (i := 3) sc_ulaw_signs_right.nd rfl (Or.inl rfl) (pe_ifExp (pt_cmpR (op_eqD HU) (pv 1) (pe_tupN (xa_cons pe_int (xa_cons pe_int (xa_cons pe_int (xa_cons pe_int (xa_cons pe_int pa_nil)))))) (nomark _)) pe_int (pe_ifExp (pt_cmpR op_gt (pv 2) pe_int (nomark _)) pe_int (pe_un un_neg pe_int))))
        · refine (pss_cons ?_ ?_)
          · refine (ps_set (i := 4) sc_ulaw_signs_right.nd rfl (Or.inl rfl) ?_)
            · refine (pe_lst ?_)
              · refine (xa_cons ?_ ?_)
                · exact (xe_call G_sign_of HR_sign_of (by rfl) T.g_sign_of T.F_sign_of.kp T.b_sign_of (xa_cons (pv 1) pa_nil))
                · refine (xa_cons ?_ ?_)
                  · exact (xe_call G_sign_of HR_sign_of (by rfl) T.g_sign_of T.F_sign_of.kp T.b_sign_of (xa_cons (xe_callT call_list_of (by rfl) T.m_list bt_list (xa_cons (pv 1) pa_nil)) pa_nil))
                  · exact (xa_cons (xe_call G_sign_of HR_sign_of (by rfl) T.g_sign_of T.F_sign_of.kp T.b_sign_of (xa_cons (xe_call G_turned_ray HR_turned_ray (by rfl) T.g_turned_ray T.F_turned_ray.kp T.b_turned_ray (xa_cons (pv 1) (xa_cons pe_int pa_nil))) pa_nil)) (xa_cons (xe_call G_sign_of HR_sign_of (by rfl) T.g_sign_of T.F_sign_of.kp T.b_sign_of (xa_cons (xe_call G_over_root HR_over_root (by rfl) T.g_over_root T.F_over_root.kp T.b_over_root (xa_cons (pv 1) (xa_cons pe_int pa_nil))) pa_nil)) (xa_cons (xe_call G_is_real HR_is_real (by rfl) T.g_is_real T.F_is_real.kp T.b_is_real (xa_cons (pv 1) pa_nil)) pa_nil)))
          · exact (pss_one (ps_ret (xe_call G_ulaw_same HR_ulaw_same (by rfl) T.g_ulaw_same T.F_ulaw_same.kp T.b_ulaw_same (xa_cons (pv 4) (xa_cons (pe_lst (xa_cons (pv 3) (xa_cons (pv 3) (xa_cons (pe_op op_sub pe_int (pv 3)) (xa_cons (pv 3) (xa_cons pe_bl pa_nil)))))) pa_nil)))))
  delta m_ulaw_signs_right
  exact h1
theorem ok_ulaw_rests_right (T : Tx K mg) : FnOk P w K mg base CX0 10 T.a_ulaw_rests_right T.f_ulaw_rests_right ["one_so", "more"] (spP K m_ulaw_rests_right) := by
  have G_rest_of := ok_rest_of (P := P) (w := w) (base := base) T
  have G_ulaw_same := ok_ulaw_same (P := P) (w := w) (base := base) T
  have G_ulaw_short := ok_ulaw_short (P := P) (w := w) (base := base) T
  have hs : SdS K _ sm_ulaw_rests_right := (ss_seq (ss_set (i := 2) (sd_op ob_add (sd_op ob_ix sd_var sd_int) sd_var))
      (ss_seq (ss_set (i := 3) (sd_fn (sa_cons sd_var (sa_one sd_var))))
      (ss_seq (ss_asg (sd_sl so_any sd_var so_no (so_part sd_int)) (sg_any (sgs_cons sg_name (sgs_cons sg_name (sgs_cons sg_name (sgs_cons sg_name sgs_nil))))))
      (ss_seq (ss_for (si_r1 (sa_one sd_var)) sg_name (ss_asg (sd_tup (sa_cons (sd_op ob_sub sd_var sd_var) (sa_cons (sd_op ob_add sd_var sd_var) (sa_cons (sd_op ob_add sd_var sd_var) (sa_one (sd_op ob_sub sd_var sd_var)))))) (sg_any (sgs_cons sg_name (sgs_cons sg_name (sgs_cons sg_name (sgs_cons sg_name sgs_nil)))))))
      (ss_seq (ss_if (st_not (st_tru (sd_fn (sa_cons (sd_lst (sa_cons sd_var (sa_one (sd_fn (sa_cons (sd_cb co_list (sa_one sd_var)) (sa_one sd_var)))))) (sa_one (sd_op ob_mul (sd_lst (sa_one (sd_tup (sa_cons (sd_op ob_mod (sd_cb co_int (sa_one (sd_op ob_add sd_var sd_var))) sd_int) (sa_one (sd_op ob_mod (sd_cb co_int (sa_one (sd_op ob_add sd_var sd_var))) sd_int)))))) sd_int)))))) (ss_ret sd_bl) ss_next)
      (ss_seq (ss_set (i := 9) (sd_fn (sa_cons (sd_tup (sa_cons sd_var (sa_cons sd_var (sa_cons sd_var (sa_one sd_var))))) (sa_one sd_int))))
      (ss_ret (sd_fn (sa_cons (sd_op ob_eq sd_var (sd_tup (sa_cons sd_int (sa_one sd_int)))) (sa_one (sd_op ob_eq (sd_op ob_ix sd_var sd_int) sd_int)))))))))))
  have h1 : FnOk P w K mg base CX0 10 T.a_ulaw_rests_right T.f_ulaw_rests_right ["one_so", "more"] (spP K (runD 2 10 sm_ulaw_rests_right)) := by
    refine fn_pure (k := 9) (N := n_ulaw_rests_right) (ps := ["one_so", "more"]) T.F_ulaw_rests_right sc_ulaw_rests_right (by decide) hs fun cdv A outer s H E hr => ?_
    have HU := hu64 hr
    have HU65 := hu65 hr
    have HU70 := hu70 hr
    have HR_rest_of : Room 2 _ := hr.mono (by decide)
    have HR_ulaw_same : Room 9 _ := hr.mono (by decide)
    have HR_ulaw_short : Room 1 _ := hr.mono (by decide)
    refine (pss_cons ?_ ?_)
    · exact (ps_set (i := 2) sc_ulaw_rests_right.nd rfl (Or.inl rfl) (pe_op op_addA (pe_ix ix_seq (pv 0) pe_int (fun _ _ => rfl)) (pv 1)))
    · refine (pss_cons ?_ ?_)
      · exact (ps_set (i := 3) sc_ulaw_rests_right.nd rfl (Or.inl rfl) (xe_call G_rest_of HR_rest_of (by rfl) T.g_rest_of T.F_rest_of.kp T.b_rest_of (xa_cons (pv 0) (xa_cons (pv 2) pa_nil))))
      · refine (pss_cons ?_ ?_)
        · exact (ps_asg (pe_slice sl_any (pv 0) po_none (po_some pe_int)) (pg_any rfl (pgs_cons (pg_name (i := 4) sc_ulaw_rests_right.nd rfl (Or.inl rfl)) (pgs_cons (pg_name (i := 5) sc_ulaw_rests_right.nd rfl (Or.inl rfl)) (pgs_cons (pg_name (i := 6) sc_ulaw_rests_right.nd rfl (Or.inl rfl)) (pgs_cons (pg_name (i := 7) sc_ulaw_rests_right.nd rfl (Or.inl rfl)) pgs_nil))))))
        · refine (pss_cons ?_ ?_)
          · exact (ps_for PassesOwn.never rfl (pi_range1 (by rfl) T.m_range (xa_cons (pv 1) pa_nil)) (pg_name (i := 8) sc_ulaw_rests_right.nd rfl (Or.inl rfl)) (pss_one (ps_asg (pe_tupN (xa_cons (pe_op op_sub (pv 5) (pv 7)) (xa_cons (pe_op op_addA (pv 4) (pv 6)) (xa_cons (pe_op op_addA (pv 5) (pv 7)) (xa_cons (pe_op op_sub (pv 6) (pv 4)) pa_nil))))) (pg_any rfl (pgs_cons (pg_name (i := 4) sc_ulaw_rests_right.nd rfl (Or.inl rfl)) (pgs_cons (pg_name (i := 5) sc_ulaw_rests_right.nd rfl (Or.inl rfl)) (pgs_cons (pg_name (i := 6) sc_ulaw_rests_right.nd rfl (Or.inl rfl)) (pgs_cons (pg_name (i := 7) sc_ulaw_rests_right.nd rfl (Or.inl rfl)) pgs_nil))))))))
          · refine (pss_cons ?_ ?_)
            · refine (ps_if ?_ ?_ ?_)
              · exact (pt_not (pt_truth (xe_call G_ulaw_same HR_ulaw_same (by rfl) T.g_ulaw_same T.F_ulaw_same.kp T.b_ulaw_same (xa_cons (pe_lst (xa_cons (pv 3) (xa_cons (xe_call G_rest_of HR_rest_of (by rfl) T.g_rest_of T.F_rest_of.kp T.b_rest_of (xa_cons (xe_callT call_list_of (by rfl) T.m_list bt_list (xa_cons (pv 0) pa_nil)) (xa_cons (pv 2) pa_nil))) pa_nil))) (xa_cons (pe_op op_mulA (pe_lst (xa_cons (pe_tupN (xa_cons (pe_op op_mod (xe_callT call_int1 (by rfl) T.m_int bt_int (xa_cons (pe_op op_addA (pv 4) (pv 6)) pa_nil)) pe_int) (xa_cons (pe_op op_mod (xe_callT call_int1 (by rfl) T.m_int bt_int (xa_cons (pe_op op_addA (pv 5) (pv 7)) pa_nil)) pe_int) pa_nil))) pa_nil)) pe_int) pa_nil))) (by intro _; rfl)))
              · exact (pss_one (ps_ret pe_bl))
              · exact pss_nil
            · exact (pss_cons (ps_set (i := 9) sc_ulaw_rests_right.nd rfl (Or.inl rfl) (xe_call G_ulaw_short HR_ulaw_short (by rfl) T.g_ulaw_short T.F_ulaw_short.kp T.b_ulaw_short (xa_cons (pe_tupN (xa_cons (pv 4) (xa_cons (pv 5) (xa_cons (pv 6) (xa_cons (pv 7) pa_nil))))) (xa_cons pe_int pa_nil)))) (pss_one (ps_ret (xe_call G_ulaw_same HR_ulaw_same (by rfl) T.g_ulaw_same T.F_ulaw_same.kp T.b_ulaw_same (xa_cons (pe_cmpR (op_eqD HU) (pv 3) (pe_tupN (xa_cons pe_int (xa_cons pe_int pa_nil))) (nomark _)) (xa_cons (pe_cmpR (op_eqD HU) (pe_ix ix_seq (pv 9) pe_int (fun _ _ => rfl)) pe_int (nomark _)) pa_nil))))))
  delta m_ulaw_rests_right
  exact h1
theorem ok_ulaw_by_hand_right (T : Tx K mg) : FnOk P w K mg base CX0 10 T.a_ulaw_by_hand_right T.f_ulaw_by_hand_right [] (spP K m_ulaw_by_hand_right) := by
  have G_ray_of := ok_ray_of (P := P) (w := w) (base := base) T
  have G_ray_sum := ok_ray_sum (P := P) (w := w) (base := base) T
  have G_ray_product := ok_ray_product (P := P) (w := w) (base := base) T
  have G_turned_ray := ok_turned_ray (P := P) (w := w) (base := base) T
  have G_twin_of := ok_twin_of (P := P) (w := w) (base := base) T
  have G_size_of := ok_size_of (P := P) (w := w) (base := base) T
  have G_over_root := ok_over_root (P := P) (w := w) (base := base) T
  have G_rest_of := ok_rest_of (P := P) (w := w) (base := base) T
  have G_eighth_of := ok_eighth_of (P := P) (w := w) (base := base) T
  have G_sign_of := ok_sign_of (P := P) (w := w) (base := base) T
  have G_mirrored := ok_mirrored (P := P) (w := w) (base := base) T
  have G_is_real := ok_is_real (P := P) (w := w) (base := base) T
  have G_ulaw_same := ok_ulaw_same (P := P) (w := w) (base := base) T
  have hs : SdS K _ sm_ulaw_by_hand_right := (ss_seq (ss_asg (sd_tup (sa_cons (sd_tup (sa_cons sd_int (sa_cons sd_int (sa_cons sd_int (sa_cons sd_int (sa_one sd_int)))))) (sa_cons (sd_tup (sa_cons sd_int (sa_cons sd_int (sa_cons sd_int (sa_cons sd_int (sa_one sd_int)))))) (sa_cons (sd_tup (sa_cons sd_int (sa_cons sd_int (sa_cons sd_int (sa_cons (sd_un uo_neg sd_int) (sa_one sd_int)))))) (sa_one (sd_tup (sa_cons sd_int (sa_cons sd_int (sa_cons sd_int (sa_cons sd_int (sa_one sd_int))))))))))) (sg_any (sgs_cons sg_name (sgs_cons sg_name (sgs_cons sg_name (sgs_cons sg_name sgs_nil))))))
      (ss_seq (ss_set (i := 4) (sd_lst (sa_cons (sd_fn (sa_cons (sd_tup (sa_cons sd_int (sa_cons sd_int (sa_cons sd_int (sa_one sd_int))))) (sa_one sd_int))) (sa_cons (sd_fn (sa_cons (sd_lst (sa_cons sd_int (sa_cons sd_int (sa_cons sd_int (sa_one (sd_un uo_neg sd_int)))))) (sa_one sd_int))) (sa_cons (sd_fn (sa_cons sd_var (sa_one sd_var))) (sa_one (sd_fn (sa_cons sd_var (sa_one sd_var)))))))))
      (ss_seq (ss_set (i := 4) (sd_op ob_add sd_var (sd_lst (sa_cons (sd_fn (sa_cons (sd_tup (sa_cons sd_int (sa_cons sd_int (sa_cons sd_int (sa_cons sd_int (sa_one sd_int)))))) (sa_one sd_int))) (sa_cons (sd_fn (sa_one sd_var)) (sa_cons (sd_fn (sa_one (sd_tup (sa_cons sd_int (sa_cons sd_int (sa_cons sd_int (sa_cons sd_int (sa_one sd_int)))))))) (sa_cons (sd_fn (sa_cons sd_var (sa_one (sd_un uo_neg sd_int)))) (sa_one (sd_fn (sa_cons sd_var (sa_one sd_int)))))))))))
      (ss_seq (ss_set (i := 5) (sd_lst (sa_cons sd_var (sa_cons (sd_tup (sa_cons sd_int (sa_cons sd_int (sa_cons sd_int (sa_cons sd_int (sa_one sd_int)))))) (sa_cons sd_var (sa_cons sd_var (sa_cons (sd_tup (sa_cons sd_int (sa_cons sd_int (sa_cons sd_int (sa_cons sd_int (sa_one sd_int)))))) (sa_cons (sd_tup (sa_cons (sd_un uo_neg sd_int) (sa_cons sd_int (sa_cons sd_int (sa_cons sd_int (sa_one sd_int)))))) (sa_cons (sd_tup (sa_cons sd_int (sa_cons sd_int (sa_cons sd_int (sa_cons (sd_un uo_neg sd_int) (sa_one sd_int)))))) (sa_cons (sd_tup (sa_cons sd_int (sa_cons sd_int (sa_cons sd_int (sa_cons sd_int (sa_one sd_int)))))) (sa_one (sd_tup (sa_cons sd_int (sa_one sd_int))))))))))))))
      (ss_seq (ss_set (i := 4) (sd_op ob_add sd_var (sd_lst (sa_cons (sd_lc (js := [6]) (si_r1 (sa_one sd_int)) sg_name st_yes' (sd_fn (sa_one (sd_fn (sa_cons sd_var (sa_one sd_var))))) (by decide)) (sa_cons (sd_fn (sa_one sd_var)) (sa_cons (sd_fn (sa_one (sd_tup (sa_cons sd_int (sa_cons sd_int (sa_cons sd_int (sa_cons sd_int (sa_one sd_int)))))))) (sa_one (sd_fn (sa_one (sd_tup (sa_cons sd_int (sa_cons (sd_un uo_neg sd_int) (sa_cons sd_int (sa_cons sd_int (sa_one sd_int)))))))))))))))
      (ss_seq (ss_set (i := 4) (sd_op ob_add sd_var (sd_lst (sa_cons (sd_fn (sa_one (sd_tup (sa_cons sd_int (sa_cons (sd_un uo_neg sd_int) (sa_cons sd_int (sa_cons sd_int (sa_one sd_int)))))))) (sa_cons (sd_fn (sa_one (sd_tup (sa_cons (sd_un uo_neg sd_int) (sa_cons sd_int (sa_cons sd_int (sa_cons (sd_un uo_neg sd_int) (sa_one sd_int)))))))) (sa_cons (sd_fn (sa_one sd_var)) (sa_one (sd_fn (sa_one sd_var)))))))))
      (ss_ret (sd_fn (sa_cons sd_var (sa_one (sd_op ob_add sd_var (sd_lst (sa_cons (sd_lrg sd_int) (sa_cons sd_non (sa_cons sd_non (sa_cons (sd_un uo_neg sd_int) (sa_cons sd_int (sa_cons sd_int (sa_cons (sd_tup (sa_cons sd_int (sa_cons sd_int (sa_cons sd_int (sa_cons (sd_un uo_neg sd_int) (sa_one sd_int)))))) (sa_one sd_bl))))))))))))))))))))
  have h1 : FnOk P w K mg base CX0 10 T.a_ulaw_by_hand_right T.f_ulaw_by_hand_right [] (spP K (runD 0 7 sm_ulaw_by_hand_right)) := by
    refine fn_pure (k := 9) (N := n_ulaw_by_hand_right) (ps := []) T.F_ulaw_by_hand_right sc_ulaw_by_hand_right (by decide) hs fun cdv A outer s H E hr => ?_
    have HU := hu64 hr
    have HU65 := hu65 hr
    have HU70 := hu70 hr
    have HR_ray_of : Room 2 _ := hr.mono (by decide)
    have HR_ray_sum : Room 4 _ := hr.mono (by decide)
    have HR_ray_product : Room 3 _ := hr.mono (by decide)
    have HR_turned_ray : Room 1 _ := hr.mono (by decide)
    have HR_twin_of : Room 1 _ := hr.mono (by decide)
    have HR_size_of : Room 4 _ := hr.mono (by decide)
    have HR_over_root : Room 3 _ := hr.mono (by decide)
    have HR_rest_of : Room 2 _ := hr.mono (by decide)
    have HR_eighth_of : Room 2 _ := hr.mono (by decide)
    have HR_sign_of : Room 2 _ := hr.mono (by decide)
    have HR_mirrored : Room 1 _ := hr.mono (by decide)
    have HR_is_real : Room 1 _ := hr.mono (by decide)
    have HR_ulaw_same : Room 9 _ := hr.mono (by decide)
    refine (pss_cons ?_ ?_)
    · refine (ps_asg ?_ ?_)
      · exact (pe_tupN (xa_cons (pe_tupN (xa_cons pe_int (xa_cons pe_int (xa_cons pe_int (xa_cons pe_int (xa_cons pe_int pa_nil)))))) (xa_cons (pe_tupN (xa_cons pe_int (xa_cons pe_int (xa_cons pe_int (xa_cons pe_int (xa_cons pe_int pa_nil)))))) (xa_cons (pe_tupN (xa_cons pe_int (xa_cons pe_int (xa_cons pe_int (xa_cons (pe_un un_neg pe_int) (xa_cons pe_int pa_nil)))))) (xa_cons (pe_tupN (xa_cons pe_int (xa_cons pe_int (xa_cons pe_int (xa_cons pe_int (xa_cons pe_int pa_nil)))))) pa_nil)))))
      · exact (pg_any rfl (pgs_cons (pg_name (i := 0) sc_ulaw_by_hand_right.nd rfl (Or.inr rfl)) (pgs_cons (pg_name (i := 1) sc_ulaw_by_hand_right.nd rfl (Or.inl rfl)) (pgs_cons (pg_name (i := 2) sc_ulaw_by_hand_right.nd rfl (Or.inl rfl)) (pgs_cons (pg_name (i := 3) sc_ulaw_by_hand_right.nd rfl (Or.inl rfl)) pgs_nil)))))
    · refine (pss_cons ?_ ?_)
      · refine (ps_set (i := 4) sc_ulaw_by_hand_right.nd rfl (Or.inl rfl) ?_)
        · refine (pe_lst ?_)
          · refine (xa_cons ?_ ?_)
            · exact (xe_call G_ray_of HR_ray_of (by rfl) T.g_ray_of T.F_ray_of.kp T.b_ray_of (xa_cons (pe_tupN (xa_cons pe_int (xa_cons pe_int (xa_cons pe_int (xa_cons pe_int pa_nil))))) (xa_cons pe_int pa_nil)))
            · exact (xa_cons (xe_call G_ray_of HR_ray_of (by rfl) T.g_ray_of T.F_ray_of.kp T.b_ray_of (xa_cons (pe_lst (xa_cons pe_int (xa_cons pe_int (xa_cons pe_int (xa_cons (pe_un un_neg pe_int) pa_nil))))) (xa_cons pe_int pa_nil))) (xa_cons (xe_call G_ray_sum HR_ray_sum (by rfl) T.g_ray_sum T.F_ray_sum.kp T.b_ray_sum (xa_cons (pv 3) (xa_cons (pv 3) pa_nil))) (xa_cons (xe_call G_ray_product HR_ray_product (by rfl) T.g_ray_product T.F_ray_product.kp T.b_ray_product (xa_cons (pv 2) (xa_cons (pv 3) pa_nil))) pa_nil)))
      · refine (pss_cons ?_ ?_)
        · refine (ps_set (i := 4) sc_ulaw_by_hand_right.nd rfl (Or.inl rfl) ?_)
          · refine (pe_op op_addA ?_ ?_)
            · exact (pv 4)
            · refine (pe_lst ?_)
              · refine (xa_cons ?_ ?_)
                · exact (xe_call G_turned_ray HR_turned_ray (by rfl) T.g_turned_ray T.F_turned_ray.kp T.b_turned_ray (xa_cons (pe_tupN (xa_cons pe_int (xa_cons pe_int (xa_cons pe_int (xa_cons pe_int (xa_cons pe_int pa_nil)))))) (xa_cons pe_int pa_nil)))
                · exact (xa_cons (xe_call G_twin_of HR_twin_of (by rfl) T.g_twin_of T.F_twin_of.kp T.b_twin_of (xa_cons (pv 3) pa_nil)) (xa_cons (xe_call G_size_of HR_size_of (by rfl) T.g_size_of T.F_size_of.kp T.b_size_of (xa_cons (pe_tupN (xa_cons pe_int (xa_cons pe_int (xa_cons pe_int (xa_cons pe_int (xa_cons pe_int pa_nil)))))) pa_nil)) (xa_cons (xe_call G_over_root HR_over_root (by rfl) T.g_over_root T.F_over_root.kp T.b_over_root (xa_cons (pv 3) (xa_cons (pe_un un_neg pe_int) pa_nil))) (xa_cons (xe_call G_rest_of HR_rest_of (by rfl) T.g_rest_of T.F_rest_of.kp T.b_rest_of (xa_cons (pv 3) (xa_cons pe_int pa_nil))) pa_nil))))
        · refine (pss_cons ?_ ?_)
          · refine (ps_set (i := 5) sc_ulaw_by_hand_right.nd rfl (Or.inl rfl) ?_)
            · refine (pe_lst ?_)
              · refine (xa_cons ?_ ?_)
                · exact (pv 0)
                · exact (xa_cons (pe_tupN (xa_cons pe_int (xa_cons pe_int (xa_cons pe_int (xa_cons pe_int (xa_cons pe_int pa_nil)))))) (xa_cons (pv 2) (xa_cons (pv 0) (xa_cons (pe_tupN (xa_cons pe_int (xa_cons pe_int (xa_cons pe_int (xa_cons pe_int (xa_cons pe_int pa_nil)))))) (xa_cons (pe_tupN (xa_cons (pe_un un_neg pe_int) (xa_cons pe_int (xa_cons pe_int (xa_cons pe_int (xa_cons pe_int pa_nil)))))) (xa_cons (pe_tupN (xa_cons pe_int (xa_cons pe_int (xa_cons pe_int (xa_cons (pe_un un_neg pe_int) (xa_cons pe_int pa_nil)))))) (xa_cons (pe_tupN (xa_cons pe_int (xa_cons pe_int (xa_cons pe_int (xa_cons pe_int (xa_cons pe_int pa_nil)))))) (xa_cons (pe_tupN (xa_cons pe_int (xa_cons pe_int pa_nil))) pa_nil))))))))
          · refine (pss_cons ?_ ?_)
            · refine (ps_set (i := 4) sc_ulaw_by_hand_right.nd rfl (Or.inl rfl) ?_)
              · refine (pe_op op_addA ?_ ?_)
                · exact (pv 4)
                · refine (pe_lst ?_)
                  · refine (xa_cons ?_ ?_)
                    · exact (pe_lc (own := [("k", 6)]) (g := (gName 6)) rfl sc_ulaw_by_hand_right.nd (pi_range1 (by rfl) T.m_range (xa_cons pe_int pa_nil)) (blkOk_by (N := n_ulaw_by_hand_right) (sc := defScope s_ulaw_by_hand_right) (by decide +kernel)) (fun _ _ _ _ _ => (pg_name (i := 6) sc_ulaw_by_hand_right.nd rfl (by first | exact Or.inl rfl | exact Or.inr rfl))) (fun _ _ _ _ _ => pts_nil) (fun _ _ _ _ _ => (xe_call G_eighth_of HR_eighth_of (by rfl) T.g_eighth_of T.F_eighth_of.kp T.b_eighth_of (xa_cons (xe_call G_turned_ray HR_turned_ray (by rfl) T.g_turned_ray T.F_turned_ray.kp T.b_turned_ray (xa_cons (pv 0) (xa_cons (pv 6) pa_nil))) pa_nil))))
                    · exact (xa_cons (xe_call G_eighth_of HR_eighth_of (by rfl) T.g_eighth_of T.F_eighth_of.kp T.b_eighth_of (xa_cons (pv 3) pa_nil)) (xa_cons (xe_call G_eighth_of HR_eighth_of (by rfl) T.g_eighth_of T.F_eighth_of.kp T.b_eighth_of (xa_cons (pe_tupN (xa_cons pe_int (xa_cons pe_int (xa_cons pe_int (xa_cons pe_int (xa_cons pe_int pa_nil)))))) pa_nil)) (xa_cons (xe_call G_sign_of HR_sign_of (by rfl) T.g_sign_of T.F_sign_of.kp T.b_sign_of (xa_cons (pe_tupN (xa_cons pe_int (xa_cons (pe_un un_neg pe_int) (xa_cons pe_int (xa_cons pe_int (xa_cons pe_int pa_nil)))))) pa_nil)) pa_nil)))
            · refine (pss_cons ?_ ?_)
              · refine (ps_set (i := 4) sc_ulaw_by_hand_right.nd rfl (Or.inl rfl) ?_)
                · refine (pe_op op_addA ?_ ?_)
                  · exact (pv 4)
                  · refine (pe_lst ?_)
                    · exact (xa_cons (xe_call G_sign_of HR_sign_of (by rfl) T.g_sign_of T.F_sign_of.kp T.b_sign_of (xa_cons (pe_tupN (xa_cons pe_int (xa_cons (pe_un un_neg pe_int) (xa_cons pe_int (xa_cons pe_int (xa_cons pe_int pa_nil)))))) pa_nil)) (xa_cons (xe_call G_sign_of HR_sign_of (by rfl) T.g_sign_of T.F_sign_of.kp T.b_sign_of (xa_cons (pe_tupN (xa_cons (pe_un un_neg pe_int) (xa_cons pe_int (xa_cons pe_int (xa_cons (pe_un un_neg pe_int) (xa_cons pe_int pa_nil)))))) pa_nil)) (xa_cons (xe_call G_mirrored HR_mirrored (by rfl) T.g_mirrored T.F_mirrored.kp T.b_mirrored (xa_cons (pv 1) pa_nil)) (xa_cons (xe_call G_is_real HR_is_real (by rfl) T.g_is_real T.F_is_real.kp T.b_is_real (xa_cons (pv 1) pa_nil)) pa_nil))))
              · exact (pss_one (ps_ret (xe_call G_ulaw_same HR_ulaw_same (by rfl) T.g_ulaw_same T.F_ulaw_same.kp T.b_ulaw_same (xa_cons (pv 4) (xa_cons (pe_op op_addA (pv 5) (pe_lst (xa_cons (pe_listRg rfl (by rfl) T.m_list (prg_1 (by rfl) T.m_range pe_int)) (xa_cons pe_non (xa_cons pe_non (xa_cons (pe_un un_neg pe_int) (xa_cons pe_int (xa_cons pe_int (xa_cons (pe_tupN (xa_cons pe_int (xa_cons pe_int (xa_cons pe_int (xa_cons (pe_un un_neg pe_int) (xa_cons pe_int pa_nil)))))) (xa_cons pe_bl pa_nil)))))))))) pa_nil)))))
  delta m_ulaw_by_hand_right
  exact h1
theorem ok_ulaw_eighth (T : Tx K mg) : FnOk P w K mg base CX0 1 T.a_ulaw_eighth T.f_ulaw_eighth ["ray_so"] (spP K m_ulaw_eighth) := by
  have hs : SdS K _ sm_ulaw_eighth := (ss_seq (ss_for (si_r1 (sa_one sd_int)) sg_name (ss_for (si_any (sd_tup (sa_cons sd_int (sa_one (sd_un uo_neg sd_int))))) sg_name (ss_if (st_tTest (sd_op ob_eq sd_var (sd_op ob_add (sd_cb co_tuple (sa_one (sd_lc (js := [3]) (si_r1 (sa_one sd_int)) sg_name st_yes' (sd_op ob_mul sd_var (sd_cb co_int (sa_one (sd_op ob_eq sd_var sd_var)))) (by decide)))) (sd_tup (sa_one sd_int))))) (ss_ret (sd_op ob_add sd_var (sd_if (st_tTest (sd_op ob_ltA sd_var sd_int)) sd_int sd_int))) ss_next)))
      (ss_ret sd_non))
  have h1 : FnOk P w K mg base CX0 1 T.a_ulaw_eighth T.f_ulaw_eighth ["ray_so"] (spP K (runD 1 4 sm_ulaw_eighth)) := by
    refine fn_pure (k := 0) (N := n_ulaw_eighth) (ps := ["ray_so"]) T.F_ulaw_eighth sc_ulaw_eighth (by decide) hs fun cdv A outer s H E hr => ?_
    have HU := hu64 hr
    have HU65 := hu65 hr
    have HU70 := hu70 hr
    refine (pss_cons ?_ ?_)
    · refine (ps_for PassesOwn.never rfl ?_ ?_ ?_)
      · exact (pi_range1 (by rfl) T.m_range (xa_cons pe_int pa_nil))
      · exact (pg_name (i := 1) sc_ulaw_eighth.nd rfl (Or.inr rfl))
      · refine (pss_one ?_)
        · refine (ps_for PassesOwn.never rfl ?_ ?_ ?_)
          · exact (pi_any (pe_tupN (xa_cons pe_int (xa_cons (pe_un un_neg pe_int) pa_nil))))
          · exact (pg_name (i := 2) sc_ulaw_eighth.nd rfl (Or.inr rfl))
          · refine (pss_one ?_)
            · refine (ps_if ?_ ?_ ?_)
              · exact (pt_cmpR (op_eqD HU) (pv 0) (pe_op op_addA (xe_callT call_tuple_ofN (by rfl) T.m_tuple bt_tuple (xa_cons (pe_lc (own := [("j", 3)]) (g := (gName 3)) rfl sc_ulaw_eighth.nd (pi_range1 (by rfl) T.m_range (xa_cons pe_int pa_nil)) (blkOk_by (N := n_ulaw_eighth) (sc := defScope s_ulaw_eighth) (by decide +kernel)) (fun _ _ _ _ _ => (pg_name (i := 3) sc_ulaw_eighth.nd rfl (by first | exact Or.inl rfl | exact Or.inr rfl))) (fun _ _ _ _ _ => pts_nil) (fun _ _ _ _ _ => (pe_op op_mulA (pv 2) (xe_callT call_int1 (by rfl) T.m_int bt_int (xa_cons (pe_cmpR (op_eqD HU) (pv 3) (pv 1) (nomark _)) pa_nil))))) pa_nil)) (pe_tupN (xa_cons pe_int pa_nil))) (nomark _))
              · exact (pss_one (ps_ret (pe_op op_addA (pv 1) (pe_ifExp (pt_cmpR (op_ltA HU) (pv 2) pe_int (nomark _)) pe_int pe_int))))
              · exact pss_nil
    · exact (pss_one (ps_ret pe_non))
  delta m_ulaw_eighth
  exact h1
theorem ok_ulaw_right (T : Tx K mg) : FnOk P w K mg base CX0 11 T.a_ulaw_right T.f_ulaw_right ["tin"] (spM K m_ulaw_right) := by
  have G_ulaw_ray := ok_ulaw_ray (P := P) (w := w) (base := base) T
  have G_ray_of := ok_ray_of (P := P) (w := w) (base := base) T
  have G_eighth_of := ok_eighth_of (P := P) (w := w) (base := base) T
  have G_ulaw_eighth := ok_ulaw_eighth (P := P) (w := w) (base := base) T
  have G_ulaw_same := ok_ulaw_same (P := P) (w := w) (base := base) T
  have G_ulaw_sums_right := ok_ulaw_sums_right (P := P) (w := w) (base := base) T
  have G_ulaw_take := ok_ulaw_take (P := P) (w := w) (base := base) T
  have G_ulaw_turns_right := ok_ulaw_turns_right (P := P) (w := w) (base := base) T
  have G_ulaw_mirrors_right := ok_ulaw_mirrors_right (P := P) (w := w) (base := base) T
  have G_ulaw_signs_right := ok_ulaw_signs_right (P := P) (w := w) (base := base) T
  have G_ulaw_rests_right := ok_ulaw_rests_right (P := P) (w := w) (base := base) T
  have hs : SdS K _ sm_ulaw_right := (ss_seq (ss_par3 (sa_cons (sd_fnM (sa_one sd_var)) (sa_cons (sd_fnM (sa_one sd_var)) (sa_one (sd_fnM (sa_one sd_var))))))
      (ss_seq (ss_set (i := 4) (sd_cb co_tuple (sa_one (sd_lc (js := [5]) (si_any (sd_sl so_any sd_var so_no (so_part sd_int))) sg_name st_yes' (sd_op ob_mul sd_var sd_int) (by decide)))))
      (ss_seq (ss_if (st_not (st_tru (sd_fn (sa_cons (sd_lst (sa_cons (sd_fn (sa_cons sd_var (sa_one (sd_op ob_add (sd_op ob_ix sd_var sd_int) sd_int)))) (sa_cons (sd_fn (sa_cons (sd_sl so_any sd_var so_no (so_part sd_int)) (sa_one (sd_op ob_ix sd_var sd_int)))) (sa_one (sd_fn (sa_one sd_var)))))) (sa_one (sd_lst (sa_cons sd_var (sa_cons sd_var (sa_one (sd_fn (sa_one sd_var))))))))))) (ss_ret sd_bl) ss_next)
      (ss_seq (ss_if (st_or (st_not (st_tru (sd_fn (sa_cons sd_var (sa_cons sd_var (sa_one sd_var)))))) (st_not (st_tru (sd_fn (sa_cons sd_var (sa_cons (sd_op ob_sub (sd_fnM (sa_cons sd_var (sa_one sd_int))) sd_int) (sa_one (sd_op ob_sub (sd_fnM (sa_cons sd_var (sa_one sd_int))) sd_int)))))))) (ss_ret sd_bl) ss_next)
      (ss_ret (sd_and (sd_fn (sa_cons sd_var (sa_one sd_var))) (sd_and (sd_fn (sa_one sd_var)) (sd_fn (sa_cons sd_var (sa_one (sd_fnM (sa_cons sd_var (sa_one sd_int)))))))))))))
  have h1 : FnOk P w K mg base CX0 11 T.a_ulaw_right T.f_ulaw_right ["tin"] (spM K (runM 1 6 sm_ulaw_right)) := by
    refine fn_mut (k := 10) (N := n_ulaw_right) (ps := ["tin"]) T.F_ulaw_right sc_ulaw_right (by decide) hs fun cdv A outer s H E hr => ?_
    have HU := hu64 hr
    have HU65 := hu65 hr
    have HU70 := hu70 hr
    have HR_ulaw_ray : Room 2 _ := hr.mono (by decide)
    have HR_ray_of : Room 2 _ := hr.mono (by decide)
    have HR_eighth_of : Room 2 _ := hr.mono (by decide)
    have HR_ulaw_eighth : Room 1 _ := hr.mono (by decide)
    have HR_ulaw_same : Room 9 _ := hr.mono (by decide)
    have HR_ulaw_sums_right : Room 10 _ := hr.mono (by decide)
    have HR_ulaw_take : Room 1 _ := hr.mono (by decide)
    have HR_ulaw_turns_right : Room 10 _ := hr.mono (by decide)
    have HR_ulaw_mirrors_right : Room 10 _ := hr.mono (by decide)
    have HR_ulaw_signs_right : Room 10 _ := hr.mono (by decide)
    have HR_ulaw_rests_right : Room 10 _ := hr.mono (by decide)
    refine (pss_cons ?_ ?_)
    · exact (ps_par3 (i := 1) (j := 2) (l := 3) (by rfl) sc_ulaw_right.nd rfl rfl rfl (by decide) (by decide) (by decide) rfl rfl rfl (xa_cons (xe_call G_ulaw_ray HR_ulaw_ray (by rfl) T.g_ulaw_ray T.F_ulaw_ray.kp T.b_ulaw_ray (xa_cons (pv 0) pa_nil)) (xa_cons (xe_call G_ulaw_ray HR_ulaw_ray (by rfl) T.g_ulaw_ray T.F_ulaw_ray.kp T.b_ulaw_ray (xa_cons (pv 0) pa_nil)) (xa_cons (xe_call G_ulaw_ray HR_ulaw_ray (by rfl) T.g_ulaw_ray T.F_ulaw_ray.kp T.b_ulaw_ray (xa_cons (pv 0) pa_nil)) pa_nil))) (by rfl))
    · refine (pss_cons ?_ ?_)
      · exact (ps_set (i := 4) sc_ulaw_right.nd rfl (Or.inl rfl) (xe_callT call_tuple_ofN (by rfl) T.m_tuple bt_tuple (xa_cons (pe_lc (own := [("own", 5)]) (g := (gName 5)) rfl sc_ulaw_right.nd (pi_any (pe_slice sl_any (pv 1) po_none (po_some pe_int))) (blkOk_by (N := n_ulaw_right) (sc := defScope s_ulaw_right) (by decide +kernel)) (fun _ _ _ _ _ => (pg_name (i := 5) sc_ulaw_right.nd rfl (by first | exact Or.inl rfl | exact Or.inr rfl))) (fun _ _ _ _ _ => pts_nil) (fun _ _ _ _ _ => (pe_op op_mulA (pv 5) pe_int))) pa_nil)))
      · refine (pss_cons ?_ ?_)
        · refine (ps_if ?_ ?_ ?_)
          · refine (pt_not ?_)
            · refine (pt_truth ?_ (by intro _; rfl))
              · refine (xe_call G_ulaw_same HR_ulaw_same (by rfl) T.g_ulaw_same T.F_ulaw_same.kp T.b_ulaw_same ?_)
                · refine (xa_cons ?_ ?_)
                  · exact (pe_lst (xa_cons (xe_call G_ray_of HR_ray_of (by rfl) T.g_ray_of T.F_ray_of.kp T.b_ray_of (xa_cons (pv 4) (xa_cons (pe_op op_addA (pe_ix ix_seq (pv 1) pe_int (fun _ _ => rfl)) pe_int) pa_nil))) (xa_cons (xe_call G_ray_of HR_ray_of (by rfl) T.g_ray_of T.F_ray_of.kp T.b_ray_of (xa_cons (pe_slice sl_any (pv 1) po_none (po_some pe_int)) (xa_cons (pe_ix ix_seq (pv 1) pe_int (fun _ _ => rfl)) pa_nil))) (xa_cons (xe_call G_eighth_of HR_eighth_of (by rfl) T.g_eighth_of T.F_eighth_of.kp T.b_eighth_of (xa_cons (pv 1) pa_nil)) pa_nil))))
                  · exact (xa_cons (pe_lst (xa_cons (pv 1) (xa_cons (pv 1) (xa_cons (xe_call G_ulaw_eighth HR_ulaw_eighth (by rfl) T.g_ulaw_eighth T.F_ulaw_eighth.kp T.b_ulaw_eighth (xa_cons (pv 1) pa_nil)) pa_nil)))) pa_nil)
          · exact (pss_one (ps_ret pe_bl))
          · exact pss_nil
        · refine (pss_cons ?_ ?_)
          · refine (ps_if ?_ ?_ ?_)
            · refine (PW.pt ?_)
              · refine (pw_or ?_ ?_)
                · exact (pt_not (pt_truth (xe_call G_ulaw_sums_right HR_ulaw_sums_right (by rfl) T.g_ulaw_sums_right T.F_ulaw_sums_right.kp T.b_ulaw_sums_right (xa_cons (pv 1) (xa_cons (pv 2) (xa_cons (pv 3) pa_nil)))) (by intro _; rfl)))
                · exact (pw_or1 (pt_not (pt_truth (xe_call G_ulaw_turns_right HR_ulaw_turns_right (by rfl) T.g_ulaw_turns_right T.F_ulaw_turns_right.kp T.b_ulaw_turns_right (xa_cons (pv 1) (xa_cons (pe_op op_sub (xe_call G_ulaw_take HR_ulaw_take (by rfl) T.g_ulaw_take T.F_ulaw_take.kp T.b_ulaw_take (xa_cons (pv 0) (xa_cons pe_int pa_nil))) pe_int) (xa_cons (pe_op op_sub (xe_call G_ulaw_take HR_ulaw_take (by rfl) T.g_ulaw_take T.F_ulaw_take.kp T.b_ulaw_take (xa_cons (pv 0) (xa_cons pe_int pa_nil))) pe_int) pa_nil)))) (by intro _; rfl))))
            · exact (pss_one (ps_ret pe_bl))
            · exact pss_nil
          · exact (pss_one (ps_ret (pe_andT (xe_call G_ulaw_mirrors_right HR_ulaw_mirrors_right (by rfl) T.g_ulaw_mirrors_right T.F_ulaw_mirrors_right.kp T.b_ulaw_mirrors_right (xa_cons (pv 1) (xa_cons (pv 2) pa_nil))) (pe_andT (xe_call G_ulaw_signs_right HR_ulaw_signs_right (by rfl) T.g_ulaw_signs_right T.F_ulaw_signs_right.kp T.b_ulaw_signs_right (xa_cons (pv 1) pa_nil)) (pe_one (xe_call G_ulaw_rests_right HR_ulaw_rests_right (by rfl) T.g_ulaw_rests_right T.F_ulaw_rests_right.kp T.b_ulaw_rests_right (xa_cons (pv 2) (xa_cons (xe_call G_ulaw_take HR_ulaw_take (by rfl) T.g_ulaw_take T.F_ulaw_take.kp T.b_ulaw_take (xa_cons (pv 0) (xa_cons pe_int pa_nil))) pa_nil))))))))
  delta m_ulaw_right
  exact h1
theorem ok_law (T : Tx K mg) : FnOk P w K mg base CX0 12 T.a_law T.f_law ["script"] (spP K m_law) := by
  have G_ulaw_by_hand_right := ok_ulaw_by_hand_right (P := P) (w := w) (base := base) T
  have G_ulaw_cells := ok_ulaw_cells (P := P) (w := w) (base := base) T
  have G_ulaw_box := ok_ulaw_box (P := P) (w := w) (base := base) T
  have G_ulaw_right := ok_ulaw_right (P := P) (w := w) (base := base) T
  have hs : SdS K _ sm_law := (ss_seq (ss_if (st_not (st_tru (sd_fn sa_nil))) (ss_ret sd_bl) ss_next)
      (ss_seq (ss_set (i := 1) (sd_fn (sa_cons sd_var (sa_one sd_int))))
      (ss_ret (sd_cb co_all (sa_one (sd_lc (js := [2]) (si_r1 (sa_one (sd_cb co_len (sa_one sd_var)))) sg_name st_yes' (sd_fnM (sa_one (sd_fn (sa_cons sd_var (sa_one sd_var))))) (by decide)))))))
  have h1 : FnOk P w K mg base CX0 12 T.a_law T.f_law ["script"] (spP K (runD 1 3 sm_law)) := by
    refine fn_pure (k := 11) (N := n_law) (ps := ["script"]) T.F_law sc_law (by decide) hs fun cdv A outer s H E hr => ?_
    have HU := hu64 hr
    have HU65 := hu65 hr
    have HU70 := hu70 hr
    have HR_ulaw_by_hand_right : Room 10 _ := hr.mono (by decide)
    have HR_ulaw_cells : Room 1 _ := hr.mono (by decide)
    have HR_ulaw_box : Room 1 _ := hr.mono (by decide)
    have HR_ulaw_right : Room 11 _ := hr.mono (by decide)
    refine (pss_cons ?_ ?_)
    · exact (ps_if (pt_not (pt_truth (pe_call0 G_ulaw_by_hand_right HR_ulaw_by_hand_right (by rfl) T.g_ulaw_by_hand_right T.F_ulaw_by_hand_right.kp T.b_ulaw_by_hand_right .nil pass0) (by intro _; rfl))) (pss_one (ps_ret pe_bl)) pss_nil)
    · refine (pss_cons ?_ ?_)
      · exact (ps_set (i := 1) sc_law.nd rfl (Or.inr rfl) (xe_call G_ulaw_cells HR_ulaw_cells (by rfl) T.g_ulaw_cells T.F_ulaw_cells.kp T.b_ulaw_cells (xa_cons (pv 0) (xa_cons pe_int pa_nil))))
      · refine (pss_one ?_)
        · refine (ps_ret ?_)
          · exact (xe_callB (cr_all rfl) (by rfl) T.m_all bt_all (xa_cons (pe_lc (own := [("k", 2)]) (g := (gName 2)) rfl sc_law.nd (pi_range1 (by rfl) T.m_range (xa_cons (xe_callB call_len_seq (by rfl) T.m_len bt_len (xa_cons (pv 1) pa_nil)) pa_nil)) (blkOk_by (N := n_law) (sc := defScope s_law) (by decide +kernel)) (fun _ _ _ _ _ => (pg_name (i := 2) sc_law.nd rfl (by first | exact Or.inl rfl | exact Or.inr rfl))) (fun _ _ _ _ _ => pts_nil) (fun _ _ _ _ _ => (xe_call G_ulaw_right HR_ulaw_right (by rfl) T.g_ulaw_right T.F_ulaw_right.kp T.b_ulaw_right (xa_cons (xe_call G_ulaw_box HR_ulaw_box (by rfl) T.g_ulaw_box T.F_ulaw_box.kp T.b_ulaw_box (xa_cons (pv 1) (xa_cons (pv 2) pa_nil))) pa_nil)))) pa_nil))
  delta m_law
  exact h1
end
end K01
end
section
set_option Elab.async false
set_option linter.all false
set_option maxRecDepth 100000
set_option maxHeartbeats 4000000
namespace K01
open PySem PySem.Spec PyProof.Rows L2 Evl Pd
def fnl : List He.DefD := ([dd "is_number" s_is_number, dd "root_divides" s_root_divides, dd "times_root" s_times_root, dd "is_ray" s_is_ray, dd "ray_of" s_ray_of, dd "rays_added" s_rays_added, dd "ray_sum" s_ray_sum, dd "ray_product" s_ray_product, dd "turned_ray" s_turned_ray, dd "mirrored" s_mirrored, dd "twin_of" s_twin_of, dd "size_of" s_size_of, dd "is_real" s_is_real, dd "sign_of" s_sign_of, dd "over_root" s_over_root, dd "rest_of" s_rest_of, dd "eighth_of" s_eighth_of, dd "_law_box" s_ulaw_box, dd "_law_take" s_ulaw_take, dd "_law_cells" s_ulaw_cells] : List He.DefD) ++ ([dd "_law_same" s_ulaw_same, dd "_law_short" s_ulaw_short, dd "_law_is_ray" s_ulaw_is_ray, dd "_law_worth" s_ulaw_worth, dd "_law_worths" s_ulaw_worths, dd "_law_round" s_ulaw_round, dd "_law_ray" s_ulaw_ray, dd "_law_stands" s_ulaw_stands, dd "_law_sums_right" s_ulaw_sums_right, dd "_law_turns_right" s_ulaw_turns_right, dd "_law_mirrors_right" s_ulaw_mirrors_right, dd "_law_signs_right" s_ulaw_signs_right, dd "_law_rests_right" s_ulaw_rests_right, dd "_law_by_hand_right" s_ulaw_by_hand_right, dd "_law_eighth" s_ulaw_eighth, dd "_law_right" s_ulaw_right, dd "law" s_law] : List He.DefD)
def fal : List He.Fa := ([He.Fa.glo "is_number", He.Fa.glo "root_divides", He.Fa.glo "times_root", He.Fa.glo "is_ray", He.Fa.glo "ray_of", He.Fa.glo "rays_added", He.Fa.glo "ray_sum", He.Fa.glo "ray_product", He.Fa.glo "turned_ray", He.Fa.glo "mirrored", He.Fa.glo "twin_of", He.Fa.glo "size_of", He.Fa.glo "is_real", He.Fa.glo "sign_of", He.Fa.glo "over_root", He.Fa.glo "rest_of", He.Fa.glo "eighth_of", He.Fa.glo "_law_box", He.Fa.glo "_law_take", He.Fa.glo "_law_cells"] : List He.Fa) ++ ([He.Fa.glo "_law_same", He.Fa.glo "_law_short", He.Fa.glo "_law_is_ray", He.Fa.glo "_law_worth", He.Fa.glo "_law_worths", He.Fa.glo "_law_round", He.Fa.glo "_law_ray", He.Fa.glo "_law_stands", He.Fa.glo "_law_sums_right", He.Fa.glo "_law_turns_right", He.Fa.glo "_law_mirrors_right", He.Fa.glo "_law_signs_right", He.Fa.glo "_law_rests_right", He.Fa.glo "_law_by_hand_right", He.Fa.glo "_law_eighth", He.Fa.glo "_law_right", He.Fa.glo "law", He.Fa.free "abs", He.Fa.free "all", He.Fa.free "bool"] : List He.Fa) ++ ([He.Fa.free "enumerate", He.Fa.free "int", He.Fa.free "isinstance", He.Fa.free "len", He.Fa.free "list", He.Fa.free "max", He.Fa.free "range", He.Fa.free "str", He.Fa.free "tuple", He.Fa.free "zip", He.Fa.glo "ONE"] : List He.Fa)
def tbl (K : PySem.W.Frag) : Bool := tcB K "ONE" ([1, 0, 0, 0, 0].map He.Dv.int)
abbrev RR : PySem.W.OpenRow := PySem.W.OpenLaw.row PySem.Challenge.rw_eighthturns_k01_whole_rays_by_worths_rou
abbrev hk : PySem.W.Hook := hookP 4 fal fnl tbl
def ob (s : PySem.W.SharedT) : He.AlD × Bool := obsPG 4 fal fnl tbl (HandSHeadRun.getT s)
theorem ob_eq (s : PySem.W.SharedT) : ob s = hk.obs s.abs := obsPG_eq (HandSHeadRun.getT_eq s)
def loose : List Str := (["Unfit", "is_number", "ONE", "root_divides", "times_root", "is_ray", "ray_of", "rays_added", "ray_sum", "ray_product", "turned_ray", "mirrored", "twin_of", "size_of", "is_real", "sign_of", "over_root", "rest_of", "eighth_of", "_law_box", "_law_take", "_law_cells", "_law_same", "_law_short", "_law_is_ray", "_law_worth", "_law_worths", "_law_round", "_law_ray", "_law_stands"] : List Str) ++ (["_law_sums_right", "_law_turns_right", "_law_mirrors_right", "_law_signs_right", "_law_rests_right", "_law_by_hand_right", "_law_right", "_law_eighth"] : List Str)
set_option maxHeartbeats 0 in
theorem run (w : World) : HandSHeadRun.RunEq RR (PySem.W.view RR.prog [42]) hk ob 4000 loose w := by
  intro os
  kernel_rfl
theorem binds_all {K : PySem.W.Frag} {x qual : Str} {st : Stmt} {f : Addr} {fd : FuncData} {ps : List Str} (F : FunD K x qual (defArgs st) (defBody st) (defScope st) [] [] f fd)
    (h : ∀ (kV doc pm : Value) (an : Option Addr) (cdv ct : Value) (us : List Value), us.length = ps.length → bindArgs (PySem.W.fnOf x qual (defArgs st) (defBody st) (defScope st) .none kV doc pm an cdv ct) ⟨us, []⟩ = pure (ps.zip us)) : Binds K fd ps [] := F.bindsN h
theorem facts {P : Program} {w : World} {K : PySem.W.Frag} {h : Heap} {mg : Str → Option Value} {f : Addr} (X : K.In h) (G : h.Ns mainGlobals mg) (hfa : mg ("law" : Str) = some (.ref f)) (c : He.SaysD fal fnl K) (t : tbl K = true) :
    ∃ fd : FuncData, (∀ (s : Shared) (v : Value), BindsTo s fd ⟨[v], []⟩ [("script", v)]) ∧ ∀ base : Heap, K.In base → base.Ns mainGlobals mg → FnOk P w K mg base CX0 12 f fd ["script"] (spP K m_law) := by
  obtain ⟨fd_is_number, F_is_number⟩ := c.def_ 0 (d := dd "is_number" s_is_number) rfl
  obtain ⟨fd_root_divides, F_root_divides⟩ := c.def_ 1 (d := dd "root_divides" s_root_divides) rfl
  obtain ⟨fd_times_root, F_times_root⟩ := c.def_ 2 (d := dd "times_root" s_times_root) rfl
  obtain ⟨fd_is_ray, F_is_ray⟩ := c.def_ 3 (d := dd "is_ray" s_is_ray) rfl
  obtain ⟨fd_ray_of, F_ray_of⟩ := c.def_ 4 (d := dd "ray_of" s_ray_of) rfl
  obtain ⟨fd_rays_added, F_rays_added⟩ := c.def_ 5 (d := dd "rays_added" s_rays_added) rfl
  obtain ⟨fd_ray_sum, F_ray_sum⟩ := c.def_ 6 (d := dd "ray_sum" s_ray_sum) rfl
  obtain ⟨fd_ray_product, F_ray_product⟩ := c.def_ 7 (d := dd "ray_product" s_ray_product) rfl
  obtain ⟨fd_turned_ray, F_turned_ray⟩ := c.def_ 8 (d := dd "turned_ray" s_turned_ray) rfl
  obtain ⟨fd_mirrored, F_mirrored⟩ := c.def_ 9 (d := dd "mirrored" s_mirrored) rfl
  obtain ⟨fd_twin_of, F_twin_of⟩ := c.def_ 10 (d := dd "twin_of" s_twin_of) rfl
  obtain ⟨fd_size_of, F_size_of⟩ := c.def_ 11 (d := dd "size_of" s_size_of) rfl
  obtain ⟨fd_is_real, F_is_real⟩ := c.def_ 12 (d := dd "is_real" s_is_real) rfl
  obtain ⟨fd_sign_of, F_sign_of⟩ := c.def_ 13 (d := dd "sign_of" s_sign_of) rfl
  obtain ⟨fd_over_root, F_over_root⟩ := c.def_ 14 (d := dd "over_root" s_over_root) rfl
  obtain ⟨fd_rest_of, F_rest_of⟩ := c.def_ 15 (d := dd "rest_of" s_rest_of) rfl
  obtain ⟨fd_eighth_of, F_eighth_of⟩ := c.def_ 16 (d := dd "eighth_of" s_eighth_of) rfl
  obtain ⟨fd_ulaw_box, F_ulaw_box⟩ := c.def_ 17 (d := dd "_law_box" s_ulaw_box) rfl
  obtain ⟨fd_ulaw_take, F_ulaw_take⟩ := c.def_ 18 (d := dd "_law_take" s_ulaw_take) rfl
  obtain ⟨fd_ulaw_cells, F_ulaw_cells⟩ := c.def_ 19 (d := dd "_law_cells" s_ulaw_cells) rfl
  obtain ⟨fd_ulaw_same, F_ulaw_same⟩ := c.def_ 20 (d := dd "_law_same" s_ulaw_same) rfl
  obtain ⟨fd_ulaw_short, F_ulaw_short⟩ := c.def_ 21 (d := dd "_law_short" s_ulaw_short) rfl
  obtain ⟨fd_ulaw_is_ray, F_ulaw_is_ray⟩ := c.def_ 22 (d := dd "_law_is_ray" s_ulaw_is_ray) rfl
  obtain ⟨fd_ulaw_worth, F_ulaw_worth⟩ := c.def_ 23 (d := dd "_law_worth" s_ulaw_worth) rfl
  obtain ⟨fd_ulaw_worths, F_ulaw_worths⟩ := c.def_ 24 (d := dd "_law_worths" s_ulaw_worths) rfl
  obtain ⟨fd_ulaw_round, F_ulaw_round⟩ := c.def_ 25 (d := dd "_law_round" s_ulaw_round) rfl
  obtain ⟨fd_ulaw_ray, F_ulaw_ray⟩ := c.def_ 26 (d := dd "_law_ray" s_ulaw_ray) rfl
  obtain ⟨fd_ulaw_stands, F_ulaw_stands⟩ := c.def_ 27 (d := dd "_law_stands" s_ulaw_stands) rfl
  obtain ⟨fd_ulaw_sums_right, F_ulaw_sums_right⟩ := c.def_ 28 (d := dd "_law_sums_right" s_ulaw_sums_right) rfl
  obtain ⟨fd_ulaw_turns_right, F_ulaw_turns_right⟩ := c.def_ 29 (d := dd "_law_turns_right" s_ulaw_turns_right) rfl
  obtain ⟨fd_ulaw_mirrors_right, F_ulaw_mirrors_right⟩ := c.def_ 30 (d := dd "_law_mirrors_right" s_ulaw_mirrors_right) rfl
  obtain ⟨fd_ulaw_signs_right, F_ulaw_signs_right⟩ := c.def_ 31 (d := dd "_law_signs_right" s_ulaw_signs_right) rfl
  obtain ⟨fd_ulaw_rests_right, F_ulaw_rests_right⟩ := c.def_ 32 (d := dd "_law_rests_right" s_ulaw_rests_right) rfl
  obtain ⟨fd_ulaw_by_hand_right, F_ulaw_by_hand_right⟩ := c.def_ 33 (d := dd "_law_by_hand_right" s_ulaw_by_hand_right) rfl
  obtain ⟨fd_ulaw_eighth, F_ulaw_eighth⟩ := c.def_ 34 (d := dd "_law_eighth" s_ulaw_eighth) rfl
  obtain ⟨fd_ulaw_right, F_ulaw_right⟩ := c.def_ 35 (d := dd "_law_right" s_ulaw_right) rfl
  obtain ⟨fd_law, F_law⟩ := c.def_ 36 (d := dd "law" s_law) rfl
  have e := hfa.symm.trans (He.glo_ok X G (c.fact 36 (f := .glo "law") rfl))
  cases e
  have b := FunD.bindsA (ps := ["script"]) F_law fun _ _ _ _ _ _ us hl => match us, hl with | [_], _ => rfl
  refine ⟨fd_law, fun s v => b s [v] rfl, fun base _ _ => ok_law (T := {
    a_is_number := He.ga K "is_number", f_is_number := fd_is_number, F_is_number := fun_of F_is_number, g_is_number := He.glo_ok X G (c.fact 0 (f := .glo "is_number") rfl), b_is_number := FunD.bindsN F_is_number fun _ _ _ _ _ _ us hl => match us, hl with | [_], _ => rfl,
    a_root_divides := He.ga K "root_divides", f_root_divides := fd_root_divides, F_root_divides := fun_of F_root_divides, g_root_divides := He.glo_ok X G (c.fact 1 (f := .glo "root_divides") rfl), b_root_divides := FunD.bindsN F_root_divides fun _ _ _ _ _ _ us hl => match us, hl with | [_], _ => rfl,
    a_times_root := He.ga K "times_root", f_times_root := fd_times_root, F_times_root := fun_of F_times_root, g_times_root := He.glo_ok X G (c.fact 2 (f := .glo "times_root") rfl), b_times_root := FunD.bindsN F_times_root fun _ _ _ _ _ _ us hl => match us, hl with | [_, _], _ => rfl,
    a_is_ray := He.ga K "is_ray", f_is_ray := fd_is_ray, F_is_ray := fun_of F_is_ray, g_is_ray := He.glo_ok X G (c.fact 3 (f := .glo "is_ray") rfl), b_is_ray := FunD.bindsN F_is_ray fun _ _ _ _ _ _ us hl => match us, hl with | [_], _ => rfl,
    a_ray_of := He.ga K "ray_of", f_ray_of := fd_ray_of, F_ray_of := fun_of F_ray_of, g_ray_of := He.glo_ok X G (c.fact 4 (f := .glo "ray_of") rfl), b_ray_of := FunD.bindsN F_ray_of fun _ _ _ _ _ _ us hl => match us, hl with | [_, _], _ => rfl,
    a_rays_added := He.ga K "rays_added", f_rays_added := fd_rays_added, F_rays_added := fun_of F_rays_added, g_rays_added := He.glo_ok X G (c.fact 5 (f := .glo "rays_added") rfl), b_rays_added := FunD.bindsN F_rays_added fun _ _ _ _ _ _ us hl => match us, hl with | [_], _ => rfl,
    a_ray_sum := He.ga K "ray_sum", f_ray_sum := fd_ray_sum, F_ray_sum := fun_of F_ray_sum, g_ray_sum := He.glo_ok X G (c.fact 6 (f := .glo "ray_sum") rfl), b_ray_sum := FunD.bindsN F_ray_sum fun _ _ _ _ _ _ us hl => match us, hl with | [_, _], _ => rfl,
    a_ray_product := He.ga K "ray_product", f_ray_product := fd_ray_product, F_ray_product := fun_of F_ray_product, g_ray_product := He.glo_ok X G (c.fact 7 (f := .glo "ray_product") rfl), b_ray_product := FunD.bindsN F_ray_product fun _ _ _ _ _ _ us hl => match us, hl with | [_, _], _ => rfl,
    a_turned_ray := He.ga K "turned_ray", f_turned_ray := fd_turned_ray, F_turned_ray := fun_of F_turned_ray, g_turned_ray := He.glo_ok X G (c.fact 8 (f := .glo "turned_ray") rfl), b_turned_ray := FunD.bindsN F_turned_ray fun _ _ _ _ _ _ us hl => match us, hl with | [_, _], _ => rfl,
    a_mirrored := He.ga K "mirrored", f_mirrored := fd_mirrored, F_mirrored := fun_of F_mirrored, g_mirrored := He.glo_ok X G (c.fact 9 (f := .glo "mirrored") rfl), b_mirrored := FunD.bindsN F_mirrored fun _ _ _ _ _ _ us hl => match us, hl with | [_], _ => rfl,
    a_twin_of := He.ga K "twin_of", f_twin_of := fd_twin_of, F_twin_of := fun_of F_twin_of, g_twin_of := He.glo_ok X G (c.fact 10 (f := .glo "twin_of") rfl), b_twin_of := FunD.bindsN F_twin_of fun _ _ _ _ _ _ us hl => match us, hl with | [_], _ => rfl,
    a_size_of := He.ga K "size_of", f_size_of := fd_size_of, F_size_of := fun_of F_size_of, g_size_of := He.glo_ok X G (c.fact 11 (f := .glo "size_of") rfl), b_size_of := FunD.bindsN F_size_of fun _ _ _ _ _ _ us hl => match us, hl with | [_], _ => rfl,
    a_is_real := He.ga K "is_real", f_is_real := fd_is_real, F_is_real := fun_of F_is_real, g_is_real := He.glo_ok X G (c.fact 12 (f := .glo "is_real") rfl), b_is_real := FunD.bindsN F_is_real fun _ _ _ _ _ _ us hl => match us, hl with | [_], _ => rfl,
    a_sign_of := He.ga K "sign_of", f_sign_of := fd_sign_of, F_sign_of := fun_of F_sign_of, g_sign_of := He.glo_ok X G (c.fact 13 (f := .glo "sign_of") rfl), b_sign_of := FunD.bindsN F_sign_of fun _ _ _ _ _ _ us hl => match us, hl with | [_], _ => rfl,
    a_over_root := He.ga K "over_root", f_over_root := fd_over_root, F_over_root := fun_of F_over_root, g_over_root := He.glo_ok X G (c.fact 14 (f := .glo "over_root") rfl), b_over_root := FunD.bindsN F_over_root fun _ _ _ _ _ _ us hl => match us, hl with | [_, _], _ => rfl,
    a_rest_of := He.ga K "rest_of", f_rest_of := fd_rest_of, F_rest_of := fun_of F_rest_of, g_rest_of := He.glo_ok X G (c.fact 15 (f := .glo "rest_of") rfl), b_rest_of := FunD.bindsN F_rest_of fun _ _ _ _ _ _ us hl => match us, hl with | [_, _], _ => rfl,
    a_eighth_of := He.ga K "eighth_of", f_eighth_of := fd_eighth_of, F_eighth_of := fun_of F_eighth_of, g_eighth_of := He.glo_ok X G (c.fact 16 (f := .glo "eighth_of") rfl), b_eighth_of := FunD.bindsN F_eighth_of fun _ _ _ _ _ _ us hl => match us, hl with | [_], _ => rfl,
    a_ulaw_box := He.ga K "_law_box", f_ulaw_box := fd_ulaw_box, F_ulaw_box := fun_of F_ulaw_box, g_ulaw_box := He.glo_ok X G (c.fact 17 (f := .glo "_law_box") rfl), b_ulaw_box := FunD.bindsN F_ulaw_box fun _ _ _ _ _ _ us hl => match us, hl with | [_, _], _ => rfl,
    a_ulaw_take := He.ga K "_law_take", f_ulaw_take := fd_ulaw_take, F_ulaw_take := fun_of F_ulaw_take, g_ulaw_take := He.glo_ok X G (c.fact 18 (f := .glo "_law_take") rfl), b_ulaw_take := FunD.bindsN F_ulaw_take fun _ _ _ _ _ _ us hl => match us, hl with | [_, _], _ => rfl,
    a_ulaw_cells := He.ga K "_law_cells", f_ulaw_cells := fd_ulaw_cells, F_ulaw_cells := fun_of F_ulaw_cells, g_ulaw_cells := He.glo_ok X G (c.fact 19 (f := .glo "_law_cells") rfl), b_ulaw_cells := FunD.bindsN F_ulaw_cells fun _ _ _ _ _ _ us hl => match us, hl with | [_, _], _ => rfl,
    a_ulaw_same := He.ga K "_law_same", f_ulaw_same := fd_ulaw_same, F_ulaw_same := fun_of F_ulaw_same, g_ulaw_same := He.glo_ok X G (c.fact 20 (f := .glo "_law_same") rfl), b_ulaw_same := FunD.bindsN F_ulaw_same fun _ _ _ _ _ _ us hl => match us, hl with | [_, _], _ => rfl,
    a_ulaw_short := He.ga K "_law_short", f_ulaw_short := fd_ulaw_short, F_ulaw_short := fun_of F_ulaw_short, g_ulaw_short := He.glo_ok X G (c.fact 21 (f := .glo "_law_short") rfl), b_ulaw_short := FunD.bindsN F_ulaw_short fun _ _ _ _ _ _ us hl => match us, hl with | [_, _], _ => rfl,
    a_ulaw_is_ray := He.ga K "_law_is_ray", f_ulaw_is_ray := fd_ulaw_is_ray, F_ulaw_is_ray := fun_of F_ulaw_is_ray, g_ulaw_is_ray := He.glo_ok X G (c.fact 22 (f := .glo "_law_is_ray") rfl), b_ulaw_is_ray := FunD.bindsN F_ulaw_is_ray fun _ _ _ _ _ _ us hl => match us, hl with | [_], _ => rfl,
    a_ulaw_worth := He.ga K "_law_worth", f_ulaw_worth := fd_ulaw_worth, F_ulaw_worth := fun_of F_ulaw_worth, g_ulaw_worth := He.glo_ok X G (c.fact 23 (f := .glo "_law_worth") rfl), b_ulaw_worth := FunD.bindsN F_ulaw_worth fun _ _ _ _ _ _ us hl => match us, hl with | [_, _], _ => rfl,
    a_ulaw_worths := He.ga K "_law_worths", f_ulaw_worths := fd_ulaw_worths, F_ulaw_worths := fun_of F_ulaw_worths, g_ulaw_worths := He.glo_ok X G (c.fact 24 (f := .glo "_law_worths") rfl), b_ulaw_worths := FunD.bindsN F_ulaw_worths fun _ _ _ _ _ _ us hl => match us, hl with | [_], _ => rfl,
    a_ulaw_round := He.ga K "_law_round", f_ulaw_round := fd_ulaw_round, F_ulaw_round := fun_of F_ulaw_round, g_ulaw_round := He.glo_ok X G (c.fact 25 (f := .glo "_law_round") rfl), b_ulaw_round := FunD.bindsN F_ulaw_round fun _ _ _ _ _ _ us hl => match us, hl with | [_], _ => rfl,
    a_ulaw_ray := He.ga K "_law_ray", f_ulaw_ray := fd_ulaw_ray, F_ulaw_ray := fun_of F_ulaw_ray, g_ulaw_ray := He.glo_ok X G (c.fact 26 (f := .glo "_law_ray") rfl), b_ulaw_ray := FunD.bindsN F_ulaw_ray fun _ _ _ _ _ _ us hl => match us, hl with | [_], _ => rfl,
    a_ulaw_stands := He.ga K "_law_stands", f_ulaw_stands := fd_ulaw_stands, F_ulaw_stands := fun_of F_ulaw_stands, g_ulaw_stands := He.glo_ok X G (c.fact 27 (f := .glo "_law_stands") rfl), b_ulaw_stands := FunD.bindsN F_ulaw_stands fun _ _ _ _ _ _ us hl => match us, hl with | [_, _], _ => rfl,
    a_ulaw_sums_right := He.ga K "_law_sums_right", f_ulaw_sums_right := fd_ulaw_sums_right, F_ulaw_sums_right := fun_of F_ulaw_sums_right, g_ulaw_sums_right := He.glo_ok X G (c.fact 28 (f := .glo "_law_sums_right") rfl), b_ulaw_sums_right := FunD.bindsN F_ulaw_sums_right fun _ _ _ _ _ _ us hl => match us, hl with | [_, _, _], _ => rfl,
    a_ulaw_turns_right := He.ga K "_law_turns_right", f_ulaw_turns_right := fd_ulaw_turns_right, F_ulaw_turns_right := fun_of F_ulaw_turns_right, g_ulaw_turns_right := He.glo_ok X G (c.fact 29 (f := .glo "_law_turns_right") rfl), b_ulaw_turns_right := FunD.bindsN F_ulaw_turns_right fun _ _ _ _ _ _ us hl => match us, hl with | [_, _, _], _ => rfl,
    a_ulaw_mirrors_right := He.ga K "_law_mirrors_right", f_ulaw_mirrors_right := fd_ulaw_mirrors_right, F_ulaw_mirrors_right := fun_of F_ulaw_mirrors_right, g_ulaw_mirrors_right := He.glo_ok X G (c.fact 30 (f := .glo "_law_mirrors_right") rfl), b_ulaw_mirrors_right := FunD.bindsN F_ulaw_mirrors_right fun _ _ _ _ _ _ us hl => match us, hl with | [_, _], _ => rfl,
    a_ulaw_signs_right := He.ga K "_law_signs_right", f_ulaw_signs_right := fd_ulaw_signs_right, F_ulaw_signs_right := fun_of F_ulaw_signs_right, g_ulaw_signs_right := He.glo_ok X G (c.fact 31 (f := .glo "_law_signs_right") rfl), b_ulaw_signs_right := FunD.bindsN F_ulaw_signs_right fun _ _ _ _ _ _ us hl => match us, hl with | [_], _ => rfl,
    a_ulaw_rests_right := He.ga K "_law_rests_right", f_ulaw_rests_right := fd_ulaw_rests_right, F_ulaw_rests_right := fun_of F_ulaw_rests_right, g_ulaw_rests_right := He.glo_ok X G (c.fact 32 (f := .glo "_law_rests_right") rfl), b_ulaw_rests_right := FunD.bindsN F_ulaw_rests_right fun _ _ _ _ _ _ us hl => match us, hl with | [_, _], _ => rfl,
    a_ulaw_by_hand_right := He.ga K "_law_by_hand_right", f_ulaw_by_hand_right := fd_ulaw_by_hand_right, F_ulaw_by_hand_right := fun_of F_ulaw_by_hand_right, g_ulaw_by_hand_right := He.glo_ok X G (c.fact 33 (f := .glo "_law_by_hand_right") rfl), b_ulaw_by_hand_right := FunD.bindsN F_ulaw_by_hand_right fun _ _ _ _ _ _ us hl => match us, hl with | [], _ => rfl,
    a_ulaw_eighth := He.ga K "_law_eighth", f_ulaw_eighth := fd_ulaw_eighth, F_ulaw_eighth := fun_of F_ulaw_eighth, g_ulaw_eighth := He.glo_ok X G (c.fact 34 (f := .glo "_law_eighth") rfl), b_ulaw_eighth := FunD.bindsN F_ulaw_eighth fun _ _ _ _ _ _ us hl => match us, hl with | [_], _ => rfl,
    a_ulaw_right := He.ga K "_law_right", f_ulaw_right := fd_ulaw_right, F_ulaw_right := fun_of F_ulaw_right, g_ulaw_right := He.glo_ok X G (c.fact 35 (f := .glo "_law_right") rfl), b_ulaw_right := FunD.bindsN F_ulaw_right fun _ _ _ _ _ _ us hl => match us, hl with | [_], _ => rfl,
    a_law := He.ga K "law", f_law := fd_law, F_law := fun_of F_law, g_law := He.glo_ok X G (c.fact 36 (f := .glo "law") rfl), b_law := FunD.bindsN F_law fun _ _ _ _ _ _ us hl => match us, hl with | [_], _ => rfl,
    m_abs := He.free_ok X G (c.fact 37 (f := .free "abs") rfl),
    m_all := He.free_ok X G (c.fact 38 (f := .free "all") rfl),
    m_bool := He.free_ok X G (c.fact 39 (f := .free "bool") rfl),
    m_enumerate := He.free_ok X G (c.fact 40 (f := .free "enumerate") rfl),
    m_int := He.free_ok X G (c.fact 41 (f := .free "int") rfl),
    m_isinstance := He.free_ok X G (c.fact 42 (f := .free "isinstance") rfl),
    m_len := He.free_ok X G (c.fact 43 (f := .free "len") rfl),
    m_list := He.free_ok X G (c.fact 44 (f := .free "list") rfl),
    m_max := He.free_ok X G (c.fact 45 (f := .free "max") rfl),
    m_range := He.free_ok X G (c.fact 46 (f := .free "range") rfl),
    m_str := He.free_ok X G (c.fact 47 (f := .free "str") rfl),
    m_tuple := He.free_ok X G (c.fact 48 (f := .free "tuple") rfl),
    m_zip := He.free_ok X G (c.fact 49 (f := .free "zip") rfl),
    a_ONE := He.ga K "ONE", g_ONE := He.glo_ok X G (c.fact 50 (f := .glo "ONE") rfl), r_ONE := const_rep (ns := [1, 0, 0, 0, 0]) rfl t })⟩
end K01
open PySem PySem.W PySem.Calls PyProof.Rows
set_option maxHeartbeats 0 in
theorem PySem.Challenge.cw_eighthturns_k01_whole_rays_by_worths_rou_holds : PySem.Challenge.rw_eighthturns_k01_whole_rays_by_worths_rou.Holds := by
  w_on; o_law
  refine HandSHeadRun.head_any (r := OpenLaw.row PySem.Challenge.rw_eighthturns_k01_whole_rays_by_worths_rou) (q := view (OpenLaw.row PySem.Challenge.rw_eighthturns_k01_whole_rays_by_worths_rou).prog [42]) (H := K01.hk) (ob := K01.ob) (M := 4000) (loose := K01.loose) (d := HandSHeadRun.topDef (OpenLaw.row PySem.Challenge.rw_eighthturns_k01_whole_rays_by_worths_rou).prog 42) (kwd := []) K01.ob_eq
    (by kernel_rfl) (fun s => by kernel_rfl) K01.run (by kernel_rfl) (by kernel_rfl) (by kernel_rfl) (by rfl) (by first | assumption | decide +kernel) (by decide +kernel) ⟨rfl, rfl, rfl, rfl, rfl, by decide +kernel⟩ ?hw ?hc
  case hw => w_witness2
  case hc =>
    refine L2.walk_ofE (l := PySem.Challenge.rw_eighthturns_k01_whole_rays_by_worths_rou) (n := 63) (k := 12) (x := "script") (CX := L2.CX0) rfl (by decide) (by kernel_rfl) ⟨rfl, by decide, by decide⟩ ?F (fun _ _ _ _ z => z)
    intro w mg fa h Y G hmg0
    obtain ⟨K, KX, c, t⟩ := Y
    have hmg : mg ("law" : PySem.Str) = some (.ref fa) := by
      have e : (HandSHeadRun.topDef (OpenLaw.row PySem.Challenge.rw_eighthturns_k01_whole_rays_by_worths_rou).prog 42).name = ("law" : PySem.Str) := by kernel_rfl
      rw [← e]
      exact hmg0
    obtain ⟨fd, hb, hF⟩ := K01.facts (P := (PySem.Challenge.rw_eighthturns_k01_whole_rays_by_worths_rou).prog) (w := w) KX G hmg c t
    exact ⟨K, fd, Pd.spP K K01.m_law, KX, hb, fun H a ns hl _ hS => Pd.law_spec (K01.law_true ns hl) hS, hF⟩
end
