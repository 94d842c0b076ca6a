import PyProof.Rows.All
import Wide.All
import OpenK.AllK
import Wide.FinOn
import HandS.ForMost
import HandS.Flow
import HandS.IsInst
import HandS.Conv
import HandS.Style
import HandS.TupLe
import HandS.TupMul
import HandS.TupAny
import HandS.NoneIn
import HandS.Evl
import KE.IntBitsLaws
import HandS.WideBits
import HandS.SortKw
import HandS.Zip
import KE.DatumOrd
import KE.GoesNew
import HandS.Deep
import HandS.Strs
import KE.DataCmp
import KE.SortData
import KE.KStateDown
import HandS.Defaults
import HandS.Head0
import HandS.Head1
import HandS.Head2
import HandS.HeadEnd
import HandS.HeadHook1
import HandS.HeadHook2
import PySem.Challenge.RW_eighthturns_k20_whole_readings_by_number
import KE.BitLaws
set_option Elab.async false
section
set_option Elab.async false
set_option linter.all false
set_option maxRecDepth 100000
set_option maxHeartbeats 4000000
namespace L2
open PySem PySem.Spec PyProof.Rows
theorem tuple_mul1 (l : Addr) (items : Array Value) (n : Nat) (dd : Option Addr) (sl : Array (Option Value)) (u : Tok) :
    Meets (Builtin.«tuple.__mul__» ⟨[.ref l, .int 1 u], []⟩) (fun _ R s => s.heap.get? l = some { cls := .type "tuple", dict := dd, data := .seq items n, slots := sl } ∧ R (.ok (.ret (Value.ref l))) s) :=
  .of_wp fun prog w A R s h => by
    obtain ⟨hp, g, d, tk, os⟩ := s
    obtain ⟨hl, h⟩ := h
    have f1 := AutoSeq1.idx_int
    have c1 : (items.isEmpty || (1 : Int) == 1) = true := by simp
    wp_walk using wpAny_loadPart' hl
    exact ⟨_, rfl, h⟩
theorem tuple_mul0 (l : Addr) (items : Array Value) (n : Nat) (dd : Option Addr) (sl : Array (Option Value)) (u : Tok) (hi : items.isEmpty = false) :
    Meets (Builtin.«tuple.__mul__» ⟨[.ref l, .int 0 u], []⟩) (fun _ R s => s.heap.get? l = some { cls := .type "tuple", dict := dd, data := .seq items n, slots := sl } ∧
      R (.ok (.ret (Value.ref s.heap.objs.size))) { s with heap := s.heap.push { cls := Value.type "tuple", data := Data.seq #[] }, toks := s.toks }) :=
  .of_wp fun prog w A R s h => by
    obtain ⟨hp, g, d, tk, os⟩ := s
    obtain ⟨hl, h⟩ := h
    have f1 := AutoSeq1.idx_int
    wp_walk using wpAny_loadPart' hl
    exact ⟨_, rfl, h⟩
end L2
namespace Pd
open PySem PySem.Spec PyProof.Rows L2 Evl
/-! tuples that are made with no dict of their own: rules that tell so -/
section
variable {X : Cx} {es : List Expr} {t : TA} {pos : Pos}
def tTupN (t : TA) : TE := fun σ H Q => t σ H fun xs H1 => xs.length ≤ sizeLine ∧ ∀ (p : Addr) (o : Obj), H1 p = none → o.dict = none → Q (.ref p) (upd H1 p (.frz o (.tup xs)))
theorem frz_new {P : Program} {w : World} {H : Hp} {h' : Heap} {p : Addr} {xs : List V} {its : List Value} (z : xs.length ≤ sizeLine) (r : Vals xs its) (o : Obj) (e : h'.get? p = some o) (hc : o.cls = .type "tuple") (n : Nat) (hd : o.data = .seq its.toArray n) :
    ObjOk P w H h' p (.frz o (.tup xs)) := ⟨e, z, its, r, ⟨o, e, hc, n, hd⟩⟩
theorem laidT {pins : List (Addr × Obj)} {s : Shared} {σ : L2.St} {H : Hp} {Q : VK} {xs : List V} {its : List Value} (I : L2.Inv X pins σ H s) (z : xs.length ≤ sizeLine) (r : Vals xs its) (q : ∀ (p : Addr) (o : Obj), H p = none → o.dict = none → Q (.ref p) (upd H p (.frz o (.tup xs)))) :
    EP X pins σ Q (.ref s.heap.objs.size) { s with heap := s.heap.push { cls := .type "tuple", data := .seq its.toArray } } :=
  ⟨.ref s.heap.objs.size, upd H s.heap.objs.size (.frz { cls := .type "tuple", data := .seq its.toArray } (.tup xs)), I.laid (t' := s.toks) (fun b u e => Heap.get?_push_of_some _ e) (Nat.le_refl _) (frz_new z r _ (Heap.get?_push_size _ rfl) rfl _ rfl), rfl, q _ _ (I.hok.fresh (Nat.le_refl _)) rfl⟩
theorem pe_tupN {x1} (h : PA X es t) : PE X (.Tuple es x1 pos) (tTupN t) := by
  refine ⟨fun pins s σ H Q I hq => ?_⟩
  refine wpAny_Tuple_spliced (thn (h.run pos pins s σ H _ I hq) fun us s1 ⟨xs, H1, I1, r, z, q⟩ => ⟨by rw [← r.length]; exact z, ?_⟩)
  have hf : H1 s1.heap.objs.size = none := I1.hok.fresh (Nat.le_refl _)
  refine ⟨.ref s1.heap.objs.size, upd H1 s1.heap.objs.size (.frz _ (.tup xs)), I1.laid (t' := s1.toks) (fun b u e => Heap.get?_push_of_some _ e) (Nat.le_refl _) (frz_new z r _ (Heap.get?_push_size _ rfl) rfl _ rfl), rfl, q _ _ hf rfl⟩
theorem call_tuple_ofN : CallR X (.type "tuple") (fun xs H Q => ∃ p ys, xs = [.ref p] ∧ ((SqL X.K H p ys ∧ ∀ (l : Addr) (o : Obj), H l = none → o.dict = none → Q (.ref l) (upd H l (.frz o (.tup ys)))) ∨ (SqT X.K H p ys ∧ Q (.ref p) H))) := by
  intro pins s σ H xs us Q I r h
  obtain ⟨p, ys, rfl, h⟩ := h
  obtain ⟨u, rfl, rx⟩ := vals1 r
  cases rx
  rcases h with ⟨hq, q⟩ | ⟨hq, q⟩
  · obtain ⟨its, r', pl, hz⟩ := I.list hq
    have hlen := r'.length
    refine call_tuple_list pl.isList (fun h' kp => ?_) (by simp only [List.size_toArray] <;> omega)
    have I1 : Inv X pins σ H { s with heap := h' } := I.kept (t' := s.toks) kp
    have I2 : Inv X pins σ (upd H h'.objs.size (.frz { cls := .type "tuple", data := .seq its.toArray } (.tup ys))) { s with heap := h'.push { cls := .type "tuple", data := .seq its.toArray } } :=
      I1.laid (t' := s.toks) (fun b o e => Heap.get?_push_of_some _ e) (Nat.le_refl _) (frz_new hz r' _ (Heap.get?_push_size _ rfl) rfl _ rfl)
    exact ⟨.ref h'.objs.size, _, I2, rfl, q _ _ (I1.hok.fresh (Nat.le_refl _)) rfl⟩
  · obtain ⟨its, r', pl, hz⟩ := I.tuple hq
    exact call_tuple_same pl ⟨.ref p, H, I, rfl, q⟩
/-- t + u -/
def rCatN (K : PySem.W.Frag) : R2 := fun x y H Q => ∃ a b xs ys, x = .ref a ∧ y = .ref b ∧ SqT K H a xs ∧ SqT K H b ys ∧ xs.length + ys.length ≤ sizeLine ∧
  (xs = [] → Q (.ref b) H) ∧ (xs ≠ [] → ys = [] → Q (.ref a) H) ∧ (xs ≠ [] → ys ≠ [] → ∀ (p : Addr) (o : Obj), H p = none → o.dict = none → Q (.ref p) (upd H p (.frz o (.tup (xs ++ ys)))))
theorem op_catN : OpR X (binaryOp .Add) (rCatN X.K) := by
  intro pins s σ H x y v u Q I rx ry h
  obtain ⟨a, b, xs, ys, rfl, rfl, ha, hb, hz, q0, q1, q2⟩ := h
  cases rx
  cases ry
  obtain ⟨its, r1, p1, _⟩ := I.tuple ha
  obtain ⟨its2, r2, p2, _⟩ := I.tuple hb
  by_cases hx : xs = []
  · subst hx
    cases r1
    exact cat_tup0 p1 p2 ⟨.ref b, H, I, rfl, q0 rfl⟩
  · refine HT.cat_tup p1 p2 (fun z => hx (r1.nil_iff.mp z)) (fun z => ⟨.ref a, H, I, rfl, q1 hx (r2.nil_iff.mp z)⟩) (fun z => ?_) (by rw [← r1.length, ← r2.length]; exact hz)
    exact laidT I (by rw [List.length_append]; exact hz) (r1.append r2) (q2 hx fun w => z (r2.nil_iff.mpr w))
/-- t[lo:hi] -/
def rSlN (K : PySem.W.Frag) : V → Option Int → Option Int → Hp → VK → Prop := fun x lo hi H Q => ∃ a xs, x = .ref a ∧ SqT K H a xs ∧
  (HT.sIx xs.length 0 lo = 0 ∧ HT.sIx xs.length xs.length hi = xs.length → Q (.ref a) H) ∧ (¬ (HT.sIx xs.length 0 lo = 0 ∧ HT.sIx xs.length xs.length hi = xs.length) → ∀ (p : Addr) (o : Obj), H p = none → o.dict = none → Q (.ref p) (upd H p (.frz o (.tup (cutV xs lo hi)))))
theorem sl_tupN : SlR X (rSlN X.K) := by
  intro pins s σ H x v vl vu lo hi sl Q I rx hs pl pu h
  obtain ⟨a, xs, rfl, hx, q1, q2⟩ := h
  cases rx
  obtain ⟨its, r, ht, hz⟩ := I.tuple hx
  have hlen : its.toArray.size = xs.length := by rw [List.size_toArray]; exact r.length.symm
  refine ⟨"tuple", _, PyProof.Rows.slot_tuple_getitem.lookup, ht.typeIs, ?_⟩
  by_cases hw : HT.sIx xs.length 0 lo = 0 ∧ HT.sIx xs.length xs.length hi = xs.length
  · exact getItem_tuple_whole ht hs pl pu (by rw [hlen]; exact hw) ⟨.ref a, H, I, rfl, q1 hw⟩
  · refine HT.getItem_tuple_cut ht hs pl pu (by rw [hlen]; exact hw) ?_ (by rw [hlen]; exact hz)
    rw [hlen]
    exact laidT I (Nat.le_trans (cutV_length xs lo hi) hz) ((r.drop (HT.sIx xs.length 0 lo)).take (HT.sIx xs.length xs.length hi - HT.sIx xs.length 0 lo)) (q2 hw)
/-- t * k -/
def rRepN (K : PySem.W.Frag) : R2 := fun x y H Q => ∃ l k xs, x = .ref l ∧ y = .int k ∧ SqT K H l xs ∧ xs ≠ [] ∧ 0 ≤ k ∧ k ≤ 1000 ∧ xs.length ≤ 1000 ∧
  (k = 1 → Q (.ref l) H) ∧ (k ≠ 1 → ∀ (p : Addr) (o : Obj), H p = none → o.dict = none → Q (.ref p) (upd H p (.frz o (.tup (List.replicate k.toNat xs).flatten))))
theorem op_repN : OpR X (binaryOp .Mult) (rRepN X.K) := by
  intro pins s σ H x y v u Q I rx ry h
  obtain ⟨l, k, xs, rfl, rfl, hT, hne, h1, h2, hz, q1, q⟩ := h
  cases rx
  obtain ⟨t, rfl⟩ := ry
  obtain ⟨its, r, ⟨⟨cls, dd, data, sl⟩, ho, hc, n, hd⟩, hs⟩ := I.tuple hT
  simp only at hc hd
  subst hc hd
  have hle : its.length = xs.length := r.length.symm
  have hn : its ≠ [] := fun e => hne (by
    rw [e] at hle
    exact List.eq_nil_of_length_eq_zero hle.symm)
  have hi : its.toArray.isEmpty = false := by
    cases its with
    | nil => exact absurd rfl hn
    | cons a b => rfl
  have hsz0 : its.toArray.size = xs.length := by rw [List.size_toArray, hle]
  refine wpAny_binaryOp_repeat_ref (T := "tuple") (U := "int") (by decide) ⟨_, ho, rfl⟩ (fun s' => typeIs_int s' k t) noFill_tuple_mul F.fills_int_mul F.slot_int_rmul repeat_tuple F.slot_int_index.lookup
    (call_meets F.slot_int_rmul (typeIs_int s k t) F.entry_int_rmul (F.args_int_rmul_2 _ _) (int_rmul_tuple k t l its.toArray n dd sl)
      ⟨ho, rfl, ⟨_, ho, rfl⟩, ?_⟩)
  by_cases k1 : k = 1
  · subst k1
    exact call_meets F.slot_tuple_mul ⟨_, ho, rfl⟩ F.entry_tuple_mul (F.args_tuple_mul_2 _ _) (tuple_mul1 l its.toArray n dd sl t) ⟨ho, ⟨.ref l, H, I, rfl, q1 rfl⟩⟩
  by_cases k0 : k = 0
  · subst k0
    exact call_meets F.slot_tuple_mul ⟨_, ho, rfl⟩ F.entry_tuple_mul (F.args_tuple_mul_2 _ _) (tuple_mul0 l its.toArray n dd sl t hi) ⟨ho, laidT (its := []) I (Nat.zero_le _) .nil (q k1)⟩
  have hm : ((its.toArray.size : Nat) : Int) * k ≤ 1000000 := by
    rw [hsz0]
    have a1 : ((xs.length : Nat) : Int) * k ≤ 1000 * k := Int.mul_le_mul_of_nonneg_right (by omega) (by omega)
    omega
  have flen : (List.replicate k.toNat its).flatten.length ≤ sizeLine := by
    rw [PyProof.Rows.lm_len_rep_flat, hle, sizeLine_eq]
    have a1 : k.toNat * xs.length ≤ 1000 * 1000 := Nat.mul_le_mul (by omega) hz
    omega
  have c0 : (decide (k < -(2 ^ 63)) || decide (k ≥ 2 ^ 63)) = false := by
    rw [decide_eq_false (by omega), decide_eq_false (by omega)] <;> rfl
  have c1 : (its.toArray.isEmpty || k == 1) = false := by
    rw [hi, Bool.false_or]
    exact beq_eq_false_iff_ne.mpr (by omega)
  have c2 : (decide (k ≤ 0) || its.toArray.isEmpty) = false := by
    rw [hi, Bool.or_false]
    exact decide_eq_false (by omega)
  have c4 : Builtin.Tuple.tupleTooMany (((its.toArray.size : Nat) : Int) * k) = false := by
    unfold Builtin.Tuple.tupleTooMany
    rw [sizeLine_eq]
    exact decide_eq_false (by omega)
  refine call_meets F.slot_tuple_mul ⟨_, ho, rfl⟩ F.entry_tuple_mul (F.args_tuple_mul_2 _ _) (tuple_mulW l its.toArray n dd sl k t c0 c1 c2 (by omega) c4 (by rw [size_rep, List.size_toArray]; exact flen)) ⟨ho, ?_⟩
  rw [size_rep]
  exact laidT I (by rw [PyProof.Rows.lm_len_rep_flat, sizeLine_eq]; have a1 : k.toNat * xs.length ≤ 1000 * 1000 := Nat.mul_le_mul (by omega) hz; omega) (r.rep k.toNat) (q k1)
end
end Pd
end
section
set_option Elab.async false
set_option linter.all false
set_option maxRecDepth 100000
set_option maxHeartbeats 1000000
namespace Pd
open PySem PySem.Spec PyProof.Rows L2 Evl

/-- data, by value -/
inductive D where
  | non | bl (b : Bool) | int (i : Int) | str (x : Str) | tup (l : List D) | lst (l : List D) | ro (l : List D) | tw (l : List D)

/-- known to have no dict of its own -/
def NoD (K : PySem.W.Frag) (G : Hp) (a : Addr) : Prop := (∃ (o : Obj) (u : HO), G a = some (.frz o u) ∧ o.dict = none) ∨ ∃ o : Obj, K.lookup a = some o ∧ o.cls = .type "tuple" ∧ o.dict = none
def TupN (K : PySem.W.Frag) (G : Hp) (a : Addr) (vs : List V) : Prop := SqT K G a vs ∧ NoD K G a
theorem TupN.mono {K : PySem.W.Frag} {G G' : Hp} {a : Addr} {vs : List V} (e : Ex G G') (h : TupN K G a vs) : TupN K G' a vs := by
  refine ⟨ex_t e h.1, ?_⟩
  rcases h.2 with ⟨o, u, h1, h2⟩ | h
  · exact .inl ⟨o, u, e _ _ h1, h2⟩
  · exact .inr h
theorem TupN.of {K : PySem.W.Frag} {G : Hp} {a : Addr} {vs : List V} {o : Obj} (h : G a = some (.frz o (.tup vs))) (hd : o.dict = none) : TupN K G a vs := ⟨.inl (.inr ⟨o, h⟩), .inl ⟨o, _, h, hd⟩⟩
mutual
/-- what stands for a datum in a heap -/
inductive Rep (K : PySem.W.Frag) (G : Hp) : D → V → Prop
  | non : Rep K G .non .non
  | bl (b : Bool) : Rep K G (.bl b) (.bl b)
  | int (i : Int) : Rep K G (.int i) (.int i)
  | str (x : Str) : Rep K G (.str x) (.str x)
  | tup {a : Addr} {vs : List V} {ds : List D} : TupN K G a vs → Reps K G ds vs → Rep K G (.tup ds) (.ref a)
  | tw {a : Addr} {vs : List V} {ds : List D} : SqT K G a vs → Reps K G ds vs → Rep K G (.tw ds) (.ref a)
  | lst {a : Addr} {vs : List V} {ds : List D} : G a = some (.lst vs) → Reps K G ds vs → Rep K G (.lst ds) (.ref a)
  | ro {a : Addr} {vs : List V} {ds : List D} : SqL K G a vs → Reps K G ds vs → Rep K G (.ro ds) (.ref a)
inductive Reps (K : PySem.W.Frag) (G : Hp) : List D → List V → Prop
  | nil : Reps K G [] []
  | cons {d : D} {v : V} {ds : List D} {vs : List V} : Rep K G d v → Reps K G ds vs → Reps K G (d :: ds) (v :: vs)
end

section
variable {K : PySem.W.Frag} {G G' H H' F : Hp}
mutual
theorem Rep.mono (e : Ex G G') : ∀ {d : D} {v : V}, Rep K G d v → Rep K G' d v
  | _, _, .non => .non
  | _, _, .bl b => .bl b
  | _, _, .int i => .int i
  | _, _, .str x => .str x
  | _, _, .tup h r => .tup (h.mono e) (Reps.mono e r)
  | _, _, .tw h r => .tw (ex_t e h) (Reps.mono e r)
  | _, _, .lst h r => .lst (e _ _ h) (Reps.mono e r)
  | _, _, .ro h r => .ro (ex_l e h) (Reps.mono e r)
theorem Reps.mono (e : Ex G G') : ∀ {ds : List D} {vs : List V}, Reps K G ds vs → Reps K G' ds vs
  | _, _, .nil => .nil
  | _, _, .cons h r => .cons (Rep.mono e h) (Reps.mono e r)
end
theorem Reps.length : ∀ {ds : List D} {vs : List V}, Reps K G ds vs → ds.length = vs.length
  | _, _, .nil => rfl
  | _, _, .cons _ r => by simp [Reps.length r]
theorem Reps.get : ∀ {ds : List D} {vs : List V} {i : Nat} {d : D}, Reps K G ds vs → ds[i]? = some d → ∃ v, vs[i]? = some v ∧ Rep K G d v
  | _, _, _, _, .nil, e => by simp at e
  | _, _, 0, _, .cons h _, e => by simp at e; subst e; exact ⟨_, rfl, h⟩
  | _, _, i + 1, _, .cons _ r, e => by
    obtain ⟨v, h1, h2⟩ := Reps.get (i := i) r (by simpa using e)
    exact ⟨v, by simpa using h1, h2⟩
theorem Reps.back : ∀ {ds : List D} {vs : List V} {i : Nat} {v : V}, Reps K G ds vs → vs[i]? = some v → ∃ d, ds[i]? = some d ∧ Rep K G d v
  | _, _, _, _, .nil, e => by simp at e
  | _, _, 0, _, .cons h _, e => by simp at e; subst e; exact ⟨_, rfl, h⟩
  | _, _, i + 1, _, .cons _ r, e => by
    obtain ⟨v, h1, h2⟩ := Reps.back (i := i) r (by simpa using e)
    exact ⟨v, by simpa using h1, h2⟩
theorem Reps.append : ∀ {ds es : List D} {vs us : List V}, Reps K G ds vs → Reps K G es us → Reps K G (ds ++ es) (vs ++ us)
  | _, _, _, _, .nil, q => q
  | _, _, _, _, .cons h r, q => .cons h (Reps.append r q)
theorem Reps.take : ∀ {ds : List D} {vs : List V} (n : Nat), Reps K G ds vs → Reps K G (ds.take n) (vs.take n)
  | _, _, 0, _ => .nil
  | _, _, _ + 1, .nil => .nil
  | _, _, n + 1, .cons h r => .cons h (Reps.take n r)
theorem Reps.drop : ∀ {ds : List D} {vs : List V} (n : Nat), Reps K G ds vs → Reps K G (ds.drop n) (vs.drop n)
  | _, _, 0, r => r
  | _, _, _ + 1, .nil => .nil
  | _, _, n + 1, .cons _ r => Reps.drop n r
theorem Reps.reverse : ∀ {ds : List D} {vs : List V}, Reps K G ds vs → Reps K G ds.reverse vs.reverse
  | _, _, .nil => .nil
  | _, _, .cons h r => by
    rw [List.reverse_cons, List.reverse_cons]
    exact Reps.append (Reps.reverse r) (.cons h .nil)
theorem Reps.set : ∀ {ds : List D} {vs : List V} {d : D} {v : V} (i : Nat), Rep K G d v → Reps K G ds vs → Reps K G (ds.set i d) (vs.set i v)
  | _, _, _, _, _, _, .nil => .nil
  | _, _, _, _, 0, q, .cons _ r => .cons q r
  | _, _, _, _, i + 1, q, .cons h r => .cons h (Reps.set i q r)
theorem Reps.replicate {ds : List D} {vs : List V} (r : Reps K G ds vs) : ∀ n : Nat, Reps K G (List.replicate n ds).flatten (List.replicate n vs).flatten
  | 0 => .nil
  | n + 1 => by
    rw [List.replicate_succ, List.replicate_succ, List.flatten_cons, List.flatten_cons]
    exact Reps.append r (Reps.replicate r n)
end

/-! ### what a name holds; what an expression gives -/
inductive Sl where
  | none | val (d : D) | own (b : Bool) (ds : List D)
abbrev DEnv := List Sl
inductive R where
  | val (d : D) | tmp (ds : List D) | slot (i : Nat)
inductive Ctl where
  | nxt | brk | cnt | ret (r : R)
abbrev EM := DEnv → Option (R × DEnv)
abbrev TM := DEnv → Option (Bool × DEnv)
abbrev AM := DEnv → Option (List R × DEnv)
abbrev SM := DEnv → Option (Ctl × DEnv)

structure Stt (K : PySem.W.Frag) (F : Hp) (pa : Addr) (G : Hp) (σ : L2.St) (δ : DEnv) (H : Hp) : Prop where
  fr : Ex F H
  gr : Ex G H
  len : σ.length = δ.length
  val : ∀ (i : Nat) (d : D), δ[i]? = some (Sl.val d) → ∃ v, σ[i]? = some (some v) ∧ Rep K G d v
  own : ∀ (i : Nat) (b : Bool) (ds : List D), δ[i]? = some (Sl.own b ds) → ∃ p vs, σ[i]? = some (some (V.ref p)) ∧ G p = none ∧ F p = none ∧ (b = true → p = pa) ∧ H p = some (.lst vs) ∧ Reps K G ds vs
  inj : ∀ (i j : Nat) (b c : Bool) (ds es : List D) (p : Addr), δ[i]? = some (Sl.own b ds) → δ[j]? = some (Sl.own c es) → σ[i]? = some (some (V.ref p)) → σ[j]? = some (some (V.ref p)) → i = j

/-- the ground grows, but not at what the frame holds -/
def GEx (F G G' : Hp) : Prop := Ex G G' ∧ ∀ a, F a ≠ none → G' a = G a
theorem GEx.refl (F G : Hp) : GEx F G G := ⟨Ex.refl G, fun _ _ => rfl⟩
theorem GEx.trans {F G G1 G2 : Hp} (a : GEx F G G1) (b : GEx F G1 G2) : GEx F G G2 := ⟨a.1.trans b.1, fun x h => (b.2 x h).trans (a.2 x h)⟩
theorem GEx.new {F G : Hp} {p : Addr} {o : HO} (hG : G p = none) (hF : F p = none) : GEx F G (upd G p o) := ⟨Ex.new hG, fun a h => upd_ne fun e => h (by rw [e]; exact hF)⟩
theorem none_of_ex {G H : Hp} {p : Addr} (e : Ex G H) (h : H p = none) : G p = none := fresh_back e h

def RelR (K : PySem.W.Frag) (F G : Hp) (σ : L2.St) (δ : DEnv) (H : Hp) : R → V → Prop
  | .val d, v => Rep K G d v
  | .tmp ds, v => ∃ p vs, v = .ref p ∧ G p = none ∧ F p = none ∧ H p = some (.lst vs) ∧ Reps K G ds vs ∧ ∀ (i : Nat) b es, δ[i]? = some (Sl.own b es) → σ[i]? ≠ some (some (.ref p))
  | .slot i, v => σ[i]? = some (some v)
inductive RelRs (K : PySem.W.Frag) (F G : Hp) (σ : L2.St) (δ : DEnv) (H : Hp) : List R → List V → Prop
  | nil : RelRs K F G σ δ H [] []
  | cons {r v rs vs} : RelR K F G σ δ H r v → RelRs K F G σ δ H rs vs → RelRs K F G σ δ H (r :: rs) (v :: vs)

section
variable {K : PySem.W.Frag} {F G G' H H' : Hp} {pa : Addr} {σ : L2.St} {δ δ' : DEnv} {v : V} {r : R}

/-- the ground laid wider by an address that the heap has, which no name owns -/
theorem Stt.freeze {p : Addr} {o : HO} (S : Stt K F pa G σ δ H) (hG : G p = none) (hF : F p = none) (hH : H p = some o) (ho : ∀ (i : Nat) b es, δ[i]? = some (Sl.own b es) → σ[i]? ≠ some (some (.ref p))) : Stt K F pa (upd G p o) σ δ H := by
  have e : Ex G (upd G p o) := Ex.new hG
  refine ⟨S.fr, fun a u q => ?_, S.len, fun i d hi => ?_, fun i b ds hi => ?_, S.inj⟩
  · by_cases ha : a = p
    · subst ha; rw [upd_same] at q; cases q; exact hH
    · rw [upd_ne ha] at q; exact S.gr a u q
  · obtain ⟨v, h1, h2⟩ := S.val i d hi
    exact ⟨v, h1, h2.mono e⟩
  · obtain ⟨q, vs, h1, h2, h3, h4, h5, h6⟩ := S.own i b ds hi
    refine ⟨q, vs, h1, ?_, h3, h4, h5, h6.mono e⟩
    rw [upd_ne (fun z => ho i b ds hi (by rw [h1, z]))]
    exact h2
/-- a new object in the heap, not in the ground -/
theorem Stt.newH {p : Addr} {o : HO} (S : Stt K F pa G σ δ H) (hp : H p = none) : Stt K F pa G σ δ (upd H p o) := by
  have e : Ex H (upd H p o) := Ex.new hp
  refine ⟨S.fr.trans e, S.gr.trans e, S.len, S.val, fun i b ds hi => ?_, S.inj⟩
  obtain ⟨q, vs, h1, h2, h3, h4, h5, h6⟩ := S.own i b ds hi
  exact ⟨q, vs, h1, h2, h3, h4, e _ _ h5, h6⟩
theorem Stt.notOwned {p : Addr} (S : Stt K F pa G σ δ H) (hp : H p = none) : ∀ (i : Nat) b es, δ[i]? = some (Sl.own b es) → σ[i]? ≠ some (some (.ref p)) := fun i b es hi z => by
  obtain ⟨q, vs, h1, h2, h3, h4, h5, h6⟩ := S.own i b es hi
  rw [h1] at z
  cases z
  rw [hp] at h5
  cases h5
/-- a new object in both -/
theorem Stt.newG {p : Addr} {o : HO} (S : Stt K F pa G σ δ H) (hp : H p = none) : Stt K F pa (upd G p o) σ δ (upd H p o) :=
  (S.newH hp).freeze (none_of_ex S.gr hp) (none_of_ex S.fr hp) upd_same (S.notOwned hp)
theorem Stt.gexNew {p : Addr} {o : HO} (S : Stt K F pa G σ δ H) (hp : H p = none) : GEx F G (upd G p o) := GEx.new (none_of_ex S.gr hp) (none_of_ex S.fr hp)

/-! ### reading, holding, keeping -/
@[simp] def rd : R → DEnv → Option D
  | .val d, _ => some d
  | .tmp ds, _ => some (.lst ds)
  | .slot i, δ => match δ[i]? with
    | some (.own _ ds) => some (.lst ds)
    | some (.val d) => some d
    | _ => none
@[simp] def rdAll : List R → DEnv → Option (List D)
  | [], _ => some []
  | r :: rs, δ => match rd r δ with
    | none => none
    | some d => match rdAll rs δ with
      | none => none
      | some ds => some (d :: ds)
@[simp] def hold : R → R
  | .tmp ds => .val (.lst ds)
  | r => r
@[simp] def fix : R → DEnv → Option (D × DEnv)
  | .val d, δ => some (d, δ)
  | .tmp ds, δ => some (.lst ds, δ)
  | .slot i, δ => match δ[i]? with
    | some (.own false ds) => some (.lst ds, δ.set i (.val (.lst ds)))
    | some (.val d) => some (d, δ)
    | _ => none

/-- a datum as it stands now: its own object in the heap, its parts in the ground -/
def RepN (K : PySem.W.Frag) (G H : Hp) : D → V → Prop
  | .lst ds, v => ∃ a vs, v = .ref a ∧ H a = some (.lst vs) ∧ Reps K G ds vs
  | d, v => Rep K G d v
theorem Rep.now (e : Ex G H) {d : D} (h : Rep K G d v) : RepN K G H d v := by
  cases h with
  | non => exact .non
  | bl b => exact .bl b
  | int i => exact .int i
  | str x => exact .str x
  | tup h r => exact .tup h r
  | tw h r => exact .tw h r
  | lst h r => exact ⟨_, _, rfl, e _ _ h, r⟩
  | ro h r => exact .ro h r
theorem RepN.rep (e : Ex G H) {d : D} (h : RepN K G H d v) : Rep K H d v := by
  cases d with
  | lst ds => obtain ⟨a, vs, rfl, h, r⟩ := h; exact .lst h (r.mono e)
  | tup ds => exact Rep.mono e h
  | tw ds => exact Rep.mono e h
  | ro ds => exact Rep.mono e h
  | non => exact Rep.mono e h
  | bl b => exact Rep.mono e h
  | int i => exact Rep.mono e h
  | str x => exact Rep.mono e h
inductive RepNs (K : PySem.W.Frag) (G H : Hp) : List D → List V → Prop
  | nil : RepNs K G H [] []
  | cons {d v ds vs} : RepN K G H d v → RepNs K G H ds vs → RepNs K G H (d :: ds) (v :: vs)
theorem rd_ok {d : D} (S : Stt K F pa G σ δ H) (h : RelR K F G σ δ H r v) (e : rd r δ = some d) : RepN K G H d v := by
  cases r with
  | val d' => simp only [rd, Option.some.injEq] at e; subst e; exact Rep.now S.gr h
  | tmp ds => simp only [rd, Option.some.injEq] at e; subst e; obtain ⟨p, vs, e1, h1, h2, h3, h4, _⟩ := h; exact ⟨p, vs, e1, h3, h4⟩
  | slot i =>
    simp only [rd] at e
    split at e
    · rename_i b ds hi
      cases e
      obtain ⟨p, vs, h1, h2, h3, h4, h5, h6⟩ := S.own i b ds hi
      have : v = .ref p := by
        have h : σ[i]? = some (some v) := h
        rw [h1] at h; cases h; rfl
      exact ⟨p, vs, this, h5, h6⟩
    · rename_i d' hi
      cases e
      obtain ⟨u, h1, h2⟩ := S.val i d hi
      have : u = v := by
        have h : σ[i]? = some (some v) := h
        rw [h1] at h; cases h; rfl
      subst this
      exact Rep.now S.gr h2
    · cases e
theorem rdAll_ok : ∀ {rs : List R} {vs : List V} {ds : List D}, Stt K F pa G σ δ H → RelRs K F G σ δ H rs vs → rdAll rs δ = some ds → RepNs K G H ds vs
  | [], _, _, _, .nil, e => by simp only [rdAll, Option.some.injEq] at e; subst e; exact .nil
  | r :: rs, _, ds, S, .cons h t, e => by
    unfold rdAll at e
    split at e
    · cases e
    · rename_i d hd
      split at e
      · cases e
      · rename_i ds' hds
        cases e
        exact .cons (rd_ok S h hd) (rdAll_ok S t hds)
/-- a result held while other things happen -/
theorem hold_ok (S : Stt K F pa G σ δ H) (h : RelR K F G σ δ H r v) : ∃ G', GEx F G G' ∧ Stt K F pa G' σ δ H ∧ RelR K F G' σ δ H (hold r) v := by
  cases r with
  | val d => exact ⟨G, GEx.refl F G, S, h⟩
  | slot i => exact ⟨G, GEx.refl F G, S, h⟩
  | tmp ds =>
    obtain ⟨p, vs, e1, h1, h2, h3, h4, h5⟩ := h
    refine ⟨upd G p (.lst vs), GEx.new h1 h2, S.freeze h1 h2 h3 h5, ?_⟩
    subst e1
    exact Rep.lst upd_same (h4.mono (Ex.new h1))
theorem hold_stays {δ' : DEnv} {H' : Hp} (e : Ex G G') (h : RelR K F G σ δ H (hold r) v) : RelR K F G' σ δ' H' (hold r) v := by
  cases r with
  | val d => exact Rep.mono e h
  | slot i => exact h
  | tmp ds => exact Rep.mono e h
theorem hold_hold : hold (hold r) = hold r := by cases r <;> rfl
theorem get_set_self {α : Type} {l : List α} {i : Nat} {x y : α} (h : l[i]? = some y) : (l.set i x)[i]? = some x := by
  obtain ⟨hi, _⟩ := List.getElem?_eq_some_iff.mp h
  rw [List.getElem?_set_self hi]
theorem get_set_ne {α : Type} {l : List α} {i j : Nat} {x : α} (h : i ≠ j) : (l.set i x)[j]? = l[j]? := List.getElem?_set_ne h
/-- an owned list is kept for good -/
theorem Stt.give {i : Nat} {ds : List D} (S : Stt K F pa G σ δ H) (hi : δ[i]? = some (.own false ds)) : ∃ G' p, GEx F G G' ∧ σ[i]? = some (some (.ref p)) ∧ Stt K F pa G' σ (δ.set i (.val (.lst ds))) H ∧ Rep K G' (.lst ds) (.ref p) := by
  obtain ⟨p, vs, h1, h2, h3, h4, h5, h6⟩ := S.own i false ds hi
  have e : Ex G (upd G p (.lst vs)) := Ex.new h2
  have rp : Rep K (upd G p (.lst vs)) (.lst ds) (.ref p) := Rep.lst upd_same (h6.mono e)
  refine ⟨upd G p (.lst vs), p, GEx.new h2 h3, h1, ⟨S.fr, fun a u q => ?_, by rw [List.length_set]; exact S.len, fun j d hj => ?_, fun j b es hj => ?_, fun j k b c es fs q hj hk => ?_⟩, rp⟩
  · by_cases ha : a = p
    · subst ha; rw [upd_same] at q; cases q; exact h5
    · rw [upd_ne ha] at q; exact S.gr a u q
  · by_cases hij : i = j
    · subst hij
      rw [get_set_self hi] at hj
      cases hj
      exact ⟨_, h1, rp⟩
    · rw [get_set_ne hij] at hj
      obtain ⟨v, q1, q2⟩ := S.val j d hj
      exact ⟨v, q1, q2.mono e⟩
  · by_cases hij : i = j
    · subst hij
      rw [get_set_self hi] at hj
      cases hj
    · rw [get_set_ne hij] at hj
      obtain ⟨q, us, q1, q2, q3, q4, q5, q6⟩ := S.own j b es hj
      have hqp : q ≠ p := fun z => hij (S.inj i j false b ds es p hi hj h1 (by rw [q1, z]))
      exact ⟨q, us, q1, by rw [upd_ne hqp]; exact q2, q3, q4, q5, q6.mono e⟩
  · by_cases hij : i = j
    · subst hij; rw [get_set_self hi] at hj; cases hj
    · rw [get_set_ne hij] at hj
      by_cases hik : i = k
      · subst hik; rw [get_set_self hi] at hk; cases hk
      · rw [get_set_ne hik] at hk
        exact S.inj j k b c es fs q hj hk
theorem fix_ok {d : D} (S : Stt K F pa G σ δ H) (h : RelR K F G σ δ H r v) (e : fix r δ = some (d, δ')) : ∃ G', GEx F G G' ∧ Stt K F pa G' σ δ' H ∧ Rep K G' d v := by
  cases r with
  | val d' =>
    simp only [fix, Option.some.injEq, Prod.mk.injEq] at e
    obtain ⟨e1, e2⟩ := e
    subst e1 e2
    exact ⟨G, GEx.refl F G, S, h⟩
  | tmp ds =>
    simp only [fix, Option.some.injEq, Prod.mk.injEq] at e
    obtain ⟨e1, e2⟩ := e
    subst e1 e2
    obtain ⟨G', g1, g2, g3⟩ := hold_ok S h
    exact ⟨G', g1, g2, g3⟩
  | slot i =>
    have h : σ[i]? = some (some v) := h
    simp only [fix] at e
    split at e
    · rename_i ds hi
      cases e
      obtain ⟨G', p, g1, g2, g3, g4⟩ := S.give hi
      rw [g2] at h
      cases h
      exact ⟨G', g1, g3, g4⟩
    · rename_i d' hi
      cases e
      obtain ⟨u, h1, h2⟩ := S.val i d hi
      rw [h1] at h; cases h
      exact ⟨G, GEx.refl F G, S, h2⟩
    · cases e
end
end Pd
end
section
set_option Elab.async false
set_option linter.all false
set_option maxRecDepth 100000
set_option maxHeartbeats 1000000
namespace Pd
open PySem PySem.Spec PyProof.Rows L2 Evl

def Sd (K : PySem.W.Frag) (t : TE) (m : EM) : Prop := ∀ F pa G σ δ H, Stt K F pa G σ δ H → ∀ r δ', m δ = some (r, δ') → ∀ Q : VK, (∀ G' v H', GEx F G G' → Stt K F pa G' σ δ' H' → RelR K F G' σ δ' H' r v → Q v H') → t σ H Q
def SdT (K : PySem.W.Frag) (t : TT) (m : TM) : Prop := ∀ F pa G σ δ H, Stt K F pa G σ δ H → ∀ b δ', m δ = some (b, δ') → ∀ Q : Bool → Hp → Prop, (∀ G' H', GEx F G G' → Stt K F pa G' σ δ' H' → Q b H') → t σ H Q
def SdA (K : PySem.W.Frag) (t : TA) (m : AM) : Prop := ∀ F pa G σ δ H, Stt K F pa G σ δ H → ∀ rs δ', m δ = some (rs, δ') → ∀ Q : List V → Hp → Prop, (∀ G' vs H', GEx F G G' → Stt K F pa G' σ δ' H' → RelRs K F G' σ δ' H' rs vs → Q vs H') → t σ H Q

/-! ### operations on data -/
inductive OR where
  | v (d : D) | l (ds : List D) | t (ds : List D)
@[simp] def OR.r : OR → R
  | .v d => .val d
  | .l ds => .tmp ds
  | .t ds => .val (.tup ds)
def Fin (K : PySem.W.Frag) (G H : Hp) (o : OR) (Q : VK) : Prop := match o with
  | .v d => ∀ v, Rep K G d v → Q v H
  | .l ds => ∀ p vs, H p = none → Reps K G ds vs → Q (.ref p) (upd H p (.lst vs))
  | .t ds => ∀ (p : Addr) (o : Obj) vs, H p = none → o.dict = none → Reps K G ds vs → Q (.ref p) (upd H p (.frz o (.tup vs)))
def Ob (K : PySem.W.Frag) (r : R2) (f : D → D → Option OR) : Prop := ∀ G H x y a b o, Ex G H → RepN K G H a x → RepN K G H b y → f a b = some o → ∀ Q : VK, Fin K G H o Q → r x y H Q
def Uo (K : PySem.W.Frag) (r : V → Hp → VK → Prop) (f : D → Option OR) : Prop := ∀ G H x a o, Ex G H → RepN K G H a x → f a = some o → ∀ Q : VK, Fin K G H o Q → r x H Q
def Co (K : PySem.W.Frag) (r : List V → Hp → VK → Prop) (f : List D → Option OR) : Prop := ∀ G H xs as o, Ex G H → RepNs K G H as xs → f as = some o → ∀ Q : VK, Fin K G H o Q → r xs H Q

section
variable {K : PySem.W.Frag} {F G G' H H' : Hp} {pa : Addr} {σ : L2.St} {δ δ' : DEnv} {v : V} {r : R} {ta tb te tc : TE} {ma mb me mc : EM} {t u : TT} {mt mu : TM}

theorem fin_ok {o : OR} {Q : VK} (S : Stt K F pa G σ δ H) (q : ∀ G' v H', GEx F G G' → Stt K F pa G' σ δ H' → RelR K F G' σ δ H' o.r v → Q v H') : Fin K G H o Q := by
  cases o with
  | v d => exact fun v h => q G v H (GEx.refl F G) S h
  | l ds => exact fun p vs hp h => q G _ _ (GEx.refl F G) (S.newH hp) ⟨p, vs, rfl, none_of_ex S.gr hp, none_of_ex S.fr hp, upd_same, h, S.notOwned hp⟩
  | t ds => exact fun p o vs hp hd h => q _ _ _ (S.gexNew hp) (S.newG hp) (Rep.tup (TupN.of upd_same hd) (h.mono (Ex.new (none_of_ex S.gr hp))))

theorem bind_some' {α β : Type} {x : Option α} {f : α → Option β} {y : β} (e : x.bind f = some y) : ∃ a, x = some a ∧ f a = some y := Option.bind_eq_some_iff.mp e

/-! ### expressions -/
def eVar (i : Nat) : EM := fun δ => match δ[i]? with
  | some (.val d) => some (.val d, δ)
  | some (.own _ _) => some (.slot i, δ)
  | _ => none
theorem sd_var {i : Nat} : Sd K (tVar i) (eVar i) := fun F pa G σ δ H S r δ' e Q q => by
  simp only [eVar] at e
  split at e
  · rename_i d hi
    simp only [Option.some.injEq, Prod.mk.injEq] at e
    obtain ⟨e1, e2⟩ := e
    subst e1 e2
    obtain ⟨v, h1, h2⟩ := S.val i d hi
    exact ⟨v, h1, q G v H (GEx.refl F G) S h2⟩
  · rename_i b ds hi
    simp only [Option.some.injEq, Prod.mk.injEq] at e
    obtain ⟨e1, e2⟩ := e
    subst e1 e2
    obtain ⟨p, vs, h1, _⟩ := S.own i b ds hi
    exact ⟨_, h1, q G _ H (GEx.refl F G) S h1⟩
  · cases e
def eC (d : D) : EM := fun δ => some (.val d, δ)
theorem sd_c {d : D} {v : V} (h : ∀ G, Rep K G d v) : Sd K (tC v) (eC d) := fun F pa G σ δ H S r δ' e Q q => by
  simp only [eC, Option.some.injEq, Prod.mk.injEq] at e
  obtain ⟨e1, e2⟩ := e
  subst e1 e2
  exact q G v H (GEx.refl F G) S (h G)
theorem sd_int {i : Int} : Sd K (tC (.int i)) (eC (.int i)) := sd_c fun _ => .int i
theorem sd_bl {i : Bool} : Sd K (tC (.bl i)) (eC (.bl i)) := sd_c fun _ => .bl i
theorem sd_non : Sd K (tC .non) (eC .non) := sd_c fun _ => .non
theorem sd_str {i : Str} : Sd K (tC (.str i)) (eC (.str i)) := sd_c fun _ => .str i

def eOp (f : D → D → Option OR) (ma mb : EM) : EM := fun δ => (ma δ).bind fun p => (mb p.2).bind fun q => (rd (hold p.1) q.2).bind fun a => (rd q.1 q.2).bind fun b => (f a b).bind fun o => some (o.r, q.2)
theorem sd_op {r : R2} {f : D → D → Option OR} (hr : Ob K r f) (ha : Sd K ta ma) (hb : Sd K tb mb) : Sd K (tOp r ta tb) (eOp f ma mb) := fun F pa G σ δ H S r' δ' e Q q => by
  obtain ⟨p, h1, e⟩ := bind_some' e
  obtain ⟨p2, h2, e⟩ := bind_some' e
  obtain ⟨a, h3, e⟩ := bind_some' e
  obtain ⟨b, h4, e⟩ := bind_some' e
  obtain ⟨o, h5, e⟩ := bind_some' e
  simp only [Option.some.injEq, Prod.mk.injEq] at e
  obtain ⟨e1, e2⟩ := e
  subst e1 e2
  refine ha F pa G σ δ H S _ _ h1 _ fun G1 x H1 g1 S1 r1 => ?_
  obtain ⟨G1', g1', S1', r1'⟩ := hold_ok S1 r1
  refine hb F pa G1' σ _ H1 S1' _ _ h2 _ fun G2 y H2 g2 S2 r2 => ?_
  exact hr G2 H2 x y a b o S2.gr (rd_ok S2 (hold_stays g2.1 r1') h3) (rd_ok S2 r2 h4) h5 Q (fin_ok S2 fun G' v H' g S' r' => q G' v H' (((g1.trans g1').trans g2).trans g) S' r')
def eUn (f : D → Option OR) (ma : EM) : EM := fun δ => (ma δ).bind fun p => (rd p.1 p.2).bind fun a => (f a).bind fun o => some (o.r, p.2)
theorem sd_un {r : V → Hp → VK → Prop} {f : D → Option OR} (hr : Uo K r f) (ha : Sd K ta ma) : Sd K (tUn r ta) (eUn f ma) := fun F pa G σ δ H S r' δ' e Q q => by
  obtain ⟨p, h1, e⟩ := bind_some' e
  obtain ⟨a, h3, e⟩ := bind_some' e
  obtain ⟨o, h5, e⟩ := bind_some' e
  simp only [Option.some.injEq, Prod.mk.injEq] at e
  obtain ⟨e1, e2⟩ := e
  subst e1 e2
  refine ha F pa G σ δ H S _ _ h1 _ fun G1 x H1 g1 S1 r1 => ?_
  exact hr G1 H1 x a o S1.gr (rd_ok S1 r1 h3) h5 Q (fin_ok S1 fun G' v H' g S' r' => q G' v H' (g1.trans g) S' r')
/-- other readings that take a value and go on -/
theorem sd_then {k : V → Hp → VK → Prop} {f : D → Option OR} (hr : Uo K k f) (ha : Sd K ta ma) : Sd K (tThen ta k) (eUn f ma) := sd_un (r := k) hr ha

/-! ### truth, and, or, not, if -/
@[simp] def truth : D → Option Bool
  | .non => some false
  | .bl b => some b
  | .int i => some (i != 0)
  | .tup ds => some (!ds.isEmpty)
  | .lst ds => some (!ds.isEmpty)
  | .ro ds => some (!ds.isEmpty)
  | .str _ => none
  | .tw _ => none
theorem isEmpty_reps {ds : List D} {vs : List V} (h : Reps K G ds vs) : ds.isEmpty = vs.isEmpty := by cases h <;> rfl
theorem truth_ok {d : D} {b : Bool} (e : Ex G H) (h : RepN K G H d v) (ht : truth d = some b) : TruV K v H b := by
  have h' := h.rep e
  cases h' with
  | non => simp only [truth, Option.some.injEq] at ht; exact ht.symm
  | bl b => simp only [truth, Option.some.injEq] at ht; exact ht.symm
  | int i => simp only [truth, Option.some.injEq] at ht; exact ht.symm
  | str x => simp [truth] at ht
  | tw h1 r => simp [truth] at ht
  | tup h1 r => simp only [truth, Option.some.injEq] at ht; exact .inr (.inl ⟨_, h1.1, by rw [← ht, isEmpty_reps r]⟩)
  | lst h1 r => simp only [truth, Option.some.injEq] at ht; exact .inl ⟨_, SqL.of h1, by rw [← ht, isEmpty_reps r]⟩
  | ro h1 r => simp only [truth, Option.some.injEq] at ht; exact .inl ⟨_, h1, by rw [← ht, isEmpty_reps r]⟩
def eAnd (ma mb : EM) : EM := fun δ => (ma δ).bind fun p => (rd p.1 p.2).bind fun a => (truth a).bind fun k => match k with
  | true => mb p.2
  | false => some p
def eOr (ma mb : EM) : EM := fun δ => (ma δ).bind fun p => (rd p.1 p.2).bind fun a => (truth a).bind fun k => match k with
  | true => some p
  | false => mb p.2
theorem sd_and (ha : Sd K ta ma) (hb : Sd K tb mb) : Sd K (tAndT K ta tb) (eAnd ma mb) := fun F pa G σ δ H S r' δ' e Q q => by
  obtain ⟨p, h1, e⟩ := bind_some' e
  obtain ⟨a, h2, e⟩ := bind_some' e
  obtain ⟨k, h3, e⟩ := bind_some' e
  refine ha F pa G σ δ H S _ _ h1 _ fun G1 x H1 g1 S1 r1 => ⟨k, truth_ok S1.gr (rd_ok S1 r1 h2) h3, ?_⟩
  cases k with
  | true => exact iteT (hb F pa G1 σ _ H1 S1 _ _ e _ fun G2 y H2 g2 S2 r2 => q G2 y H2 (g1.trans g2) S2 r2)
  | false =>
    simp only [Option.some.injEq] at e
    subst e
    exact iteF (q G1 x H1 g1 S1 r1)
theorem sd_or (ha : Sd K ta ma) (hb : Sd K tb mb) : Sd K (tOrT K ta tb) (eOr ma mb) := fun F pa G σ δ H S r' δ' e Q q => by
  obtain ⟨p, h1, e⟩ := bind_some' e
  obtain ⟨a, h2, e⟩ := bind_some' e
  obtain ⟨k, h3, e⟩ := bind_some' e
  refine ha F pa G σ δ H S _ _ h1 _ fun G1 x H1 g1 S1 r1 => ⟨k, truth_ok S1.gr (rd_ok S1 r1 h2) h3, ?_⟩
  cases k with
  | false => exact iteF (hb F pa G1 σ _ H1 S1 _ _ e _ fun G2 y H2 g2 S2 r2 => q G2 y H2 (g1.trans g2) S2 r2)
  | true =>
    simp only [Option.some.injEq] at e
    subst e
    exact iteT (q G1 x H1 g1 S1 r1)
def eNot (ma : EM) : EM := fun δ => (ma δ).bind fun p => (rd p.1 p.2).bind fun a => (truth a).bind fun k => some (.val (.bl (!k)), p.2)
theorem sd_not (ha : Sd K ta ma) : Sd K (tNotT K ta) (eNot ma) := fun F pa G σ δ H S r' δ' e Q q => by
  obtain ⟨p, h1, e⟩ := bind_some' e
  obtain ⟨a, h2, e⟩ := bind_some' e
  obtain ⟨k, h3, e⟩ := bind_some' e
  simp only [Option.some.injEq, Prod.mk.injEq] at e
  obtain ⟨e1, e2⟩ := e
  subst e1 e2
  exact ha F pa G σ δ H S _ _ h1 _ fun G1 x H1 g1 S1 r1 => ⟨k, truth_ok S1.gr (rd_ok S1 r1 h2) h3, q G1 _ H1 g1 S1 (Rep.bl _)⟩
def eIf (mt : TM) (ma mb : EM) : EM := fun δ => (mt δ).bind fun p => match p.1 with
  | true => ma p.2
  | false => mb p.2
theorem sd_if (ht : SdT K t mt) (ha : Sd K ta ma) (hb : Sd K tb mb) : Sd K (tIf t ta tb) (eIf mt ma mb) := fun F pa G σ δ H S r' δ' e Q q => by
  obtain ⟨⟨b, δ1⟩, h1, e⟩ := bind_some' e
  refine ht F pa G σ δ H S _ _ h1 _ fun G1 H1 g1 S1 => ?_
  cases b with
  | true => exact iteT (ha F pa G1 σ _ H1 S1 _ _ e _ fun G2 y H2 g2 S2 r2 => q G2 y H2 (g1.trans g2) S2 r2)
  | false => exact iteF (hb F pa G1 σ _ H1 S1 _ _ e _ fun G2 y H2 g2 S2 r2 => q G2 y H2 (g1.trans g2) S2 r2)
/-! ### tests -/
def mVal (ma : EM) : TM := fun δ => (ma δ).bind fun p => match p.1 with
  | .val (.bl b) => some (b, p.2)
  | _ => none
theorem mVal_ok {b : Bool} {δ1 : DEnv} (e : mVal ma δ = some (b, δ1)) : ma δ = some (.val (.bl b), δ1) := by
  obtain ⟨⟨r, δ2⟩, h1, e⟩ := bind_some' e
  simp only at e
  split at e
  · rename_i b' h
    simp only [Option.some.injEq, Prod.mk.injEq] at e
    obtain ⟨e1, e2⟩ := e
    subst e1 e2
    rw [h1]
  · cases e
theorem st_tB (ha : Sd K ta ma) : SdT K (tB ta) (mVal ma) := fun F pa G σ δ H S b δ' e Q q => by
  refine ha F pa G σ δ H S _ _ (mVal_ok e) _ fun G1 x H1 g1 S1 r1 => ?_
  cases r1
  exact ⟨b, rfl, q G1 H1 g1 S1⟩
theorem st_tTest (ha : Sd K ta ma) : SdT K (tTest ta) (mVal ma) := st_tB ha
def tTrue (K : PySem.W.Frag) (ta : TE) : TT := fun σ H Q => ta σ H fun x H' => ∃ k, TruV K x H' k ∧ Q k H'
def mTru (ma : EM) : TM := fun δ => (ma δ).bind fun p => (rd p.1 p.2).bind fun a => (truth a).bind fun k => some (k, p.2)
theorem st_tru (ha : Sd K ta ma) : SdT K (tTrue K ta) (mTru ma) := fun F pa G σ δ H S b δ' e Q q => by
  obtain ⟨p, h1, e⟩ := bind_some' e
  obtain ⟨a, h2, e⟩ := bind_some' e
  obtain ⟨k, h3, e⟩ := bind_some' e
  simp only [Option.some.injEq, Prod.mk.injEq] at e
  obtain ⟨e1, e2⟩ := e
  subst e1 e2
  exact ha F pa G σ δ H S _ _ h1 _ fun G1 x H1 g1 S1 r1 => ⟨k, truth_ok S1.gr (rd_ok S1 r1 h2) h3, q G1 H1 g1 S1⟩
def mAnd (mt mu : TM) : TM := fun δ => (mt δ).bind fun p => match p.1 with
  | true => mu p.2
  | false => some (false, p.2)
def mOr (mt mu : TM) : TM := fun δ => (mt δ).bind fun p => match p.1 with
  | true => some (true, p.2)
  | false => mu p.2
def mNot (mt : TM) : TM := fun δ => (mt δ).bind fun p => some (!p.1, p.2)
theorem st_and (ht : SdT K t mt) (hu : SdT K u mu) : SdT K (tAnd t u) (mAnd mt mu) := fun F pa G σ δ H S b δ' e Q q => by
  obtain ⟨⟨k, δ1⟩, h1, e⟩ := bind_some' e
  refine ht F pa G σ δ H S _ _ h1 _ fun G1 H1 g1 S1 => ?_
  cases k with
  | true => exact iteT (hu F pa G1 σ _ H1 S1 _ _ e _ fun G2 H2 g2 S2 => q G2 H2 (g1.trans g2) S2)
  | false =>
    simp only [Option.some.injEq, Prod.mk.injEq] at e
    obtain ⟨e1, e2⟩ := e
    subst e1 e2
    exact iteF (q G1 H1 g1 S1)
theorem st_or (ht : SdT K t mt) (hu : SdT K u mu) : SdT K (tOr t u) (mOr mt mu) := fun F pa G σ δ H S b δ' e Q q => by
  obtain ⟨⟨k, δ1⟩, h1, e⟩ := bind_some' e
  refine ht F pa G σ δ H S _ _ h1 _ fun G1 H1 g1 S1 => ?_
  cases k with
  | false => exact iteF (hu F pa G1 σ _ H1 S1 _ _ e _ fun G2 H2 g2 S2 => q G2 H2 (g1.trans g2) S2)
  | true =>
    simp only [Option.some.injEq, Prod.mk.injEq] at e
    obtain ⟨e1, e2⟩ := e
    subst e1 e2
    exact iteT (q G1 H1 g1 S1)
theorem st_not (ht : SdT K t mt) : SdT K (tNot t) (mNot mt) := fun F pa G σ δ H S b δ' e Q q => by
  obtain ⟨⟨k, δ1⟩, h1, e⟩ := bind_some' e
  simp only [Option.some.injEq, Prod.mk.injEq] at e
  obtain ⟨e1, e2⟩ := e
  subst e1 e2
  exact ht F pa G σ δ H S _ _ h1 _ fun G1 H1 g1 S1 => q G1 H1 g1 S1
/-! ### arguments -/
def aNil : AM := fun δ => some ([], δ)
def aOne (ma : EM) : AM := fun δ => (ma δ).bind fun p => some ([p.1], p.2)
def aCons (ma : EM) (mr : AM) : AM := fun δ => (ma δ).bind fun p => (mr p.2).bind fun q => some (hold p.1 :: q.1, q.2)
theorem sa_nil : SdA K tNil aNil := fun F pa G σ δ H S rs δ' e Q q => by
  simp only [aNil, Option.some.injEq, Prod.mk.injEq] at e
  obtain ⟨e1, e2⟩ := e
  subst e1 e2
  exact q G _ H (GEx.refl F G) S .nil
theorem sa_one (ha : Sd K ta ma) : SdA K (tCons ta tNil) (aOne ma) := fun F pa G σ δ H S rs δ' e Q q => by
  obtain ⟨p, h1, e⟩ := bind_some' e
  simp only [Option.some.injEq, Prod.mk.injEq] at e
  obtain ⟨e1, e2⟩ := e
  subst e1 e2
  exact ha F pa G σ δ H S _ _ h1 _ fun G1 x H1 g1 S1 r1 => q G1 _ H1 g1 S1 (.cons r1 .nil)
theorem sa_cons {tr : TA} {mr : AM} (ha : Sd K ta ma) (hr : SdA K tr mr) : SdA K (tCons ta tr) (aCons ma mr) := fun F pa G σ δ H S rs δ' e Q q => by
  obtain ⟨p, h1, e⟩ := bind_some' e
  obtain ⟨p2, h2, e⟩ := bind_some' e
  simp only [Option.some.injEq, Prod.mk.injEq] at e
  obtain ⟨e1, e2⟩ := e
  subst e1 e2
  refine ha F pa G σ δ H S _ _ h1 _ fun G1 x H1 g1 S1 r1 => ?_
  obtain ⟨G1', g1', S1', r1'⟩ := hold_ok S1 r1
  exact hr F pa G1' σ _ H1 S1' _ _ h2 _ fun G2 vs H2 g2 S2 r2 => q G2 _ H2 ((g1.trans g1').trans g2) S2 (.cons (hold_stays g2.1 r1') r2)
/-- all kept -/
@[simp] def fixAll : List R → DEnv → Option (List D × DEnv)
  | [], δ => some ([], δ)
  | r :: rs, δ => (fix r δ).bind fun p => (fixAll rs p.2).bind fun q => some (p.1 :: q.1, q.2)
theorem relR_fixed {d : D} {r : R} {v : V} {s : R} {u : V} (e : fix s δ = some (d, δ')) (S : Stt K F pa G σ δ H) (hs : RelR K F G σ δ H s u) (h : RelR K F G σ δ H r v) :
    ∃ G', GEx F G G' ∧ Stt K F pa G' σ δ' H ∧ Rep K G' d u := fix_ok S hs e
/-- results that are held: values, or names -/
@[simp] def heldR : R → Bool
  | .tmp _ => false
  | _ => true
theorem relR_move {δ1 : DEnv} {H1 : Hp} {r : R} (hh : heldR r = true) (e : Ex G G') (h : RelR K F G σ δ H r v) : RelR K F G' σ δ1 H1 r v := by
  cases r with
  | val d => exact Rep.mono e h
  | slot i => exact h
  | tmp ds => cases hh
/-- a list of held results, but for the last -/
@[simp] def heldRs : List R → Bool
  | [] => true
  | [_] => true
  | r :: rs => heldR r && heldRs rs
theorem relRs_move {δ1 : DEnv} {H1 : Hp} : ∀ {rs : List R} {vs : List V}, rs.all heldR = true → Ex G G' → RelRs K F G σ δ H rs vs → RelRs K F G' σ δ1 H1 rs vs
  | [], _, _, _, .nil => .nil
  | r :: rs, _, hh, e, .cons h t => by
    rw [List.all_cons, Bool.and_eq_true] at hh
    exact .cons (relR_move hh.1 e h) (relRs_move hh.2 e t)
@[simp] def holdAll (rs : List R) : List R := rs.map hold
theorem held_hold (r : R) : heldR (hold r) = true := by cases r <;> rfl
theorem fixAll_ok : ∀ {rs : List R} {vs : List V} {ds : List D} {δ δ' : DEnv} {G : Hp}, rs.all heldR = true → Stt K F pa G σ δ H → RelRs K F G σ δ H rs vs → fixAll rs δ = some (ds, δ') → ∃ G', GEx F G G' ∧ Stt K F pa G' σ δ' H ∧ Reps K G' ds vs
  | [], _, ds, δ, δ', G, _, S, .nil, e => by
    simp only [fixAll, Option.some.injEq, Prod.mk.injEq] at e
    obtain ⟨e1, e2⟩ := e
    subst e1 e2
    exact ⟨G, GEx.refl F G, S, .nil⟩
  | r :: rs, _, ds, δ, δ', G, hh, S, .cons h t, e => by
    rw [List.all_cons, Bool.and_eq_true] at hh
    obtain ⟨p, h1, e⟩ := bind_some' e
    obtain ⟨p2, h2, e⟩ := bind_some' e
    simp only [Option.some.injEq, Prod.mk.injEq] at e
    obtain ⟨e1, e2⟩ := e
    subst e1 e2
    obtain ⟨G1, g1, S1, q1⟩ := fix_ok S h h1
    obtain ⟨G2, g2, S2, q2⟩ := fixAll_ok hh.2 S1 (relRs_move hh.2 g1.1 t) h2
    exact ⟨G2, g1.trans g2, S2, .cons (q1.mono g2.1) q2⟩
/-- the last one of a list may be new: it is held first -/
theorem holdLast_ok : ∀ {rs : List R} {vs : List V} {G : Hp}, Stt K F pa G σ δ H → heldRs rs = true → RelRs K F G σ δ H rs vs → ∃ G', GEx F G G' ∧ Stt K F pa G' σ δ H ∧ RelRs K F G' σ δ H (holdAll rs) vs
  | [], _, G, S, _, .nil => ⟨G, GEx.refl F G, S, .nil⟩
  | [r], _, G, S, _, .cons h .nil => by
    obtain ⟨G', g1, S1, q1⟩ := hold_ok S h
    exact ⟨G', g1, S1, .cons q1 .nil⟩
  | r :: s :: rs, _, G, S, hh, .cons h t => by
    have hh' : (heldR r && heldRs (s :: rs)) = true := hh
    rw [Bool.and_eq_true] at hh'
    obtain ⟨G', g1, S1, q1⟩ := holdLast_ok S hh'.2 t
    have e : hold r = r := by
      cases r with
      | tmp ds => cases hh'.1
      | val d => rfl
      | slot i => rfl
    refine ⟨G', g1, S1, ?_⟩
    show RelRs K F G' σ δ H (hold r :: holdAll (s :: rs)) _
    rw [e]
    exact .cons (relR_move hh'.1 g1.1 h) q1
theorem all_held (rs : List R) : (holdAll rs).all heldR = true := by
  unfold holdAll
  rw [List.all_map, List.all_eq_true]
  exact fun r _ => held_hold r
/-- a list of results kept for good -/
@[simp] def keep (rs : List R) (δ : DEnv) : Option (List D × DEnv) := match heldRs rs with
  | true => fixAll (holdAll rs) δ
  | false => none
theorem keep_ok {rs : List R} {vs : List V} {ds : List D} {G : Hp} (S : Stt K F pa G σ δ H) (t : RelRs K F G σ δ H rs vs) (e : keep rs δ = some (ds, δ')) : ∃ G', GEx F G G' ∧ Stt K F pa G' σ δ' H ∧ Reps K G' ds vs := by
  unfold keep at e
  split at e
  · rename_i hh
    obtain ⟨G1, g1, S1, q1⟩ := holdLast_ok S hh t
    obtain ⟨G2, g2, S2, q2⟩ := fixAll_ok (all_held rs) S1 q1 e
    exact ⟨G2, g1.trans g2, S2, q2⟩
  · cases e
/-! ### displays, calls of built-ins -/
def eTup (ma : AM) : EM := fun δ => (ma δ).bind fun p => (keep p.1 p.2).bind fun q => if q.1.length ≤ 100000 then some (.val (.tup q.1), q.2) else none
def eLst (ma : AM) : EM := fun δ => (ma δ).bind fun p => (keep p.1 p.2).bind fun q => if q.1.length ≤ 100000 then some (.tmp q.1, q.2) else none
theorem sd_tup {ta : TA} {ma : AM} (ha : SdA K ta ma) : Sd K (tTupN ta) (eTup ma) := fun F pa G σ δ H S r' δ' e Q q => by
  obtain ⟨p, h1, e⟩ := bind_some' e
  obtain ⟨p2, h2, e⟩ := bind_some' e
  split at e
  · rename_i hl
    simp only [Option.some.injEq, Prod.mk.injEq] at e
    obtain ⟨e1, e2⟩ := e
    subst e1 e2
    refine ha F pa G σ δ H S _ _ h1 _ fun G1 vs H1 g1 S1 r1 => ?_
    obtain ⟨G2, g2, S2, q2⟩ := keep_ok S1 r1 h2
    refine ⟨sz_of (by rw [← q2.length]; exact hl), fun a o hp hd => q _ _ _ ((g1.trans g2).trans (S2.gexNew hp)) (S2.newG hp) (Rep.tup (TupN.of upd_same hd) (q2.mono (Ex.new (none_of_ex S2.gr hp))))⟩
  · cases e
theorem sd_lst {ta : TA} {ma : AM} (ha : SdA K ta ma) : Sd K (tLst ta) (eLst ma) := fun F pa G σ δ H S r' δ' e Q q => by
  obtain ⟨p, h1, e⟩ := bind_some' e
  obtain ⟨p2, h2, e⟩ := bind_some' e
  split at e
  · rename_i hl
    simp only [Option.some.injEq, Prod.mk.injEq] at e
    obtain ⟨e1, e2⟩ := e
    subst e1 e2
    refine ha F pa G σ δ H S _ _ h1 _ fun G1 vs H1 g1 S1 r1 => ?_
    obtain ⟨G2, g2, S2, q2⟩ := keep_ok S1 r1 h2
    refine ⟨sz_of (by rw [← q2.length]; exact hl), fun a hp => q _ _ _ (g1.trans g2) (S2.newH hp) ⟨a, vs, rfl, none_of_ex S2.gr hp, none_of_ex S2.fr hp, upd_same, q2, S2.notOwned hp⟩⟩
  · cases e
def eCall (f : List D → Option OR) (ma : AM) : EM := fun δ => (ma δ).bind fun p => (rdAll p.1 p.2).bind fun as => (f as).bind fun o => some (o.r, p.2)
theorem sd_cb {r : List V → Hp → VK → Prop} {f : List D → Option OR} {ta : TA} {ma : AM} (hr : Co K r f) (ha : SdA K ta ma) : Sd K (tCB r ta) (eCall f ma) := fun F pa G σ δ H S r' δ' e Q q => by
  obtain ⟨p, h1, e⟩ := bind_some' e
  obtain ⟨as, h2, e⟩ := bind_some' e
  obtain ⟨o, h3, e⟩ := bind_some' e
  simp only [Option.some.injEq, Prod.mk.injEq] at e
  obtain ⟨e1, e2⟩ := e
  subst e1 e2
  refine ha F pa G σ δ H S _ _ h1 _ fun G1 vs H1 g1 S1 r1 => ?_
  exact hr G1 H1 vs as o S1.gr (rdAll_ok S1 r1 h2) h3 Q (fin_ok S1 fun G' v H' g S' r' => q G' v H' (g1.trans g) S' r')
end
end Pd
end
section
set_option Elab.async false
set_option linter.all false
set_option maxRecDepth 100000
set_option maxHeartbeats 1000000
namespace Pd
open PySem PySem.Spec PyProof.Rows L2 Evl

def EndsOk (K : PySem.W.Frag) (F : Hp) (pa : Addr) (G : Hp) (δ' : DEnv) (c : Ctl) (D : Ends) : Prop := match c with
  | .nxt => ∀ G' σ' H', GEx F G G' → Stt K F pa G' σ' δ' H' → D.nx σ' H'
  | .brk => ∀ G' σ' H', GEx F G G' → Stt K F pa G' σ' δ' H' → D.bk σ' H'
  | .cnt => ∀ G' σ' H', GEx F G G' → Stt K F pa G' σ' δ' H' → D.ct σ' H'
  | .ret r => ∀ G' σ' v H', GEx F G G' → Stt K F pa G' σ' δ' H' → RelR K F G' σ' δ' H' r v → D.rt v H'
def SdS (K : PySem.W.Frag) (t : TS) (m : SM) : Prop := ∀ F pa G σ δ H, Stt K F pa G σ δ H → ∀ c δ', m δ = some (c, δ') → ∀ D : Ends, EndsOk K F pa G δ' c D → t D σ H
/-- a target -/
abbrev GM := D → DEnv → Option DEnv
def Sg (K : PySem.W.Frag) (g : TG) (tg : GM) (ts : List Nat) : Prop := ∀ F pa G σ δ H, Stt K F pa G σ δ H → ∀ d x, Rep K G d x → ∀ δ', tg d δ = some δ' → ∀ Q : L2.St → Hp → Prop,
  (∀ σ', (∀ vs : List Nat, (∀ j ∈ ts, j ∈ vs) → wipe σ' vs = wipe σ vs) → Stt K F pa G σ' δ' H → Q σ' H) → g x σ H Q
/-- what is walked -/
def Wk (K : PySem.W.Frag) (G : Hp) (J : It) (ds : List D) : Prop := ∀ F pa i G2 σ2 δ2 H2, Ex G G2 → Stt K F pa G2 σ2 δ2 H2 →
  (∀ d, ds[i]? = some d → J.go i H2 ∧ ∀ x H', J.yld i H2 x H' → ∃ G3, GEx F G2 G3 ∧ Stt K F pa G3 σ2 δ2 H' ∧ Rep K G3 d x) ∧ (i = ds.length → J.stop i H2)
abbrev IM := DEnv → Option (List D × DEnv)
def SdI (K : PySem.W.Frag) (wi : TI) (mi : IM) : Prop := ∀ F pa G σ δ H, Stt K F pa G σ δ H → ∀ ds δ', mi δ = some (ds, δ') → ∀ R : It → Hp → Prop, (∀ G' J H', GEx F G G' → Stt K F pa G' σ δ' H' → Wk K G' J ds → R J H') → wi σ H R
abbrev OM := DEnv → Option (Option Int × DEnv)
def SdO (K : PySem.W.Frag) (to : TO) (mo : OM) : Prop := ∀ F pa G σ δ H, Stt K F pa G σ δ H → ∀ x δ', mo δ = some (x, δ') → ∀ Q : Option Int → Hp → Prop, (∀ G' H', GEx F G G' → Stt K F pa G' σ δ' H' → Q x H') → to σ H Q

section
variable {K : PySem.W.Frag} {F G G' H H' : Hp} {pa : Addr} {σ : L2.St} {δ δ' : DEnv} {v : V} {r : R} {ta tb te tc : TE} {ma mb me mc : EM} {t u : TT} {mt mu : TM} {ts us : TS} {ms ns : SM} {g : TG} {tg : GM} {js : List Nat}

theorem EndsOk.mono {c : Ctl} {D : Ends} (e : GEx F G G') (h : EndsOk K F pa G δ' c D) : EndsOk K F pa G' δ' c D := by
  cases c with
  | nxt => exact fun G2 σ' H' g S => h G2 σ' H' (e.trans g) S
  | brk => exact fun G2 σ' H' g S => h G2 σ' H' (e.trans g) S
  | cnt => exact fun G2 σ' H' g S => h G2 σ' H' (e.trans g) S
  | ret r => exact fun G2 σ' v H' g S q => h G2 σ' v H' (e.trans g) S q

/-! ### a name is stored -/
theorem Stt.setVal {i : Nat} {d : D} (S : Stt K F pa G σ δ H) (h : Rep K G d v) : Stt K F pa G (σ.set i (some v)) (δ.set i (.val d)) H := by
  refine ⟨S.fr, S.gr, by rw [List.length_set, List.length_set]; exact S.len, fun j e hj => ?_, fun j b es hj => ?_, fun j k b c es fs q hj hk h1 h2 => ?_⟩
  · by_cases hij : i = j
    · subst hij
      have hl : i < (δ.set i (Sl.val d)).length := (List.getElem?_eq_some_iff.mp hj).1
      rw [List.length_set] at hl
      rw [List.getElem?_set_self hl] at hj
      cases hj
      exact ⟨v, List.getElem?_set_self (by rw [S.len]; exact hl), h⟩
    · rw [get_set_ne hij] at hj
      rw [get_set_ne hij]
      exact S.val j e hj
  · by_cases hij : i = j
    · subst hij
      have hl : i < (δ.set i (Sl.val d)).length := (List.getElem?_eq_some_iff.mp hj).1
      rw [List.length_set] at hl
      rw [List.getElem?_set_self hl] at hj
      cases hj
    · rw [get_set_ne hij] at hj
      rw [get_set_ne hij]
      exact S.own j b es hj
  · have n1 : ∀ {j b es}, (δ.set i (Sl.val d))[j]? = some (Sl.own b es) → i ≠ j ∧ δ[j]? = some (Sl.own b es) := fun {j b es} hj => by
      by_cases hij : i = j
      · subst hij
        have hl : i < (δ.set i (Sl.val d)).length := (List.getElem?_eq_some_iff.mp hj).1
        rw [List.length_set] at hl
        rw [List.getElem?_set_self hl] at hj
        cases hj
      · rw [get_set_ne hij] at hj
        exact ⟨hij, hj⟩
    obtain ⟨a1, b1⟩ := n1 hj
    obtain ⟨a2, b2⟩ := n1 hk
    rw [get_set_ne a1] at h1
    rw [get_set_ne a2] at h2
    exact S.inj j k b c es fs q b1 b2 h1 h2
theorem Stt.setOwn {i : Nat} {ds : List D} {p : Addr} {vs : List V} (S : Stt K F pa G σ δ H) (h1 : G p = none) (h2 : F p = none) (h3 : H p = some (.lst vs)) (h4 : Reps K G ds vs)
    (ho : ∀ (i : Nat) b es, δ[i]? = some (Sl.own b es) → σ[i]? ≠ some (some (.ref p))) : Stt K F pa G (σ.set i (some (.ref p))) (δ.set i (.own false ds)) H := by
  have cs : ∀ {j : Nat} {b es}, (δ.set i (Sl.own false ds))[j]? = some (Sl.own b es) → (i = j ∧ b = false ∧ es = ds ∧ i < σ.length) ∨ (i ≠ j ∧ δ[j]? = some (Sl.own b es)) := fun {j b es} hj => by
    by_cases hij : i = j
    · subst hij
      have hl : i < (δ.set i (Sl.own false ds)).length := (List.getElem?_eq_some_iff.mp hj).1
      rw [List.length_set] at hl
      rw [List.getElem?_set_self hl] at hj
      cases hj
      exact .inl ⟨rfl, rfl, rfl, by rw [S.len]; exact hl⟩
    · rw [get_set_ne hij] at hj
      exact .inr ⟨hij, hj⟩
  refine ⟨S.fr, S.gr, by rw [List.length_set, List.length_set]; exact S.len, fun j e hj => ?_, fun j b es hj => ?_, fun j k b c es fs q hj hk e1 e2 => ?_⟩
  · by_cases hij : i = j
    · subst hij
      have hl : i < (δ.set i (Sl.own false ds)).length := (List.getElem?_eq_some_iff.mp hj).1
      rw [List.length_set] at hl
      rw [List.getElem?_set_self hl] at hj
      cases hj
    · rw [get_set_ne hij] at hj
      rw [get_set_ne hij]
      exact S.val j e hj
  · rcases cs hj with ⟨rfl, rfl, rfl, hl⟩ | ⟨hij, hj⟩
    · exact ⟨p, vs, List.getElem?_set_self hl, h1, h2, (fun z => nomatch z), h3, h4⟩
    · rw [get_set_ne hij]
      exact S.own j b es hj
  · rcases cs hj with ⟨a1, a2, a3, hl⟩ | ⟨hij, hj'⟩
    · rcases cs hk with ⟨b1, b2, b3, hl2⟩ | ⟨hik, hk'⟩
      · exact a1.symm.trans b1
      · rw [← a1, List.getElem?_set_self hl] at e1
        cases e1
        rw [get_set_ne hik] at e2
        exact absurd e2 (ho k c fs hk')
    · rcases cs hk with ⟨b1, b2, b3, hl2⟩ | ⟨hik, hk'⟩
      · rw [← b1, List.getElem?_set_self hl2] at e2
        cases e2
        rw [get_set_ne hij] at e1
        exact absurd e1 (ho j b es hj')
      · rw [get_set_ne hij] at e1
        rw [get_set_ne hik] at e2
        exact S.inj j k b c es fs q hj' hk' e1 e2
/-- an owned list is changed -/
theorem Stt.mutOwn {i : Nat} {b : Bool} {ds es : List D} {p : Addr} {vs : List V} (S : Stt K F pa G σ δ H) (hi : δ[i]? = some (.own b ds)) (hp : σ[i]? = some (some (.ref p))) (h : Reps K G es vs) :
    Stt K F pa G σ (δ.set i (.own b es)) (upd H p (.lst vs)) := by
  obtain ⟨p', us, h1, h2, h3, h4, h5, h6⟩ := S.own i b ds hi
  rw [hp] at h1
  cases h1
  have cs : ∀ {j : Nat} {c fs}, (δ.set i (Sl.own b es))[j]? = some (Sl.own c fs) → (i = j ∧ c = b ∧ fs = es) ∨ (i ≠ j ∧ δ[j]? = some (Sl.own c fs)) := fun {j c fs} hj => by
    by_cases hij : i = j
    · subst hij
      rw [get_set_self hi] at hj
      cases hj
      exact .inl ⟨rfl, rfl, rfl⟩
    · rw [get_set_ne hij] at hj
      exact .inr ⟨hij, hj⟩
  have keepE : ∀ {A : Hp}, A p = none → Ex A H → Ex A (upd H p (.lst vs)) := fun {A} hA e a o q => by
    rw [upd_ne (fun z => by rw [z, hA] at q; cases q)]
    exact e a o q
  refine ⟨keepE h3 S.fr, keepE h2 S.gr, by rw [List.length_set]; exact S.len, fun j e hj => ?_, fun j c fs hj => ?_, fun j k c c' fs fs' q hj hk e1 e2 => ?_⟩
  · by_cases hij : i = j
    · subst hij
      rw [get_set_self hi] at hj
      cases hj
    · rw [get_set_ne hij] at hj
      exact S.val j e hj
  · rcases cs hj with ⟨rfl, rfl, rfl⟩ | ⟨hij, hj⟩
    · exact ⟨p, vs, hp, h2, h3, h4, upd_same, h⟩
    · obtain ⟨q, ws, q1, q2, q3, q4, q5, q6⟩ := S.own j c fs hj
      refine ⟨q, ws, q1, q2, q3, q4, ?_, q6⟩
      rw [upd_ne (fun z => hij (S.inj i j b c ds fs p hi hj hp (by rw [q1, z])))]
      exact q5
  · have a1 : ∃ d', δ[j]? = some (Sl.own c d') := by
      rcases cs hj with ⟨rfl, rfl, rfl⟩ | ⟨_, hj⟩
      · exact ⟨_, hi⟩
      · exact ⟨_, hj⟩
    have a2 : ∃ d', δ[k]? = some (Sl.own c' d') := by
      rcases cs hk with ⟨rfl, rfl, rfl⟩ | ⟨_, hk⟩
      · exact ⟨_, hi⟩
      · exact ⟨_, hk⟩
    obtain ⟨d1, b1⟩ := a1
    obtain ⟨d2, b2⟩ := a2
    exact S.inj j k c c' d1 d2 q b1 b2 e1 e2

/-! ### statements -/
def sNext : SM := fun δ => some (.nxt, δ)
theorem ss_next : SdS K tNext sNext := fun F pa G σ δ H S c δ' e D q => by
  simp only [sNext, Option.some.injEq, Prod.mk.injEq] at e
  obtain ⟨e1, e2⟩ := e
  subst e1 e2
  exact q G σ H (GEx.refl F G) S
def sBreak : SM := fun δ => some (.brk, δ)
theorem ss_break : SdS K tBreak sBreak := fun F pa G σ δ H S c δ' e D q => by
  simp only [sBreak, Option.some.injEq, Prod.mk.injEq] at e
  obtain ⟨e1, e2⟩ := e
  subst e1 e2
  exact q G σ H (GEx.refl F G) S
def sCont : SM := fun δ => some (.cnt, δ)
theorem ss_cont : SdS K tCont sCont := fun F pa G σ δ H S c δ' e D q => by
  simp only [sCont, Option.some.injEq, Prod.mk.injEq] at e
  obtain ⟨e1, e2⟩ := e
  subst e1 e2
  exact q G σ H (GEx.refl F G) S
def sNever : SM := fun _ => none
theorem ss_never : SdS K tNever sNever := fun F pa G σ δ H S c δ' e D q => nomatch e
def sSeq (ms ns : SM) : SM := fun δ => (ms δ).bind fun p => match p.1 with
  | .nxt => ns p.2
  | c => some (c, p.2)
theorem ss_seq (h1 : SdS K ts ms) (h2 : SdS K us ns) : SdS K (tSeq ts us) (sSeq ms ns) := fun F pa G σ δ H S c δ' e D q => by
  obtain ⟨⟨c1, δ1⟩, e1, e⟩ := bind_some' e
  refine h1 F pa G σ δ H S _ _ e1 _ ?_
  cases c1 with
  | nxt => exact fun G1 σ1 H1 g1 S1 => h2 F pa G1 σ1 δ1 H1 S1 _ _ e D (q.mono g1)
  | brk =>
    simp only [Option.some.injEq, Prod.mk.injEq] at e
    obtain ⟨rfl, rfl⟩ := e
    exact q
  | cnt =>
    simp only [Option.some.injEq, Prod.mk.injEq] at e
    obtain ⟨rfl, rfl⟩ := e
    exact q
  | ret r =>
    simp only [Option.some.injEq, Prod.mk.injEq] at e
    obtain ⟨rfl, rfl⟩ := e
    exact q
def sDrop (me : EM) : SM := fun δ => (me δ).bind fun p => some (.nxt, p.2)
theorem ss_drop (h : Sd K te me) : SdS K (tDrop te) (sDrop me) := fun F pa G σ δ H S c δ' e D q => by
  obtain ⟨p, h1, e⟩ := bind_some' e
  simp only [Option.some.injEq, Prod.mk.injEq] at e
  obtain ⟨rfl, rfl⟩ := e
  exact h F pa G σ δ H S _ _ h1 _ fun G1 x H1 g1 S1 r1 => q G1 σ H1 g1 S1
def sRet (me : EM) : SM := fun δ => (me δ).bind fun p => some (.ret p.1, p.2)
theorem ss_ret (h : Sd K te me) : SdS K (tRet te) (sRet me) := fun F pa G σ δ H S c δ' e D q => by
  obtain ⟨p, h1, e⟩ := bind_some' e
  simp only [Option.some.injEq, Prod.mk.injEq] at e
  obtain ⟨rfl, rfl⟩ := e
  exact h F pa G σ δ H S _ _ h1 _ fun G1 x H1 g1 S1 r1 => q G1 σ x H1 g1 S1 r1
def sRetN : SM := fun δ => some (.ret (.val .non), δ)
theorem ss_retN : SdS K tRetN sRetN := fun F pa G σ δ H S c δ' e D q => by
  simp only [sRetN, Option.some.injEq, Prod.mk.injEq] at e
  obtain ⟨rfl, rfl⟩ := e
  exact q G σ .non H (GEx.refl F G) S Rep.non
def sIf (mt : TM) (ms ns : SM) : SM := fun δ => (mt δ).bind fun p => match p.1 with
  | true => ms p.2
  | false => ns p.2
theorem ss_if (ht : SdT K t mt) (h1 : SdS K ts ms) (h2 : SdS K us ns) : SdS K (tIfS t ts us) (sIf mt ms ns) := fun F pa G σ δ H S c δ' e D q => by
  obtain ⟨⟨b, δ1⟩, e1, e⟩ := bind_some' e
  refine ht F pa G σ δ H S _ _ e1 _ fun G1 H1 g1 S1 => ?_
  cases b with
  | true => exact iteT (h1 F pa G1 σ δ1 H1 S1 _ _ e D (q.mono g1))
  | false => exact iteF (h2 F pa G1 σ δ1 H1 S1 _ _ e D (q.mono g1))
/-- name = e -/
def sSet (i : Nat) (me : EM) : SM := fun δ => (me δ).bind fun p => match p.1 with
  | .val d => some (.nxt, p.2.set i (.val d))
  | .tmp ds => some (.nxt, p.2.set i (.own false ds))
  | .slot j => (fix (.slot j) p.2).bind fun q => some (.nxt, q.2.set i (.val q.1))
theorem ss_set {i : Nat} (h : Sd K te me) : SdS K (tAsg te (gName i)) (sSet i me) := fun F pa G σ δ H S c δ' e D q => by
  obtain ⟨⟨r, δ1⟩, h1, e⟩ := bind_some' e
  refine h F pa G σ δ H S _ _ h1 _ fun G1 x H1 g1 S1 r1 => ?_
  cases r with
  | val d =>
    simp only [Option.some.injEq, Prod.mk.injEq] at e
    obtain ⟨rfl, rfl⟩ := e
    exact q G1 _ H1 g1 (S1.setVal r1)
  | tmp ds =>
    simp only [Option.some.injEq, Prod.mk.injEq] at e
    obtain ⟨rfl, rfl⟩ := e
    obtain ⟨p, vs, rfl, a1, a2, a3, a4, a5⟩ := r1
    exact q G1 _ H1 g1 (S1.setOwn a1 a2 a3 a4 a5)
  | slot j =>
    obtain ⟨⟨d, δ2⟩, h2, e⟩ := bind_some' e
    simp only [Option.some.injEq, Prod.mk.injEq] at e
    obtain ⟨rfl, rfl⟩ := e
    obtain ⟨G2, g2, S2, q2⟩ := fix_ok S1 r1 h2
    exact q G2 _ H1 (g1.trans g2) (S2.setVal q2)
/-! ### targets -/
theorem wipe_comm (σ : L2.St) (x : Option V) : ∀ (vs : List Nat) (j : Nat), j ∈ vs → wipe (σ.set j x) vs = wipe σ vs
  | [], j, h => by cases h
  | v :: vs, j, h => by
    unfold wipe
    by_cases hm : j ∈ vs
    · rw [wipe_comm σ x vs j hm]
    · have e : j = v := by
        rcases List.mem_cons.mp h with e | e
        · exact e
        · exact absurd e hm
      subst e
      have : ∀ (τ : L2.St) (ws : List Nat), wipe (τ.set j x) ws = (wipe τ ws).set j (if j ∈ ws then none else x) ∨ True := fun _ _ => .inr trivial
      clear this
      have key : ∀ (τ : L2.St) (ws : List Nat), j ∉ ws → wipe (τ.set j x) ws = (wipe τ ws).set j x := by
        intro τ ws
        induction ws with
        | nil => intro _; rfl
        | cons w ws ih =>
          intro hw
          unfold wipe
          rw [ih (fun z => hw (List.mem_cons_of_mem _ z)), List.set_comm _ _ (fun z => hw (by rw [z]; exact List.mem_cons_self))]
      rw [key σ vs hm, List.set_set]
def gN (j : Nat) : GM := fun d δ => some (δ.set j (.val d))
theorem sg_name {j : Nat} : Sg K (gName j) (gN j) [j] := fun F pa G σ δ H S d x h δ' e Q q => by
  have hw : ∀ vs : List Nat, (∀ k ∈ [j], k ∈ vs) → wipe (σ.set j (some x)) vs = wipe σ vs := fun vs hv => wipe_comm σ _ vs j (hv j (by simp))
  simp only [gN, Option.some.injEq] at e
  subst e
  exact q _ hw (S.setVal h)
/-- several targets, item by item -/
abbrev GsM := List D → DEnv → Option DEnv
def SgS (K : PySem.W.Frag) (g : TGs) (tg : GsM) (ts : List Nat) : Prop := ∀ F pa G σ δ H, Stt K F pa G σ δ H → ∀ ds xs, Reps K G ds xs → ∀ δ', tg ds δ = some δ' → ∀ Q : L2.St → Hp → Prop,
  (∀ σ', (∀ vs : List Nat, (∀ j ∈ ts, j ∈ vs) → wipe σ' vs = wipe σ vs) → Stt K F pa G σ' δ' H → Q σ' H) → g xs σ H Q
def gsNil : GsM := fun ds δ => match ds with
  | [] => some δ
  | _ => none
def gsCons (tg : GM) (th : GsM) : GsM := fun ds δ => match ds with
  | [] => none
  | d :: ds => (tg d δ).bind fun δ1 => th ds δ1
theorem sgs_nil : SgS K gNil gsNil [] := fun F pa G σ δ H S ds xs h δ' e Q q => by
  cases h with
  | nil =>
    simp only [gsNil, Option.some.injEq] at e
    subst e
    exact ⟨rfl, q σ (fun _ _ => rfl) S⟩
  | cons _ _ => cases e
theorem sgs_cons {gs : TGs} {th : GsM} {ks : List Nat} (h1 : Sg K g tg js) (h2 : SgS K gs th ks) : SgS K (gCons g gs) (gsCons tg th) (js ++ ks) := fun F pa G σ δ H S ds xs h δ' e Q q => by
  cases h with
  | nil => cases e
  | cons r rs =>
    obtain ⟨δ1, e1, e⟩ := bind_some' e
    refine ⟨_, _, rfl, h1 F pa G σ δ H S _ _ r _ e1 _ fun σ1 w1 S1 => ?_⟩
    exact h2 F pa G σ1 δ1 H S1 _ _ rs _ e _ fun σ2 w2 S2 => q σ2 (fun vs hv => (w2 vs fun j hj => hv j (List.mem_append_right _ hj)).trans (w1 vs fun j hj => hv j (List.mem_append_left _ hj))) S2
def gU (n : Nat) (th : GsM) : GM := fun d δ => match d with
  | .tup ds => if ds.length = n then th ds δ else none
  | .lst ds => if ds.length = n then th ds δ else none
  | .ro ds => if ds.length = n then th ds δ else none
  | .tw ds => if ds.length = n then th ds δ else none
  | _ => none
/-- a tuple or a list taken apart -/
def gAny (K : PySem.W.Frag) (n : Nat) (t : TGs) : TG := fun v σ H Q => gTup K n t v σ H Q ∨ gUnl K n t v σ H Q
theorem pg_any {X : Cx} {pos : Pos} {es : List Expr} {k : Nat} {t : TGs} {n : Nat} (hc : X.calm = true) (h : PGs X es t)
    (hn : (assignEach es X.env).length = n := by rfl) (hst : (assignEach es X.env).findIdx? (·.1) = none := by rfl) : PG X (.Tuple es k pos) (gAny X.K n t) := by
  refine ⟨fun pins s σ H v u Q I r hw => ?_⟩
  rcases hw with hw | hw
  · exact (pg_tup hc h hn hst).run pins s σ H v u Q I r hw
  · exact (pg_unl hc h hn hst).run pins s σ H v u Q I r hw
theorem sg_any {n : Nat} {gs : TGs} {th : GsM} (h : SgS K gs th js) : Sg K (gAny K n gs) (gU n th) js := fun F pa G σ δ H S d x r δ' e Q q => by
  cases r with
  | tup a rs =>
    simp only [gU] at e
    split at e
    · rename_i hl
      exact .inl ⟨_, _, rfl, ex_t S.gr a.1, by rw [← rs.length]; exact hl, h F pa G σ δ H S _ _ rs _ e Q q⟩
    · cases e
  | tw a rs =>
    simp only [gU] at e
    split at e
    · rename_i hl
      exact .inl ⟨_, _, rfl, ex_t S.gr a, by rw [← rs.length]; exact hl, h F pa G σ δ H S _ _ rs _ e Q q⟩
    · cases e
  | lst a rs =>
    simp only [gU] at e
    split at e
    · rename_i hl
      exact .inr ⟨_, _, rfl, SqL.of (S.gr _ _ a), by rw [← rs.length]; exact hl, h F pa G σ δ H S _ _ rs _ e Q q⟩
    · cases e
  | ro a rs =>
    simp only [gU] at e
    split at e
    · rename_i hl
      exact .inr ⟨_, _, rfl, ex_l S.gr a, by rw [← rs.length]; exact hl, h F pa G σ δ H S _ _ rs _ e Q q⟩
    · cases e
  | non => cases e
  | bl b => cases e
  | int b => cases e
  | str b => cases e
/-- targets = e, the value kept -/
def sAsg (tg : GM) (me : EM) : SM := fun δ => (me δ).bind fun p => (fix p.1 p.2).bind fun q => (tg q.1 q.2).bind fun δ1 => some (.nxt, δ1)
theorem ss_asg (h : Sd K te me) (hg : Sg K g tg js) : SdS K (tAsg te g) (sAsg tg me) := fun F pa G σ δ H S c δ' e D q => by
  obtain ⟨p, h1, e⟩ := bind_some' e
  obtain ⟨p2, h2, e⟩ := bind_some' e
  obtain ⟨δ1, h3, e⟩ := bind_some' e
  simp only [Option.some.injEq, Prod.mk.injEq] at e
  obtain ⟨rfl, rfl⟩ := e
  refine h F pa G σ δ H S _ _ h1 _ fun G1 x H1 g1 S1 r1 => ?_
  obtain ⟨G2, g2, S2, q2⟩ := fix_ok S1 r1 h2
  exact hg F pa G2 σ _ H1 S2 _ _ q2 _ h3 _ fun σ' _ S3 => q G2 σ' H1 (g1.trans g2) S3
/-- name op= e, ints -/
def sAug (i : Nat) (f : Int → Int → Int) (me : EM) : SM := fun δ => match δ[i]? with
  | some (.val (.int a)) => (me δ).bind fun p => match p.1 with
    | .val (.int b) => some (.nxt, p.2.set i (.val (.int (f a b))))
    | _ => none
  | _ => none
theorem ss_aug {i : Nat} {f : Int → Int → Int} (h : Sd K te me) : SdS K (tAug i te (ipI f)) (sAug i f me) := fun F pa G σ δ H S c δ' e D q => by
  simp only [sAug] at e
  split at e
  · rename_i a hi
    obtain ⟨⟨r, δ1⟩, h1, e⟩ := bind_some' e
    obtain ⟨v, a1, a2⟩ := S.val i _ hi
    refine ⟨v, a1, ?_⟩
    refine h F pa G σ δ H S _ _ h1 _ fun G1 x H1 g1 S1 r1 => ?_
    simp only at e
    split at e
    · rename_i b0 b
      simp only [Option.some.injEq, Prod.mk.injEq] at e
      obtain ⟨rfl, rfl⟩ := e
      cases a2
      cases r1
      exact ⟨a, b, rfl, rfl, q G1 _ H1 g1 (S1.setVal (Rep.int _))⟩
    · cases e
  · cases e
/-- name[k] = e, the list the name's own -/
def sSub (i : Nat) (me mi : EM) : SM := fun δ => (me δ).bind fun p => match p.2[i]? with
  | some (.own _ _) => (mi p.2).bind fun q => (fix (hold p.1) q.2).bind fun z => match q.1 with
    | .val (.int k) => match z.2[i]? with
      | some (.own b ds) => (ixN ds.length k).bind fun j => some (.nxt, z.2.set i (.own b (ds.set j z.1)))
      | _ => none
    | _ => none
  | _ => none
theorem ss_sub {i : Nat} {ti : TE} {mi : EM} (h : Sd K te me) (hi : Sd K ti mi) : SdS K (tAsg te (gSub (tVar i) ti rSetL)) (sSub i me mi) := fun F pa G σ δ H S c δ' e D q => by
  obtain ⟨⟨r, δ1⟩, h1, e⟩ := bind_some' e
  simp only at e
  split at e
  · rename_i b0 ds0 hb0
    obtain ⟨⟨r2, δ2⟩, h2, e⟩ := bind_some' e
    obtain ⟨⟨d, δ3⟩, h3, e⟩ := bind_some' e
    simp only at e h2 h3
    split at e
    · rename_i k
      split at e
      · rename_i b ds hb
        obtain ⟨j, h4, e⟩ := bind_some' e
        simp only [Option.some.injEq, Prod.mk.injEq] at e
        obtain ⟨rfl, rfl⟩ := e
        refine h F pa G σ δ H S _ _ h1 _ fun G1 x H1 g1 S1 r1 => ?_
        obtain ⟨G1', g1', S1', r1'⟩ := hold_ok S1 r1
        obtain ⟨p, vs0, o1, _⟩ := S1'.own i b0 ds0 hb0
        refine ⟨_, o1, ?_⟩
        refine hi F pa G1' σ _ H1 S1' _ _ h2 _ fun G2 y H2 g2 S2 q2 => ?_
        obtain ⟨G3, g3, S3, q3⟩ := fix_ok S2 (hold_stays g2.1 r1') h3
        obtain ⟨p', vs, o2, o3, o4, o5, o6, o7⟩ := S3.own i b ds hb
        rw [o1] at o2
        cases o2
        cases q2
        refine ⟨p, vs, _, j, rfl, rfl, o6, by rw [← o7.length]; exact h4, ?_⟩
        exact q G3 σ _ (((g1.trans g1').trans g2).trans g3) (S3.mutOwn hb o1 (Reps.set j q3 o7))
      · cases e
    · cases e
  · cases e
/-- name.append(e), the list the name's own -/
def sApp (i : Nat) (me : EM) : SM := fun δ => match δ[i]? with
  | some (.own _ _) => (me δ).bind fun p => (fix (hold p.1) p.2).bind fun z => match z.2[i]? with
    | some (.own b ds) => if ds.length < 100000 then some (.nxt, z.2.set i (.own b (ds ++ [z.1]))) else none
    | _ => none
  | _ => none
theorem ss_app {i : Nat} (h : Sd K te me) : SdS K (tDrop (tBM K "list" rAppend (tVar i) (tCons te tNil))) (sApp i me) := fun F pa G σ δ H S c δ' e D q => by
  simp only [sApp] at e
  split at e
  · rename_i b0 ds0 hb0
    obtain ⟨⟨r, δ1⟩, h1, e⟩ := bind_some' e
    obtain ⟨⟨d, δ2⟩, h2, e⟩ := bind_some' e
    simp only at e h2
    split at e
    · rename_i b ds hb
      split at e
      · rename_i hl
        simp only [Option.some.injEq, Prod.mk.injEq] at e
        obtain ⟨rfl, rfl⟩ := e
        obtain ⟨p, vs0, o1, o2, o3, o4, o5, o6⟩ := S.own i b0 ds0 hb0
        refine ⟨_, o1, .inl ⟨rfl, _, SqL.of o5⟩, ?_⟩
        refine h F pa G σ δ H S _ _ h1 _ fun G1 x H1 g1 S1 r1 => ?_
        obtain ⟨G1', g1', S1', r1'⟩ := hold_ok S1 r1
        obtain ⟨G2, g2, S2, q2⟩ := fix_ok S1' r1' h2
        obtain ⟨p', vs, w1, w2, w3, w4, w5, w6⟩ := S2.own i b ds hb
        rw [o1] at w1
        cases w1
        exact ⟨p, vs, x, rfl, rfl, w5, sz_lt (by rw [← w6.length]; exact hl), q G2 σ _ ((g1.trans g1').trans g2) (S2.mutOwn hb o1 (w6.append (.cons q2 .nil)))⟩
      · cases e
    · cases e
  · cases e

/-! ### loops -/
def sWhile (mt : TM) (mb : SM) : Nat → SM
  | 0, _ => none
  | n + 1, δ => (mt δ).bind fun p => match p.1 with
    | false => some (.nxt, p.2)
    | true => (mb p.2).bind fun q => match q.1 with
      | .nxt => sWhile mt mb n q.2
      | .cnt => sWhile mt mb n q.2
      | .brk => some (.nxt, q.2)
      | .ret r => some (.ret r, q.2)
theorem ss_while {n : Nat} (ht : SdT K t mt) (hb : SdS K ts ms) : SdS K (tWhile t ts) (sWhile mt ms n) := fun F pa G σ δ H S c δ' e D q => by
  refine ⟨fun m σ' H' => ∃ Gm δm, GEx F G Gm ∧ Stt K F pa Gm σ' δm H' ∧ sWhile mt ms m δm = some (c, δ'), ⟨n, G, δ, GEx.refl F G, S, e⟩, ?_⟩
  rintro m σ' H' ⟨Gm, δm, gm, Sm, em⟩
  cases m with
  | zero => cases em
  | succ m =>
    obtain ⟨⟨b, δ1⟩, h1, em⟩ := bind_some' em
    refine ht F pa Gm σ' δm H' Sm _ _ h1 _ fun G1 H1 g1 S1 => ?_
    cases b with
    | false =>
      simp only [Option.some.injEq, Prod.mk.injEq] at em
      obtain ⟨rfl, rfl⟩ := em
      exact iteF (q G1 σ' H1 (gm.trans g1) S1)
    | true =>
      obtain ⟨⟨c1, δ2⟩, h2, em⟩ := bind_some' em
      refine iteT ⟨fun σ2 H2 => ∃ Gm δm, GEx F G Gm ∧ Stt K F pa Gm σ2 δm H2 ∧ sWhile mt ms m δm = some (c, δ'), fun σ2 H2 h => ⟨m, Nat.lt_succ_self m, h⟩, ?_⟩
      refine hb F pa G1 σ' δ1 H1 S1 _ _ h2 _ ?_
      cases c1 with
      | nxt => exact fun G2 σ2 H2 g2 S2 => ⟨G2, δ2, (gm.trans g1).trans g2, S2, em⟩
      | cnt => exact fun G2 σ2 H2 g2 S2 => ⟨G2, δ2, (gm.trans g1).trans g2, S2, em⟩
      | brk =>
        simp only [Option.some.injEq, Prod.mk.injEq] at em
        obtain ⟨rfl, rfl⟩ := em
        exact fun G2 σ2 H2 g2 S2 => q G2 σ2 H2 ((gm.trans g1).trans g2) S2
      | ret r =>
        simp only [Option.some.injEq, Prod.mk.injEq] at em
        obtain ⟨rfl, rfl⟩ := em
        exact fun G2 σ2 v H2 g2 S2 r2 => q G2 σ2 v H2 ((gm.trans g1).trans g2) S2 r2
def forD (tg : GM) (mb : SM) : List D → SM
  | [], δ => some (.nxt, δ)
  | d :: ds, δ => (tg d δ).bind fun δ1 => (mb δ1).bind fun q => match q.1 with
    | .nxt => forD tg mb ds q.2
    | .cnt => forD tg mb ds q.2
    | .brk => some (.nxt, q.2)
    | .ret r => some (.ret r, q.2)
def sFor (mi : IM) (tg : GM) (mb : SM) : SM := fun δ => (mi δ).bind fun p => forD tg mb p.1 p.2
theorem ss_for {wi : TI} {mi : IM} (hi : SdI K wi mi) (hg : Sg K g tg js) (hb : SdS K ts ms) : SdS K (tFor wi g ts) (sFor mi tg ms) := fun F pa G σ δ H S c δ' e D q => by
  obtain ⟨⟨ds, δ0⟩, h1, e⟩ := bind_some' e
  refine hi F pa G σ δ H S _ _ h1 _ fun G0 J H0 g0 S0 wk => ?_
  refine ⟨fun i m σ' H' => m = ds.length - i ∧ i ≤ ds.length ∧ ∃ Gi δi, GEx F G0 Gi ∧ Stt K F pa Gi σ' δi H' ∧ forD tg ms (ds.drop i) δi = some (c, δ'), ⟨ds.length, rfl, Nat.zero_le _, G0, δ0, GEx.refl F G0, S0, e⟩, ?_⟩
  rintro i m σ' H' ⟨rfl, hi, Gi, δi, gi, Si, ei⟩
  obtain ⟨go, stop⟩ := wk F pa i Gi σ' δi H' gi.1 Si
  by_cases hlt : i < ds.length
  · obtain ⟨go1, go2⟩ := go ds[i] (List.getElem?_eq_getElem hlt)
    rw [List.drop_eq_getElem_cons hlt] at ei
    obtain ⟨δ1, h2, ei⟩ := bind_some' ei
    obtain ⟨⟨c1, δ2⟩, h3, ei⟩ := bind_some' ei
    refine .inr ⟨go1, fun σ2 H2 => ∃ Gi δi, GEx F G0 Gi ∧ Stt K F pa Gi σ2 δi H2 ∧ forD tg ms (ds.drop (i + 1)) δi = some (c, δ'), fun σ2 H2 h => ⟨ds.length - (i + 1), by omega, rfl, hlt, h⟩, fun x H2 y => ?_⟩
    obtain ⟨G3, g3, S3, r3⟩ := go2 x H2 y
    refine hg F pa G3 σ' δi H2 S3 _ _ r3 _ h2 _ fun σ4 _ S4 => ?_
    refine hb F pa G3 σ4 δ1 H2 S4 _ _ h3 _ ?_
    cases c1 with
    | nxt => exact fun G5 σ5 H5 g5 S5 => ⟨G5, δ2, (gi.trans g3).trans g5, S5, ei⟩
    | cnt => exact fun G5 σ5 H5 g5 S5 => ⟨G5, δ2, (gi.trans g3).trans g5, S5, ei⟩
    | brk =>
      simp only [Option.some.injEq, Prod.mk.injEq] at ei
      obtain ⟨rfl, rfl⟩ := ei
      exact fun G5 σ5 H5 g5 S5 => q G5 σ5 H5 (((g0.trans gi).trans g3).trans g5) S5
    | ret r =>
      simp only [Option.some.injEq, Prod.mk.injEq] at ei
      obtain ⟨rfl, rfl⟩ := ei
      exact fun G5 σ5 v H5 g5 S5 r5 => q G5 σ5 v H5 (((g0.trans gi).trans g3).trans g5) S5 r5
  · have e1 : i = ds.length := by omega
    subst e1
    rw [List.drop_length] at ei
    simp only [forD, Option.some.injEq, Prod.mk.injEq] at ei
    obtain ⟨rfl, rfl⟩ := ei
    exact .inl ⟨stop rfl, q Gi σ' H' (g0.trans gi) Si⟩
end
end Pd
end
section
set_option Elab.async false
set_option linter.all false
set_option maxRecDepth 100000
set_option maxHeartbeats 1000000
namespace Pd
open PySem PySem.Spec PyProof.Rows L2 Evl

section
variable {K : PySem.W.Frag} {F G G' H H' : Hp} {pa : Addr} {σ : L2.St} {δ δ' : DEnv} {v : V} {r : R} {ta tb te tc : TE} {ma mb me mc : EM} {t u : TT} {mt mu : TM} {ts us : TS} {ms ns : SM} {g : TG} {tg : GM} {js : List Nat}

/-! ### comprehensions -/
/-- the slots at vs forgotten; put back as they were -/
@[simp] def blk : List Nat → DEnv → DEnv
  | [], δ => δ
  | v :: vs, δ => (blk vs δ).set v .none
@[simp] def back (δ : DEnv) : List Nat → DEnv → DEnv
  | [], δ2 => δ2
  | v :: vs, δ2 => (back δ vs δ2).set v (match δ[v]? with | some x => x | none => .none)
@[simp] def noOwn (δ : DEnv) (vs : List Nat) : Bool := vs.all fun v => match δ[v]? with
  | some (.own _ _) => false
  | _ => true
theorem blk_len : ∀ (vs : List Nat) (δ : DEnv), (blk vs δ).length = δ.length
  | [], _ => rfl
  | v :: vs, δ => by unfold blk; rw [List.length_set, blk_len vs δ]
theorem back_len (δ : DEnv) : ∀ (vs : List Nat) (δ2 : DEnv), (back δ vs δ2).length = δ2.length
  | [], _ => rfl
  | v :: vs, δ2 => by unfold back; rw [List.length_set, back_len δ vs δ2]
theorem blk_get {i : Nat} : ∀ {vs : List Nat} {δ : DEnv}, i ∉ vs → (blk vs δ)[i]? = δ[i]?
  | [], _, _ => rfl
  | v :: vs, δ, h => by
    unfold blk
    rw [get_set_ne (fun z => h (by rw [z]; exact List.mem_cons_self))]
    exact blk_get (fun z => h (List.mem_cons_of_mem _ z))
theorem blk_none {i : Nat} : ∀ {vs : List Nat} {δ : DEnv} {x : Sl}, i ∈ vs → (blk vs δ)[i]? = some x → x = .none
  | [], _, _, h, _ => by cases h
  | v :: vs, δ, x, h, e => by
    unfold blk at e
    by_cases hv : v = i
    · subst hv
      have hl : v < ((blk vs δ).set v Sl.none).length := (List.getElem?_eq_some_iff.mp e).1
      rw [List.length_set] at hl
      rw [List.getElem?_set_self hl] at e
      exact (Option.some.inj e).symm
    · rw [get_set_ne hv] at e
      rcases List.mem_cons.mp h with z | z
      · exact absurd z.symm hv
      · exact blk_none z e
theorem back_get {i : Nat} {δ : DEnv} : ∀ {vs : List Nat} {δ2 : DEnv}, i ∉ vs → (back δ vs δ2)[i]? = δ2[i]?
  | [], _, _ => rfl
  | v :: vs, δ2, h => by
    unfold back
    rw [get_set_ne (fun z => h (by rw [z]; exact List.mem_cons_self))]
    exact back_get (fun z => h (List.mem_cons_of_mem _ z))
theorem back_in {i : Nat} {δ : DEnv} : ∀ {vs : List Nat} {δ2 : DEnv} {x : Sl}, i ∈ vs → (back δ vs δ2)[i]? = some x → (match δ[i]? with | some x => x | none => Sl.none) = x
  | [], _, _, h, _ => by cases h
  | v :: vs, δ2, x, h, e => by
    unfold back at e
    by_cases hv : v = i
    · subst hv
      have hl := (List.getElem?_eq_some_iff.mp e).1
      rw [List.length_set] at hl
      rw [List.getElem?_set_self hl] at e
      exact Option.some.inj e
    · rw [get_set_ne hv] at e
      rcases List.mem_cons.mp h with z | z
      · exact absurd z.symm hv
      · exact back_in z e
theorem wipe_get {i : Nat} : ∀ {vs : List Nat} {σ : L2.St}, i ∉ vs → (wipe σ vs)[i]? = σ[i]?
  | [], _, _ => rfl
  | v :: vs, σ, h => by
    unfold wipe
    rw [get_set_ne (fun z => h (by rw [z]; exact List.mem_cons_self))]
    exact wipe_get (fun z => h (List.mem_cons_of_mem _ z))
theorem wipe_wipe (σ : L2.St) : ∀ vs : List Nat, ∀ ws : List Nat, (∀ j ∈ ws, j ∈ vs) → wipe (wipe σ ws) vs = wipe σ vs
  | vs, [], _ => rfl
  | vs, w :: ws, h => by
    show wipe ((wipe σ ws).set w none) vs = wipe σ vs
    rw [wipe_comm _ _ vs w (h w List.mem_cons_self)]
    exact wipe_wipe σ vs ws fun j hj => h j (List.mem_cons_of_mem _ hj)
theorem Stt.blk (S : Stt K F pa G σ δ H) (vs : List Nat) : Stt K F pa G (wipe σ vs) (Pd.blk vs δ) H := by
  refine ⟨S.fr, S.gr, by rw [wipe_length, blk_len]; exact S.len, fun i d hi => ?_, fun i b ds hi => ?_, fun i j b c ds es p hi hj h1 h2 => ?_⟩
  · by_cases hm : i ∈ vs
    · cases blk_none hm hi
    · rw [blk_get hm] at hi
      rw [wipe_get hm]
      exact S.val i d hi
  · by_cases hm : i ∈ vs
    · cases blk_none hm hi
    · rw [blk_get hm] at hi
      rw [wipe_get hm]
      exact S.own i b ds hi
  · by_cases hm : i ∈ vs
    · cases blk_none hm hi
    · by_cases hm' : j ∈ vs
      · cases blk_none hm' hj
      · rw [blk_get hm] at hi
        rw [blk_get hm'] at hj
        rw [wipe_get hm] at h1
        rw [wipe_get hm'] at h2
        exact S.inj i j b c ds es p hi hj h1 h2
/-- behind a block: the outer names as they were, but for owned lists -/
theorem Stt.back {F' : Hp} {σ2 : L2.St} {δ2 : DEnv} {vs : List Nat} (S : Stt K F pa G σ δ H) (S2 : Stt K F' pa G' σ2 δ2 H') (e : Ex G G') (hw : wipe σ2 vs = wipe σ vs) (no : noOwn δ vs = true) : Stt K F' pa G' σ (Pd.back δ vs δ2) H' := by
  have out : ∀ {i : Nat}, i ∉ vs → σ2[i]? = σ[i]? := fun {i} hm => by
    have z : (wipe σ2 vs)[i]? = (wipe σ vs)[i]? := by rw [hw]
    rw [wipe_get hm, wipe_get hm] at z
    exact z
  have hlen : σ2.length = σ.length := by
    have z := congrArg List.length hw
    rw [wipe_length, wipe_length] at z
    exact z
  have ow : ∀ {i b ds}, (Pd.back δ vs δ2)[i]? = some (Sl.own b ds) → i ∉ vs ∧ δ2[i]? = some (Sl.own b ds) := fun {i b ds} hi => by
    by_cases hm : i ∈ vs
    · have z := back_in hm hi
      have q := (List.all_eq_true.mp no) i hm
      cases h : δ[i]? with
      | none => rw [h] at z; cases z
      | some x =>
        rw [h] at z q
        simp only at z
        subst z
        cases q
    · rw [back_get hm] at hi
      exact ⟨hm, hi⟩
  refine ⟨S2.fr, S2.gr, by rw [back_len, ← S2.len, hlen], fun i d hi => ?_, fun i b ds hi => ?_, fun i j b c ds es p hi hj h1 h2 => ?_⟩
  · by_cases hm : i ∈ vs
    · have z := back_in hm hi
      cases h : δ[i]? with
      | none => rw [h] at z; cases z
      | some x =>
        rw [h] at z
        simp only at z
        subst z
        obtain ⟨v, a1, a2⟩ := S.val i d h
        exact ⟨v, a1, a2.mono e⟩
    · rw [back_get hm] at hi
      obtain ⟨v, a1, a2⟩ := S2.val i d hi
      rw [out hm] at a1
      exact ⟨v, a1, a2⟩
  · obtain ⟨hm, hi⟩ := ow hi
    obtain ⟨p, us, a1, a2⟩ := S2.own i b ds hi
    rw [out hm] at a1
    exact ⟨p, us, a1, a2⟩
  · obtain ⟨hm, hi⟩ := ow hi
    obtain ⟨hm', hj⟩ := ow hj
    rw [← out hm] at h1
    rw [← out hm'] at h2
    exact S2.inj i j b c ds es p hi hj h1 h2
/-- a list that a comprehension fills stands in the frame meanwhile -/
theorem Stt.frame {Dl : Addr} {xs : List V} (S : Stt K F pa G σ δ H) (hn : H Dl = none) : Stt K (upd F Dl (.lst xs)) pa G σ δ (upd H Dl (.lst xs)) := by
  have e : Ex H (upd H Dl (.lst xs)) := Ex.new hn
  refine ⟨fun a o q => ?_, S.gr.trans e, S.len, S.val, fun i b ds hi => ?_, S.inj⟩
  · by_cases ha : a = Dl
    · subst ha
      rw [upd_same] at q ⊢
      exact q
    · rw [upd_ne ha] at q ⊢
      exact S.fr a o q
  · obtain ⟨p, us, h1, h2, h3, h4, h5, h6⟩ := S.own i b ds hi
    have hp : p ≠ Dl := ne_of_none h5 hn
    exact ⟨p, us, h1, h2, by rw [upd_ne hp]; exact h3, h4, e _ _ h5, h6⟩
theorem Stt.reframe {Dl : Addr} {xs ys : List V} (S : Stt K (upd F Dl (.lst xs)) pa G σ δ H) (hG : G Dl = none) : Stt K (upd F Dl (.lst ys)) pa G σ δ (upd H Dl (.lst ys)) := by
  refine ⟨fun a o q => ?_, fun a o q => ?_, S.len, S.val, fun i b ds hi => ?_, S.inj⟩
  · by_cases ha : a = Dl
    · subst ha
      rw [upd_same] at q ⊢
      exact q
    · rw [upd_ne ha] at q ⊢
      exact S.fr a o (by rw [upd_ne ha]; exact q)
  · rw [upd_ne (ne_of_none q hG)]
    exact S.gr a o q
  · obtain ⟨p, us, h1, h2, h3, h4, h5, h6⟩ := S.own i b ds hi
    have hp : p ≠ Dl := fun z => by rw [z, upd_same] at h3; cases h3
    rw [upd_ne hp] at h3
    exact ⟨p, us, h1, h2, by rw [upd_ne hp]; exact h3, h4, by rw [upd_ne hp]; exact h5, h6⟩
theorem Stt.unframe {Dl : Addr} {xs : List V} (S : Stt K (upd F Dl (.lst xs)) pa G σ δ H) (hF : F Dl = none) : Stt K F pa G σ δ H := by
  refine ⟨(Ex.new hF).trans S.fr, S.gr, S.len, S.val, fun i b ds hi => ?_, S.inj⟩
  obtain ⟨p, us, h1, h2, h3, h4, h5, h6⟩ := S.own i b ds hi
  have hp : p ≠ Dl := fun z => by rw [z, upd_same] at h3; cases h3
  rw [upd_ne hp] at h3
  exact ⟨p, us, h1, h2, h3, h4, h5, h6⟩
theorem GEx.unframe {Dl : Addr} {o : HO} (e : GEx (upd F Dl o) G G') : GEx F G G' := ⟨e.1, fun a h => e.2 a (by
  by_cases ha : a = Dl
  · subst ha; rw [upd_same]; exact fun z => nomatch z
  · rw [upd_ne ha]; exact h)⟩
theorem GEx.at {Dl : Addr} {o : HO} (e : GEx (upd F Dl o) G G') (h : G Dl = none) : G' Dl = none := (e.2 Dl (by rw [upd_same]; exact fun z => nomatch z)).trans h

def lcD (tg : GM) (mt : TM) (me : EM) (vs : List Nat) : List D → DEnv → List D → Option (R × DEnv)
  | [], δ, acc => some (.tmp acc, δ)
  | d :: ds, δ, acc => (tg d (blk vs δ)).bind fun δ1 => (mt δ1).bind fun p => match p.1 with
    | true => (me p.2).bind fun q => (fix (hold q.1) q.2).bind fun z => if acc.length < 100000 then lcD tg mt me vs ds (back δ vs z.2) (acc ++ [z.1]) else none
    | false => lcD tg mt me vs ds (back δ vs p.2) acc
def eLc (mi : IM) (tg : GM) (mt : TM) (me : EM) (vs : List Nat) : EM := fun δ => (mi δ).bind fun p => if noOwn p.2 vs = true then lcD tg mt me vs p.1 p.2 [] else none
theorem noOwn_back {δ2 : DEnv} {vs : List Nat} (h : noOwn δ vs = true) : noOwn (back δ vs δ2) vs = true := by
  refine List.all_eq_true.mpr fun v hv => ?_
  have q := (List.all_eq_true.mp h) v hv
  cases e : (back δ vs δ2)[v]? with
  | none => rfl
  | some x =>
    have z := back_in hv e
    cases h : δ[v]? with
    | none => rw [h] at z; subst z; rfl
    | some y =>
      rw [h] at z q
      simp only at z
      subst z
      exact q
theorem sd_lc {wi : TI} {mi : IM} {vs : List Nat} (hi : SdI K wi mi) (hg : Sg K g tg js) (ht : SdT K t mt) (he : Sd K te me) (hj : ∀ j ∈ js, j ∈ vs) : Sd K (tLc wi g t te vs) (eLc mi tg mt me vs) := fun F pa G σ δ H S r' δ' e Q q => by
  obtain ⟨⟨ds, δ0⟩, h1, e⟩ := bind_some' e
  simp only at e
  split at e
  · rename_i no
    refine hi F pa G σ δ H S _ _ h1 _ fun G0 J H0 g0 S0 wk => ?_
    intro Dl hD
    have hFD : F Dl = none := none_of_ex S0.fr hD
    have hGD : G0 Dl = none := none_of_ex S0.gr hD
    refine ⟨fun i m H' => m = ds.length - i ∧ i ≤ ds.length ∧ ∃ Gi δi acc accV, GEx F G0 Gi ∧ Gi Dl = none ∧ Stt K (upd F Dl (.lst accV)) pa Gi σ δi H' ∧ Reps K Gi acc accV ∧ acc.length ≤ 100000 ∧ noOwn δi vs = true ∧ lcD tg mt me vs (ds.drop i) δi acc = some (r', δ'),
      ⟨ds.length, rfl, Nat.zero_le _, G0, δ0, [], [], GEx.refl F G0, hGD, S0.frame hD, .nil, Nat.zero_le _, no, e⟩, ?_⟩
    rintro i m H' ⟨rfl, hi, Gi, δi, acc, accV, gi, hGi, Si, ra, hl, noi, ei⟩
    obtain ⟨go, stop⟩ := wk _ pa i Gi σ δi H' gi.1 Si
    by_cases hlt : i < ds.length
    · obtain ⟨go1, go2⟩ := go ds[i] (List.getElem?_eq_getElem hlt)
      rw [List.drop_eq_getElem_cons hlt] at ei
      obtain ⟨δ1, h2, ei⟩ := bind_some' ei
      obtain ⟨⟨b, δ2⟩, h3, ei⟩ := bind_some' ei
      refine .inr ⟨go1, fun H2 => ∃ Gi δi acc accV, GEx F G0 Gi ∧ Gi Dl = none ∧ Stt K (upd F Dl (.lst accV)) pa Gi σ δi H2 ∧ Reps K Gi acc accV ∧ acc.length ≤ 100000 ∧ noOwn δi vs = true ∧ lcD tg mt me vs (ds.drop (i + 1)) δi acc = some (r', δ'),
        fun H2 h => ⟨ds.length - (i + 1), by omega, rfl, hlt, h⟩, fun x H2 y => ?_⟩
      -- the walk's step may lay a new object
      obtain ⟨G3, g3, S3, r3⟩ := (wk _ pa i Gi _ _ H' gi.1 (Si.blk vs)).1 ds[i] (List.getElem?_eq_getElem hlt) |>.2 x H2 y
      obtain ⟨G3', g3', S3', _⟩ := go2 x H2 y
      refine hg _ pa G3 (wipe σ vs) (blk vs δi) H2 S3 _ _ r3 _ h2 _ fun σ4 w4 S4 => ?_
      have hw : wipe σ4 vs = wipe σ vs := (w4 vs hj).trans (wipe_wipe σ vs vs fun _ h => h)
      refine ⟨by rw [hw], ?_⟩
      refine ht _ pa G3 σ4 δ1 H2 S4 _ _ h3 _ fun G5 H5 g5 S5 => ?_
      cases b with
      | true =>
        obtain ⟨⟨r, δ3⟩, h4, ei⟩ := bind_some' ei
        obtain ⟨⟨d, δ4⟩, h5, ei⟩ := bind_some' ei
        simp only at h4 h5 ei
        split at ei
        · rename_i hacc
          refine iteT ?_
          refine he _ pa G5 σ4 δ2 H5 S5 _ _ h4 _ fun G6 yv H6 g6 S6 r6 => ?_
          obtain ⟨G6', g6', S6', r6'⟩ := hold_ok S6 r6
          obtain ⟨G7, g7, S7, r7⟩ := fix_ok S6' r6' h5
          have gall := ((((g3.trans g5).trans g6).trans g6').trans g7)
          have hG7 : G7 Dl = none := gall.at hGi
          refine ⟨accV, S7.fr Dl _ upd_same, sz_lt (by rw [← ra.length]; exact hacc), ?_⟩
          refine ⟨G7, _, _, _, gi.trans gall.unframe, hG7, (Si.back S7 gall.1 hw noi).reframe hG7, (ra.mono gall.1).append (.cons r7 .nil), ?_, noOwn_back noi, ei⟩
          rw [List.length_append]
          show acc.length + 1 ≤ 100000
          omega
        · cases ei
      | false =>
        refine iteF ?_
        have gall := g3.trans g5
        exact ⟨G5, _, acc, accV, gi.trans gall.unframe, gall.at hGi, Si.back S5 gall.1 hw noi, ra.mono gall.1, hl, noOwn_back noi, ei⟩
    · have e1 : i = ds.length := by omega
      subst e1
      rw [List.drop_length] at ei
      simp only [lcD, Option.some.injEq, Prod.mk.injEq] at ei
      obtain ⟨rfl, rfl⟩ := ei
      refine .inl ⟨stop rfl, ?_⟩
      refine q Gi _ H' (g0.trans gi) (Si.unframe hFD) ⟨Dl, accV, rfl, hGi, hFD, Si.fr Dl _ upd_same, ra, fun k b es hk z => ?_⟩
      obtain ⟨p, us, a1, a2, a3, _⟩ := Si.own k b es hk
      rw [z] at a1
      cases a1
      rw [upd_same] at a3
      cases a3
  · cases e
def mYes : TM := fun δ => some (true, δ)
theorem st_yes' : SdT K tYes mYes := fun F pa G σ δ H S b δ' e Q q => by
  simp only [mYes, Option.some.injEq, Prod.mk.injEq] at e
  obtain ⟨rfl, rfl⟩ := e
  exact q G H (GEx.refl F G) S
end
end Pd
end
section
set_option Elab.async false
set_option linter.all false
set_option maxRecDepth 100000
set_option maxHeartbeats 1000000
namespace Pd
open PySem PySem.Spec PyProof.Rows L2 Evl

section
variable {K : PySem.W.Frag} {F G G' H H' : Hp} {pa : Addr} {σ : L2.St} {δ δ' : DEnv} {v : V} {r : R} {ta tb te tc : TE} {ma mb me mc : EM} {t u : TT} {mt mu : TM} {ts us : TS} {ms ns : SM} {g : TG} {tg : GM} {js : List Nat}

/-! ### what is walked -/
def iAny (K : PySem.W.Frag) (tl : TE) : TI := fun σ H R => iList K tl σ H R ∨ iTup K tl σ H R
theorem pi_any {X : Cx} {tg l : Expr} {tl : TE} (hl : PE X l tl) : PI X tg l (iAny X.K tl) := by
  refine ⟨fun pins s σ H R I h => ?_⟩
  rcases h with h | h
  · exact (pi_list hl).run pins s σ H R I h
  · exact (pi_tup hl).run pins s σ H R I h
def iSeq (me : EM) : IM := fun δ => (me δ).bind fun p => (fix p.1 p.2).bind fun q => match q.1 with
  | .lst ds => some (ds, q.2)
  | .tup ds => some (ds, q.2)
  | .ro ds => some (ds, q.2)
  | _ => none
theorem wk_list {a : Addr} {ds : List D} {vs : List V} (h : SqL K G a vs) (r : Reps K G ds vs) : Wk K G (Itl K a) ds := fun F pa i G2 σ2 δ2 H2 e S => by
  have hq : SqL K H2 a vs := ex_l (e.trans S.gr) h
  refine ⟨fun d hd => ?_, fun hn => ⟨vs, hq, ?_⟩⟩
  · obtain ⟨v, hv, rv⟩ := r.get hd
    refine ⟨⟨vs, v, hq, hv⟩, fun x H' y => ?_⟩
    obtain ⟨rfl, y⟩ := y
    have e1 : x = v := by
      have := y vs hq
      rw [hv] at this
      exact (Option.some.inj this).symm
    subst e1
    exact ⟨G2, GEx.refl F G2, S, rv.mono e⟩
  · rw [← r.length, hn]
    exact Nat.le_refl _
theorem wk_tup {a : Addr} {ds : List D} {vs : List V} (h : SqT K G a vs) (r : Reps K G ds vs) : Wk K G (Itt K a) ds := fun F pa i G2 σ2 δ2 H2 e S => by
  have hq : SqT K H2 a vs := ex_t (e.trans S.gr) h
  refine ⟨fun d hd => ?_, fun hn => ⟨vs, hq, ?_⟩⟩
  · obtain ⟨v, hv, rv⟩ := r.get hd
    refine ⟨⟨vs, v, hq, hv⟩, fun x H' y => ?_⟩
    obtain ⟨rfl, y⟩ := y
    have e1 : x = v := by
      have := y vs hq
      rw [hv] at this
      exact (Option.some.inj this).symm
    subst e1
    exact ⟨G2, GEx.refl F G2, S, rv.mono e⟩
  · rw [← r.length, hn]
    exact Nat.le_refl _
theorem si_any (h : Sd K te me) : SdI K (iAny K te) (iSeq me) := fun F pa G σ δ H S ds δ' e R q => by
  obtain ⟨p, h1, e⟩ := bind_some' e
  obtain ⟨⟨d, δ1⟩, h2, e⟩ := bind_some' e
  simp only at e
  have go : ∀ (Q : VK), (∀ G' x H', GEx F G G' → Stt K F pa G' σ δ1 H' → Rep K G' d x → Q x H') → te σ H Q := fun Q k => by
    refine h F pa G σ δ H S _ _ h1 _ fun G1 x H1 g1 S1 r1 => ?_
    obtain ⟨G2, g2, S2, q2⟩ := fix_ok S1 r1 h2
    exact k G2 x H1 (g1.trans g2) S2 q2
  cases d with
  | lst l =>
    simp only [Option.some.injEq, Prod.mk.injEq] at e
    obtain ⟨rfl, rfl⟩ := e
    refine .inl (go _ fun G1 x H1 g1 S1 r1 => ?_)
    cases r1 with
    | lst a rs => exact ⟨_, rfl, ⟨_, SqL.of (S1.gr _ _ a)⟩, q G1 _ H1 g1 S1 (wk_list (SqL.of a) rs)⟩
  | ro l =>
    simp only [Option.some.injEq, Prod.mk.injEq] at e
    obtain ⟨rfl, rfl⟩ := e
    refine .inl (go _ fun G1 x H1 g1 S1 r1 => ?_)
    cases r1 with
    | ro a rs => exact ⟨_, rfl, ⟨_, ex_l S1.gr a⟩, q G1 _ H1 g1 S1 (wk_list a rs)⟩
  | tup l =>
    simp only [Option.some.injEq, Prod.mk.injEq] at e
    obtain ⟨rfl, rfl⟩ := e
    refine .inr (go _ fun G1 x H1 g1 S1 r1 => ?_)
    cases r1 with
    | tup a rs => exact ⟨_, rfl, ⟨_, ex_t S1.gr a.1⟩, q G1 _ H1 g1 S1 (wk_tup a.1 rs)⟩
  | non => cases e
  | bl b => cases e
  | int b => cases e
  | str b => cases e
  | tw b => cases e
@[simp] def rangeD : Int → Nat → List D
  | _, 0 => []
  | lo, n + 1 => .int lo :: rangeD (lo + 1) n
theorem rangeD_len : ∀ (n : Nat) (lo : Int), (rangeD lo n).length = n
  | 0, _ => rfl
  | n + 1, lo => by
    show (rangeD (lo + 1) n).length + 1 = n + 1
    rw [rangeD_len n]
theorem rangeD_get : ∀ (n : Nat) (lo : Int) (i : Nat), i < n → (rangeD lo n)[i]? = some (.int (lo + i))
  | 0, _, _, h => by omega
  | n + 1, lo, 0, _ => by
    show some (Pd.D.int lo) = _
    rw [show lo + ((0 : Nat) : Int) = lo by omega]
  | n + 1, lo, i + 1, h => by
    show (rangeD (lo + 1) n)[i]? = _
    rw [rangeD_get n (lo + 1) i (by omega)]
    congr 2
    omega
theorem wk_range {lo : Int} {n : Nat} : Wk K G (Itr lo n) (rangeD lo n) := fun F pa i G2 σ2 δ2 H2 e S => by
  refine ⟨fun d hd => ?_, fun hn => ?_⟩
  · have hi : i < n := by
      have := (List.getElem?_eq_some_iff.mp hd).1
      rw [rangeD_len] at this
      exact this
    rw [rangeD_get n lo i hi] at hd
    cases hd
    refine ⟨hi, fun x H' y => ?_⟩
    obtain ⟨rfl, rfl⟩ := y
    exact ⟨G2, GEx.refl F G2, S, .int _⟩
  · rw [rangeD_len] at hn
    subst hn
    exact Nat.le_refl _
def iR1 (ma : AM) : IM := fun δ => (ma δ).bind fun p => match p.1 with
  | [.val (.int j)] => if -4611686018427387904 ≤ j ∧ j < 4611686018427387904 then some (rangeD 0 j.toNat, p.2) else none
  | _ => none
theorem si_r1 {ta : TA} {ma : AM} (h : SdA K ta ma) : SdI K (iRng1 ta) (iR1 ma) := fun F pa G σ δ H S ds δ' e R q => by
  obtain ⟨⟨rs, δ1⟩, h1, e⟩ := bind_some' e
  simp only at e
  split at e
  · rename_i j
    split at e
    · rename_i hj
      simp only [Option.some.injEq, Prod.mk.injEq] at e
      obtain ⟨rfl, rfl⟩ := e
      refine h F pa G σ δ H S _ _ h1 _ fun G1 vs H1 g1 S1 r1 => ?_
      cases r1 with
      | cons a b =>
        cases b
        cases a
        exact ⟨_, rfl, hj.1, hj.2, q G1 _ H1 g1 S1 wk_range⟩
    · cases e
  · cases e
def iR2 (ma : AM) : IM := fun δ => (ma δ).bind fun p => match p.1 with
  | [.val (.int i), .val (.int j)] => if -4611686018427387904 ≤ i ∧ i < 4611686018427387904 ∧ -4611686018427387904 ≤ j ∧ j < 4611686018427387904 then some (rangeD i (j - i).toNat, p.2) else none
  | _ => none
theorem si_r2 {ta : TA} {ma : AM} (h : SdA K ta ma) : SdI K (iRng2 ta) (iR2 ma) := fun F pa G σ δ H S ds δ' e R q => by
  obtain ⟨⟨rs, δ1⟩, h1, e⟩ := bind_some' e
  simp only at e
  split at e
  · rename_i i j
    split at e
    · rename_i hj
      simp only [Option.some.injEq, Prod.mk.injEq] at e
      obtain ⟨rfl, rfl⟩ := e
      refine h F pa G σ δ H S _ _ h1 _ fun G1 vs H1 g1 S1 r1 => ?_
      cases r1 with
      | cons a b =>
        cases b with
        | cons c d =>
          cases d
          cases a
          cases c
          exact ⟨_, _, rfl, hj, q G1 _ H1 g1 S1 wk_range⟩
    · cases e
  · cases e
/-- enumerate of a list -/
@[simp] def enumD : Int → List D → List D
  | _, [] => []
  | i, d :: ds => .tw [.int i, d] :: enumD (i + 1) ds
theorem enumD_len : ∀ (ds : List D) (i : Int), (enumD i ds).length = ds.length
  | [], _ => rfl
  | d :: ds, i => by
    show (enumD (i + 1) ds).length + 1 = ds.length + 1
    rw [enumD_len ds]
theorem enumD_get : ∀ (ds : List D) (k : Int) (i : Nat) (d : D), ds[i]? = some d → (enumD k ds)[i]? = some (.tw [.int (k + i), d])
  | [], _, _, _, h => by simp at h
  | e :: ds, k, 0, d, h => by
    have h' : e = d := Option.some.inj h
    subst h'
    show some (Pd.D.tw [.int k, e]) = _
    rw [show k + ((0 : Nat) : Int) = k by omega]
  | e :: ds, k, i + 1, d, h => by
    show (enumD (k + 1) ds)[i]? = _
    rw [enumD_get ds (k + 1) i d (by simpa using h)]
    congr 4
    omega
theorem wk_enum {a : Addr} {ds : List D} {vs : List V} (h : SqL K G a vs) (r : Reps K G ds vs) : Wk K G (Ite K a) (enumD 0 ds) := fun F pa i G2 σ2 δ2 H2 e S => by
  have hq : SqL K H2 a vs := ex_l (e.trans S.gr) h
  refine ⟨fun d hd => ?_, fun hn => ⟨vs, hq, ?_⟩⟩
  · have hl : i < ds.length := by
      have := (List.getElem?_eq_some_iff.mp hd).1
      rw [enumD_len] at this
      exact this
    rw [enumD_get ds 0 i _ (List.getElem?_eq_getElem hl)] at hd
    obtain ⟨v, hv, rv⟩ := r.get (List.getElem?_eq_getElem hl)
    refine ⟨⟨vs, v, hq, hv⟩, fun x H' y => ?_⟩
    cases hd
    obtain ⟨T, x', rfl, hT, rfl, y⟩ := y
    have e1 : x' = v := by
      have := y vs hq
      rw [hv] at this
      exact (Option.some.inj this).symm
    subst e1
    refine ⟨_, S.gexNew hT, S.newG hT, Rep.tw (SqT.of upd_same) (.cons ?_ (.cons (rv.mono (e.trans (S.gexNew (F := F) hT).1)) .nil))⟩
    rw [show (0 : Int) + (i : Int) = (i : Int) by omega]
    exact .int _
  · rw [← r.length, hn, enumD_len]
    exact Nat.le_refl _
def iEn (ma : AM) : IM := fun δ => (ma δ).bind fun p => (keep p.1 p.2).bind fun q => match q.1 with
  | [.lst ds] => some (enumD 0 ds, q.2)
  | [.ro ds] => some (enumD 0 ds, q.2)
  | _ => none
theorem si_enum {ta : TA} {ma : AM} (h : SdA K ta ma) : SdI K (iEnum K ta) (iEn ma) := fun F pa G σ δ H S ds δ' e R q => by
  obtain ⟨p, h1, e⟩ := bind_some' e
  obtain ⟨⟨es, δ1⟩, h2, e⟩ := bind_some' e
  simp only at e
  split at e
  · simp only [Option.some.injEq, Prod.mk.injEq] at e
    obtain ⟨rfl, rfl⟩ := e
    refine h F pa G σ δ H S _ _ h1 _ fun G1 vs H1 g1 S1 r1 => ?_
    obtain ⟨G2, g2, S2, q2⟩ := keep_ok S1 r1 h2
    cases q2 with
    | cons a b =>
      cases b
      cases a with
      | lst ha rs => exact ⟨_, _, rfl, SqL.of (S2.gr _ _ ha), q G2 _ H1 (g1.trans g2) S2 (wk_enum (SqL.of ha) rs)⟩
  · simp only [Option.some.injEq, Prod.mk.injEq] at e
    obtain ⟨rfl, rfl⟩ := e
    refine h F pa G σ δ H S _ _ h1 _ fun G1 vs H1 g1 S1 r1 => ?_
    obtain ⟨G2, g2, S2, q2⟩ := keep_ok S1 r1 h2
    cases q2 with
    | cons a b =>
      cases b
      cases a with
      | ro ha rs => exact ⟨_, _, rfl, ex_l S2.gr ha, q G2 _ H1 (g1.trans g2) S2 (wk_enum ha rs)⟩
  · cases e

/-! ### slices -/
def So (K : PySem.W.Frag) (r : V → Option Int → Option Int → Hp → VK → Prop) (f : D → Option Int → Option Int → Option OR) : Prop := ∀ G H x lo hi a o, Ex G H → RepN K G H a x → f a lo hi = some o → ∀ Q : VK, Fin K G H o Q → r x lo hi H Q
def oNo : OM := fun δ => some (none, δ)
def oPart (me : EM) : OM := fun δ => (me δ).bind fun p => match p.1 with
  | .val (.int i) => some (some i, p.2)
  | _ => none
theorem so_no : SdO K tNoPart oNo := fun F pa G σ δ H S x δ' e Q q => by
  simp only [oNo, Option.some.injEq, Prod.mk.injEq] at e
  obtain ⟨rfl, rfl⟩ := e
  exact q G H (GEx.refl F G) S
theorem so_part (h : Sd K te me) : SdO K (tPart te) (oPart me) := fun F pa G σ δ H S x δ' e Q q => by
  obtain ⟨⟨r, δ1⟩, h1, e⟩ := bind_some' e
  simp only at e
  split at e
  · rename_i i
    simp only [Option.some.injEq, Prod.mk.injEq] at e
    obtain ⟨rfl, rfl⟩ := e
    refine h F pa G σ δ H S _ _ h1 _ fun G1 x H1 g1 S1 r1 => ?_
    cases r1
    exact ⟨_, rfl, q G1 H1 g1 S1⟩
  · cases e
def eSl (f : D → Option Int → Option Int → Option OR) (me : EM) (ml mh : OM) : EM := fun δ => (me δ).bind fun p => (ml p.2).bind fun l => (mh l.2).bind fun h => (rd (hold p.1) h.2).bind fun a => (f a l.1 h.1).bind fun o => some (o.r, h.2)
theorem sd_sl {r : V → Option Int → Option Int → Hp → VK → Prop} {f : D → Option Int → Option Int → Option OR} {tl th : TO} {ml mh : OM} (hr : So K r f) (he : Sd K te me) (hl : SdO K tl ml) (hh : SdO K th mh) : Sd K (tSl r te tl th) (eSl f me ml mh) := fun F pa G σ δ H S r' δ' e Q q => by
  obtain ⟨p, h1, e⟩ := bind_some' e
  obtain ⟨l, h2, e⟩ := bind_some' e
  obtain ⟨h, h3, e⟩ := bind_some' e
  obtain ⟨a, h4, e⟩ := bind_some' e
  obtain ⟨o, h5, e⟩ := bind_some' e
  simp only [Option.some.injEq, Prod.mk.injEq] at e
  obtain ⟨rfl, rfl⟩ := e
  refine he F pa G σ δ H S _ _ h1 _ fun G1 x H1 g1 S1 r1 => ?_
  obtain ⟨G1', g1', S1', r1'⟩ := hold_ok S1 r1
  refine hl F pa G1' σ _ H1 S1' _ _ h2 _ fun G2 H2 g2 S2 => ?_
  refine hh F pa G2 σ _ H2 S2 _ _ h3 _ fun G3 H3 g3 S3 => ?_
  exact hr G3 H3 x _ _ a o S3.gr (rd_ok S3 (hold_stays (g2.trans g3).1 r1') h4) h5 Q (fin_ok S3 fun G' v H' g S' r' => q G' v H' ((((g1.trans g1').trans g2).trans g3).trans g) S' r')

/-! ### own defs -/
def ResR (K : PySem.W.Frag) (H G' H' : Hp) : OR → V → Prop
  | .v d, v => Rep K G' d v
  | .t ds, v => Rep K G' (.tup ds) v
  | .l ds, v => ∃ p vs, v = .ref p ∧ H p = none ∧ G' p = none ∧ H' p = some (.lst vs) ∧ Reps K G' ds vs
/-- a def that changes nothing -/
def spP (K : PySem.W.Frag) (m : List D → Option OR) : Sp := fun vs H Q E => ∃ G ds o, Ex G H ∧ Reps K G ds vs ∧ m ds = some o ∧ ∀ G' v H', GEx H G G' → Ex H H' → Ex G' H' → ResR K H G' H' o v → Q v H'
/-- a def that changes the list that is its first argument -/
def spM (K : PySem.W.Frag) (m : List D → List D → Option (OR × List D)) : Sp := fun vs H Q E => ∃ G a vs0 ds0 us ds o ds', vs = .ref a :: us ∧ Ex G H ∧ G a = none ∧ H a = some (.lst vs0) ∧ Reps K G ds0 vs0 ∧ Reps K G ds us ∧ m ds0 ds = some (o, ds') ∧
  ∀ G' v H' vs', GEx H G G' → (∀ b u, b ≠ a → H b = some u → H' b = some u) → Ex G' H' → H' a = some (.lst vs') → Reps K G' ds' vs' → ResR K H G' H' o v → Q v H'
/-- behind a call that keeps all that was -/
theorem Stt.called {H' : Hp} (S : Stt K F pa G σ δ H) (g : GEx H G G') (e : Ex H H') (e' : Ex G' H') : GEx F G G' ∧ Stt K F pa G' σ δ H' := by
  refine ⟨⟨g.1, fun a h => g.2 a fun z => h ?_⟩, S.fr.trans e, e', S.len, fun i d hi => ?_, fun i b ds hi => ?_, S.inj⟩
  · exact none_of_ex S.fr z
  · obtain ⟨v, h1, h2⟩ := S.val i d hi
    exact ⟨v, h1, h2.mono g.1⟩
  · obtain ⟨p, us, h1, h2, h3, h4, h5, h6⟩ := S.own i b ds hi
    exact ⟨p, us, h1, (g.2 p (by rw [h5]; exact fun z => nomatch z)).trans h2, h3, h4, e _ _ h5, h6.mono g.1⟩
theorem ResR.to {H' : Hp} {o : OR} (S : Stt K F pa G σ δ H) (h : ResR K H G' H' o v) : RelR K F G' σ δ H' o.r v := by
  cases o with
  | v d => exact h
  | t ds => exact h
  | l ds =>
    obtain ⟨p, vs, e1, h1, h2, h3, h4⟩ := h
    exact ⟨p, vs, e1, h2, none_of_ex S.fr h1, h3, h4, S.notOwned h1⟩
def eFn (m : List D → Option OR) (ma : AM) : EM := fun δ => (ma δ).bind fun p => (keep p.1 p.2).bind fun q => (m q.1).bind fun o => some (o.r, q.2)
theorem sd_fn {m : List D → Option OR} {ta : TA} {ma : AM} (ha : SdA K ta ma) : Sd K (tCall (spP K m) [] E0 ta) (eFn m ma) := fun F pa G σ δ H S r' δ' e Q q => by
  obtain ⟨p, h1, e⟩ := bind_some' e
  obtain ⟨p2, h2, e⟩ := bind_some' e
  obtain ⟨o, h3, e⟩ := bind_some' e
  simp only [Option.some.injEq, Prod.mk.injEq] at e
  obtain ⟨rfl, rfl⟩ := e
  refine ha F pa G σ δ H S _ _ h1 _ fun G1 vs H1 g1 S1 r1 => ?_
  obtain ⟨G2, g2, S2, q2⟩ := keep_ok S1 r1 h2
  refine ⟨G2, p2.1, o, S2.gr, by rw [List.append_nil]; exact q2, h3, fun G' v H' gg eH eG rr => ?_⟩
  obtain ⟨g3, S3⟩ := S2.called gg eH eG
  exact q G' v H' ((g1.trans g2).trans g3) S3 (rr.to S2)
/-- a call that changes the list that its first argument is -/
def eFnM (m : List D → List D → Option (OR × List D)) (ma : AM) : EM := fun δ => (ma δ).bind fun p => match p.1 with
  | [.tmp ds0] => (m ds0 []).bind fun o => some (o.1.r, p.2)
  | .slot i :: rs => (keep rs p.2).bind fun q => match q.2[i]? with
    | some (.own b ds0) => (m ds0 q.1).bind fun o => some (o.1.r, q.2.set i (.own b o.2))
    | _ => none
  | _ => none
theorem sd_fnM {m : List D → List D → Option (OR × List D)} {ta : TA} {ma : AM} (ha : SdA K ta ma) : Sd K (tCall (spM K m) [] E0 ta) (eFnM m ma) := fun F pa G σ δ H S r' δ' e Q q => by
  obtain ⟨⟨rs, δ1⟩, h1, e⟩ := bind_some' e
  refine ha F pa G σ δ H S _ _ h1 _ fun G1 vs H1 g1 S1 r1 => ?_
  simp only at e
  show spM K m (vs ++ []) H1 Q E0
  rw [List.append_nil]
  split at e
  · rename_i ds0
    obtain ⟨o, h2, e⟩ := bind_some' e
    simp only [Option.some.injEq, Prod.mk.injEq] at e
    obtain ⟨rfl, rfl⟩ := e
    cases r1 with
    | cons ra rb =>
      cases rb
      obtain ⟨a, vs0, rfl, a1, a2, a3, a4, a5⟩ := ra
      refine ⟨G1, a, vs0, ds0, [], [], o.1, o.2, rfl, S1.gr, a1, a3, a4, .nil, h2, fun G' v H' vs' gg hk eG hb hr rr => ?_⟩
      -- as if the frame had no such list
      have Fx : ∀ {A : Hp}, A a = none → Ex A H1 → Ex A H' := fun {A} hA e c u hu => hk c u (ne_of_none hu hA) (e c u hu)
      have gF : GEx F G1 G' := ⟨gg.1, fun c hc => gg.2 c (fun z => hc (none_of_ex S1.fr z))⟩
      refine q G' v H' (g1.trans gF) ⟨Fx a2 S1.fr, eG, S1.len, fun i d hi => ?_, fun i b ds hi => ?_, S1.inj⟩ ?_
      · obtain ⟨v, b1, b2⟩ := S1.val i d hi
        exact ⟨v, b1, b2.mono gg.1⟩
      · obtain ⟨p, us, b1, b2, b3, b4, b5, b6⟩ := S1.own i b ds hi
        have hpa : p ≠ a := fun z => a5 i b ds hi (by rw [b1, z])
        exact ⟨p, us, b1, (gg.2 p (by rw [b5]; exact fun z => nomatch z)).trans b2, b3, b4, hk p _ hpa b5, b6.mono gg.1⟩
      · exact rr.to S1
  · rename_i i rs'
    obtain ⟨⟨ds, δ2⟩, h2, e⟩ := bind_some' e
    simp only at e
    split at e
    · rename_i b ds0 hb
      obtain ⟨o, h3, e⟩ := bind_some' e
      simp only [Option.some.injEq, Prod.mk.injEq] at e
      obtain ⟨rfl, rfl⟩ := e
      cases r1 with
      | cons ra rb =>
        rename_i v0 vs1
        obtain ⟨G2, g2, S2, q2⟩ := keep_ok S1 rb h2
        obtain ⟨a, vs0, b1, b2, b3, b4, b5, b6⟩ := S2.own i b ds0 hb
        have ra : σ[i]? = some (some v0) := ra
        rw [b1] at ra
        cases ra
        refine ⟨G2, a, vs0, ds0, vs1, ds, o.1, o.2, rfl, S2.gr, b2, b5, b6, q2, h3, fun G' v H' vs' gg hk eG hb' hr rr => ?_⟩
        have Fx : ∀ {A : Hp}, A a = none → Ex A H1 → Ex A H' := fun {A} hA e c u hu => hk c u (ne_of_none hu hA) (e c u hu)
        have gF : GEx F G2 G' := ⟨gg.1, fun c hc => gg.2 c (fun z => hc (none_of_ex S2.fr z))⟩
        have hG'a : G' a = none := (gg.2 a (by rw [b5]; exact fun z => nomatch z)).trans b2
        have cs : ∀ {j : Nat} {c fs}, (δ2.set i (Sl.own b o.2))[j]? = some (Sl.own c fs) → (i = j ∧ c = b ∧ fs = o.2) ∨ (i ≠ j ∧ δ2[j]? = some (Sl.own c fs)) := fun {j c fs} hj => by
          by_cases hij : i = j
          · subst hij
            rw [get_set_self hb] at hj
            cases hj
            exact .inl ⟨rfl, rfl, rfl⟩
          · rw [get_set_ne hij] at hj
            exact .inr ⟨hij, hj⟩
        refine q G' v H' ((g1.trans g2).trans gF) ⟨Fx b3 S2.fr, eG, by rw [List.length_set]; exact S2.len, fun j d hj => ?_, fun j c fs hj => ?_, fun j k c c' fs fs' p hj hk' e1 e2 => ?_⟩ ?_
        · by_cases hij : i = j
          · subst hij
            rw [get_set_self hb] at hj
            cases hj
          · rw [get_set_ne hij] at hj
            obtain ⟨v, c1, c2⟩ := S2.val j d hj
            exact ⟨v, c1, c2.mono gg.1⟩
        · rcases cs hj with ⟨rfl, rfl, rfl⟩ | ⟨hij, hj'⟩
          · exact ⟨a, vs', b1, hG'a, b3, b4, hb', hr⟩
          · obtain ⟨p, us, c1, c2, c3, c4, c5, c6⟩ := S2.own j c fs hj'
            have hpa : p ≠ a := fun z => hij (S2.inj i j b c ds0 fs a hb hj' b1 (by rw [c1, z]))
            exact ⟨p, us, c1, (gg.2 p (by rw [c5]; exact fun z => nomatch z)).trans c2, c3, c4, hk p _ hpa c5, c6.mono gg.1⟩
        · have a1 : ∃ d', δ2[j]? = some (Sl.own c d') := by
            rcases cs hj with ⟨rfl, rfl, rfl⟩ | ⟨_, hj⟩
            · exact ⟨_, hb⟩
            · exact ⟨_, hj⟩
          have a2 : ∃ d', δ2[k]? = some (Sl.own c' d') := by
            rcases cs hk' with ⟨rfl, rfl, rfl⟩ | ⟨_, hk'⟩
            · exact ⟨_, hb⟩
            · exact ⟨_, hk'⟩
          obtain ⟨d1, f1⟩ := a1
          obtain ⟨d2, f2⟩ := a2
          exact S2.inj j k c c' d1 d2 p f1 f2 e1 e2
        · have r0 := rr.to S2
          generalize o.1 = oo at rr r0
          cases oo with
          | v d => exact r0
          | t d => exact r0
          | l d =>
            obtain ⟨p, us, e1, f1, f2, f3, f4⟩ := rr
            refine ⟨p, us, e1, f2, none_of_ex S2.fr f1, f3, f4, fun j c fs hj z => ?_⟩
            rcases cs hj with ⟨rfl, rfl, rfl⟩ | ⟨_, hj'⟩
            · rw [b1] at z
              cases z
              rw [f1] at b5
              cases b5
            · exact S2.notOwned f1 j c fs hj' z
    · cases e
  · cases e

/-! ### a def's body -/
@[simp] def runD (n L : Nat) (sm : SM) (ds : List D) : Option OR := if ds.length = n then (sm (ds.map Sl.val ++ List.replicate (L - n) Sl.none)).bind fun p => match p.1 with
  | .ret (.val d) => some (.v d)
  | .ret (.tmp l) => some (.l l)
  | .ret (.slot i) => match p.2[i]? with
    | some (.own false l) => some (.l l)
    | some (.val d) => some (.v d)
    | _ => none
  | .nxt => some (.v .non)
  | _ => none
  else none
@[simp] def runM (n L : Nat) (sm : SM) (ds0 ds : List D) : Option (OR × List D) := if ds.length + 1 = n then (sm (Sl.own true ds0 :: ds.map Sl.val ++ List.replicate (L - n) Sl.none)).bind fun p => match (p.2[0]? : Option Sl) with
  | some (Sl.own true ds') => match p.1 with
    | .ret (.val d) => some (.v d, ds')
    | .ret (.tmp l) => some (.l l, ds')
    | .ret (.slot i) => match (p.2[i]? : Option Sl) with
      | some (Sl.own false l) => some (.l l, ds')
      | some (Sl.val d) => some (.v d, ds')
      | _ => none
    | .nxt => some (.v .non, ds')
    | _ => none
  | _ => none
  else none
theorem start_eq {N : List Str} {vs : List V} : start N vs = vs.map some ++ List.replicate (N.length - vs.length) none := rfl
theorem get_app_val {ds : List D} {k : Nat} {i : Nat} {d : D} (h : (ds.map Sl.val ++ List.replicate k Sl.none)[i]? = some (Sl.val d)) : ds[i]? = some d := by
  rw [List.getElem?_append] at h
  split at h
  · rw [List.getElem?_map] at h
    cases e : ds[i]? with
    | none => rw [e] at h; cases h
    | some x => rw [e] at h; cases h; rfl
  · rw [List.getElem?_replicate] at h
    split at h
    · cases h
    · cases h
theorem get_app_own {ds : List D} {k : Nat} {i : Nat} {b : Bool} {l : List D} (h : (ds.map Sl.val ++ List.replicate k Sl.none)[i]? = some (Sl.own b l)) : False := by
  rw [List.getElem?_append] at h
  split at h
  · rw [List.getElem?_map] at h
    cases e : ds[i]? with
    | none => rw [e] at h; cases h
    | some x => rw [e] at h; cases h
  · rw [List.getElem?_replicate] at h
    split at h
    · cases h
    · cases h
theorem stt_start {N : List Str} {ds : List D} {vs : List V} (e : Ex G H) (h : Reps K G ds vs) (hl : vs.length ≤ N.length) : Stt K H 0 G (start N vs) (ds.map Sl.val ++ List.replicate (N.length - ds.length) Sl.none) H := by
  refine ⟨Ex.refl H, e, ?_, fun i d hi => ?_, fun i b l hi => (get_app_own hi).elim, fun i j b c l l' p hi => (get_app_own hi).elim⟩
  · rw [start_eq]
    simp [h.length]
  · obtain ⟨v, h1, h2⟩ := h.get (get_app_val hi)
    refine ⟨v, ?_, h2⟩
    have hi' : i < vs.length := (List.getElem?_eq_some_iff.mp h1).1
    rw [start_eq, List.getElem?_append_left (by rw [List.length_map]; exact hi'), List.getElem?_map, h1]
    rfl
theorem pure_body {N : List Str} {n : Nat} {t : TS} {sm : SM} (h : SdS K t sm) (hn : n ≤ N.length) {vs : List V} {Q : VK} {E : XK} (hs : spP K (runD n N.length sm) vs H Q E) : t { nx := fun _ H' => Q .non H', rt := Q } (start N vs) H := by
  obtain ⟨G, ds, o, e, hr, hm, q⟩ := hs
  unfold runD at hm
  split at hm
  · rename_i hl
    obtain ⟨⟨c, δ'⟩, h1, hm⟩ := bind_some' hm
    have S := stt_start (N := N) e hr (by rw [← hr.length, hl]; exact hn)
    rw [hl] at S
    refine h H 0 G _ _ H S _ _ h1 _ ?_
    have own : ∀ {G' σ' H'} , GEx H G G' → Stt K H 0 G' σ' δ' H' → ∀ {r v}, RelR K H G' σ' δ' H' r v → (∀ d, r = .val d → o = .v d) → (∀ l, r = .tmp l → o = .l l) → (∀ i, r = .slot i → (match δ'[i]? with | some (Sl.own false l) => some (OR.l l) | some (Sl.val d) => some (OR.v d) | _ => none) = some o) → Q v H' := by
      intro G' σ' H' g S' r v rr k1 k2 k3
      refine q G' v H' g S'.fr S'.gr ?_
      cases r with
      | val d => rw [k1 d rfl]; exact rr
      | tmp l =>
        rw [k2 l rfl]
        obtain ⟨p, us, e1, a1, a2, a3, a4, _⟩ := rr
        exact ⟨p, us, e1, a2, a1, a3, a4⟩
      | slot i =>
        have k := k3 i rfl
        have rr : σ'[i]? = some (some v) := rr
        split at k
        · rename_i l hi
          cases k
          obtain ⟨p, us, b1, b2, b3, b4, b5, b6⟩ := S'.own i _ _ hi
          rw [b1] at rr
          cases rr
          exact ⟨p, us, rfl, b3, b2, b5, b6⟩
        · rename_i d hi
          cases k
          obtain ⟨u, b1, b2⟩ := S'.val i _ hi
          rw [b1] at rr
          cases rr
          exact b2
        · cases k
    cases c with
    | nxt =>
      simp only [Option.some.injEq] at hm
      subst hm
      exact fun G' σ' H' g S' => q G' .non H' g S'.fr S'.gr Rep.non
    | brk => cases hm
    | cnt => cases hm
    | ret r =>
      refine fun G' σ' v H' g S' rr => own g S' rr (fun d hd => ?_) (fun l hd => ?_) (fun i hd => ?_)
      · subst hd; simp only [Option.some.injEq] at hm; exact hm.symm
      · subst hd; simp only [Option.some.injEq] at hm; exact hm.symm
      · subst hd; exact hm
  · cases hm
theorem fn_pure {P : Program} {w : World} {mg : Str → Option Value} {base : Heap} {x qual : Str} {st : Stmt} {f : Addr} {fd : FuncData} {N ps : List Str} {k : Nat} {sm : SM} {t : TS} (Fu : Fun K x qual st f fd) (Sc : FnScope N ps (defScope st)) (hn : ps.length ≤ N.length)
    (hsm : SdS K t sm) (hbody : ∀ (cdv : Value) (A : Around) (outer : List PySem.Env) (s : Shared) (H : Hp) (E : XK), Room k (A.deeper (envOfC qual (defScope st) s.heap.objs.size f cdv)) → PSs (cxOf CX0 P w K mg base N qual (defScope st) f cdv A outer s H E).nox (defBody st) t) :
    FnOk P w K mg base CX0 (k + 1) f fd ps (spP K (runD ps.length N.length sm)) := by
  refine Fu.ok Sc (fun vs H Q E h => ?_) (fun cdv A outer s H vs Q E hr h => ⟨t, hbody cdv A outer s H E hr, pure_body hsm hn h⟩)
  obtain ⟨G, ds, o, e, hr, hm, q⟩ := h
  unfold runD at hm
  split at hm
  · rename_i hl
    rw [← hr.length]
    exact hl
  · cases hm
end
end Pd
end
section
set_option Elab.async false
set_option linter.all false
set_option maxRecDepth 100000
set_option maxHeartbeats 1000000
namespace Pd
open PySem PySem.Spec PyProof.Rows L2 Evl

section
variable {K : PySem.W.Frag} {F G G' H H' : Hp} {pa : Addr} {σ : L2.St} {δ δ' : DEnv} {v : V} {r : R}
def del (H : Hp) (a : Addr) : Hp := fun b => if b = a then none else H b
theorem del_ne {H : Hp} {a b : Addr} (h : b ≠ a) : del H a b = H b := by unfold del; rw [if_neg h]
theorem del_at {H : Hp} {a : Addr} : del H a a = none := by unfold del; rw [if_pos rfl]
theorem mut_body {N : List Str} {n : Nat} {t : TS} {sm : SM} (h : SdS K t sm) (hn : n ≤ N.length) {vs : List V} {Q : VK} {E : XK} (hs : spM K (runM n N.length sm) vs H Q E) : t { nx := fun _ H' => Q .non H', rt := Q } (start N vs) H := by
  obtain ⟨G, a, vs0, ds0, us, ds, o, ds', rfl, e, hGa, hHa, h0, hr, hm, q⟩ := hs
  unfold runM at hm
  split at hm
  · rename_i hl
    obtain ⟨⟨c, δ'⟩, h1, hm⟩ := bind_some' hm
    have hul := hr.length
    have S : Stt K (del H a) a G (start N (.ref a :: us)) (Sl.own true ds0 :: ds.map Sl.val ++ List.replicate (N.length - n) Sl.none) H := by
      have st : start N (.ref a :: us) = some (.ref a) :: (us.map some ++ List.replicate (N.length - (us.length + 1)) none) := rfl
      have hcons : Sl.own true ds0 :: ds.map Sl.val ++ List.replicate (N.length - n) Sl.none = Sl.own true ds0 :: (ds.map Sl.val ++ List.replicate (N.length - n) Sl.none) := rfl
      rw [st, hcons]
      refine ⟨fun b o' z => ?_, e, ?_, fun i d hi => ?_, fun i b l hi => ?_, fun i j b c l l' p hi hj _ _ => ?_⟩
      · by_cases hb : b = a
        · rw [hb, del_at] at z; cases z
        · rw [del_ne hb] at z; exact z
      · simp [hul.symm]; omega
      · cases i with
        | zero => cases hi
        | succ i =>
          have hi : (ds.map Sl.val ++ List.replicate (N.length - n) Sl.none)[i]? = some (Sl.val d) := hi
          obtain ⟨u, b1, b2⟩ := hr.get (get_app_val hi)
          refine ⟨u, ?_, b2⟩
          have hi' : i < us.length := (List.getElem?_eq_some_iff.mp b1).1
          show (us.map some ++ List.replicate (N.length - (us.length + 1)) none)[i]? = some (some u)
          rw [List.getElem?_append_left (by rw [List.length_map]; exact hi'), List.getElem?_map, b1]
          rfl
      · cases i with
        | zero =>
          have hi : some (Sl.own true ds0) = some (Sl.own b l) := hi
          cases hi
          exact ⟨a, vs0, rfl, hGa, del_at, fun _ => rfl, hHa, h0⟩
        | succ i => exact (get_app_own (show (ds.map Sl.val ++ List.replicate (N.length - n) Sl.none)[i]? = some (Sl.own b l) from hi)).elim
      · cases i with
        | zero =>
          cases j with
          | zero => rfl
          | succ j => exact (get_app_own (show (ds.map Sl.val ++ List.replicate (N.length - n) Sl.none)[j]? = some (Sl.own c l') from hj)).elim
        | succ i => exact (get_app_own (show (ds.map Sl.val ++ List.replicate (N.length - n) Sl.none)[i]? = some (Sl.own b l) from hi)).elim
    refine h (del H a) a G _ _ H S _ _ h1 _ ?_
    simp only at hm
    split at hm
    · rename_i dsE hE
      -- what the end tells of the list and of the frame
      have fin : ∀ {G' : Hp} {σ' : L2.St} {H' : Hp}, GEx (del H a) G G' → Stt K (del H a) a G' σ' δ' H' → ∀ v, ResR K H G' H' o v → ds' = dsE → Q v H' := by
        intro G' σ' H' g S' v rr hd
        subst hd
        obtain ⟨p, ws, b1, b2, b3, b4, b5, b6⟩ := S'.own 0 true _ hE
        have e1 := b4 rfl
        subst e1
        refine q G' v H' ws ⟨g.1, fun b hb => ?_⟩ (fun b u hne hu => S'.fr b u (by rw [del_ne hne]; exact hu)) S'.gr b5 b6 rr
        by_cases hba : b = p
        · rw [hba, b2, hGa]
        · exact g.2 b (by rw [del_ne hba]; exact hb)
      have fresh : ∀ {p : Addr}, del H a p = none → p ≠ a → H p = none := fun {p} hp hne => by rw [del_ne hne] at hp; exact hp
      have notA : ∀ {G' : Hp} {σ' : L2.St} {H' : Hp}, Stt K (del H a) a G' σ' δ' H' → σ'[0]? = some (some (.ref a)) := fun S' => by
        obtain ⟨p, ws, b1, b2, b3, b4, b5, b6⟩ := S'.own 0 true _ hE
        have e1 := b4 rfl
        subst e1
        exact b1
      cases c with
      | nxt =>
        simp only [Option.some.injEq, Prod.mk.injEq] at hm
        obtain ⟨rfl, rfl⟩ := hm
        exact fun G' σ' H' g S' => fin g S' .non Rep.non rfl
      | brk => cases hm
      | cnt => cases hm
      | ret r =>
        refine fun G' σ' v H' g S' rr => ?_
        cases r with
        | val d =>
          simp only [Option.some.injEq, Prod.mk.injEq] at hm
          obtain ⟨rfl, rfl⟩ := hm
          exact fin g S' v rr rfl
        | tmp l =>
          simp only [Option.some.injEq, Prod.mk.injEq] at hm
          obtain ⟨rfl, rfl⟩ := hm
          obtain ⟨p, ws, e1, a1, a2, a3, a4, a5⟩ := rr
          refine fin g S' v ⟨p, ws, e1, fresh a2 (fun z => a5 0 true _ hE (by rw [notA S', z])), a1, a3, a4⟩ rfl
        | slot i =>
          simp only at hm
          have rr : σ'[i]? = some (some v) := rr
          split at hm
          · rename_i l hi
            simp only [Option.some.injEq, Prod.mk.injEq] at hm
            obtain ⟨rfl, rfl⟩ := hm
            obtain ⟨p, ws, b1, b2, b3, b4, b5, b6⟩ := S'.own i _ _ hi
            rw [b1] at rr
            cases rr
            refine fin g S' _ ⟨p, ws, rfl, fresh b3 (fun z => ?_), b2, b5, b6⟩ rfl
            have z2 := S'.inj 0 i true false _ _ a hE hi (notA S') (by rw [b1, z])
            subst z2
            rw [hE] at hi
            cases hi
          · rename_i d hi
            simp only [Option.some.injEq, Prod.mk.injEq] at hm
            obtain ⟨rfl, rfl⟩ := hm
            obtain ⟨u, b1, b2⟩ := S'.val i _ hi
            rw [b1] at rr
            cases rr
            exact fin g S' _ b2 rfl
          · cases hm
    · cases hm
  · cases hm
theorem fn_mut {P : Program} {w : World} {mg : Str → Option Value} {base : Heap} {x qual : Str} {st : Stmt} {f : Addr} {fd : FuncData} {N ps : List Str} {k : Nat} {sm : SM} {t : TS} (Fu : Fun K x qual st f fd) (Sc : FnScope N ps (defScope st)) (hn : ps.length ≤ N.length)
    (hsm : SdS K t sm) (hbody : ∀ (cdv : Value) (A : Around) (outer : List PySem.Env) (s : Shared) (H : Hp) (E : XK), Room k (A.deeper (envOfC qual (defScope st) s.heap.objs.size f cdv)) → PSs (cxOf CX0 P w K mg base N qual (defScope st) f cdv A outer s H E).nox (defBody st) t) :
    FnOk P w K mg base CX0 (k + 1) f fd ps (spM K (runM ps.length N.length sm)) := by
  refine Fu.ok Sc (fun vs H Q E h => ?_) (fun cdv A outer s H vs Q E hr h => ⟨t, hbody cdv A outer s H E hr, mut_body hsm hn h⟩)
  obtain ⟨G, a, vs0, ds0, us, ds, o, ds', rfl, e, hGa, hHa, h0, hr, hm, q⟩ := h
  unfold runM at hm
  split at hm
  · rename_i hl
    rw [← hl, List.length_cons, hr.length]
  · cases hm

/-! ### operations by value -/
theorem reps_nil {vs : List V} (h : Reps K G [] vs) : vs = [] := by cases h; rfl
@[simp] def lenOk (n : Nat) : Bool := decide (n ≤ 100000)
/-- + -/
@[simp] def dAdd : D → D → Option OR
  | .int i, .int j => some (.v (.int (i + j)))
  | .lst a, .lst b => if lenOk (a.length + b.length) = true then some (.l (a ++ b)) else none
  | .tup a, .tup b => if lenOk (a.length + b.length) = true then (match a, b with
    | [], b => some (.v (.tup b))
    | a, [] => some (.v (.tup a))
    | a, b => some (.t (a ++ b))) else none
  | _, _ => none
def rAddA (K : PySem.W.Frag) : R2 := fun x y H Q => rI0 (fun i j => .int (i + j)) x y H Q ∨ rCat x y H Q ∨ rCatN K x y H Q
theorem op_addA {X : Cx} : OpR X (binaryOp .Add) (rAddA X.K) := op_add.or (op_cat.or op_catN)
theorem lenOk_sz {n : Nat} (h : lenOk n = true) : n ≤ sizeLine := sz_of (of_decide_eq_true h)
theorem ob_add : Ob K (rAddA K) dAdd := fun G H x y a b o e ha hb hf Q q => by
  cases a with
  | int i =>
    cases b with
    | int j =>
      simp only [dAdd, Option.some.injEq] at hf
      subst hf
      cases (show Rep K G (.int i) x from ha)
      cases (show Rep K G (.int j) y from hb)
      exact .inl ⟨i, j, rfl, rfl, q _ (.int _)⟩
    | _ => cases hf
  | lst a =>
    cases b with
    | lst b =>
      simp only [dAdd] at hf
      split at hf
      · rename_i hl
        simp only [Option.some.injEq] at hf
        subst hf
        obtain ⟨p, vs, rfl, h1, h2⟩ := ha
        obtain ⟨p', vs', rfl, h1', h2'⟩ := hb
        refine .inr (.inl ⟨p, p', vs, vs', rfl, rfl, h1, h1', ?_, fun z hz => q z _ hz (h2.append h2')⟩)
        rw [← h2.length, ← h2'.length]
        exact lenOk_sz hl
      · cases hf
    | _ => cases hf
  | tup a =>
    cases b with
    | tup b =>
      simp only [dAdd] at hf
      split at hf
      · rename_i hl
        cases (show Rep K G (.tup a) x from ha) with
        | tup h1 h2 =>
          cases (show Rep K G (.tup b) y from hb) with
          | tup h1' h2' =>
            rename_i p vs p' vs'
            have hle : vs.length + vs'.length ≤ sizeLine := by rw [← h2.length, ← h2'.length]; exact lenOk_sz hl
            cases a with
            | nil =>
              simp only [Option.some.injEq] at hf
              subst hf
              cases h2
              exact .inr (.inr ⟨p, p', [], vs', rfl, rfl, ex_t e h1.1, ex_t e h1'.1, hle, fun _ => q _ (.tup h1' h2'), fun z => absurd rfl z, fun z => absurd rfl z⟩)
            | cons a0 a =>
              cases b with
              | nil =>
                simp only [Option.some.injEq] at hf
                subst hf
                cases h2'
                refine .inr (.inr ⟨p, p', vs, [], rfl, rfl, ex_t e h1.1, ex_t e h1'.1, hle, fun z => ?_, fun _ _ => q _ (.tup h1 h2), fun _ z => absurd rfl z⟩)
                subst z
                cases h2
              | cons b0 b =>
                simp only [Option.some.injEq] at hf
                subst hf
                refine .inr (.inr ⟨p, p', vs, vs', rfl, rfl, ex_t e h1.1, ex_t e h1'.1, hle, fun z => ?_, fun _ z => ?_, fun _ _ z o hz hd => q z o _ hz hd (h2.append h2')⟩)
                · subst z; cases h2
                · subst z; cases h2'
      · cases hf
    | _ => cases hf
  | _ => cases hf
/-- ints in, an int or a truth value out -/
@[simp] def dI (f : Int → Int → D) : D → D → Option OR
  | .int i, .int j => some (.v (f i j))
  | _, _ => none
@[simp] def dIc (c : Int → Int → Bool) (f : Int → Int → D) : D → D → Option OR
  | .int i, .int j => if c i j = true then some (.v (f i j)) else none
  | _, _ => none
theorem ob_i0 {f : Int → Int → Int} : Ob K (rI0 fun i j => .int (f i j)) (dI fun i j => .int (f i j)) := fun G H x y a b o e ha hb hf Q q => by
  cases a <;> cases b <;> first | (cases hf; done) | skip
  rename_i i j
  simp only [dI, Option.some.injEq] at hf
  subst hf
  cases (show Rep K G (.int i) x from ha)
  cases (show Rep K G (.int j) y from hb)
  exact ⟨i, j, rfl, rfl, q _ (.int _)⟩
theorem ob_b0 {f : Int → Int → Bool} : Ob K (rI0 fun i j => .bl (f i j)) (dI fun i j => .bl (f i j)) := fun G H x y a b o e ha hb hf Q q => by
  cases a <;> cases b <;> first | (cases hf; done) | skip
  rename_i i j
  simp only [dI, Option.some.injEq] at hf
  subst hf
  cases (show Rep K G (.int i) x from ha)
  cases (show Rep K G (.int j) y from hb)
  exact ⟨i, j, rfl, rfl, q _ (.bl _)⟩
theorem ob_ic {C : Int → Int → Prop} {c : Int → Int → Bool} {f : Int → Int → Int} (hc : ∀ i j, c i j = true → C i j) : Ob K (rI C fun i j => .int (f i j)) (dIc c fun i j => .int (f i j)) := fun G H x y a b o e ha hb hf Q q => by
  cases a <;> cases b <;> first | (cases hf; done) | skip
  rename_i i j
  simp only [dIc] at hf
  split at hf
  · rename_i h
    simp only [Option.some.injEq] at hf
    subst hf
    cases (show Rep K G (.int i) x from ha)
    cases (show Rep K G (.int j) y from hb)
    exact ⟨i, j, rfl, rfl, hc i j h, q _ (.int _)⟩
  · cases hf
/-- a whole number that is not too great to be multiplied, shifted -/
def sm (i : Int) : Bool := decide (i.natAbs < 2 ^ 4000)
theorem sm_bits {i : Int} (h : sm i = true) : Builtin.Int.intBits i ≤ 4000 := PySem.intBits_le_iff.mpr (of_decide_eq_true h)
@[simp] def cMod (_ j : Int) : Bool := decide (0 < j)
@[simp] def cDiv (_ j : Int) : Bool := decide (0 < j ∧ j < 1073741824)
def cPow (i j : Int) : Bool := decide (0 ≤ j ∧ j ≤ 1000000 ∧ i.natAbs < 2 ^ 64)
def cShl (i j : Int) : Bool := sm i && decide (0 ≤ j ∧ j ≤ 100000)
@[simp] def cShr (_ j : Int) : Bool := decide (0 ≤ j)
def b64 (i : Int) : Bool := decide (i.natAbs < 18446744073709551616)
theorem b64_ok {i : Int} (h : b64 i = true) : -(2 ^ 64) < i ∧ i < 2 ^ 64 := by
  have h := of_decide_eq_true h
  omega
theorem b64_of {i : Int} (h : -(2 ^ 64) < i ∧ i < 2 ^ 64) : b64 i = true := decide_eq_true (by omega)
def cMul (i j : Int) : Bool := b64 i || b64 j || (sm i && sm j)
theorem ob_mod : Ob K (rI (fun _ j => 0 < j) fun i j => .int (i % j)) (dIc cMod fun i j => .int (i % j)) := ob_ic fun i j h => by first | exact of_decide_eq_true h | (unfold CDiv; exact of_decide_eq_true h) | (unfold CPow; exact of_decide_eq_true h)
theorem ob_fdiv : Ob K (rI CDiv fun i j => .int (i / j)) (dIc cDiv fun i j => .int (i / j)) := ob_ic fun i j h => by first | exact of_decide_eq_true h | (unfold CDiv; exact of_decide_eq_true h) | (unfold CPow; exact of_decide_eq_true h)
theorem ob_pow : Ob K (rI CPow fun i j => .int (i ^ j.toNat)) (dIc cPow fun i j => .int (i ^ j.toNat)) := ob_ic fun i j h => by first | exact of_decide_eq_true h | (unfold CDiv; exact of_decide_eq_true h) | (unfold CPow; exact of_decide_eq_true h)
theorem ob_shl : Ob K (rI CShl fun i j => .int (i * 2 ^ j.toNat)) (dIc cShl fun i j => .int (i * 2 ^ j.toNat)) := ob_ic fun i j h => by
  unfold cShl at h
  rw [Bool.and_eq_true] at h
  have h1 := sm_bits h.1
  have h2 := of_decide_eq_true h.2
  have h3 : (2 : Int) ^ 27 = 134217728 := by decide
  exact ⟨h2.1, by rw [h3]; omega⟩
theorem ob_shr : Ob K (rI (fun _ j => 0 ≤ j) fun i j => .int (i / 2 ^ j.toNat)) (dIc cShr fun i j => .int (i / 2 ^ j.toNat)) := ob_ic fun i j h => by first | exact of_decide_eq_true h | (unfold CDiv; exact of_decide_eq_true h) | (unfold CPow; exact of_decide_eq_true h)
theorem ob_and : Ob K (rI0 fun i j => .int (Builtin.bitAnd i j)) (dI fun i j => .int (Builtin.bitAnd i j)) := ob_i0
theorem ob_or : Ob K (rI0 fun i j => .int (Builtin.bitOr i j)) (dI fun i j => .int (Builtin.bitOr i j)) := ob_i0
theorem ob_sub : Ob K (rI0 fun i j => .int (i - j)) (dI fun i j => .int (i - j)) := ob_i0
theorem ob_lt : Ob K (rI0 fun i j => .bl (decide (i < j))) (dI fun i j => .bl (decide (i < j))) := ob_b0
theorem ob_le : Ob K (rI0 fun i j => .bl (decide (i ≤ j))) (dI fun i j => .bl (decide (i ≤ j))) := ob_b0
theorem ob_gt : Ob K (rI0 fun i j => .bl (decide (j < i))) (dI fun i j => .bl (decide (j < i))) := ob_b0
theorem ob_ge : Ob K (rI0 fun i j => .bl (decide (j ≤ i))) (dI fun i j => .bl (decide (j ≤ i))) := ob_b0
/-- * -/
@[simp] def dMul : D → D → Option OR
  | .int i, .int j => if cMul i j = true then some (.v (.int (i * j))) else none
  | .lst a, .int k => if decide (0 ≤ k ∧ k ≤ 100000) = true then (if lenOk (a.length * k.toNat) = true then some (.l (List.replicate k.toNat a).flatten) else none) else none
  | .tup a, .int k => if decide (0 ≤ k ∧ k ≤ 1000 ∧ a.length ≤ 1000) = true then (match a with
    | [] => none
    | a0 :: a => if k = 1 then some (.v (.tup (a0 :: a))) else some (.t (List.replicate k.toNat (a0 :: a)).flatten)) else none
  | _, _ => none
def rMulA (K : PySem.W.Frag) : R2 := fun x y H Q => rI CMul (fun i j => .int (i * j)) x y H Q ∨ rI CMulX (fun i j => .int (i * j)) x y H Q ∨ rRep x y H Q ∨ rRepN K x y H Q
theorem op_mulA {X : Cx} : OpR X (binaryOp .Mult) (rMulA X.K) := op_mul.or (op_mulX.or (op_rep.or op_repN))
theorem ob_mul : Ob K (rMulA K) dMul := fun G H x y a b o e ha hb hf Q q => by
  cases a with
  | int i =>
    cases b with
    | int j =>
      simp only [dMul] at hf
      split at hf
      · rename_i h
        simp only [Option.some.injEq] at hf
        subst hf
        cases (show Rep K G (.int i) x from ha)
        cases (show Rep K G (.int j) y from hb)
        unfold cMul at h
        rw [Bool.or_eq_true, Bool.or_eq_true] at h
        rcases h with (h | h) | h
        · exact .inl ⟨i, j, rfl, rfl, .inl (b64_ok h), q _ (.int _)⟩
        · exact .inl ⟨i, j, rfl, rfl, .inr (b64_ok h), q _ (.int _)⟩
        · rw [Bool.and_eq_true] at h
          have h1 := sm_bits h.1
          have h2 := sm_bits h.2
          refine .inr (.inl ⟨i, j, rfl, rfl, ?_, q _ (.int _)⟩)
          show (Builtin.Int.intBits i : Int) + (Builtin.Int.intBits j : Int) ≤ 134217728
          omega
      · cases hf
    | _ => cases hf
  | lst a =>
    cases b with
    | int k =>
      simp only [dMul] at hf
      split at hf
      · rename_i hk
        split at hf
        · rename_i hl
          simp only [Option.some.injEq] at hf
          subst hf
          have hk' := of_decide_eq_true hk
          obtain ⟨p, vs, rfl, h1, h2⟩ := ha
          cases (show Rep K G (.int k) y from hb)
          refine .inr (.inr (.inl ⟨p, k, vs, rfl, rfl, h1, by omega, by omega, ?_, fun z hz => q z _ hz (h2.replicate _)⟩))
          rw [← h2.length]
          exact lenOk_sz hl
        · cases hf
      · cases hf
    | _ => cases hf
  | tup a =>
    cases b with
    | int k =>
      simp only [dMul] at hf
      split at hf
      · rename_i hk
        have hk' := of_decide_eq_true hk
        cases (show Rep K G (.int k) y from hb)
        cases (show Rep K G (.tup a) x from ha) with
        | tup h1 h2 =>
          cases a with
          | nil => cases hf
          | cons a0 a =>
            have hne : ∀ {vs : List V}, Reps K G (a0 :: a) vs → vs ≠ [] := fun {vs} h z => by subst z; cases h
            refine .inr (.inr (.inr ⟨_, k, _, rfl, rfl, ex_t e h1.1, hne h2, hk'.1, hk'.2.1, by rw [← h2.length]; exact hk'.2.2, fun k1 => ?_, fun k1 p o hp hd => ?_⟩))
            · simp only [k1, if_true, Option.some.injEq] at hf
              subst hf
              exact q _ (.tup h1 h2)
            · simp only [k1, if_false, Option.some.injEq] at hf
              subst hf
              exact q p o _ hp hd (h2.replicate _)
      · cases hf
    | _ => cases hf
  | _ => cases hf
/-! == of data -/
mutual
def toP : D → PyData
  | .non => .none
  | .bl b => .bool b
  | .int i => .int i
  | .str x => .str x
  | .tup l => .tuple (toPs l)
  | .lst l => .list (toPs l)
  | .ro l => .list (toPs l)
  | .tw l => .tuple (toPs l)
def toPs : List D → List PyData
  | [] => []
  | d :: ds => toP d :: toPs ds
end
mutual
theorem Rep.dp : ∀ {d : D} {v : V}, Rep K H d v → Dp K H v (toP d)
  | _, _, .non => .non
  | _, _, .bl b => .bl b
  | _, _, .int i => .int i
  | _, _, .str x => .str x
  | _, _, .tup h r => .tup h.1 (Reps.dp r)
  | _, _, .tw h r => .tup h (Reps.dp r)
  | _, _, .lst h r => .lst (SqL.of h) (Reps.dp r)
  | _, _, .ro h r => .lst h (Reps.dp r)
theorem Reps.dp : ∀ {ds : List D} {vs : List V}, Reps K H ds vs → DpAll K H vs (toPs ds)
  | _, _, .nil => .nil
  | _, _, .cons h r => .cons (Rep.dp h) (Reps.dp r)
end
def shp (d : D) : Bool := SeqAt.shaped (toP d)
def eqD (a b : D) : Bool := PyData.eqv (toP a) (toP b)
@[simp] def dEq : D → D → Option OR := fun a b => if (shp a && shp b) = true then some (.v (.bl (eqD a b))) else none
@[simp] def dNe : D → D → Option OR := fun a b => if (shp a && shp b) = true then some (.v (.bl (!eqD a b))) else none
theorem ob_eq : Ob K (rEqD K) dEq := fun G H x y a b o e ha hb hf Q q => by
  unfold dEq at hf
  split at hf
  · rename_i h
    rw [Bool.and_eq_true] at h
    simp only [Option.some.injEq] at hf
    subst hf
    exact ⟨_, _, (ha.rep e).dp, (hb.rep e).dp, h.1, h.2, q _ (.bl _)⟩
  · cases hf
theorem ob_ne : Ob K (rNeD K) dNe := fun G H x y a b o e ha hb hf Q q => by
  unfold dNe at hf
  split at hf
  · rename_i h
    rw [Bool.and_eq_true] at h
    simp only [Option.some.injEq] at hf
    subst hf
    exact ⟨_, _, (ha.rep e).dp, (hb.rep e).dp, h.1, h.2, q _ (.bl _)⟩
  · cases hf
/-- is None, is True -/
def rIsA : R2 := fun x y H Q => (y = .non ∧ Q (.bl (decide (x = .non))) H) ∨ ∃ a b, x = .bl a ∧ y = .bl b ∧ Q (.bl (decide (a = b))) H
def rNotA : R2 := fun x y H Q => (y = .non ∧ Q (.bl (!decide (x = .non))) H) ∨ ∃ a b, x = .bl a ∧ y = .bl b ∧ Q (.bl (!decide (a = b))) H
theorem op_isA {X : Cx} : OpR X (compareOp .Is) rIsA := op_isN.or op_is_bl
theorem op_notA {X : Cx} : OpR X (compareOp .IsNot) rNotA := op_notN.or op_isnot_bl
@[simp] def isNon : D → Bool
  | .non => true
  | _ => false
@[simp] def dIs : D → D → Option OR
  | a, .non => some (.v (.bl (isNon a)))
  | .bl a, .bl b => some (.v (.bl (a == b)))
  | _, _ => none
@[simp] def dIsnt : D → D → Option OR
  | a, .non => some (.v (.bl (!isNon a)))
  | .bl a, .bl b => some (.v (.bl (!(a == b))))
  | _, _ => none
theorem isNon_ok {d : D} (e : Ex G H) (h : RepN K G H d v) : decide (v = .non) = isNon d := by
  have h' := h.rep e
  cases h' <;> rfl
theorem ob_is : Ob K rIsA dIs := fun G H x y a b o e ha hb hf Q q => by
  cases b with
  | non =>
    cases (show Rep K G .non y from hb)
    have hf : some (OR.v (.bl (isNon a))) = some o := by cases a <;> exact hf
    simp only [Option.some.injEq] at hf
    subst hf
    exact .inl ⟨rfl, by rw [isNon_ok e ha]; exact q _ (.bl _)⟩
  | bl b =>
    cases a with
    | bl a =>
      simp only [dIs, Option.some.injEq] at hf
      subst hf
      cases (show Rep K G (.bl a) x from ha)
      cases (show Rep K G (.bl b) y from hb)
      refine .inr ⟨a, b, rfl, rfl, ?_⟩
      rw [show decide (a = b) = (a == b) by cases a <;> cases b <;> rfl]
      exact q _ (.bl _)
    | _ => cases hf
  | _ => cases a <;> cases hf
theorem ob_isnt : Ob K rNotA dIsnt := fun G H x y a b o e ha hb hf Q q => by
  cases b with
  | non =>
    cases (show Rep K G .non y from hb)
    have hf : some (OR.v (.bl (!isNon a))) = some o := by cases a <;> exact hf
    simp only [Option.some.injEq] at hf
    subst hf
    exact .inl ⟨rfl, by rw [isNon_ok e ha]; exact q _ (.bl _)⟩
  | bl b =>
    cases a with
    | bl a =>
      simp only [dIsnt, Option.some.injEq] at hf
      subst hf
      cases (show Rep K G (.bl a) x from ha)
      cases (show Rep K G (.bl b) y from hb)
      refine .inr ⟨a, b, rfl, rfl, ?_⟩
      rw [show decide (a = b) = (a == b) by cases a <;> cases b <;> rfl]
      exact q _ (.bl _)
    | _ => cases hf
  | _ => cases a <;> cases hf
end
end Pd
end
section
set_option Elab.async false
set_option linter.all false
set_option maxRecDepth 100000
set_option maxHeartbeats 1000000
namespace Pd
open PySem PySem.Spec PyProof.Rows L2 Evl

section
variable {K : PySem.W.Frag} {F G G' H H' : Hp} {pa : Addr} {σ : L2.St} {δ δ' : DEnv} {v : V} {r : R} {ta tb te tc : TE} {ma mb me mc : EM} {t u : TT} {mt mu : TM} {ts us : TS} {ms ns : SM} {g : TG} {tg : GM} {js : List Nat}

/-! ### isinstance -/
inductive Ty where
  | int | bool | str | list | tuple
def Ty.nm : Ty → String
  | .int => "int" | .bool => "bool" | .str => "str" | .list => "list" | .tuple => "tuple"
def tyN : D → String
  | .non => "NoneType" | .bl _ => "bool" | .int _ => "int" | .str _ => "str" | .tup _ => "tuple" | .lst _ => "list" | .ro _ => "list" | .tw _ => "tuple"
@[simp] def isi : D → Ty → Bool
  | .int _, .int => true
  | .bl _, .int => true
  | .bl _, .bool => true
  | .str _, .str => true
  | .tup _, .tuple => true
  | .lst _, .list => true
  | .ro _, .list => true
  | .tw _, .tuple => true
  | _, _ => false
def tyTab (n : String) (t : Ty) : Option Bool := kitB n t.nm
theorem isi_ok (d : D) (t : Ty) : kitB (tyN d) t.nm = some (isi d t) := by
  have k1 : ∀ t : Ty, kitB "NoneType" t.nm = some false := fun t => by cases t <;> decide +kernel
  have k2 : ∀ t : Ty, kitB "bool" t.nm = some (match t with | .int => true | .bool => true | _ => false) := fun t => by cases t <;> decide +kernel
  have k3 : ∀ t : Ty, kitB "int" t.nm = some (match t with | .int => true | _ => false) := fun t => by cases t <;> decide +kernel
  have k4 : ∀ t : Ty, kitB "str" t.nm = some (match t with | .str => true | _ => false) := fun t => by cases t <;> decide +kernel
  have k5 : ∀ t : Ty, kitB "tuple" t.nm = some (match t with | .tuple => true | _ => false) := fun t => by cases t <;> decide +kernel
  have k6 : ∀ t : Ty, kitB "list" t.nm = some (match t with | .list => true | _ => false) := fun t => by cases t <;> decide +kernel
  cases d with
  | non => show kitB "NoneType" t.nm = _; rw [k1]; cases t <;> rfl
  | bl b => show kitB "bool" t.nm = _; rw [k2]; cases t <;> rfl
  | int b => show kitB "int" t.nm = _; rw [k3]; cases t <;> rfl
  | str b => show kitB "str" t.nm = _; rw [k4]; cases t <;> rfl
  | tup b => show kitB "tuple" t.nm = _; rw [k5]; cases t <;> rfl
  | lst b => show kitB "list" t.nm = _; rw [k6]; cases t <;> rfl
  | ro b => show kitB "list" t.nm = _; rw [k6]; cases t <;> rfl
  | tw b => show kitB "tuple" t.nm = _; rw [k5]; cases t <;> rfl
theorem rep_ty {d : D} (h : Rep K H d v) : TyX K H v (.type (tyN d)) := by
  cases h with
  | non => exact .base .non
  | bl b => exact .base (.bl b)
  | int i => exact .base (.int i)
  | str x => exact .base (.str x)
  | tup h r =>
    rcases h.1 with (h | ⟨o, h⟩) | ⟨o, its, n, hk, hc, _⟩
    · exact .base (.tup h)
    · exact .fTuple h
    · exact .kTuple hk hc
  | tw h r =>
    rcases h with (h | ⟨o, h⟩) | ⟨o, its, n, hk, hc, _⟩
    · exact .base (.tup h)
    · exact .fTuple h
    · exact .kTuple hk hc
  | lst h r => exact .base (.lst h)
  | ro h r =>
    rcases h with (h | ⟨o, h⟩) | ⟨o, its, n, hk, hc, _⟩
    · exact .base (.lst h)
    · exact .base (.frz h)
    · exact .kList hk hc
@[simp] def fIsi (t : Ty) (d : D) : Option OR := some (.v (.bl (isi d t)))
theorem sd_isi {t : Ty} (ha : Sd K ta ma) : Sd K (tCB (rIsi K) (tCons ta (tCons (tC (.ty t.nm)) tNil))) (eUn (fIsi t) ma) := fun F pa G σ δ H S r' δ' e Q q => by
  obtain ⟨p, h1, e⟩ := bind_some' e
  obtain ⟨a, h3, e⟩ := bind_some' e
  simp only [fIsi, Option.bind_some, Option.some.injEq, Prod.mk.injEq] at e
  obtain ⟨rfl, rfl⟩ := e
  refine ha F pa G σ δ H S _ _ h1 _ fun G1 x H1 g1 S1 r1 => ?_
  exact ⟨x, .ty t.nm, _, _, isi a t, rfl, .ty _, rep_ty ((rd_ok S1 r1 h3).rep S1.gr), kit_ty (isi_ok a t), q G1 _ H1 g1 S1 (Rep.bl _)⟩
@[simp] def fIsi2 (t u : Ty) (d : D) : Option OR := some (.v (.bl (isi d t || isi d u)))
theorem sd_isi2 {t u : Ty} (ha : Sd K ta ma) : Sd K (tCB (rIsiT K) (tCons ta (tCons (tTup (tCons (tC (.ty t.nm)) (tCons (tC (.ty u.nm)) tNil))) tNil))) (eUn (fIsi2 t u) ma) := fun F pa G σ δ H S r' δ' e Q q => by
  obtain ⟨p, h1, e⟩ := bind_some' e
  obtain ⟨a, h3, e⟩ := bind_some' e
  simp only [fIsi2, Option.bind_some, Option.some.injEq, Prod.mk.injEq] at e
  obtain ⟨rfl, rfl⟩ := e
  refine ha F pa G σ δ H S _ _ h1 _ fun G1 x H1 g1 S1 r1 => ⟨sz_of (by show 2 ≤ 100000; decide), fun T hT => ?_⟩
  have e1 : Ex H1 (upd H1 T (.tup [.ty t.nm, .ty u.nm])) := Ex.new hT
  refine ⟨x, T, _, .type (tyN a), [.type t.nm, .type u.nm], (isi a t || isi a u), rfl, upd_same, .cons (.ty _) (.cons (.ty _) .nil), rep_ty (((rd_ok S1 r1 h3).rep S1.gr).mono e1), ?_, q _ _ _ (g1.trans (S1.gexNew hT)) (S1.newG hT) (Rep.bl _)⟩
  refine kitAny_cons (kit_ty (isi_ok a t)) (fun h => ?_) (fun h => ?_)
  · rw [h, Bool.false_or]
    exact kitAny_cons (kit_ty (isi_ok a u)) (fun h => by rw [h]; exact kitAny_nil) (fun h => h)
  · rw [h, Bool.true_or]

/-! ### built-in functions -/
@[simp] def fLen : List D → Option OR
  | [.tup ds] => some (.v (.int ds.length))
  | [.lst ds] => some (.v (.int ds.length))
  | [.ro ds] => some (.v (.int ds.length))
  | _ => none
theorem repNs_one {d : D} {xs : List V} (h : RepNs K G H [d] xs) : ∃ v, xs = [v] ∧ RepN K G H d v := by
  cases h with
  | cons h1 h2 => cases h2; exact ⟨_, rfl, h1⟩
theorem repNs_two {d d' : D} {xs : List V} (h : RepNs K G H [d, d'] xs) : ∃ v v', xs = [v, v'] ∧ RepN K G H d v ∧ RepN K G H d' v' := by
  cases h with
  | cons h1 h2 => obtain ⟨v', rfl, h3⟩ := repNs_one h2; exact ⟨_, v', rfl, h1, h3⟩
theorem co_len : Co K (fun xs H Q => ∃ p ys, xs = [.ref p] ∧ (SqL K H p ys ∨ SqT K H p ys) ∧ Q (.int ys.length) H) fLen := fun G H xs as o e h hf Q q => by
  unfold fLen at hf
  split at hf
  · simp only [Option.some.injEq] at hf
    subst hf
    obtain ⟨v, rfl, h1⟩ := repNs_one h
    cases (show Rep K G (.tup _) v from h1) with
    | tup a r => exact ⟨_, _, rfl, .inr (ex_t e a.1), by rw [← r.length]; exact q _ (.int _)⟩
  · simp only [Option.some.injEq] at hf
    subst hf
    obtain ⟨v, rfl, p, vs, rfl, a, r⟩ := repNs_one h
    exact ⟨_, _, rfl, .inl (SqL.of a), by rw [← r.length]; exact q _ (.int _)⟩
  · simp only [Option.some.injEq] at hf
    subst hf
    obtain ⟨v, rfl, h1⟩ := repNs_one h
    cases (show Rep K G (.ro _) v from h1) with
    | ro a r => exact ⟨_, _, rfl, .inl (ex_l e a), by rw [← r.length]; exact q _ (.int _)⟩
  · cases hf
@[simp] def fAbs : List D → Option OR
  | [.int i] => some (.v (.int (if i < 0 then -i else i)))
  | _ => none
theorem co_abs : Co K (fun xs H Q => ∃ i, xs = [.int i] ∧ Q (.int (if i < 0 then -i else i)) H) fAbs := fun G H xs as o e h hf Q q => by
  unfold fAbs at hf
  split at hf
  · rename_i i
    simp only [Option.some.injEq] at hf
    subst hf
    obtain ⟨v, rfl, h1⟩ := repNs_one h
    cases (show Rep K G (.int i) v from h1)
    exact ⟨i, rfl, q _ (.int _)⟩
  · cases hf
@[simp] def fInt : List D → Option OR
  | [.int i] => some (.v (.int i))
  | [.bl k] => some (.v (.int (if k then 1 else 0)))
  | _ => none
theorem co_int : Co K (fun xs H Q => (∃ i, xs = [.int i] ∧ Q (.int i) H) ∨ ∃ k, xs = [.bl k] ∧ Q (.int (if k then 1 else 0)) H) fInt := fun G H xs as o e h hf Q q => by
  unfold fInt at hf
  split at hf
  · rename_i i
    simp only [Option.some.injEq] at hf
    subst hf
    obtain ⟨v, rfl, h1⟩ := repNs_one h
    cases (show Rep K G (.int i) v from h1)
    exact .inl ⟨i, rfl, q _ (.int _)⟩
  · rename_i i
    simp only [Option.some.injEq] at hf
    subst hf
    obtain ⟨v, rfl, h1⟩ := repNs_one h
    cases (show Rep K G (.bl i) v from h1)
    exact .inr ⟨i, rfl, q _ (.int _)⟩
  · cases hf
@[simp] def fList : List D → Option OR
  | [.tup ds] => some (.l ds)
  | [.lst ds] => some (.l ds)
  | [.ro ds] => some (.l ds)
  | _ => none
theorem co_list : Co K (fun xs H Q => ∃ p ys, xs = [.ref p] ∧ (SqL K H p ys ∨ SqT K H p ys) ∧ ∀ l, H l = none → Q (.ref l) (upd H l (.lst ys))) fList := fun G H xs as o e h hf Q q => by
  unfold fList at hf
  split at hf
  · simp only [Option.some.injEq] at hf
    subst hf
    obtain ⟨v, rfl, h1⟩ := repNs_one h
    cases (show Rep K G (.tup _) v from h1) with
    | tup a r => exact ⟨_, _, rfl, .inr (ex_t e a.1), fun l hl => q l _ hl r⟩
  · simp only [Option.some.injEq] at hf
    subst hf
    obtain ⟨v, rfl, p, vs, rfl, a, r⟩ := repNs_one h
    exact ⟨_, _, rfl, .inl (SqL.of a), fun l hl => q l _ hl r⟩
  · simp only [Option.some.injEq] at hf
    subst hf
    obtain ⟨v, rfl, h1⟩ := repNs_one h
    cases (show Rep K G (.ro _) v from h1) with
    | ro a r => exact ⟨_, _, rfl, .inl (ex_l e a), fun l hl => q l _ hl r⟩
  · cases hf
@[simp] def fTuple : List D → Option OR
  | [.tup ds] => some (.v (.tup ds))
  | [.lst ds] => some (.t ds)
  | [.ro ds] => some (.t ds)
  | _ => none
theorem co_tuple : Co K (fun xs H Q => ∃ p ys, xs = [.ref p] ∧ ((SqL K H p ys ∧ ∀ (l : Addr) (o : Obj), H l = none → o.dict = none → Q (.ref l) (upd H l (.frz o (.tup ys)))) ∨ (SqT K H p ys ∧ Q (.ref p) H))) fTuple := fun G H xs as o e h hf Q q => by
  unfold fTuple at hf
  split at hf
  · simp only [Option.some.injEq] at hf
    subst hf
    obtain ⟨v, rfl, h1⟩ := repNs_one h
    cases (show Rep K G (.tup _) v from h1) with
    | tup a r => exact ⟨_, _, rfl, .inr ⟨ex_t e a.1, q _ (.tup a r)⟩⟩
  · simp only [Option.some.injEq] at hf
    subst hf
    obtain ⟨v, rfl, p, vs, rfl, a, r⟩ := repNs_one h
    exact ⟨_, _, rfl, .inl ⟨SqL.of a, fun l o hl hd => q l o _ hl hd r⟩⟩
  · simp only [Option.some.injEq] at hf
    subst hf
    obtain ⟨v, rfl, h1⟩ := repNs_one h
    cases (show Rep K G (.ro _) v from h1) with
    | ro a r => exact ⟨_, _, rfl, .inl ⟨ex_l e a, fun l o hl hd => q l o _ hl hd r⟩⟩
  · cases hf
@[simp] def blsOf : List D → Option (List Bool)
  | [] => some []
  | .bl b :: ds => (blsOf ds).bind fun bs => some (b :: bs)
  | _ :: _ => none
theorem blsOf_ok : ∀ {ds : List D} {bs : List Bool} {vs : List V}, blsOf ds = some bs → Reps K G ds vs → vs = bs.map V.bl
  | [], bs, _, h, .nil => by
    simp only [blsOf, Option.some.injEq] at h
    subst h
    rfl
  | .bl b :: ds, bs, _, h, .cons a r => by
    obtain ⟨bs', h1, h2⟩ := bind_some' h
    simp only [Option.some.injEq] at h2
    subst h2
    cases a
    rw [blsOf_ok h1 r]
    rfl
  | .non :: _, _, _, h, _ => nomatch h
  | .int _ :: _, _, _, h, _ => nomatch h
  | .str _ :: _, _, _, h, _ => nomatch h
  | .tup _ :: _, _, _, h, _ => nomatch h
  | .lst _ :: _, _, _, h, _ => nomatch h
  | .ro _ :: _, _, _, h, _ => nomatch h
  | .tw _ :: _, _, _, h, _ => nomatch h
@[simp] def fAll : List D → Option OR
  | [.lst ds] => (blsOf ds).bind fun bs => some (.v (.bl (bs.all id)))
  | _ => none
theorem co_all : Co K (rAll K) fAll := fun G H xs as o e h hf Q q => by
  unfold fAll at hf
  split at hf
  · obtain ⟨bs, h1, hf⟩ := bind_some' hf
    simp only [Option.some.injEq] at hf
    subst hf
    obtain ⟨v, rfl, p, vs, rfl, a, r⟩ := repNs_one h
    have e1 := blsOf_ok h1 r
    subst e1
    exact ⟨p, bs, rfl, SqL.of a, q _ (.bl _)⟩
  · cases hf
@[simp] def fAny : List D → Option OR
  | [.lst ds] => (blsOf ds).bind fun bs => some (.v (.bl (bs.any id)))
  | _ => none
theorem co_any : Co K (rAny K) fAny := fun G H xs as o e h hf Q q => by
  unfold fAny at hf
  split at hf
  · obtain ⟨bs, h1, hf⟩ := bind_some' hf
    simp only [Option.some.injEq] at hf
    subst hf
    obtain ⟨v, rfl, p, vs, rfl, a, r⟩ := repNs_one h
    have e1 := blsOf_ok h1 r
    subst e1
    exact ⟨p, bs, rfl, SqL.of a, q _ (.bl _)⟩
  · cases hf
@[simp] def intsOf : List D → Option (List Int)
  | [] => some []
  | .int b :: ds => (intsOf ds).bind fun bs => some (b :: bs)
  | _ :: _ => none
theorem intsOf_ok : ∀ {ds : List D} {bs : List Int} {vs : List V}, intsOf ds = some bs → Reps K G ds vs → vs = bs.map V.int
  | [], bs, _, h, .nil => by
    simp only [intsOf, Option.some.injEq] at h
    subst h
    rfl
  | .int b :: ds, bs, _, h, .cons a r => by
    obtain ⟨bs', h1, h2⟩ := bind_some' h
    simp only [Option.some.injEq] at h2
    subst h2
    cases a
    rw [intsOf_ok h1 r]
    rfl
  | .non :: _, _, _, h, _ => nomatch h
  | .bl _ :: _, _, _, h, _ => nomatch h
  | .str _ :: _, _, _, h, _ => nomatch h
  | .tup _ :: _, _, _, h, _ => nomatch h
  | .lst _ :: _, _, _, h, _ => nomatch h
  | .ro _ :: _, _, _, h, _ => nomatch h
  | .tw _ :: _, _, _, h, _ => nomatch h
@[simp] def fSum : List D → Option OR
  | [.lst ds] => (intsOf ds).bind fun bs => some (.v (.int bs.sum))
  | _ => none
theorem co_sum : Co K (rSum K) fSum := fun G H xs as o e h hf Q q => by
  unfold fSum at hf
  split at hf
  · obtain ⟨bs, h1, hf⟩ := bind_some' hf
    simp only [Option.some.injEq] at hf
    subst hf
    obtain ⟨v, rfl, p, vs, rfl, a, r⟩ := repNs_one h
    have e1 := intsOf_ok h1 r
    subst e1
    exact ⟨p, bs, rfl, SqL.of a, q _ (.int _)⟩
  · cases hf
/-- max(a list of ints, default=d) -/
def maxI (d : Int) : List Int → Int
  | [] => d
  | y :: ys => ys.foldl (fun a y => if a < y then y else a) y
def rMaxD (K : PySem.W.Frag) : List V → List V → Hp → VK → Prop := fun xs zs H Q => ∃ (a : Addr) (ns : List Int) (d : Int), xs = [.ref a] ∧ zs = [.int d] ∧ SqL K H a (ns.map V.int) ∧ Q (.int (maxI d ns)) H
theorem cr_maxD {X : Cx} (hc : X.calm = true) (hu : X.A.units + 64 < cLine) : CallRK X (.builtin "max") ["default"] (rMaxD X.K) := by
  intro pins s σ H xs zs us ws Q I r rz h
  obtain ⟨a, ns, d, rfl, rfl, hs, q⟩ := h
  obtain ⟨its, rv, hl, _⟩ := I.list hs
  obtain ⟨u, rfl, ru⟩ := vals1 rz
  rw [Vals.ref1 r]
  obtain ⟨tk, rfl⟩ := ru
  have hi := rv.ints
  have fold : ∀ (y : Int) (ys : List Int), PySem.W.maxOf y ys = ys.foldl (fun a y => if a < y then y else a) y := fun y ys => by
    unfold PySem.W.maxOf
    have e : (fun (a y : Int) => if PySem.W.DatumOrd.lt a y = true then y else a) = fun a y => if a < y then y else a := by
      funext a y
      by_cases h : a < y
      · rw [if_pos h, if_pos (show PySem.W.DatumOrd.lt a y = true from decide_eq_true h)]
      · rw [if_neg h, if_neg (show ¬ PySem.W.DatumOrd.lt a y = true from fun z => h (of_decide_eq_true z))]
    rw [e]
  refine PySem.W.max_list_datum_default (xs := ns) (d := .int d tk) (I.ok.hd hc) hl.isList (PySem.W.HoldAll.of_ints hi) (by show X.A.units + 1 + 0 < cLine; omega) (fun e h' tk' hk => ?_) (fun y ys i v h' tk' e hv hh hk => ?_)
  · subst e
    exact ⟨.int d, H, I.kept hk, ⟨tk, rfl⟩, q⟩
  · obtain ⟨t', rfl⟩ := PySem.W.int_of_holds hh
    refine ⟨.int (maxI d ns), H, I.kept hk, ⟨t', ?_⟩, q⟩
    rw [e, fold]
    rfl
def eMaxD (ma : AM) (k : Int) : EM := fun δ => (ma δ).bind fun p => (keep p.1 p.2).bind fun p' => match p'.1 with
  | [.lst ds] => (intsOf ds).bind fun ns => some (.val (.int (maxI k ns)), p'.2)
  | _ => none
theorem sd_maxD {ta : TA} {ma : AM} {k : Int} (ha : SdA K ta ma) : Sd K (tCKw (rMaxD K) ta (tCons (tC (.int k)) tNil)) (eMaxD ma k) := fun F pa G σ δ H S r' δ' e Q q => by
  obtain ⟨p, h1, e⟩ := bind_some' e
  obtain ⟨⟨ds0, δ1⟩, h2, e⟩ := bind_some' e
  simp only at e
  split at e
  · obtain ⟨ns, h3, e⟩ := bind_some' e
    simp only [Option.some.injEq, Prod.mk.injEq] at e
    obtain ⟨rfl, rfl⟩ := e
    refine ha F pa G σ δ H S _ _ h1 _ fun G1 vs H1 g1 S1 r1 => ?_
    obtain ⟨G2, g2, S2, q2⟩ := keep_ok S1 r1 h2
    cases q2 with
    | cons a b =>
      cases b
      cases a with
      | lst ha rs =>
        have e1 := intsOf_ok h3 rs
        subst e1
        exact ⟨_, ns, k, rfl, rfl, SqL.of (S2.gr _ _ ha), q G2 _ H1 (g1.trans g2) S2 (Rep.int _)⟩
  · cases e

/-! ### subscripts, slices, in, reversed -/
@[simp] def dIx : D → D → Option OR
  | .tup ds, .int i => (atI ds i).bind fun d => some (.v d)
  | .lst ds, .int i => (atI ds i).bind fun d => some (.v d)
  | .ro ds, .int i => (atI ds i).bind fun d => some (.v d)
  | _, _ => none
theorem at_reps {ds : List D} {vs : List V} {i : Int} {d : D} (r : Reps K G ds vs) (h : atI ds i = some d) : ∃ v, atI vs i = some v ∧ Rep K G d v := by
  unfold atI at h
  obtain ⟨j, h1, h2⟩ := bind_some' h
  obtain ⟨v, h3, h4⟩ := r.get h2
  refine ⟨v, ?_, h4⟩
  unfold atI
  rw [← r.length, h1]
  exact h3
theorem ob_ix : Ob K (rIx K) dIx := fun G H x y a b o e ha hb hf Q q => by
  unfold dIx at hf
  split at hf
  · obtain ⟨d, h1, hf⟩ := bind_some' hf
    simp only [Option.some.injEq] at hf
    subst hf
    cases (show Rep K G (.int _) y from hb)
    cases (show Rep K G (.tup _) x from ha) with
    | tup h r =>
      obtain ⟨v, h2, h3⟩ := at_reps r h1
      exact .inr (.inl ⟨_, _, _, v, rfl, rfl, ex_t e h.1, h2, q v h3⟩)
  · obtain ⟨d, h1, hf⟩ := bind_some' hf
    simp only [Option.some.injEq] at hf
    subst hf
    cases (show Rep K G (.int _) y from hb)
    obtain ⟨p, vs, rfl, h, r⟩ := ha
    obtain ⟨v, h2, h3⟩ := at_reps r h1
    exact .inl ⟨_, _, _, v, rfl, rfl, SqL.of h, h2, q v h3⟩
  · obtain ⟨d, h1, hf⟩ := bind_some' hf
    simp only [Option.some.injEq] at hf
    subst hf
    cases (show Rep K G (.int _) y from hb)
    cases (show Rep K G (.ro _) x from ha) with
    | ro h r =>
      obtain ⟨v, h2, h3⟩ := at_reps r h1
      exact .inl ⟨_, _, _, v, rfl, rfl, ex_l e h, h2, q v h3⟩
  · cases hf
@[simp] def cutD (ds : List D) (lo hi : Option Int) : List D := (ds.drop (HT.sIx ds.length 0 lo)).take (HT.sIx ds.length ds.length hi - HT.sIx ds.length 0 lo)
theorem cut_reps {ds : List D} {vs : List V} {lo hi : Option Int} (r : Reps K G ds vs) : Reps K G (cutD ds lo hi) (cutV vs lo hi) := by
  unfold cutD cutV
  rw [r.length]
  exact (r.drop _).take _
@[simp] def wholeD (ds : List D) (lo hi : Option Int) : Bool := decide (HT.sIx ds.length 0 lo = 0 ∧ HT.sIx ds.length ds.length hi = ds.length)
@[simp] def dSl : D → Option Int → Option Int → Option OR
  | .tup ds, lo, hi => if wholeD ds lo hi = true then some (.v (.tup ds)) else some (.t (cutD ds lo hi))
  | .lst ds, lo, hi => some (.l (cutD ds lo hi))
  | .ro ds, lo, hi => some (.l (cutD ds lo hi))
  | _, _, _ => none
def rSlAny (K : PySem.W.Frag) : V → Option Int → Option Int → Hp → VK → Prop := fun x lo hi H Q => rSlL K x lo hi H Q ∨ rSlN K x lo hi H Q
theorem sl_any {X : Cx} : SlR X (rSlAny X.K) := by
  intro pins s σ H x v vl vu lo hi sl Q I rx hs hl hh h
  rcases h with h | h
  · exact sl_list pins s σ H x v vl vu lo hi sl Q I rx hs hl hh h
  · exact sl_tupN pins s σ H x v vl vu lo hi sl Q I rx hs hl hh h
theorem so_any : So K (rSlAny K) dSl := fun G H x lo hi a o e ha hf Q q => by
  cases a with
  | tup ds =>
    simp only [dSl] at hf
    cases (show Rep K G (.tup _) x from ha) with
    | tup h r =>
      split at hf
      · rename_i hw
        simp only [Option.some.injEq] at hf
        subst hf
        have hw := of_decide_eq_true hw
        rw [r.length] at hw
        exact .inr ⟨_, _, rfl, ex_t e h.1, fun _ => q _ (.tup h r), fun z => absurd hw z⟩
      · rename_i hw
        simp only [Option.some.injEq] at hf
        subst hf
        refine .inr ⟨_, _, rfl, ex_t e h.1, fun z => ?_, fun _ p o hp hd => q p o _ hp hd (cut_reps r)⟩
        rw [← r.length] at z
        exact absurd (decide_eq_true z) hw
  | lst ds =>
    simp only [dSl, Option.some.injEq] at hf
    subst hf
    obtain ⟨p, vs, rfl, h, r⟩ := ha
    exact .inl ⟨_, _, rfl, SqL.of h, fun p hp => q p _ hp (cut_reps r)⟩
  | ro ds =>
    simp only [dSl, Option.some.injEq] at hf
    subst hf
    cases (show Rep K G (.ro _) x from ha) with
    | ro h r => exact .inl ⟨_, _, rfl, ex_l e h, fun p hp => q p _ hp (cut_reps r)⟩
  | _ => cases hf
@[simp] def fRev : D → Option OR
  | .lst ds => some (.l ds.reverse)
  | .ro ds => some (.l ds.reverse)
  | _ => none
theorem sd_revL (ha : Sd K ta ma) : Sd K (tRevL K ta) (eUn fRev ma) := sd_un (r := fun x H1 Q => ∃ a xs, x = V.ref a ∧ SqL K H1 a xs ∧ ∀ p, H1 p = none → Q (.ref p) (upd H1 p (.lst xs.reverse))) (fun G H x a o e h hf Q q => by
  unfold fRev at hf
  split at hf
  · simp only [Option.some.injEq] at hf
    subst hf
    obtain ⟨p, vs, rfl, h1, r⟩ := h
    exact ⟨_, _, rfl, SqL.of h1, fun p hp => q p _ hp r.reverse⟩
  · simp only [Option.some.injEq] at hf
    subst hf
    cases (show Rep K G (.ro _) x from h) with
    | ro h1 r => exact ⟨_, _, rfl, ex_l e h1, fun p hp => q p _ hp r.reverse⟩
  · cases hf) ha
@[simp] def vOf : D → Option V
  | .non => some .non
  | .bl b => some (.bl b)
  | .int i => some (.int i)
  | .str x => some (.str x)
  | _ => none
@[simp] def vsOf : List D → Option (List V)
  | [] => some []
  | d :: ds => (vOf d).bind fun v => (vsOf ds).bind fun vs => some (v :: vs)
theorem vOf_ok {d : D} {u : V} (h : vOf d = some u) (r : Rep K G d v) : v = u ∧ flatV u = true := by
  cases r with
  | non => cases h; exact ⟨rfl, rfl⟩
  | bl b => cases h; exact ⟨rfl, rfl⟩
  | int b => cases h; exact ⟨rfl, rfl⟩
  | str b => cases h; exact ⟨rfl, rfl⟩
  | _ => cases h
theorem vsOf_ok : ∀ {ds : List D} {us vs : List V}, vsOf ds = some us → Reps K G ds vs → vs = us ∧ us.all flatV = true
  | [], us, _, h, .nil => by
    cases h
    exact ⟨rfl, rfl⟩
  | d :: ds, us, _, h, .cons a r => by
    obtain ⟨u, h1, h⟩ := bind_some' h
    obtain ⟨us', h2, h⟩ := bind_some' h
    cases h
    obtain ⟨e1, f1⟩ := vOf_ok h1 a
    obtain ⟨e2, f2⟩ := vsOf_ok h2 r
    subst e1 e2
    exact ⟨rfl, by rw [List.all_cons, f1, f2]; rfl⟩
@[simp] def seqOf : D → Option (List D)
  | .tup ds => some ds
  | .lst ds => some ds
  | .ro ds => some ds
  | _ => none
@[simp] def dIn (neg : Bool) : D → D → Option OR := fun a b => (vOf a).bind fun x => (seqOf b).bind fun ds => (vsOf ds).bind fun xs => some (.v (.bl (if neg then !inV x xs else inV x xs)))
theorem ob_in {neg : Bool} : Ob K (rIn K neg) (dIn neg) := fun G H x y a b o e ha hb hf Q q => by
  obtain ⟨u, h1, hf⟩ := bind_some' hf
  obtain ⟨ds, h2, hf⟩ := bind_some' hf
  obtain ⟨us, h3, hf⟩ := bind_some' hf
  simp only [Option.some.injEq] at hf
  subst hf
  obtain ⟨e1, f1⟩ := vOf_ok h1 (ha.rep e)
  subst e1
  have hb' := hb.rep e
  cases hb' with
  | tup h r =>
    cases h2
    obtain ⟨e2, f2⟩ := vsOf_ok h3 r
    subst e2
    exact ⟨_, _, rfl, .inr h.1, f1, f2, q _ (.bl _)⟩
  | lst h r =>
    cases h2
    obtain ⟨e2, f2⟩ := vsOf_ok h3 r
    subst e2
    exact ⟨_, _, rfl, .inl (SqL.of h), f1, f2, q _ (.bl _)⟩
  | ro h r =>
    cases h2
    obtain ⟨e2, f2⟩ := vsOf_ok h3 r
    subst e2
    exact ⟨_, _, rfl, .inl h, f1, f2, q _ (.bl _)⟩
  | _ => cases h2
/-- a op b op' c -/
def eChain (f f' : D → D → Option OR) (ma mb mc : EM) : EM := fun δ => (ma δ).bind fun p => (mb p.2).bind fun p2 => (rd (hold p.1) p2.2).bind fun a => (rd p2.1 p2.2).bind fun b => (f a b).bind fun o => match o with
  | .v (.bl true) => (mc p2.2).bind fun p3 => (rd (hold p2.1) p3.2).bind fun b' => (rd p3.1 p3.2).bind fun c => (f' b' c).bind fun o' => some (o'.r, p3.2)
  | .v (.bl false) => some (.val (.bl false), p2.2)
  | _ => none
theorem sd_chain {r r' : R2} {f f' : D → D → Option OR} (hr : Ob K r f) (hr' : Ob K r' f') (ha : Sd K ta ma) (hb : Sd K tb mb) (hc : Sd K tc mc) : Sd K (tChain r r' ta tb tc) (eChain f f' ma mb mc) := fun F pa G σ δ H S rr δ' e Q q => by
  obtain ⟨p, h1, e⟩ := bind_some' e
  obtain ⟨p2, h2, e⟩ := bind_some' e
  obtain ⟨a, h3, e⟩ := bind_some' e
  obtain ⟨b, h4, e⟩ := bind_some' e
  obtain ⟨o, h5, e⟩ := bind_some' e
  refine ha F pa G σ δ H S _ _ h1 _ fun G1 x H1 g1 S1 r1 => ?_
  obtain ⟨G1', g1', S1', r1'⟩ := hold_ok S1 r1
  refine hb F pa G1' σ _ H1 S1' _ _ h2 _ fun G2 y H2 g2 S2 r2 => ?_
  split at e
  · obtain ⟨p3, h6, e⟩ := bind_some' e
    obtain ⟨b', h7, e⟩ := bind_some' e
    obtain ⟨c, h8, e⟩ := bind_some' e
    obtain ⟨o', h9, e⟩ := bind_some' e
    simp only [Option.some.injEq, Prod.mk.injEq] at e
    obtain ⟨rfl, rfl⟩ := e
    refine hr G2 H2 x y a b _ S2.gr (rd_ok S2 (hold_stays g2.1 r1') h3) (rd_ok S2 r2 h4) h5 _ fun v hv => ?_
    cases hv
    refine ⟨true, rfl, iteT ?_⟩
    obtain ⟨G2', g2', S2', r2'⟩ := hold_ok S2 r2
    refine hc F pa G2' σ _ H2 S2' _ _ h6 _ fun G3 z H3 g3 S3 r3 => ?_
    exact hr' G3 H3 y z b' c o' S3.gr (rd_ok S3 (hold_stays g3.1 r2') h7) (rd_ok S3 r3 h8) h9 Q (fin_ok S3 fun G' v H' g S' r' => q G' v H' (((((g1.trans g1').trans g2).trans g2').trans g3).trans g) S' r')
  · simp only [Option.some.injEq, Prod.mk.injEq] at e
    obtain ⟨rfl, rfl⟩ := e
    refine hr G2 H2 x y a b _ S2.gr (rd_ok S2 (hold_stays g2.1 r1') h3) (rd_ok S2 r2 h4) h5 _ fun v hv => ?_
    cases hv
    exact ⟨false, rfl, iteF (q G2 _ H2 ((g1.trans g1').trans g2) S2 (Rep.bl _))⟩
  · cases e
/-- -a -/
@[simp] def fNeg : D → Option OR
  | .int i => some (.v (.int (-i)))
  | _ => none
theorem uo_neg : Uo K (rU fun i => .int (-i)) fNeg := fun G H x a o e h hf Q q => by
  unfold fNeg at hf
  split at hf
  · simp only [Option.some.injEq] at hf
    subst hf
    cases (show Rep K G (.int _) x from h)
    exact ⟨_, rfl, q _ (.int _)⟩
  · cases hf
end
end Pd
end
section
set_option Elab.async false
set_option linter.all false
set_option maxRecDepth 100000
set_option maxHeartbeats 1000000
namespace Pd
open PySem PySem.Spec PyProof.Rows L2 Evl

/-! ### zip of a list or a tuple with a list or a tuple -/
def IsIt (k : Bool) (h : Heap) (it a : Addr) (i : Nat) : Prop := if k = true then h.IsTupleIter it a i else h.IsListIter it a i
def IsSq (k : Bool) (h : Heap) (a : Addr) (its : Array Value) : Prop := if k = true then h.IsTuple a its else h.IsList a its
def SqK (K : PySem.W.Frag) (k : Bool) (H : Hp) (a : Addr) (xs : List V) : Prop := if k = true then SqT K H a xs else SqL K H a xs
theorem IsIt.at {k : Bool} {h h' : Heap} {it a : Addr} {i : Nat} (x : IsIt k h it a i) (e : ∀ o, h.get? it = some o → h'.get? it = some o) : IsIt k h' it a i := by
  cases k with
  | true => exact (show h.IsTupleIter it a i from x).at e
  | false => exact (show h.IsListIter it a i from x).at e
theorem IsIt.obj {k : Bool} {h : Heap} {it a : Addr} {i : Nat} (x : IsIt k h it a i) : ∃ o, h.get? it = some o ∧ ∀ v, o.data ≠ .cell v := by
  cases k with
  | true => obtain ⟨o, e, _, d⟩ := (show h.IsTupleIter it a i from x); exact ⟨o, e, fun v z => by rw [d] at z; cases z⟩
  | false => obtain ⟨o, e, _, d⟩ := (show h.IsListIter it a i from x); exact ⟨o, e, fun v z => by rw [d] at z; cases z⟩
theorem draws_k {prog : Program} {w : World} {A : Around} (hh : A.handled = none) (k : Bool) (it a : Addr) (hne : a ≠ it) (its : Array Value) :
    Draws prog w A it [it, a] its.size (fun i v => its[i]? = some v) (fun i h => IsIt k h it a i ∧ IsSq k h a its) := by
  cases k with
  | true => exact Draws.tuple hh it a hne its
  | false => exact Draws.list hh it a hne its
theorem sq_k {X : Cx} {pins : List (Addr × Obj)} {σ : L2.St} {H : Hp} {s : Shared} {k : Bool} {a : Addr} {xs : List V} (I : L2.Inv X pins σ H s) (h : SqK X.K k H a xs) : ∃ its : List Value, Vals xs its ∧ IsSq k s.heap a its.toArray ∧ a < s.heap.objs.size := by
  cases k with
  | true =>
    obtain ⟨its, r, p, _⟩ := I.tuple (show SqT X.K H a xs from h)
    exact ⟨its, r, p, by obtain ⟨o, e, _⟩ := p; exact Heap.lt_size e⟩
  | false =>
    obtain ⟨its, r, p, _⟩ := I.list (show SqL X.K H a xs from h)
    exact ⟨its, r, p.isList, p.lt⟩
theorem sq_inj {X : Cx} {pins : List (Addr × Obj)} {σ : L2.St} {H : Hp} {s : Shared} {k : Bool} {a : Addr} {xs ys : List V} (I : L2.Inv X pins σ H s) (h : SqK X.K k H a xs) (h' : SqK X.K k H a ys) : xs = ys := by
  cases k with
  | true => exact I.tuple_inj (show SqT X.K H a xs from h) h'
  | false => exact I.list_inj (show SqL X.K H a xs from h) h'
/-- what stands at a and at b, place by place, in new pairs -/
def ItzK (K : PySem.W.Frag) (k1 k2 : Bool) (a b : Addr) : It :=
  ⟨fun i H => ∃ (xs ys : List V) (x y : V), SqK K k1 H a xs ∧ SqK K k2 H b ys ∧ xs[i]? = some x ∧ ys[i]? = some y,
    fun i H v H' => ∃ T x y, v = .ref T ∧ H T = none ∧ H' = upd H T (.tup [x, y]) ∧ (∀ xs, SqK K k1 H a xs → xs[i]? = some x) ∧ ∀ ys, SqK K k2 H b ys → ys[i]? = some y,
    fun i H => ∃ xs ys : List V, SqK K k1 H a xs ∧ SqK K k2 H b ys ∧ i = min xs.length ys.length⟩
theorem turn_zipK {P : Program} {w : World} {K : PySem.W.Frag} {elts : List Expr} {kk : Nat} {tpos : Pos} {k1 k2 : Bool} {a b : Addr} {N : Nat} (ha : a < N) (hb : b < N) :
    Turn P w K (.Tuple elts kk tpos) (ItzK K k1 k2 a b) [N + 4, N + 2, N + 3, N, N + 1] (N + 4) (fun i h => IsZip h (N + 4) (N + 2) (N + 3) .none ∧ IsTupOf2 h (N + 2) (.ref N) (.ref (N + 1)) ∧ (∃ x y, IsTupOf2 h (N + 3) x y) ∧ IsIt k1 h N a i ∧ IsIt k2 h (N + 1) b i) where
  mem := List.mem_cons_self
  obj := fun i h st c hc => by
    obtain ⟨s1, s2, ⟨x, y, s3⟩, s4, s5⟩ := st
    have e' : c = N + 4 ∨ c = N + 2 ∨ c = N + 3 ∨ c = N ∨ c = N + 1 := by simpa using hc
    rcases e' with q | q | q | q | q
    · subst q; exact ⟨_, s1, fun v q => nomatch q⟩
    · subst q; exact ⟨_, s2, fun v q => nomatch q⟩
    · subst q; exact ⟨_, s3, fun v q => nomatch q⟩
    · subst q; exact s4.obj
    · subst q; exact s5.obj
  keep := fun i h h' st k => by
    obtain ⟨s1, s2, ⟨x, y, s3⟩, s4, s5⟩ := st
    exact ⟨k _ (by simp) _ s1, k _ (by simp) _ s2, ⟨x, y, k _ (by simp) _ s3⟩, s4.at fun o q => k N (by simp) o q, s5.at fun o q => k (N + 1) (by simp) o q⟩
  item := by
    intro X hP hw hK hc i pins s σ H E I hf st hg
    subst hP hw hK
    obtain ⟨s1, s2, s3, s4, s5⟩ := st
    obtain ⟨xs, ys, x, y, hqx, hqy, hx, hy⟩ := hg
    obtain ⟨its, rv, p, _⟩ := sq_k I hqx
    obtain ⟨its2, rv2, p2, _⟩ := sq_k I hqy
    have lx : i < its.length := by rw [← rv.length]; exact (List.getElem?_eq_some_iff.mp hx).1
    have ly : i < its2.length := by rw [← rv2.length]; exact (List.getElem?_eq_some_iff.mp hy).1
    have W := GoesN.zip2 (prog := X.prog) (w := X.w) (A := X.A) (elts := elts) (x1 := kk) (pos := tpos) (zip_sep2 (N := N) (fp1 := [a]) (fp2 := [b]) (fun c z => by simp at z; subst z; exact ha) (fun c z => by simp at z; subst z; exact hb))
      (draws_k (A := X.A.in1) (I.ok.hd hc) k1 N a (Nat.ne_of_lt ha) its.toArray) (draws_k (A := X.A.in1) (I.ok.hd hc) k2 (N + 1) b (Nat.ne_of_lt (Nat.lt_succ_of_lt hb)) its2.toArray)
    refine thn (W.goes i s (fun v s2 => ∃ x' H', L2.Inv X pins σ H' s2 ∧ RelV x' v ∧ (ItzK X.K k1 k2 a b).yld i H x' H' ∧ (IsZip s2.heap (N + 4) (N + 2) (N + 3) .none ∧ IsTupOf2 s2.heap (N + 2) (.ref N) (.ref (N + 1)) ∧ (∃ x y, IsTupOf2 s2.heap (N + 3) x y) ∧ IsIt k1 s2.heap N a (i + 1) ∧ IsIt k2 s2.heap (N + 1) b (i + 1)) ∧ ∀ c ∈ [N + 4, N + 2, N + 3, N, N + 1], H' c = none) E (by simp; omega) ⟨s1, s2, s3, ⟨s4, p⟩, ⟨s5, p2⟩⟩ (fun v h' tk hY st' hk htk => ?_)) (fun r s' hr => hr)
    obtain ⟨T, u, u2, rfl, hTn, hu, hu2, hT⟩ := hY
    obtain ⟨z1, z2, z3, ⟨z4, _⟩, ⟨z5, _⟩⟩ := st'
    obtain ⟨v1, q1, ru⟩ := rv.get hx
    obtain ⟨v2, q2, ru2⟩ := rv2.get hy
    have e1 : u = v1 := by
      have hu : its[i]? = some u := by simpa using hu
      rw [q1] at hu; exact (Option.some.inj hu).symm
    have e2 : u2 = v2 := by
      have hu2 : its2[i]? = some u2 := by simpa using hu2
      rw [q2] at hu2; exact (Option.some.inj hu2).symm
    subst e1 e2
    have sz : ∀ c ∈ [N + 4, N + 2, N + 3, N, N + 1], c < s.heap.objs.size := fun c hcm => by
      have e' : c = N + 4 ∨ c = N + 2 ∨ c = N + 3 ∨ c = N ∨ c = N + 1 := by simpa using hcm
      obtain ⟨x0, y0, s3⟩ := s3
      obtain ⟨o4, e4, _⟩ := s4.obj
      obtain ⟨o5, e5, _⟩ := s5.obj
      rcases e' with q | q | q | q | q
      · subst q; exact Heap.lt_size s1
      · subst q; exact Heap.lt_size s2
      · subst q; exact Heap.lt_size s3
      · subst q; exact Heap.lt_size e4
      · subst q; exact Heap.lt_size e5
    have new : ObjOk X.prog X.w (upd H T (.tup [x, y])) h' T (.tup [x, y]) := ⟨by show 2 ≤ sizeLine; decide, [u, u2], .cons ru (.cons ru2 .nil), hT⟩
    have wrs : ∀ c, c ∉ [N + 4, N + 2, N + 3, N, N + 1] → c ∉ [N + 4, N + 3, N, N + 1] := fun c hc z => hc (by
      simp only [List.mem_cons, List.not_mem_nil, or_false] at z ⊢
      rcases z with z | z | z | z
      · exact .inl z
      · exact .inr (.inr (.inl z))
      · exact .inr (.inr (.inr (.inl z)))
      · exact .inr (.inr (.inr (.inr z))))
    have I1 : L2.Inv X pins σ (upd H T (.tup [x, y])) { s with heap := h', toks := tk } := I.turnedNew (ch := [N + 4, N + 2, N + 3, N, N + 1]) (fun c o hcm q => hk c o (wrs c hcm) q) hf hTn new
    refine ⟨.ref T, _, I1, rfl, ⟨T, x, y, rfl, I.hok.fresh hTn, rfl, fun l hl => by rw [sq_inj I hl hqx]; exact hx, fun l hl => by rw [sq_inj I hl hqy]; exact hy⟩, ⟨z1, z2, z3, z4, z5⟩, fun c hcm => ?_⟩
    rw [upd_ne (Nat.ne_of_lt (Nat.lt_of_lt_of_le (sz c hcm) hTn))]
    exact (hf c hcm).1
  done := by
    intro X hP hw hK hc i pins s σ H E I hf st hg
    subst hP hw hK
    obtain ⟨s1, s2, s3, s4, s5⟩ := st
    obtain ⟨xs, ys, hqx, hqy, hend⟩ := hg
    obtain ⟨its, rv, p, _⟩ := sq_k I hqx
    obtain ⟨its2, rv2, p2, _⟩ := sq_k I hqy
    have W := GoesN.zip2 (prog := X.prog) (w := X.w) (A := X.A) (elts := elts) (x1 := kk) (pos := tpos) (zip_sep2 (N := N) (fp1 := [a]) (fp2 := [b]) (fun c z => by simp at z; subst z; exact ha) (fun c z => by simp at z; subst z; exact hb))
      (draws_k (A := X.A.in1) (I.ok.hd hc) k1 N a (Nat.ne_of_lt ha) its.toArray) (draws_k (A := X.A.in1) (I.ok.hd hc) k2 (N + 1) b (Nat.ne_of_lt (Nat.lt_succ_of_lt hb)) its2.toArray)
    have wrs : ∀ c, c ∉ [N + 4, N + 2, N + 3, N, N + 1] → c ∉ [N + 4, N + 3, N, N + 1] := fun c hc z => hc (by
      simp only [List.mem_cons, List.not_mem_nil, or_false] at z ⊢
      rcases z with z | z | z | z
      · exact .inl z
      · exact .inr (.inr (.inl z))
      · exact .inr (.inr (.inr (.inl z)))
      · exact .inr (.inr (.inr (.inr z))))
    have hi : i = min its.toArray.size its2.toArray.size := by
      rw [List.size_toArray, List.size_toArray, ← rv.length, ← rv2.length]
      exact hend
    refine W.stops s (fun s1 => L2.Inv X pins σ H s1) E (by rw [← hi]; exact ⟨s1, s2, s3, ⟨s4, p⟩, ⟨s5, p2⟩⟩) fun h' tk hk _ => ?_
    exact I.turnedL (ch := [N + 4, N + 2, N + 3, N, N + 1]) (fun c o hcm q => hk c o (wrs c hcm) q) hf
  self := fun A i s Q E st h => wpAny_pyIter_zip st.1 h
def iZipK (K : PySem.W.Frag) (ta : TA) : TI := fun σ H R => ∃ k1 k2 : Bool, ta σ H fun vs H1 => ∃ a b xs ys, vs = [.ref a, .ref b] ∧ SqK K k1 H1 a xs ∧ SqK K k2 H1 b ys ∧ R (ItzK K k1 k2 a b) H1
theorem begins_k (k : Bool) (a : Addr) (its : Array Value) : ∃ o : Obj, Begins (.ref a) o (fun h => IsSq k h a its) ∧ ∀ h it, h.get? it = some o → IsIt k h it a 0 := by
  cases k with
  | true => exact ⟨_, begins_tuple a its, fun h it e => ⟨_, e, rfl, rfl⟩⟩
  | false => exact ⟨_, begins_list a its, fun h it e => ⟨_, e, rfl, rfl⟩⟩
theorem pi_zipK {X : Cx} {e e2 : Expr} {ta : TA} {p pos tpos : Pos} {elts : List Expr} {kk : Nat} (hg : Gl X "zip") (hm : X.mg "zip" = none) (ha : PA X [e, e2] ta)
    (hs : starEach [e, e2] X.env = (false, eval e X.env) :: starEach [e2] X.env := by rfl) (hpl : (backTo pos (starEach [e2] X.env)).any (·.1) = false := by rfl) :
    PI X (.Tuple elts kk tpos) (.Call (.Name "zip" p) [e, e2] [] pos) (iZipK X.K ta) := by
  refine ⟨fun pins s σ H R I h => ?_⟩
  obtain ⟨k1, k2, h⟩ := h
  refine Call_ (ld_blt I hg hm PyProof.Rows.boot_zip (PyProof.Rows.callWith_type1 (thn (ha.run pos pins s σ H _ I h) fun us s1 ⟨vs, H1, I1, r1, q1⟩ => ?_) hs hpl))
  obtain ⟨a, b, xs, ys, rfl, hqx, hqy, q⟩ := q1
  obtain ⟨u1, u2, rfl, r1, r2⟩ := vals2 r1
  cases (show u1 = Value.ref a from r1)
  cases (show u2 = Value.ref b from r2)
  obtain ⟨its, rv, p1, la⟩ := sq_k I1 hqx
  obtain ⟨its2, rv2, p2, lb⟩ := sq_k I1 hqy
  obtain ⟨o1, B1, hb1⟩ := begins_k k1 a its.toArray
  obtain ⟨o2, B2, hb2⟩ := begins_k k2 b its2.toArray
  refine zip_begins2 B1 B2 p1 p2 fun h' z1 z2 z3 z4 z5 hsz hk => wpAny_pyIter_zip z1 ?_
  have I2 : L2.Inv X pins σ H1 { s1 with heap := h' } := I1.kept (t' := s1.toks) hk
  refine ⟨s1.heap.objs.size + 4, [s1.heap.objs.size + 4, s1.heap.objs.size + 2, s1.heap.objs.size + 3, s1.heap.objs.size, s1.heap.objs.size + 1], _, _, H1, rfl, I2, turn_zipK la lb, ⟨z1, z2, ⟨_, _, z3⟩, hb1 _ _ z4, hb2 _ _ z5⟩, fun c hcm => ?_, q⟩
  have hle : s1.heap.objs.size ≤ c := by
    simp only [List.mem_cons, List.not_mem_nil, or_false] at hcm
    rcases hcm with z | z | z | z | z <;> rw [z]
    · exact Nat.le_add_right _ _
    · exact Nat.le_add_right _ _
    · exact Nat.le_add_right _ _
    · exact Nat.le_refl _
    · exact Nat.le_add_right _ _
  exact I1.fpOk hle (I1.hok.fresh hle)
section
variable {K : PySem.W.Frag} {G : Hp}
@[simp] def zipD : List D → List D → List D
  | a :: as, b :: bs => .tw [a, b] :: zipD as bs
  | _, _ => []
theorem zipD_len : ∀ (as bs : List D), (zipD as bs).length = min as.length bs.length
  | [], _ => by simp [zipD]
  | _ :: _, [] => by simp [zipD]
  | a :: as, b :: bs => by
    show (zipD as bs).length + 1 = _
    rw [zipD_len as bs, List.length_cons, List.length_cons]
    omega
theorem zipD_get : ∀ (as bs : List D) (i : Nat) (d : D), (zipD as bs)[i]? = some d → ∃ a b, as[i]? = some a ∧ bs[i]? = some b ∧ d = .tw [a, b]
  | [], _, _, _, h => by simp [zipD] at h
  | _ :: _, [], _, _, h => by simp [zipD] at h
  | a :: as, b :: bs, 0, d, h => ⟨a, b, rfl, rfl, (Option.some.inj h).symm⟩
  | a :: as, b :: bs, i + 1, d, h => zipD_get as bs i d h
@[simp] def kindOf : D → Option (Bool × List D)
  | .tup ds => some (true, ds)
  | .lst ds => some (false, ds)
  | .ro ds => some (false, ds)
  | _ => none
theorem kind_ok {d : D} {v : V} {k : Bool} {ds : List D} (h : Rep K G d v) (e : kindOf d = some (k, ds)) : ∃ a vs, v = .ref a ∧ SqK K k G a vs ∧ Reps K G ds vs := by
  cases h with
  | tup h r => cases e; exact ⟨_, _, rfl, h.1, r⟩
  | lst h r => cases e; exact ⟨_, _, rfl, SqL.of h, r⟩
  | ro h r => cases e; exact ⟨_, _, rfl, h, r⟩
  | _ => cases e
theorem sqK_ex {k : Bool} {G H : Hp} {a : Addr} {xs : List V} (e : Ex G H) (h : SqK K k G a xs) : SqK K k H a xs := by
  cases k with
  | true => exact ex_t e (show SqT K G a xs from h)
  | false => exact ex_l e (show SqL K G a xs from h)
def iZp (ma : AM) : IM := fun δ => (ma δ).bind fun p => (keep p.1 p.2).bind fun q => match q.1 with
  | [a, b] => (kindOf a).bind fun x => (kindOf b).bind fun y => some (zipD x.2 y.2, q.2)
  | _ => none
theorem si_zip {ta : TA} {ma : AM} (h : SdA K ta ma) : SdI K (iZipK K ta) (iZp ma) := fun F pa G σ δ H S ds δ' e R q => by
  obtain ⟨p, h1, e⟩ := bind_some' e
  obtain ⟨⟨es, δ1⟩, h2, e⟩ := bind_some' e
  simp only at e
  split at e
  · rename_i a b
    obtain ⟨⟨k1, xs⟩, h3, e⟩ := bind_some' e
    obtain ⟨⟨k2, ys⟩, h4, e⟩ := bind_some' e
    simp only [Option.some.injEq, Prod.mk.injEq] at e
    obtain ⟨rfl, rfl⟩ := e
    refine ⟨k1, k2, h F pa G σ δ H S _ _ h1 _ fun G1 vs H1 g1 S1 r1 => ?_⟩
    obtain ⟨G2, g2, S2, q2⟩ := keep_ok S1 r1 h2
    cases q2 with
    | cons ra rb =>
      cases rb with
      | cons rb rn =>
        cases rn
        obtain ⟨pa', us, rfl, sa, ra'⟩ := kind_ok ra h3
        obtain ⟨pb', ws, rfl, sb, rb'⟩ := kind_ok rb h4
        refine ⟨_, _, us, ws, rfl, sqK_ex S2.gr sa, sqK_ex S2.gr sb, q G2 _ H1 (g1.trans g2) S2 fun F3 pa3 i G3 σ3 δ3 H3 e3 S3 => ⟨fun d hd => ?_, fun hi => ?_⟩⟩
        · obtain ⟨x, y, hx, hy, rfl⟩ := zipD_get xs ys i d hd
          obtain ⟨vx, hvx, rx⟩ := ra'.get hx
          obtain ⟨vy, hvy, ry⟩ := rb'.get hy
          have qa := sqK_ex (e3.trans S3.gr) sa
          have qb := sqK_ex (e3.trans S3.gr) sb
          refine ⟨⟨us, ws, vx, vy, qa, qb, hvx, hvy⟩, fun x' H' yl => ?_⟩
          obtain ⟨T, u, u2, rfl, hT, rfl, f1, f2⟩ := yl
          have e1 : u = vx := by have := f1 us qa; rw [hvx] at this; exact (Option.some.inj this).symm
          have e2 : u2 = vy := by have := f2 ws qb; rw [hvy] at this; exact (Option.some.inj this).symm
          subst e1 e2
          have ee := e3.trans (S3.gexNew (F := F3) (o := .tup [u, u2]) hT).1
          exact ⟨_, S3.gexNew hT, S3.newG hT, Rep.tw (SqT.of upd_same) (.cons (rx.mono ee) (.cons (ry.mono ee) .nil))⟩
        · refine ⟨us, ws, sqK_ex (e3.trans S3.gr) sa, sqK_ex (e3.trans S3.gr) sb, ?_⟩
          rw [hi, zipD_len, ra'.length, rb'.length]
  · cases e
end
end Pd
end
section
set_option Elab.async false
set_option linter.all false
set_option maxRecDepth 100000
set_option maxHeartbeats 1000000
namespace Pd
open PySem PySem.Spec PyProof.Rows L2 Evl
/-! ### side conditions told once -/
def notStar : Expr → Bool
  | .Starred _ _ => false
  | _ => true
theorem star_ok {e : Expr} {es : List Expr} {env : PySem.Env} (h : notStar e = true) : starEach (e :: es) env = (false, eval e env) :: starEach es env := by
  cases e <;> first | rfl | cases h
theorem plain_ok {pos : Pos} {env : PySem.Env} : ∀ {es : List Expr}, es.all notStar = true → (backTo pos (starEach es env)).any (·.1) = false
  | [], _ => rfl
  | e :: es, h => by
    rw [List.all_cons, Bool.and_eq_true] at h
    rw [star_ok h.1]
    show (false || (backTo pos (starEach es env)).any (·.1)) = false
    rw [plain_ok h.2]
    rfl
theorem bt_len : bootBuiltins "len" = some (.builtin "len") := by decide +kernel
theorem bt_abs : bootBuiltins "abs" = some (.builtin "abs") := by decide +kernel
theorem bt_all : bootBuiltins "all" = some (.builtin "all") := by decide +kernel
theorem bt_any : bootBuiltins "any" = some (.builtin "any") := by decide +kernel
theorem bt_sum : bootBuiltins "sum" = some (.builtin "sum") := by decide +kernel
theorem bt_max : bootBuiltins "max" = some (.builtin "max") := by decide +kernel
theorem bt_min : bootBuiltins "min" = some (.builtin "min") := by decide +kernel
theorem bt_isinstance : bootBuiltins "isinstance" = some (.builtin "isinstance") := by decide +kernel
theorem bt_int : bootBuiltins "int" = some (.type "int") := by decide +kernel
theorem bt_bool : bootBuiltins "bool" = some (.type "bool") := by decide +kernel
theorem bt_str : bootBuiltins "str" = some (.type "str") := by decide +kernel
theorem bt_list : bootBuiltins "list" = some (.type "list") := by decide +kernel
theorem bt_tuple : bootBuiltins "tuple" = some (.type "tuple") := by decide +kernel
section
variable {X : Cx} {CX : CXT} {k : Nat} {f : Addr} {fd : FuncData} {ps : List Str} {sp : Sp} {x : Str} {p pos : Pos} {e : Expr} {es : List Expr} {t : TA} {te : TE} {id T : String} {rc : List V → Hp → VK → Prop}
theorem xa_cons (ha : PE X e te) (hr : PA X es t) (h : notStar e = true := by rfl) : PA X (e :: es) (tCons te t) := pa_cons ha hr (star_ok h)
theorem xe_call (F : FnOk X.prog X.w X.K X.mg X.base CX0 k f fd ps sp) (hr : Room k X.A) (hg : Gl X x) (hm : X.mg x = some (.ref f)) (hk : PySem.W.keepIn X.K (.ref f) = true) (hb : Binds X.K fd ps [])
    (ha : PA X (e :: es) t) (hd : (x == ("__debug__" : Str)) = false := by decide) (h1 : notStar e = true := by rfl) (h2 : es.all notStar = true := by rfl) : PE X (.Call (.Name x p) (e :: es) [] pos) (tCall sp [] E0 t) :=
  pe_call F hr hg hm hk hb .nil pass0 ha hd (star_ok h1) (plain_ok h2)
theorem xe_callB (hc : CallR X (.builtin id) rc) (hg : Gl X x) (hm : X.mg x = none) (hv : bootBuiltins x = some (.builtin id)) (ha : PA X (e :: es) t) (hn : x ≠ "__name__" := by decide) (hd : (x == ("__debug__" : Str)) = false := by decide)
    (h1 : notStar e = true := by rfl) (h2 : es.all notStar = true := by rfl) : PE X (.Call (.Name x p) (e :: es) [] pos) (tCB rc t) := pe_callB hc hg hm hv ha hn hd (star_ok h1) (plain_ok h2)
theorem xe_callT (hc : CallR X (.type T) rc) (hg : Gl X x) (hm : X.mg x = none) (hv : bootBuiltins x = some (.type T)) (ha : PA X (e :: es) t) (hn : x ≠ "__name__" := by decide) (hd : (x == ("__debug__" : Str)) = false := by decide)
    (h1 : notStar e = true := by rfl) (h2 : es.all notStar = true := by rfl) : PE X (.Call (.Name x p) (e :: es) [] pos) (tCB rc t) := pe_callTy hc hg hm hv ha hn hd (star_ok h1) (plain_ok h2)
end
theorem fn_void {P : Program} {w : World} {K : PySem.W.Frag} {mg : Str → Option Value} {base : Heap} {k : Nat} {f : Addr} {fd : FuncData} {ps : List Str} : FnOk P w K mg base CX0 k f fd ps (spP K fun _ => none) :=
  ⟨fun vs H Q E h => (by obtain ⟨_, _, _, _, _, z, _⟩ := h; cases z), fun A outer s H args us vs Q E _ _ _ _ h => (by obtain ⟨_, _, _, _, _, z, _⟩ := h; cases z)⟩
theorem hu64 {k : Nat} {A : Around} (h : Room k A) : A.units + 64 < cLine := by
  have := h.un
  omega
section
variable {K : PySem.W.Frag} {F G G' H H' : Hp} {pa : Addr} {σ : L2.St} {δ δ' : DEnv} {v : V} {r : R} {ta tb te tc : TE} {ma mb me mc : EM}
/-- a, b = x, y -/
def sPar (i j : Nat) (ma : AM) : SM := fun δ => (ma δ).bind fun p => (keep p.1 p.2).bind fun q => match q.1 with
  | [a, b] => some (.nxt, (q.2.set i (.val a)).set j (.val b))
  | _ => none
theorem ss_par {i j : Nat} {ta : TA} {ma : AM} (h : SdA K ta ma) : SdS K (tPar i j ta) (sPar i j ma) := fun F pa G σ δ H S c δ' e D q => by
  obtain ⟨p, h1, e⟩ := bind_some' e
  obtain ⟨⟨ds, δ1⟩, h2, e⟩ := bind_some' e
  simp only at e
  split at e
  · simp only [Option.some.injEq, Prod.mk.injEq] at e
    obtain ⟨rfl, rfl⟩ := e
    refine h F pa G σ δ H S _ _ h1 _ fun G1 vs H1 g1 S1 r1 => ?_
    obtain ⟨G2, g2, S2, q2⟩ := keep_ok S1 r1 h2
    cases q2 with
    | cons a q2 =>
      cases q2 with
      | cons b q2 =>
        cases q2
        exact ⟨_, _, rfl, q G2 _ H1 (g1.trans g2) ((S2.setVal a).setVal b)⟩
  · cases e
def sPar3 (i j l : Nat) (ma : AM) : SM := fun δ => (ma δ).bind fun p => (keep p.1 p.2).bind fun q => match q.1 with
  | [a, b, c] => some (.nxt, ((q.2.set i (.val a)).set j (.val b)).set l (.val c))
  | _ => none
theorem ss_par3 {i j l : Nat} {ta : TA} {ma : AM} (h : SdA K ta ma) : SdS K (tPar3 i j l ta) (sPar3 i j l ma) := fun F pa G σ δ H S c δ' e D q => by
  obtain ⟨p, h1, e⟩ := bind_some' e
  obtain ⟨⟨ds, δ1⟩, h2, e⟩ := bind_some' e
  simp only at e
  split at e
  · simp only [Option.some.injEq, Prod.mk.injEq] at e
    obtain ⟨rfl, rfl⟩ := e
    refine h F pa G σ δ H S _ _ h1 _ fun G1 vs H1 g1 S1 r1 => ?_
    obtain ⟨G2, g2, S2, q2⟩ := keep_ok S1 r1 h2
    cases q2 with
    | cons a q2 =>
      cases q2 with
      | cons b q2 =>
        cases q2 with
        | cons c q2 =>
          cases q2
          exact ⟨_, _, _, rfl, q G2 _ H1 (g1.trans g2) (((S2.setVal a).setVal b).setVal c)⟩
  · cases e
/-- list(range(n)) -/
def eLrg (me : EM) : EM := fun δ => (me δ).bind fun p => match p.1 with
  | .val (.int n) => if 0 ≤ n ∧ n ≤ 100000 then some (.tmp (rangeD 0 n.toNat), p.2) else none
  | _ => none
theorem rangeD_reps : ∀ (n : Nat) (lo : Int), Reps K G (rangeD lo n) ((List.range n).map fun i => V.int (lo + (i : Nat)))
  | 0, _ => .nil
  | n + 1, lo => by
    rw [List.range_succ_eq_map, List.map_cons, List.map_map]
    show Reps K G (Pd.D.int lo :: rangeD (lo + 1) n) _
    refine .cons (by rw [show lo + ((0 : Nat) : Int) = lo by omega]; exact .int lo) ?_
    have e : ((fun i : Nat => V.int (lo + (i : Nat))) ∘ Nat.succ) = fun i : Nat => V.int (lo + 1 + (i : Nat)) := by
      funext i
      show V.int (lo + ((i + 1 : Nat) : Int)) = _
      rw [show lo + ((i + 1 : Nat) : Int) = lo + 1 + (i : Int) by omega]
    rw [e]
    exact rangeD_reps n (lo + 1)
theorem sd_lrg (h : Sd K te me) : Sd K (tLstRg (tRg1 te)) (eLrg me) := fun F pa G σ δ H S r' δ' e Q q => by
  obtain ⟨⟨r, δ1⟩, h1, e⟩ := bind_some' e
  simp only at e
  split at e
  · split at e
    · rename_i n hn
      simp only [Option.some.injEq, Prod.mk.injEq] at e
      obtain ⟨rfl, rfl⟩ := e
      refine h F pa G σ δ H S _ _ h1 _ fun G1 x H1 g1 S1 r1 => ?_
      cases r1
      refine ⟨_, rfl, RgOk.of_le (Int.le_refl 0) (by omega) (by omega) hn.1, fun p hp => ?_⟩
      refine q G1 _ _ g1 (S1.newH hp) ⟨p, _, rfl, none_of_ex S1.gr hp, none_of_ex S1.fr hp, upd_same, ?_, S1.notOwned hp⟩
      unfold rgV
      rw [Int.sub_zero]
      exact rangeD_reps _ 0
    · cases e
  · cases e
end
end Pd
end
section
set_option Elab.async false
set_option linter.all false
set_option maxRecDepth 100000
set_option maxHeartbeats 1000000
namespace Pd
open PySem PySem.Spec PyProof.Rows L2 Evl
/-! ### a < b of data -/
def notNone : PyData → Bool
  | .none => false
  | _ => true
theorem notNone_ok {d : PyData} (h : notNone d = true) : d ≠ .none := by
  intro e
  subst e
  cases h
def rLtD (K : PySem.W.Frag) : R2 := fun x y H Q => ∃ d e, Dp K H x d ∧ Dp K H y e ∧ PySem.W.alike d e = true ∧ notNone d = true ∧ SeqAt.shaped d = true ∧ Q (.bl (PySem.W.dataLt d e)) H
theorem op_ltD {X : Cx} (hu : X.A.units + 64 < cLine) : OpR X (compareOp .Lt) (rLtD X.K) := by
  intro pins s σ H x y v u Q I rx ry h
  obtain ⟨d, e, hd, he, al, nn, sd, q⟩ := h
  obtain ⟨as, r1⟩ := Dp.reads I d x v hd rx
  obtain ⟨bs, r2⟩ := Dp.reads I e y u he ry
  have hr : X.A.units + min d.depth e.depth < cLine := by
    have := SeqAt.depth_of_shaped sd
    omega
  exact PySem.W.rcLt_alike d e _ _ _ _ _ _ r1 r2 al (notNone_ok nn) hr _ _ _ _ ⟨.bl _, H, I, rfl, q⟩
def rLtA (K : PySem.W.Frag) : R2 := fun x y H Q => rI0 (fun i j => .bl (decide (i < j))) x y H Q ∨ rLtD K x y H Q
theorem op_ltA {X : Cx} (hu : X.A.units + 64 < cLine) : OpR X (compareOp .Lt) (rLtA X.K) := op_lt.or (op_ltD hu)
section
variable {K : PySem.W.Frag} {F G G' H H' : Hp} {pa : Addr} {σ : L2.St} {δ δ' : DEnv} {v : V} {r : R} {ta tb te tc : TE} {ma mb me mc : EM} {t u : TT} {mt mu : TM} {ts us : TS} {ms ns : SM} {g : TG} {tg : GM} {js : List Nat}
def ltD (a b : D) : Bool := PySem.W.dataLt (toP a) (toP b)
def ltOk (a b : D) : Bool := PySem.W.alike (toP a) (toP b) && (notNone (toP a) && shp a)
@[simp] def dLt : D → D → Option OR
  | .int i, .int j => some (.v (.bl (decide (i < j))))
  | a, b => if ltOk a b = true then some (.v (.bl (ltD a b))) else none
theorem ob_ltD {a b : D} {o : OR} (hf : (if ltOk a b = true then some (OR.v (.bl (ltD a b))) else none) = some o) {x y : V} {Q : VK} (e : Ex G H) (ha : RepN K G H a x) (hb : RepN K G H b y) (q : Fin K G H o Q) : rLtA K x y H Q := by
  split at hf
  · rename_i h
    simp only [Option.some.injEq] at hf
    subst hf
    unfold ltOk at h
    rw [Bool.and_eq_true, Bool.and_eq_true] at h
    exact .inr ⟨_, _, (ha.rep e).dp, (hb.rep e).dp, h.1, h.2.1, h.2.2, q _ (.bl _)⟩
  · cases hf
theorem ob_ltA : Ob K (rLtA K) dLt := fun G H x y a b o e ha hb hf Q q => by
  unfold dLt at hf
  split at hf
  · rename_i i j
    simp only [Option.some.injEq] at hf
    subst hf
    cases (show Rep K G (.int i) x from ha)
    cases (show Rep K G (.int j) y from hb)
    exact .inl ⟨i, j, rfl, rfl, q _ (.bl _)⟩
  · exact ob_ltD hf e ha hb q

/-! ### sorted -/
/-- in its place, ahead of what is not less -/
def insD (d : D) : List D → List D
  | [] => [d]
  | x :: xs => if ltD x d = true then x :: insD d xs else d :: x :: xs
def isortD : List D → List D
  | [] => []
  | d :: ds => insD d (isortD ds)
abbrev leD : D → D → Bool := PySem.W.dataLe false toP
theorem leD_eq (a b : D) : leD a b = !ltD b a := rfl
theorem leD_total : PySem.W.TotalLe leD := PySem.W.sortLe_total _ _ _
theorem same_lt {c d x : D} (h : ltD x d = true) (hd : PySem.W.sameRank leD c d = true) : PySem.W.sameRank leD c x = false := by
  unfold PySem.W.sameRank at hd ⊢
  rw [Bool.and_eq_true] at hd
  cases hc : leD c x with
  | false => simp [hc]
  | true =>
    have h1 := leD_total.trans _ _ _ hd.2 hc
    rw [leD_eq, h] at h1
    cases h1
theorem insD_filter (c d : D) : ∀ xs : List D, (insD d xs).filter (PySem.W.sameRank leD c) = (d :: xs).filter (PySem.W.sameRank leD c)
  | [] => rfl
  | x :: xs => by
    unfold insD
    split
    · rename_i h
      have ih := insD_filter c d xs
      cases hd : PySem.W.sameRank leD c d with
      | true =>
        have hx := same_lt h hd
        rw [List.filter_cons_of_neg (by rw [hx]; exact Bool.false_ne_true), ih, List.filter_cons_of_pos hd, List.filter_cons_of_pos hd, List.filter_cons_of_neg (by rw [hx]; exact Bool.false_ne_true)]
      | false =>
        have hd' : ¬ PySem.W.sameRank leD c d = true := by rw [hd]; exact Bool.false_ne_true
        rw [List.filter_cons_of_neg hd'] at ih
        rw [List.filter_cons_of_neg hd', List.filter_cons, List.filter_cons, ih]
    · rfl
theorem insD_mem {d y : D} : ∀ {xs : List D}, y ∈ insD d xs → y = d ∨ y ∈ xs
  | [], h => by
    rcases List.mem_cons.mp h with h | h
    · exact .inl h
    · cases h
  | x :: xs, h => by
    unfold insD at h
    split at h
    · rcases List.mem_cons.mp h with h | h
      · exact .inr (by rw [h]; exact List.mem_cons_self)
      · rcases insD_mem h with h | h
        · exact .inl h
        · exact .inr (List.mem_cons_of_mem _ h)
    · rcases List.mem_cons.mp h with h | h
      · exact .inl h
      · exact .inr h
theorem insD_sorted (d : D) : ∀ xs : List D, xs.Pairwise (fun a b => leD a b = true) → (insD d xs).Pairwise (fun a b => leD a b = true)
  | [], _ => by simp [insD]
  | x :: xs, h => by
    obtain ⟨h1, h2⟩ := List.pairwise_cons.mp h
    unfold insD
    split
    · rename_i hl
      refine List.pairwise_cons.mpr ⟨fun y hy => ?_, insD_sorted d xs h2⟩
      rcases insD_mem hy with rfl | hy
      · rcases leD_total.total x y with z | z
        · exact z
        · rw [leD_eq, hl] at z
          cases z
      · exact h1 y hy
    · rename_i hl
      have hdx : leD d x = true := by
        rw [leD_eq]
        cases q : ltD x d with
        | true => exact absurd q hl
        | false => rfl
      refine List.pairwise_cons.mpr ⟨fun y hy => ?_, h⟩
      rcases List.mem_cons.mp hy with rfl | hy
      · exact hdx
      · exact leD_total.trans _ _ _ hdx (h1 y hy)
theorem isortD_eq (ds : List D) : isortD ds = ds.mergeSort leD := by
  refine PySem.W.sort_unique leD_total ?_ fun c => ?_
  · induction ds with
    | nil => exact List.Pairwise.nil
    | cons d ds ih => exact insD_sorted d _ ih
  · induction ds with
    | nil => rfl
    | cons d ds ih =>
      show (insD d (isortD ds)).filter _ = _
      rw [insD_filter, List.filter_cons, List.filter_cons, ih]
/-- two sorted lists made one -/
def mrgD : Nat → List D → List D → List D
  | 0, xs, ys => isortD (xs ++ ys)
  | _ + 1, [], ys => ys
  | _ + 1, x :: xs, [] => x :: xs
  | n + 1, x :: xs, y :: ys => if ltD y x = true then y :: mrgD n (x :: xs) ys else x :: mrgD n xs (y :: ys)
def msortD : Nat → List D → List D
  | _, [] => []
  | _, [d] => [d]
  | 0, ds => isortD ds
  | n + 1, ds => mrgD ds.length (msortD n (ds.take (ds.length / 2))) (msortD n (ds.drop (ds.length / 2)))
abbrev SrtD (ds : List D) : Prop := ds.Pairwise (fun a b => leD a b = true)
theorem isortD_srt : ∀ ds : List D, SrtD (isortD ds)
  | [] => List.Pairwise.nil
  | d :: ds => insD_sorted d _ (isortD_srt ds)
theorem isortD_filter (c : D) : ∀ ds : List D, (isortD ds).filter (PySem.W.sameRank leD c) = ds.filter (PySem.W.sameRank leD c)
  | [] => rfl
  | d :: ds => by
    show (insD d (isortD ds)).filter _ = _
    rw [insD_filter, List.filter_cons, List.filter_cons, isortD_filter c ds]
theorem mrgD_filter (c : D) : ∀ (n : Nat) (xs ys : List D), SrtD xs → (mrgD n xs ys).filter (PySem.W.sameRank leD c) = xs.filter (PySem.W.sameRank leD c) ++ ys.filter (PySem.W.sameRank leD c)
  | 0, xs, ys, _ => by
    show (isortD (xs ++ ys)).filter _ = _
    rw [isortD_filter, List.filter_append]
  | _ + 1, [], ys, _ => rfl
  | _ + 1, x :: xs, [], _ => by simp [mrgD]
  | n + 1, x :: xs, y :: ys, h => by
    unfold mrgD
    split
    · rename_i hl
      have ih := mrgD_filter c n (x :: xs) ys h
      cases hy : PySem.W.sameRank leD c y with
      | true =>
        have none : (x :: xs).filter (PySem.W.sameRank leD c) = [] := by
          refine List.filter_eq_nil_iff.mpr fun z hz => ?_
          have hyz : ltD y z = true := by
            rcases List.mem_cons.mp hz with rfl | hz
            · exact hl
            · have hxz := (List.pairwise_cons.mp h).1 z hz
              cases q : ltD y z with
              | true => rfl
              | false =>
                have hzy : leD z y = true := by rw [leD_eq, q]; rfl
                have := leD_total.trans _ _ _ hxz hzy
                rw [leD_eq, hl] at this
                cases this
          cases hc : PySem.W.sameRank leD c z with
          | false => exact Bool.false_ne_true
          | true =>
            have h2 := same_lt hyz hc
            rw [hy] at h2
            cases h2
        rw [List.filter_cons_of_pos hy, ih, none, List.filter_cons_of_pos hy]
        rfl
      | false =>
        have hy' : ¬ PySem.W.sameRank leD c y = true := by rw [hy]; exact Bool.false_ne_true
        rw [List.filter_cons_of_neg hy', ih, List.filter_cons_of_neg hy']
    · have ih := mrgD_filter c n xs (y :: ys) (List.pairwise_cons.mp h).2
      rw [List.filter_cons, ih, List.filter_cons (x := x)]
      split <;> rfl
theorem mrgD_mem {z : D} : ∀ {n : Nat} {xs ys : List D}, z ∈ mrgD n xs ys → z ∈ xs ∨ z ∈ ys
  | 0, xs, ys, h => by
    have h : z ∈ isortD (xs ++ ys) := h
    rw [isortD_eq] at h
    exact List.mem_append.mp ((List.mergeSort_perm _ _).mem_iff.mp h)
  | _ + 1, [], ys, h => .inr h
  | _ + 1, x :: xs, [], h => .inl h
  | n + 1, x :: xs, y :: ys, h => by
    unfold mrgD at h
    split at h
    · rcases List.mem_cons.mp h with h | h
      · exact .inr (by rw [h]; exact List.mem_cons_self)
      · rcases mrgD_mem h with h | h
        · exact .inl h
        · exact .inr (List.mem_cons_of_mem _ h)
    · rcases List.mem_cons.mp h with h | h
      · exact .inl (by rw [h]; exact List.mem_cons_self)
      · rcases mrgD_mem h with h | h
        · exact .inl (List.mem_cons_of_mem _ h)
        · exact .inr h
theorem mrgD_srt : ∀ (n : Nat) (xs ys : List D), SrtD xs → SrtD ys → SrtD (mrgD n xs ys)
  | 0, xs, ys, _, _ => isortD_srt _
  | _ + 1, [], ys, _, h => h
  | _ + 1, x :: xs, [], h, _ => h
  | n + 1, x :: xs, y :: ys, h, h' => by
    unfold mrgD
    split
    · rename_i hl
      refine List.pairwise_cons.mpr ⟨fun z hz => ?_, mrgD_srt n _ _ h (List.pairwise_cons.mp h').2⟩
      have hyx : leD y x = true := by
        rcases leD_total.total y x with q | q
        · exact q
        · rw [leD_eq, hl] at q
          cases q
      rcases mrgD_mem hz with hz | hz
      · rcases List.mem_cons.mp hz with rfl | hz
        · exact hyx
        · exact leD_total.trans _ _ _ hyx ((List.pairwise_cons.mp h).1 z hz)
      · exact (List.pairwise_cons.mp h').1 z hz
    · rename_i hl
      have hxy : leD x y = true := by
        rw [leD_eq]
        cases q : ltD y x with
        | true => exact absurd q hl
        | false => rfl
      refine List.pairwise_cons.mpr ⟨fun z hz => ?_, mrgD_srt n _ _ (List.pairwise_cons.mp h).2 h'⟩
      rcases mrgD_mem hz with hz | hz
      · exact (List.pairwise_cons.mp h).1 z hz
      · rcases List.mem_cons.mp hz with rfl | hz
        · exact hxy
        · exact leD_total.trans _ _ _ hxy ((List.pairwise_cons.mp h').1 z hz)
theorem msortD_srt : ∀ (n : Nat) (ds : List D), SrtD (msortD n ds)
  | n, [] => by cases n <;> exact List.Pairwise.nil
  | n, [d] => by cases n <;> exact List.pairwise_singleton _ _
  | 0, d :: e :: ds => isortD_srt _
  | n + 1, d :: e :: ds => mrgD_srt _ _ _ (msortD_srt n _) (msortD_srt n _)
theorem msortD_filter (c : D) : ∀ (n : Nat) (ds : List D), (msortD n ds).filter (PySem.W.sameRank leD c) = ds.filter (PySem.W.sameRank leD c)
  | n, [] => by cases n <;> rfl
  | n, [d] => by cases n <;> rfl
  | 0, d :: e :: ds => isortD_filter c _
  | n + 1, d :: e :: ds => by
    show (mrgD _ _ _).filter _ = _
    rw [mrgD_filter c _ _ _ (msortD_srt n _), msortD_filter c n, msortD_filter c n, ← List.filter_append, List.take_append_drop]
theorem msortD_eq (n : Nat) (ds : List D) : msortD n ds = ds.mergeSort leD := PySem.W.sort_unique leD_total (msortD_srt n ds) fun c => msortD_filter c n ds
def sortD (ds : List D) : List D := msortD 12 ds
mutual
/-- of one form -/
def alikeS : PyData → PyData → Bool
  | .none, .none => true
  | .bool _, .bool _ => true
  | .int _, .int _ => true
  | .str _, .str _ => true
  | .list xs, .list ys => alikeSs xs ys
  | .tuple xs, .tuple ys => alikeSs xs ys
  | _, _ => false
def alikeSs : List PyData → List PyData → Bool
  | x :: xs, y :: ys => alikeS x y && alikeSs xs ys
  | [], [] => true
  | _, _ => false
end
mutual
theorem alike_eucl : ∀ a b c : PyData, alikeS a b = true → alikeS a c = true → PySem.W.alike b c = true
  | .none, b, c, h1, h2 => by
    cases b <;> simp only [alikeS, Bool.false_eq_true] at h1
    cases c <;> simp only [alikeS, Bool.false_eq_true] at h2
    simp only [PySem.W.alike]
  | .bool _, b, c, h1, h2 => by
    cases b <;> simp only [alikeS, Bool.false_eq_true] at h1
    cases c <;> simp only [alikeS, Bool.false_eq_true] at h2
    simp only [PySem.W.alike]
  | .int _, b, c, h1, h2 => by
    cases b <;> simp only [alikeS, Bool.false_eq_true] at h1
    cases c <;> simp only [alikeS, Bool.false_eq_true] at h2
    simp only [PySem.W.alike]
  | .str _, b, c, h1, h2 => by
    cases b <;> simp only [alikeS, Bool.false_eq_true] at h1
    cases c <;> simp only [alikeS, Bool.false_eq_true] at h2
    simp only [PySem.W.alike]
  | .list xs, b, c, h1, h2 => by
    cases b <;> simp only [alikeS, Bool.false_eq_true] at h1
    cases c <;> simp only [alikeS, Bool.false_eq_true] at h2
    simp only [PySem.W.alike]
    exact alike_eucls xs _ _ h1 h2
  | .tuple xs, b, c, h1, h2 => by
    cases b <;> simp only [alikeS, Bool.false_eq_true] at h1
    cases c <;> simp only [alikeS, Bool.false_eq_true] at h2
    simp only [PySem.W.alike]
    exact alike_eucls xs _ _ h1 h2
  | .dict _, b, c, h1, h2 => by cases b <;> simp only [alikeS, Bool.false_eq_true] at h1
theorem alike_eucls : ∀ xs ys zs : List PyData, alikeSs xs ys = true → alikeSs xs zs = true → PySem.W.alikeAll ys zs = true
  | [], ys, zs, h1, h2 => by
    cases ys with
    | nil => simp only [PySem.W.alikeAll]
    | cons _ _ => simp only [alikeSs, Bool.false_eq_true] at h1
  | x :: xs, ys, zs, h1, h2 => by
    cases ys with
    | nil => simp only [alikeSs, Bool.false_eq_true] at h1
    | cons y ys =>
      cases zs with
      | nil => simp only [alikeSs, Bool.false_eq_true] at h2
      | cons z zs =>
        simp only [alikeSs, Bool.and_eq_true] at h1 h2
        simp only [PySem.W.alikeAll, Bool.and_eq_true]
        exact ⟨alike_eucl x y z h1.1 h2.1, alike_eucls xs ys zs h1.2 h2.2⟩
end
def sortableB (d : D) : Bool := match d with
  | .tup (_ :: _) => true
  | .int _ => true
  | .str _ => true
  | .lst _ => true
  | _ => false
def isTupB (d : D) : Bool := match d with
  | .tup (_ :: _) => true
  | _ => false
/-- what may be sorted -/
def sortOk (ds : List D) : Bool := match ds with
  | [] => true
  | d :: _ => ds.all (fun e => alikeS (toP d) (toP e) && (decide ((toP e).depth ≤ 64) && (if isTupB d then isTupB e else sortableB e && !isTupB e)))
theorem sortOk_alike {ds : List D} (h : sortOk ds = true) : PySem.W.AllAlike (ds.map toP) := by
  intro d hd d' hd'
  obtain ⟨a, ha, rfl⟩ := List.mem_map.mp hd
  obtain ⟨b, hb, rfl⟩ := List.mem_map.mp hd'
  cases ds with
  | nil => cases ha
  | cons z zs =>
    unfold sortOk at h
    have h1 := List.all_eq_true.mp h a ha
    have h2 := List.all_eq_true.mp h b hb
    rw [Bool.and_eq_true] at h1 h2
    exact alike_eucl _ _ _ h1.1 h2.1
theorem sortOk_depth {ds : List D} (h : sortOk ds = true) : ∀ d ∈ ds, (toP d).depth ≤ 64 := by
  intro a ha
  cases ds with
  | nil => cases ha
  | cons z zs =>
    unfold sortOk at h
    have h1 := List.all_eq_true.mp h a ha
    rw [Bool.and_eq_true, Bool.and_eq_true] at h1
    exact of_decide_eq_true h1.2.1
theorem isTupB_ok {d : D} (h : isTupB d = true) : ∃ x r, toP d = .tuple (x :: r) := by
  unfold isTupB at h
  split at h
  · exact ⟨_, _, rfl⟩
  · cases h
theorem sortableB_ok {d : D} (h : sortableB d = true) (h2 : isTupB d = false) : toP d ≠ .none ∧ ∀ xs, toP d ≠ .tuple xs := by
  unfold sortableB at h
  split at h
  · cases h2
  · simp [toP]
  · simp [toP]
  · simp [toP]
  · cases h
theorem sortOk_sortable {ds : List D} (h : sortOk ds = true) : PySem.W.Sortable (ds.map toP) := by
  cases ds with
  | nil => exact .inl fun d hd => by cases hd
  | cons z zs =>
    unfold sortOk at h
    have h' := List.all_eq_true.mp h
    cases hz : isTupB z with
    | true =>
      refine .inl fun d hd => ?_
      obtain ⟨a, ha, rfl⟩ := List.mem_map.mp hd
      have h1 := h' a ha
      rw [Bool.and_eq_true, Bool.and_eq_true, hz, if_pos rfl] at h1
      exact isTupB_ok h1.2.2
    | false =>
      refine .inr fun d hd => ?_
      obtain ⟨a, ha, rfl⟩ := List.mem_map.mp hd
      have h1 := h' a ha
      rw [Bool.and_eq_true, Bool.and_eq_true, hz, if_neg Bool.false_ne_true, Bool.and_eq_true, Bool.not_eq_true'] at h1
      exact sortableB_ok h1.2.2.1 h1.2.2.2
theorem reps_each {X : Cx} {pins : List (Addr × Obj)} {σ : L2.St} {H : Hp} {s : Shared} (I : L2.Inv X pins σ H s) : ∀ {ds : List D} {vs : List V} {us : List Value}, Reps X.K G ds vs → Ex G H → Vals vs us →
    PySem.W.EachIs (fun u d => ∃ x, Rep X.K G d x ∧ RelV x u) us ds ∧ PySem.W.EachIs (fun u d => ∃ as, Reads s.heap u (toP d) as) us ds
  | _, _, _, .nil, _, .nil => ⟨.nil, .nil⟩
  | _, _, _, .cons a r, e, .cons b c => by
    obtain ⟨h1, h2⟩ := reps_each I r e c
    obtain ⟨as, q⟩ := Dp.reads I _ _ _ (a.mono e).dp b
    exact ⟨.cons ⟨_, a, b⟩ h1, .cons ⟨as, q⟩ h2⟩
theorem each_reps {K : PySem.W.Frag} : ∀ {us : List Value} {ds : List D}, PySem.W.EachIs (fun u d => ∃ x, Rep K G d x ∧ RelV x u) us ds → ∃ vs, Reps K G ds vs ∧ Vals vs us
  | _, _, .nil => ⟨[], .nil, .nil⟩
  | _, _, .cons ⟨x, a, b⟩ r => by
    obtain ⟨vs, h1, h2⟩ := each_reps r
    exact ⟨x :: vs, .cons a h1, .cons b h2⟩
def rSorted (K : PySem.W.Frag) : List V → Hp → VK → Prop := fun xs H Q => ∃ (G : Hp) (a : Addr) (vs : List V) (ds : List D), xs = [.ref a] ∧ Ex G H ∧ SqL K H a vs ∧ Reps K G ds vs ∧ sortOk ds = true ∧ ds.length ≤ sizeLine ∧
  ∀ (p : Addr) (ws : List V), H p = none → Reps K G (sortD ds) ws → Q (.ref p) (upd H p (.lst ws))
theorem cr_sortedD {X : Cx} (hu : X.A.units + 70 < cLine) : CallR X (.builtin "sorted") (rSorted X.K) := by
  intro pins s σ H xs us Q I r h
  obtain ⟨G, a, vs, ds, rfl, e, hs, rs, so, hl, q⟩ := h
  obtain ⟨its, rv, pl, hz⟩ := I.list hs
  obtain ⟨u, rfl, ru⟩ := vals1 r
  cases (show u = Value.ref a from ru)
  obtain ⟨e1, e2⟩ := reps_each I rs e rv
  refine PySem.W.sorted_data (enc := toP) (R := fun u d => ∃ x, Rep X.K G d x ∧ RelV x u) pl.isList e1 e2 (sortOk_alike so) (sortOk_sortable so) hl (fun b hb => ?_) fun out hlen eo => ?_
  · have := sortOk_depth so b hb
    omega
  · have eo' : PySem.W.EachIs (fun u d => ∃ x, Rep X.K G d x ∧ RelV x u) out (sortD ds) := by unfold sortD; rw [msortD_eq]; exact eo
    obtain ⟨ws, q1, q2⟩ := each_reps eo'
    obtain ⟨c, hc⟩ := sortedAll_at s.heap its out.toArray
    have hn : H (s.heap.objs.size + 1) = none := I.hok.fresh (Nat.le_succ _)
    refine ⟨.ref (s.heap.objs.size + 1), _, I.laid (t' := s.toks) (fun _ _ => sortedAll_old) (Nat.le_succ _) (show ObjOk X.prog X.w _ _ _ (.lst ws) from ⟨?_, out, c, q2, hc⟩), rfl, q _ _ hn q1⟩
    rw [q2.length, hlen]
    exact hl
@[simp] def fSorted : List D → Option OR
  | [.lst ds] => if (sortOk ds && lenOk ds.length) = true then some (.l (sortD ds)) else none
  | _ => none
theorem repN_lst {ds : List D} (h : RepN K G H (.lst ds) v) : ∃ p vs, v = .ref p ∧ H p = some (.lst vs) ∧ Reps K G ds vs := h
theorem co_sorted : Co K (rSorted K) fSorted := fun G H xs as o e h hf Q q => by
  unfold fSorted at hf
  split at hf
  · split at hf
    · rename_i hs
      rw [Bool.and_eq_true] at hs
      simp only [Option.some.injEq] at hf
      subst hf
      obtain ⟨v, rfl, p, vs, rfl, a, r⟩ := repNs_one h
      exact ⟨G, p, vs, _, rfl, e, SqL.of a, r, hs.1, lenOk_sz hs.2, fun l ws hl hr => q l ws hl hr⟩
    · cases hf
  · cases hf

/-! ### max, min of a list of ints -/
def rMax1 (K : PySem.W.Frag) : List V → Hp → VK → Prop := fun xs H Q => ∃ (a : Addr) (n : Int) (ns : List Int), xs = [.ref a] ∧ SqL K H a ((n :: ns).map V.int) ∧ Q (.int (maxI n (n :: ns))) H
theorem cr_max1 {X : Cx} (hc : X.calm = true) (hu : X.A.units + 64 < cLine) : CallR X (.builtin "max") (rMax1 X.K) := by
  intro pins s σ H xs us Q I r h
  obtain ⟨a, n, ns, rfl, hs, q⟩ := h
  obtain ⟨its, rv, hl, _⟩ := I.list hs
  obtain ⟨u, rfl, ru⟩ := vals1 r
  cases (show u = Value.ref a from ru)
  have hi := rv.ints
  refine PySem.W.max_list_datum (x := n) (xs := ns) (I.ok.hd hc) hl.isList (PySem.W.HoldAll.of_ints hi) (by show X.A.units + 1 + 0 < cLine; omega) (fun i v h' tk' hv hh hk => ?_)
  obtain ⟨t', rfl⟩ := PySem.W.int_of_holds hh
  refine ⟨.int (maxI n (n :: ns)), H, I.kept hk, ⟨t', ?_⟩, q⟩
  show _ = Value.int (ns.foldl (fun a y => if a < y then y else a) n) t'
  have e : (fun (a y : Int) => if PySem.W.DatumOrd.lt a y = true then y else a) = fun a y => if a < y then y else a := by
    funext a y
    by_cases h : a < y
    · rw [if_pos h, if_pos (show PySem.W.DatumOrd.lt a y = true from decide_eq_true h)]
    · rw [if_neg h, if_neg (show ¬ PySem.W.DatumOrd.lt a y = true from fun z => h (of_decide_eq_true z))]
  unfold PySem.W.maxOf
  rw [e]
@[simp] def fMax : List D → Option OR
  | [.lst ds] => (intsOf ds).bind fun ns => match ns with
    | [] => none
    | n :: ns => some (.v (.int (maxI n (n :: ns))))
  | _ => none
theorem co_max : Co K (rMax1 K) fMax := fun G H xs as o e h hf Q q => by
  unfold fMax at hf
  split at hf
  · obtain ⟨ns, h1, hf⟩ := bind_some' hf
    obtain ⟨v, rfl, p, vs, rfl, a, r⟩ := repNs_one h
    have e1 := intsOf_ok h1 r
    subst e1
    cases ns with
    | nil => cases hf
    | cons n ns =>
      simp only [Option.some.injEq] at hf
      subst hf
      exact ⟨p, n, ns, rfl, SqL.of a, q _ (.int _)⟩
  · cases hf
/-! ### bit_length -/
@[simp] def fBits : D → Option OR
  | .int i => some (.v (.int (Builtin.Int.intBits i : Nat)))
  | _ => none
theorem sd_bits (ha : Sd K ta ma) : Sd K (tBits ta) (eUn fBits ma) := sd_un (r := fun x H1 Q => ∃ i, x = V.int i ∧ Q (.int (Builtin.Int.intBits i : Nat)) H1) (fun G H x a o e h hf Q q => by
  unfold fBits at hf
  split at hf
  · rename_i i
    simp only [Option.some.injEq] at hf
    subst hf
    cases (show Rep K G (.int i) x from h)
    exact ⟨i, rfl, q _ (.int _)⟩
  · cases hf) ha
/-! ### name.extend(e), the list the name's own -/
def sExt (i : Nat) (me : EM) : SM := fun δ => match δ[i]? with
  | some (.own _ _) => (me δ).bind fun p => (fix (hold p.1) p.2).bind fun z => match z.1 with
    | .lst es => match z.2[i]? with
      | some (.own b ds) => if lenOk (ds.length + es.length) = true then some (.nxt, z.2.set i (.own b (ds ++ es))) else none
      | _ => none
    | _ => none
  | _ => none
theorem ss_ext {i : Nat} (h : Sd K te me) : SdS K (tDrop (tBM K "list" rExtend (tVar i) (tCons te tNil))) (sExt i me) := fun F pa G σ δ H S c δ' e D q => by
  simp only [sExt] at e
  split at e
  · rename_i b0 ds0 hb0
    obtain ⟨⟨r, δ1⟩, h1, e⟩ := bind_some' e
    obtain ⟨⟨d, δ2⟩, h2, e⟩ := bind_some' e
    simp only at e h2
    split at e
    · rename_i es
      split at e
      · rename_i b ds hb
        split at e
        · rename_i hl
          simp only [Option.some.injEq, Prod.mk.injEq] at e
          obtain ⟨rfl, rfl⟩ := e
          obtain ⟨p, vs0, o1, o2, o3, o4, o5, o6⟩ := S.own i b0 ds0 hb0
          refine ⟨_, o1, .inl ⟨rfl, _, SqL.of o5⟩, ?_⟩
          refine h F pa G σ δ H S _ _ h1 _ fun G1 x H1 g1 S1 r1 => ?_
          obtain ⟨G1', g1', S1', r1'⟩ := hold_ok S1 r1
          obtain ⟨G2, g2, S2, q2⟩ := fix_ok S1' r1' h2
          obtain ⟨p', vs, w1, w2, w3, w4, w5, w6⟩ := S2.own i b ds hb
          rw [o1] at w1
          cases w1
          cases q2 with
          | lst ha rs =>
            refine ⟨p, _, vs, _, rfl, rfl, w5, S2.gr _ _ ha, by rw [← w6.length, ← rs.length]; exact lenOk_sz hl, q G2 σ _ ((g1.trans g1').trans g2) (S2.mutOwn hb o1 (w6.append rs))⟩
        · cases e
      · cases e
    · cases e
  · cases e
/-! ### a method of a tuple -/
def tTM (K : PySem.W.Frag) (r : V → List V → Hp → VK → Prop) (to : TE) (t : TA) : TE := fun σ H Q => to σ H fun x H1 => (∃ p xs, x = .ref p ∧ TupN K H1 p xs) ∧ t σ H1 fun vs H2 => r x vs H2 Q
theorem tupN_is {X : Cx} {pins : List (Addr × Obj)} {σ : L2.St} {H : Hp} {s : Shared} {p : Addr} {xs : List V} (I : L2.Inv X pins σ H s) (h : TupN X.K H p xs) : s.TypeIs (.ref p) "tuple" ∧ ∀ a, Value.ref p = .ref a → ∃ ob, s.heap.get? a = some ob ∧ ob.dict = none := by
  obtain ⟨hq, hn⟩ := h
  obtain ⟨its, _, pl, _⟩ := I.tuple hq
  refine ⟨?_, fun a e => ?_⟩
  · obtain ⟨o, e, hc, _⟩ := pl
    exact ⟨o, e, hc⟩
  · cases e
    rcases hn with ⟨o, u, h1, h2⟩ | ⟨o, h1, h2, h3⟩
    · exact ⟨o, (show ObjOk X.prog X.w H s.heap p (.frz o u) from I.hok p _ h1).1, h2⟩
    · exact ⟨o, I.kIn _ o h1, h3⟩
theorem pe_tm {X : Cx} {o e : Expr} {es : List Expr} {to : TE} {t : TA} {name : Str} {apos cpos : Pos} {id : String} {r : V → List V → Hp → VK → Prop} (slot : Slot "tuple" name id) (hty : typeOf (.builtin id) = pure (.type "method_descriptor")) (hm : MtR X id r) (ho : PE X o to) (ha : PA X (e :: es) t)
    (hbase : attributeBase o name X.env (eval o X.env) = eval o X.env := by rfl)
    (hfew : ((backTo cpos (starEach (e :: es) X.env)).all (fun x => !x.1) && (backToKw cpos (keywordEach [] X.env)).all (fun x => x.1.isSome)
      && decide ((e :: es).length + ([] : List Keyword).length + (if ([] : List Keyword).isEmpty then 0 else 1) < 30)) = true := by rfl)
    (hline : (apos.endLine == cpos.line) = true := by rfl) (hs : starEach (e :: es) X.env = (false, eval e X.env) :: starEach es X.env := by rfl) (hplain : (backTo cpos (starEach es X.env)).any (·.1) = false := by rfl) :
    PE X (.Call (.Attribute o name apos) (e :: es) [] cpos) (tTM X.K r to t) := by
  refine ⟨fun pins s σ H Q I h => ?_⟩
  refine wpAny_Call_method_late hbase hfew hline rfl (thn (ho.run pins s σ H _ I h) fun v s1 ⟨x, H1, I1, r1, ty, q1⟩ => ?_)
  obtain ⟨p, xs, rfl, ht⟩ := ty
  cases r1
  obtain ⟨h1, h2⟩ := tupN_is I1 ht
  refine ⟨"tuple", id, PySem.F.plainAttrs_tuple, slot, hty, h1, h2, ?_⟩
  have hA := ha.run cpos pins s1 σ H1 _ I1 q1
  rw [hs] at hA ⊢
  refine Calls.callWith_builtin (by show (false || (backTo cpos (starEach es X.env)).any (·.1)) = false; rw [hplain] <;> rfl) (Calls.evalArgs_plain ?_)
  exact thn hA fun us s2 ⟨vs, H2, I2, r2, q2⟩ => hm pins s2 σ H2 (.ref p) vs (.ref p) us Q I2 rfl r2 q2
/-- t.index(x), the items data of any depth -/
def rTIndexD (K : PySem.W.Frag) : V → List V → Hp → VK → Prop := fun x xs H Q => ∃ (a : Addr) (y : V) (d : PyData) (ds : List PyData) (j : Nat) (z : PyData), x = V.ref a ∧ xs = [y] ∧ Dp K H (V.ref a) (.tuple ds) ∧ Dp K H y d ∧
  SeqAt.shaped (.tuple ds) = true ∧ SeqAt.shaped d = true ∧ ds[j]? = some z ∧ PyData.eqv z d = true ∧ (∀ (m : Nat) (z' : PyData), m < j → ds[m]? = some z' → PyData.eqv z' d = false) ∧ Q (.int (j : Nat)) H
theorem mt_tindexD {X : Cx} (hu : X.A.units + 65 < cLine) : MtR X "tuple.index" (rTIndexD X.K) := by
  intro pins s σ H x xs v us Q I rx rxs h
  obtain ⟨a, y, d, ds, j, z, rfl, rfl, hl, hy, sl, sd, hz, hzj, hno, q⟩ := h
  cases rx
  cases rxs with
  | cons ry rt =>
    rename_i uy ut
    cases rt
    obtain ⟨bs, r1⟩ := Dp.reads I d y uy hy ry
    have hxs : PyData.canLayAll0 ds = true := SeqAt.canLay_of_shaped sl
    have hroom : X.A.units + 1 + min (PyData.depthAll ds) d.depth < cLine := room_in_shaped sd hu
    cases hl with
    | tup hs ha =>
      obtain ⟨its, rv, ⟨⟨cls, dd, data, sls⟩, ho, hc, n, hdt⟩, hlen⟩ := I.tuple hs
      simp only at hc hdt
      subst hc hdt
      obtain ⟨as, h4⟩ := Dp.readsAll I ds _ its ha rv
      have hn : its.length = ds.length := SeqAt.ReadsAll.length ds its as h4
      have hmap : its.map (SeqAt.readOf s.heap) = ds := SeqAt.readsAll_map ds its as hxs h4
      have hvl := rv.length
      have hsl := sizeLine_eq
      obtain ⟨hjd, _⟩ := List.getElem?_eq_some_iff.mp hz
      have hjl : j < its.length := by omega
      have hj : j < its.toArray.size := by simpa using hjl
      have at_ : ∀ (m : Nat) (hm : m < its.toArray.size) (z' : PyData), ds[m]? = some z' → SeqAt.readOf s.heap its.toArray[m] = z' := by
        intro m hm z' hz'
        have hml : m < its.length := by simpa using hm
        rw [← hmap, List.getElem?_map, List.getElem?_eq_getElem hml] at hz'
        have e1 : SeqAt.readOf s.heap its[m] = z' := Option.some.inj (show some (SeqAt.readOf s.heap its[m]) = some z' from hz')
        simpa using e1
      refine call_meets PySem.F.slot_tuple_index ⟨_, ho, rfl⟩ PySem.F.entry_tuple_index (PySem.F.args_tuple_index_2 _ _)
        (TI.tuple_indexAt a its.toArray n dd sls uy (fun u => PyData.eqv (SeqAt.readOf s.heap u) d) j hj ?_ ?_) ⟨ho, SeqAt.items_eqAt (vs := its.toArray) (show ReadsAll s.heap its.toArray.toList ds as from h4) r1 hxs (SeqAt.canLay_of_shaped sd) hroom, ?_⟩
      · show PyData.eqv (SeqAt.readOf s.heap its.toArray[j]) d = true
        rw [at_ j hj z hz]
        exact hzj
      · intro m hm hmj
        have hmd : m < ds.length := by omega
        have hz' : ds[m]? = some ds[m] := List.getElem?_eq_getElem hmd
        show PyData.eqv (SeqAt.readOf s.heap its.toArray[m]) d = false
        rw [at_ m hm _ hz']
        exact hno m _ hmj hz'
      · exact ⟨.int (j : Nat), H, I.tok _, ⟨_, rfl⟩, q⟩
/-- the first place of an equal one -/
def idxD (d : D) : List D → Option Nat
  | [] => none
  | x :: xs => if eqD x d = true then some 0 else (idxD d xs).map (· + 1)
theorem toPs_get : ∀ (ds : List D) (m : Nat), (toPs ds)[m]? = (ds[m]?).map toP
  | [], m => by cases m <;> rfl
  | d :: ds, 0 => rfl
  | d :: ds, m + 1 => by
    show (toPs ds)[m]? = (ds[m]?).map toP
    exact toPs_get ds m
theorem idxD_ok {d : D} : ∀ {xs : List D} {j : Nat}, idxD d xs = some j → ∃ z, (toPs xs)[j]? = some z ∧ PyData.eqv z (toP d) = true ∧ ∀ (m : Nat) (z' : PyData), m < j → (toPs xs)[m]? = some z' → PyData.eqv z' (toP d) = false
  | [], j, h => by cases h
  | x :: xs, j, h => by
    unfold idxD at h
    split at h
    · rename_i hx
      cases h
      exact ⟨toP x, rfl, hx, fun m z' hm _ => absurd hm (Nat.not_lt_zero _)⟩
    · rename_i hx
      cases hi : idxD d xs with
      | none => rw [hi] at h; cases h
      | some i =>
        rw [hi] at h
        simp only [Option.map_some, Option.some.injEq] at h
        subst h
        obtain ⟨z, h1, h2, h3⟩ := idxD_ok hi
        refine ⟨z, h1, h2, fun m z' hm hz => ?_⟩
        cases m with
        | zero =>
          cases hz
          show eqD x d = false
          cases q : eqD x d with
          | true => exact absurd q hx
          | false => rfl
        | succ m => exact h3 m z' (by omega) hz
/-- t.index(x) -/
def eTIdx (ma mb : EM) : EM := fun δ => (ma δ).bind fun p => match p.1 with
  | .val (.tup ds) => (mb p.2).bind fun q => (rd q.1 q.2).bind fun b => if (shp (.tup ds) && shp b) = true then (idxD b ds).map fun j => (.val (.int (j : Nat)), q.2) else none
  | _ => none
theorem sd_tidx (ha : Sd K ta ma) (hb : Sd K tb mb) : Sd K (tTM K (rTIndexD K) ta (tCons tb tNil)) (eTIdx ma mb) := fun F pa G σ δ H S r' δ' e Q q => by
  obtain ⟨⟨r, δ1⟩, h1, e⟩ := bind_some' e
  simp only at e
  split at e
  · rename_i ds
    obtain ⟨⟨r2, δ2⟩, h2, e⟩ := bind_some' e
    obtain ⟨b, h3, e⟩ := bind_some' e
    split at e
    · rename_i hs
      rw [Bool.and_eq_true] at hs
      cases hi : idxD b ds with
      | none => rw [hi] at e; cases e
      | some j =>
        rw [hi] at e
        simp only [Option.map_some, Option.some.injEq, Prod.mk.injEq] at e
        obtain ⟨rfl, rfl⟩ := e
        refine ha F pa G σ δ H S _ _ h1 _ fun G1 x H1 g1 S1 r1 => ?_
        cases (show Rep K G1 (.tup ds) x from r1) with
        | tup a rs =>
          refine ⟨⟨_, _, rfl, a.mono S1.gr⟩, ?_⟩
          refine hb F pa G1 σ _ H1 S1 _ _ h2 _ fun G2 y H2 g2 S2 q2 => ?_
          obtain ⟨z, i1, i2, i3⟩ := idxD_ok hi
          have hd := (Rep.tup (a.mono (g2.1.trans S2.gr)) (rs.mono (g2.1.trans S2.gr))).dp
          exact ⟨_, y, toP b, toPs ds, j, z, rfl, rfl, hd, ((rd_ok S2 q2 h3).rep S2.gr).dp, hs.1, hs.2, i1, i2, i3, q G2 _ H2 (g1.trans g2) S2 (Rep.int _)⟩
    · cases e
  · cases e
theorem hu70 {k : Nat} {A : Around} (h : Room k A) : A.units + 70 < cLine := by
  have := h.un
  omega
theorem hu65 {k : Nat} {A : Around} (h : Room k A) : A.units + 65 < cLine := by
  have := h.un
  omega
theorem bt_sorted : bootBuiltins "sorted" = some (.builtin "sorted") := by decide +kernel
end
end Pd
end
section
set_option Elab.async false
set_option linter.all false
set_option maxRecDepth 100000
set_option maxHeartbeats 1000000
namespace Pd
open PySem PySem.Spec PyProof.Rows L2 Evl
/-! ### the head: defs, names, and one more answer about the written part -/
def obsPG (n : Nat) (fa : List He.Fa) (fn : List He.DefD) (tb : PySem.W.Frag → Bool) (g : Addr → Option Obj) : He.AlD × Bool := (He.obsDG n fa fn g, tb (He.frG g (He.asD g n)))
def hookP (n : Nat) (fa : List He.Fa) (fn : List He.DefD) (tb : PySem.W.Frag → Bool) : PySem.W.Hook where
  α := He.AlD × Bool
  obs := fun s => obsPG n fa fn tb s.heap.get?
  val := fun _ => (He.valD fn, true)
  says := fun _ h => ∃ K : PySem.W.Frag, K.In h ∧ He.SaysD fa fn K ∧ tb K = true
  of := fun _ _ e => ⟨_, He.frG_in, congrArg Prod.fst e, congrArg Prod.snd e⟩
  keeps := fun _ _ _ ⟨K, hK, c, d⟩ k => ⟨K, PySem.W.Frag.In.keeps hK k, c, d⟩
theorem obsPG_eq {n : Nat} {fa : List He.Fa} {fn : List He.DefD} {tb : PySem.W.Frag → Bool} {g : Addr → Option Obj} {s : Shared} (h : ∀ a, g a = s.heap.get? a) : obsPG n fa fn tb g = (hookP n fa fn tb).obs s := by
  have e : g = s.heap.get? := funext h
  rw [e]
  rfl
section
variable {K : PySem.W.Frag} {x qual : Str} {st : Stmt} {f : Addr} {fd : FuncData}
/-- a def without defaults, in the shorter words -/
theorem fun_of (F : FunD K x qual (defArgs st) (defBody st) (defScope st) [] [] f fd) : Fun K x qual st f fd := by
  obtain ⟨oc, od, dV, kV, doc, pm, an, cdv, ct, osl, e, lk, hcd, hD, _⟩ := F.ex
  rcases hD with ⟨_, rfl⟩ | ⟨z, _⟩
  · exact ⟨⟨oc, od, kV, doc, pm, an, cdv, ct, osl, e, lk, hcd⟩, F.kp⟩
  · exact absurd rfl z
abbrev dd (x : Str) (st : Stmt) : He.DefD := ⟨(x, none), x, x, defArgs st, defBody st, defScope st, [], []⟩
end
/-- data that hold no list, told as what the head can look up: flat tuples of ints -/
def flatI : D → Option (List He.Dv)
  | .tup ds => (intsOf ds).bind fun ns => some (ns.map He.Dv.int)
  | _ => none
theorem ints_rep {K : PySem.W.Frag} {G : Hp} : ∀ {ds : List D} {ns : List Int}, intsOf ds = some ns → Reps K G ds ((ns.map He.Dv.int).map (He.Dv.v K))
  | [], ns, h => by
    simp only [intsOf, Option.some.injEq] at h
    subst h
    exact .nil
  | .int b :: ds, ns, h => by
    obtain ⟨bs', h1, h2⟩ := bind_some' h
    simp only [Option.some.injEq] at h2
    subst h2
    exact .cons (.int b) (ints_rep h1)
  | .non :: _, _, h => nomatch h
  | .bl _ :: _, _, h => nomatch h
  | .str _ :: _, _, h => nomatch h
  | .tup _ :: _, _, h => nomatch h
  | .lst _ :: _, _, h => nomatch h
  | .ro _ :: _, _, h => nomatch h
  | .tw _ :: _, _, h => nomatch h
/-- a constant tuple that has no dict of its own -/
def ndB (K : PySem.W.Frag) (x : Str) : Bool := match K.lookup (He.ga K x) with
  | some ⟨.type c, none, _, _⟩ => decide (c = "tuple")
  | _ => false
theorem ndB_ok {K : PySem.W.Frag} {x : Str} (h : ndB K x = true) (G : Hp) : NoD K G (He.ga K x) := by
  unfold ndB at h
  split at h
  · rename_i c d s q
    exact .inr ⟨_, q, by rw [of_decide_eq_true h], rfl⟩
  · cases h
def tcB (K : PySem.W.Frag) (x : Str) (vs : List He.Dv) : Bool := He.tupB K x vs && ndB K x
theorem const_rep {K : PySem.W.Frag} {x : Str} {ds : List D} {ns : List Int} (h : intsOf ds = some ns) (t : tcB K x (ns.map He.Dv.int) = true) (G : Hp) : Rep K G (.tup ds) (.ref (He.ga K x)) := by
  unfold tcB at t
  rw [Bool.and_eq_true] at t
  exact .tup ⟨He.tupB_ok t.1 G, ndB_ok t.2 G⟩ (ints_rep h)
/-- what a law's promise says at a script -/
theorem law_spec {K : PySem.W.Frag} {m : List D → Option OR} {H : Hp} {a : Addr} {ns : List Int} (h : m [.ro (ns.map D.int)] = some (.v (.bl true))) (hS : SqL K H a (ns.map V.int)) : spP K m [.ref a] H (fun v _ => v = .bl true) fun _ _ _ => False := by
  have r : ∀ ns : List Int, Reps K H (ns.map D.int) (ns.map V.int) := fun ns => by
    induction ns with
    | nil => exact .nil
    | cons n ns ih => exact .cons (.int n) ih
  refine ⟨H, _, _, Ex.refl H, .cons (.ro hS (r ns)) .nil, h, fun G' v H' _ _ _ rr => ?_⟩
  cases (show Rep K G' (.bl true) v from rr)
  rfl
end Pd
end
section
set_option linter.all false
set_option maxRecDepth 100000
namespace Pd
open PySem PySem.Spec PyProof.Rows L2 Evl
@[simp ↓] theorem eVar_ap (i : Nat) (δ : DEnv) : eVar i δ = (match δ[i]? with
  | some (.val d) => some (.val d, δ)
  | some (.own _ _) => some (.slot i, δ)
  | _ => none) := rfl
@[simp ↓] theorem eC_ap (d : D) (δ : DEnv) : eC d δ = (some (.val d, δ)) := rfl
@[simp ↓] theorem eOp_ap (f : D → D → Option OR) (ma mb : EM) (δ : DEnv) : eOp f ma mb δ = ((ma δ).bind fun p => (mb p.2).bind fun q => (rd (hold p.1) q.2).bind fun a => (rd q.1 q.2).bind fun b => (f a b).bind fun o => some (o.r, q.2)) := rfl
@[simp ↓] theorem eUn_ap (f : D → Option OR) (ma : EM) (δ : DEnv) : eUn f ma δ = ((ma δ).bind fun p => (rd p.1 p.2).bind fun a => (f a).bind fun o => some (o.r, p.2)) := rfl
@[simp ↓] theorem eAnd_ap (ma mb : EM) (δ : DEnv) : eAnd ma mb δ = ((ma δ).bind fun p => (rd p.1 p.2).bind fun a => (truth a).bind fun k => match k with
  | true => mb p.2
  | false => some p) := rfl
@[simp ↓] theorem eOr_ap (ma mb : EM) (δ : DEnv) : eOr ma mb δ = ((ma δ).bind fun p => (rd p.1 p.2).bind fun a => (truth a).bind fun k => match k with
  | true => some p
  | false => mb p.2) := rfl
@[simp ↓] theorem eNot_ap (ma : EM) (δ : DEnv) : eNot ma δ = ((ma δ).bind fun p => (rd p.1 p.2).bind fun a => (truth a).bind fun k => some (.val (.bl (!k)), p.2)) := rfl
@[simp ↓] theorem eIf_ap (mt : TM) (ma mb : EM) (δ : DEnv) : eIf mt ma mb δ = ((mt δ).bind fun p => match p.1 with
  | true => ma p.2
  | false => mb p.2) := rfl
@[simp ↓] theorem mVal_ap (ma : EM) (δ : DEnv) : mVal ma δ = ((ma δ).bind fun p => match p.1 with
  | .val (.bl b) => some (b, p.2)
  | _ => none) := rfl
@[simp ↓] theorem mTru_ap (ma : EM) (δ : DEnv) : mTru ma δ = ((ma δ).bind fun p => (rd p.1 p.2).bind fun a => (truth a).bind fun k => some (k, p.2)) := rfl
@[simp ↓] theorem mAnd_ap (mt mu : TM) (δ : DEnv) : mAnd mt mu δ = ((mt δ).bind fun p => match p.1 with
  | true => mu p.2
  | false => some (false, p.2)) := rfl
@[simp ↓] theorem mOr_ap (mt mu : TM) (δ : DEnv) : mOr mt mu δ = ((mt δ).bind fun p => match p.1 with
  | true => some (true, p.2)
  | false => mu p.2) := rfl
@[simp ↓] theorem mNot_ap (mt : TM) (δ : DEnv) : mNot mt δ = ((mt δ).bind fun p => some (!p.1, p.2)) := rfl
@[simp ↓] theorem aNil_ap  (δ : DEnv) : aNil  δ = (some ([], δ)) := rfl
@[simp ↓] theorem aOne_ap (ma : EM) (δ : DEnv) : aOne ma δ = ((ma δ).bind fun p => some ([p.1], p.2)) := rfl
@[simp ↓] theorem aCons_ap (ma : EM) (mr : AM) (δ : DEnv) : aCons ma mr δ = ((ma δ).bind fun p => (mr p.2).bind fun q => some (hold p.1 :: q.1, q.2)) := rfl
@[simp ↓] theorem eTup_ap (ma : AM) (δ : DEnv) : eTup ma δ = ((ma δ).bind fun p => (keep p.1 p.2).bind fun q => if q.1.length ≤ 100000 then some (.val (.tup q.1), q.2) else none) := rfl
@[simp ↓] theorem eLst_ap (ma : AM) (δ : DEnv) : eLst ma δ = ((ma δ).bind fun p => (keep p.1 p.2).bind fun q => if q.1.length ≤ 100000 then some (.tmp q.1, q.2) else none) := rfl
@[simp ↓] theorem eCall_ap (f : List D → Option OR) (ma : AM) (δ : DEnv) : eCall f ma δ = ((ma δ).bind fun p => (rdAll p.1 p.2).bind fun as => (f as).bind fun o => some (o.r, p.2)) := rfl
@[simp ↓] theorem sNext_ap  (δ : DEnv) : sNext  δ = (some (.nxt, δ)) := rfl
@[simp ↓] theorem sBreak_ap  (δ : DEnv) : sBreak  δ = (some (.brk, δ)) := rfl
@[simp ↓] theorem sCont_ap  (δ : DEnv) : sCont  δ = (some (.cnt, δ)) := rfl
@[simp ↓] theorem sNever_ap  (δ : DEnv) : sNever δ = (none) := rfl
@[simp ↓] theorem sSeq_ap (ms ns : SM) (δ : DEnv) : sSeq ms ns δ = ((ms δ).bind fun p => match p.1 with
  | .nxt => ns p.2
  | c => some (c, p.2)) := rfl
@[simp ↓] theorem sDrop_ap (me : EM) (δ : DEnv) : sDrop me δ = ((me δ).bind fun p => some (.nxt, p.2)) := rfl
@[simp ↓] theorem sRet_ap (me : EM) (δ : DEnv) : sRet me δ = ((me δ).bind fun p => some (.ret p.1, p.2)) := rfl
@[simp ↓] theorem sRetN_ap  (δ : DEnv) : sRetN  δ = (some (.ret (.val .non), δ)) := rfl
@[simp ↓] theorem sIf_ap (mt : TM) (ms ns : SM) (δ : DEnv) : sIf mt ms ns δ = ((mt δ).bind fun p => match p.1 with
  | true => ms p.2
  | false => ns p.2) := rfl
@[simp ↓] theorem sSet_ap (i : Nat) (me : EM) (δ : DEnv) : sSet i me δ = ((me δ).bind fun p => match p.1 with
  | .val d => some (.nxt, p.2.set i (.val d))
  | .tmp ds => some (.nxt, p.2.set i (.own false ds))
  | .slot j => (fix (.slot j) p.2).bind fun q => some (.nxt, q.2.set i (.val q.1))) := rfl
@[simp ↓] theorem gN_ap (j : Nat) (d : D) (δ : DEnv) : gN j d δ = (some (δ.set j (.val d))) := rfl
@[simp ↓] theorem gsNil_ap  (ds : (List D)) (δ : DEnv) : gsNil  ds δ = (match ds with
  | [] => some δ
  | _ => none) := rfl
@[simp ↓] theorem gsCons_ap (tg : GM) (th : GsM) (ds : (List D)) (δ : DEnv) : gsCons tg th ds δ = (match ds with
  | [] => none
  | d :: ds => (tg d δ).bind fun δ1 => th ds δ1) := rfl
@[simp ↓] theorem gU_ap (n : Nat) (th : GsM) (d : D) (δ : DEnv) : gU n th d δ = (match d with
  | .tup ds => if ds.length = n then th ds δ else none
  | .lst ds => if ds.length = n then th ds δ else none
  | .ro ds => if ds.length = n then th ds δ else none
  | .tw ds => if ds.length = n then th ds δ else none
  | _ => none) := rfl
@[simp ↓] theorem sAsg_ap (tg : GM) (me : EM) (δ : DEnv) : sAsg tg me δ = ((me δ).bind fun p => (fix p.1 p.2).bind fun q => (tg q.1 q.2).bind fun δ1 => some (.nxt, δ1)) := rfl
@[simp ↓] theorem sAug_ap (i : Nat) (f : Int → Int → Int) (me : EM) (δ : DEnv) : sAug i f me δ = (match δ[i]? with
  | some (.val (.int a)) => (me δ).bind fun p => match p.1 with
    | .val (.int b) => some (.nxt, p.2.set i (.val (.int (f a b))))
    | _ => none
  | _ => none) := rfl
@[simp ↓] theorem sSub_ap (i : Nat) (me mi : EM) (δ : DEnv) : sSub i me mi δ = ((me δ).bind fun p => match p.2[i]? with
  | some (.own _ _) => (mi p.2).bind fun q => (fix (hold p.1) q.2).bind fun z => match q.1 with
    | .val (.int k) => match z.2[i]? with
      | some (.own b ds) => (ixN ds.length k).bind fun j => some (.nxt, z.2.set i (.own b (ds.set j z.1)))
      | _ => none
    | _ => none
  | _ => none) := rfl
@[simp ↓] theorem sApp_ap (i : Nat) (me : EM) (δ : DEnv) : sApp i me δ = (match δ[i]? with
  | some (.own _ _) => (me δ).bind fun p => (fix (hold p.1) p.2).bind fun z => match z.2[i]? with
    | some (.own b ds) => if ds.length < 100000 then some (.nxt, z.2.set i (.own b (ds ++ [z.1]))) else none
    | _ => none
  | _ => none) := rfl
@[simp ↓] theorem sFor_ap (mi : IM) (tg : GM) (mb : SM) (δ : DEnv) : sFor mi tg mb δ = ((mi δ).bind fun p => forD tg mb p.1 p.2) := rfl
@[simp ↓] theorem eLc_ap (mi : IM) (tg : GM) (mt : TM) (me : EM) (vs : List Nat) (δ : DEnv) : eLc mi tg mt me vs δ = ((mi δ).bind fun p => if noOwn p.2 vs = true then lcD tg mt me vs p.1 p.2 [] else none) := rfl
@[simp ↓] theorem mYes_ap  (δ : DEnv) : mYes  δ = (some (true, δ)) := rfl
@[simp ↓] theorem iSeq_ap (me : EM) (δ : DEnv) : iSeq me δ = ((me δ).bind fun p => (fix p.1 p.2).bind fun q => match q.1 with
  | .lst ds => some (ds, q.2)
  | .tup ds => some (ds, q.2)
  | .ro ds => some (ds, q.2)
  | _ => none) := rfl
@[simp ↓] theorem iR1_ap (ma : AM) (δ : DEnv) : iR1 ma δ = ((ma δ).bind fun p => match p.1 with
  | [.val (.int j)] => if -4611686018427387904 ≤ j ∧ j < 4611686018427387904 then some (rangeD 0 j.toNat, p.2) else none
  | _ => none) := rfl
@[simp ↓] theorem iR2_ap (ma : AM) (δ : DEnv) : iR2 ma δ = ((ma δ).bind fun p => match p.1 with
  | [.val (.int i), .val (.int j)] => if -4611686018427387904 ≤ i ∧ i < 4611686018427387904 ∧ -4611686018427387904 ≤ j ∧ j < 4611686018427387904 then some (rangeD i (j - i).toNat, p.2) else none
  | _ => none) := rfl
@[simp ↓] theorem iEn_ap (ma : AM) (δ : DEnv) : iEn ma δ = ((ma δ).bind fun p => (keep p.1 p.2).bind fun q => match q.1 with
  | [.lst ds] => some (enumD 0 ds, q.2)
  | [.ro ds] => some (enumD 0 ds, q.2)
  | _ => none) := rfl
@[simp ↓] theorem oNo_ap  (δ : DEnv) : oNo  δ = (some (none, δ)) := rfl
@[simp ↓] theorem oPart_ap (me : EM) (δ : DEnv) : oPart me δ = ((me δ).bind fun p => match p.1 with
  | .val (.int i) => some (some i, p.2)
  | _ => none) := rfl
@[simp ↓] theorem eSl_ap (f : D → Option Int → Option Int → Option OR) (me : EM) (ml mh : OM) (δ : DEnv) : eSl f me ml mh δ = ((me δ).bind fun p => (ml p.2).bind fun l => (mh l.2).bind fun h => (rd (hold p.1) h.2).bind fun a => (f a l.1 h.1).bind fun o => some (o.r, h.2)) := rfl
@[simp ↓] theorem eFn_ap (m : List D → Option OR) (ma : AM) (δ : DEnv) : eFn m ma δ = ((ma δ).bind fun p => (keep p.1 p.2).bind fun q => (m q.1).bind fun o => some (o.r, q.2)) := rfl
@[simp ↓] theorem eFnM_ap (m : List D → List D → Option (OR × List D)) (ma : AM) (δ : DEnv) : eFnM m ma δ = ((ma δ).bind fun p => match p.1 with
  | [.tmp ds0] => (m ds0 []).bind fun o => some (o.1.r, p.2)
  | .slot i :: rs => (keep rs p.2).bind fun q => match q.2[i]? with
    | some (.own b ds0) => (m ds0 q.1).bind fun o => some (o.1.r, q.2.set i (.own b o.2))
    | _ => none
  | _ => none) := rfl
@[simp ↓] theorem eMaxD_ap (ma : AM) (k : Int) (δ : DEnv) : eMaxD ma k δ = ((ma δ).bind fun p => (keep p.1 p.2).bind fun p' => match p'.1 with
  | [.lst ds] => (intsOf ds).bind fun ns => some (.val (.int (maxI k ns)), p'.2)
  | _ => none) := rfl
@[simp ↓] theorem eChain_ap (f f' : D → D → Option OR) (ma mb mc : EM) (δ : DEnv) : eChain f f' ma mb mc δ = ((ma δ).bind fun p => (mb p.2).bind fun p2 => (rd (hold p.1) p2.2).bind fun a => (rd p2.1 p2.2).bind fun b => (f a b).bind fun o => match o with
  | .v (.bl true) => (mc p2.2).bind fun p3 => (rd (hold p2.1) p3.2).bind fun b' => (rd p3.1 p3.2).bind fun c => (f' b' c).bind fun o' => some (o'.r, p3.2)
  | .v (.bl false) => some (.val (.bl false), p2.2)
  | _ => none) := rfl
@[simp ↓] theorem iZp_ap (ma : AM) (δ : DEnv) : iZp ma δ = ((ma δ).bind fun p => (keep p.1 p.2).bind fun q => match q.1 with
  | [a, b] => (kindOf a).bind fun x => (kindOf b).bind fun y => some (zipD x.2 y.2, q.2)
  | _ => none) := rfl
@[simp ↓] theorem sPar_ap (i j : Nat) (ma : AM) (δ : DEnv) : sPar i j ma δ = ((ma δ).bind fun p => (keep p.1 p.2).bind fun q => match q.1 with
  | [a, b] => some (.nxt, (q.2.set i (.val a)).set j (.val b))
  | _ => none) := rfl
@[simp ↓] theorem sPar3_ap (i j l : Nat) (ma : AM) (δ : DEnv) : sPar3 i j l ma δ = ((ma δ).bind fun p => (keep p.1 p.2).bind fun q => match q.1 with
  | [a, b, c] => some (.nxt, ((q.2.set i (.val a)).set j (.val b)).set l (.val c))
  | _ => none) := rfl
@[simp ↓] theorem eLrg_ap (me : EM) (δ : DEnv) : eLrg me δ = ((me δ).bind fun p => match p.1 with
  | .val (.int n) => if 0 ≤ n ∧ n ≤ 100000 then some (.tmp (rangeD 0 n.toNat), p.2) else none
  | _ => none) := rfl
@[simp ↓] theorem sExt_ap (i : Nat) (me : EM) (δ : DEnv) : sExt i me δ = (match δ[i]? with
  | some (.own _ _) => (me δ).bind fun p => (fix (hold p.1) p.2).bind fun z => match z.1 with
    | .lst es => match z.2[i]? with
      | some (.own b ds) => if lenOk (ds.length + es.length) = true then some (.nxt, z.2.set i (.own b (ds ++ es))) else none
      | _ => none
    | _ => none
  | _ => none) := rfl
@[simp ↓] theorem eTIdx_ap (ma mb : EM) (δ : DEnv) : eTIdx ma mb δ = ((ma δ).bind fun p => match p.1 with
  | .val (.tup ds) => (mb p.2).bind fun q => (rd q.1 q.2).bind fun b => if (shp (.tup ds) && shp b) = true then (idxD b ds).map fun j => (.val (.int (j : Nat)), q.2) else none
  | _ => none) := rfl
end Pd
end
section
set_option Elab.async false
set_option linter.all false
set_option maxRecDepth 100000
set_option maxHeartbeats 4000000
namespace K20
open PySem PySem.Spec PyProof.Rows L2 Evl Pd
/-! ### the text -/
def topS (i : Nat) : Stmt := PySem.Challenge.pw_eighthturns_k20_whole_readings_by_number.main.body.getD i (.Pass ⟨0, 0, 0, 0⟩)
abbrev s_is_number : Stmt := topS 1
abbrev n_is_number : List Str := ["thing"]
theorem sc_is_number : FnScope ["thing"] ["thing"] (defScope s_is_number) := ⟨rfl, rfl, rfl, by decide +kernel, rfl, by decide +kernel, by decide +kernel⟩
abbrev s_is_below : Stmt := topS 2
abbrev n_is_below : List Str := ["thing", "many"]
theorem sc_is_below : FnScope ["thing", "many"] ["thing", "many"] (defScope s_is_below) := ⟨rfl, rfl, rfl, by decide +kernel, rfl, by decide +kernel, by decide +kernel⟩
abbrev s_frozen : Stmt := topS 3
abbrev n_frozen : List Str := ["value", "part"]
theorem sc_frozen : FnScope ["value", "part"] ["value"] (defScope s_frozen) := ⟨rfl, rfl, rfl, by decide +kernel, rfl, by decide +kernel, by decide +kernel⟩
abbrev s_root_divides : Stmt := topS 7
abbrev n_root_divides : List Str := ["numbers", "a", "b", "c", "d"]
theorem sc_root_divides : FnScope ["numbers", "a", "b", "c", "d"] ["numbers"] (defScope s_root_divides) := ⟨rfl, rfl, rfl, by decide +kernel, rfl, by decide +kernel, by decide +kernel⟩
abbrev s_times_root : Stmt := topS 8
abbrev n_times_root : List Str := ["numbers", "many", "twos", "a", "b", "c", "d", "number"]
theorem sc_times_root : FnScope ["numbers", "many", "twos", "a", "b", "c", "d", "number"] ["numbers", "many"] (defScope s_times_root) := ⟨rfl, rfl, rfl, by decide +kernel, rfl, by decide +kernel, by decide +kernel⟩
abbrev s_is_ray : Stmt := topS 9
abbrev n_is_ray : List Str := ["thing", "part"]
theorem sc_is_ray : FnScope ["thing", "part"] ["thing"] (defScope s_is_ray) := ⟨rfl, rfl, rfl, by decide +kernel, rfl, by decide +kernel, by decide +kernel⟩
abbrev s_ray_of : Stmt := topS 10
abbrev n_ray_of : List Str := ["numbers", "k", "a", "b", "c", "d"]
theorem sc_ray_of : FnScope ["numbers", "k", "a", "b", "c", "d"] ["numbers", "k"] (defScope s_ray_of) := ⟨rfl, rfl, rfl, by decide +kernel, rfl, by decide +kernel, by decide +kernel⟩
abbrev s_rays_added : Stmt := topS 11
abbrev n_rays_added : List Str := ["rays", "ray", "k", "sums", "numbers", "one", "other"]
theorem sc_rays_added : FnScope ["rays", "ray", "k", "sums", "numbers", "one", "other"] ["rays"] (defScope s_rays_added) := ⟨rfl, rfl, rfl, by decide +kernel, rfl, by decide +kernel, by decide +kernel⟩
abbrev s_ray_sum : Stmt := topS 12
abbrev n_ray_sum : List Str := ["one", "other"]
theorem sc_ray_sum : FnScope ["one", "other"] ["one", "other"] (defScope s_ray_sum) := ⟨rfl, rfl, rfl, by decide +kernel, rfl, by decide +kernel, by decide +kernel⟩
abbrev s_ray_product : Stmt := topS 13
abbrev n_ray_product : List Str := ["one", "other", "a", "b", "c", "d", "k", "e", "f", "g", "h", "m", "numbers"]
theorem sc_ray_product : FnScope ["one", "other", "a", "b", "c", "d", "k", "e", "f", "g", "h", "m", "numbers"] ["one", "other"] (defScope s_ray_product) := ⟨rfl, rfl, rfl, by decide +kernel, rfl, by decide +kernel, by decide +kernel⟩
abbrev s_turned_ray : Stmt := topS 14
abbrev n_turned_ray : List Str := ["ray", "many", "a", "b", "c", "d", "k", "_"]
theorem sc_turned_ray : FnScope ["ray", "many", "a", "b", "c", "d", "k", "_"] ["ray", "many"] (defScope s_turned_ray) := ⟨rfl, rfl, rfl, by decide +kernel, rfl, by decide +kernel, by decide +kernel⟩
abbrev s_mirrored : Stmt := topS 15
abbrev n_mirrored : List Str := ["ray", "a", "b", "c", "d", "k"]
theorem sc_mirrored : FnScope ["ray", "a", "b", "c", "d", "k"] ["ray"] (defScope s_mirrored) := ⟨rfl, rfl, rfl, by decide +kernel, rfl, by decide +kernel, by decide +kernel⟩
abbrev s_size_of : Stmt := topS 16
abbrev n_size_of : List Str := ["ray"]
theorem sc_size_of : FnScope ["ray"] ["ray"] (defScope s_size_of) := ⟨rfl, rfl, rfl, by decide +kernel, rfl, by decide +kernel, by decide +kernel⟩
abbrev s_over_root : Stmt := topS 17
abbrev n_over_root : List Str := ["ray", "many", "k"]
theorem sc_over_root : FnScope ["ray", "many", "k"] ["ray", "many"] (defScope s_over_root) := ⟨rfl, rfl, rfl, by decide +kernel, rfl, by decide +kernel, by decide +kernel⟩
abbrev s_are_rays : Stmt := topS 19
abbrev n_are_rays : List Str := ["thing", "part"]
theorem sc_are_rays : FnScope ["thing", "part"] ["thing"] (defScope s_are_rays) := ⟨rfl, rfl, rfl, by decide +kernel, rfl, by decide +kernel, by decide +kernel⟩
abbrev s_columns_of : Stmt := topS 20
abbrev n_columns_of : List Str := ["rows", "place", "row"]
theorem sc_columns_of : FnScope ["rows", "place", "row"] ["rows"] (defScope s_columns_of) := ⟨rfl, rfl, rfl, by decide +kernel, rfl, by decide +kernel, by decide +kernel⟩
abbrev s_products_added : Stmt := topS 21
abbrev n_products_added : List Str := ["ones", "others", "one", "other"]
theorem sc_products_added : FnScope ["ones", "others", "one", "other"] ["ones", "others"] (defScope s_products_added) := ⟨rfl, rfl, rfl, by decide +kernel, rfl, by decide +kernel, by decide +kernel⟩
abbrev s_mirror_product : Stmt := topS 22
abbrev n_mirror_product : List Str := ["ones", "others", "ray"]
theorem sc_mirror_product : FnScope ["ones", "others", "ray"] ["ones", "others"] (defScope s_mirror_product) := ⟨rfl, rfl, rfl, by decide +kernel, rfl, by decide +kernel, by decide +kernel⟩
abbrev s_sizes_make_one : Stmt := topS 23
abbrev n_sizes_make_one : List Str := ["rays", "bits", "ray", "part"]
theorem sc_sizes_make_one : FnScope ["rays", "bits", "ray", "part"] ["rays"] (defScope s_sizes_make_one) := ⟨rfl, rfl, rfl, by decide +kernel, rfl, by decide +kernel, by decide +kernel⟩
abbrev s_is_table : Stmt := topS 24
abbrev n_is_table : List Str := ["thing", "row"]
theorem sc_is_table : FnScope ["thing", "row"] ["thing"] (defScope s_is_table) := ⟨rfl, rfl, rfl, by decide +kernel, rfl, by decide +kernel, by decide +kernel⟩
abbrev s_table_product : Stmt := topS 25
abbrev n_table_product : List Str := ["one", "other", "columns", "row", "column"]
theorem sc_table_product : FnScope ["one", "other", "columns", "row", "column"] ["one", "other"] (defScope s_table_product) := ⟨rfl, rfl, rfl, by decide +kernel, rfl, by decide +kernel, by decide +kernel⟩
abbrev s_table_mirrored : Stmt := topS 26
abbrev n_table_mirrored : List Str := ["table", "column", "ray"]
theorem sc_table_mirrored : FnScope ["table", "column", "ray"] ["table"] (defScope s_table_mirrored) := ⟨rfl, rfl, rfl, by decide +kernel, rfl, by decide +kernel, by decide +kernel⟩
abbrev s_slants : Stmt := topS 28
abbrev n_slants : List Str := ["columns", "i", "j"]
theorem sc_slants : FnScope ["columns", "i", "j"] ["columns", "i", "j"] (defScope s_slants) := ⟨rfl, rfl, rfl, by decide +kernel, rfl, by decide +kernel, by decide +kernel⟩
abbrev s_least_slant : Stmt := topS 29
abbrev n_least_slant : List Str := ["columns", "i", "j"]
theorem sc_least_slant : FnScope ["columns", "i", "j"] ["columns"] (defScope s_least_slant) := ⟨rfl, rfl, rfl, by decide +kernel, rfl, by decide +kernel, by decide +kernel⟩
abbrev s_is_upright : Stmt := topS 27
abbrev n_is_upright : List Str := ["table", "columns", "column"]
theorem sc_is_upright : FnScope ["table", "columns", "column"] ["table"] (defScope s_is_upright) := ⟨rfl, rfl, rfl, by decide +kernel, rfl, by decide +kernel, by decide +kernel⟩
abbrev s_power_of : Stmt := topS 31
abbrev n_power_of : List Str := ["rays", "ray"]
theorem sc_power_of : FnScope ["rays", "ray"] ["rays"] (defScope s_power_of) := ⟨rfl, rfl, rfl, by decide +kernel, rfl, by decide +kernel, by decide +kernel⟩
abbrev s_least_power : Stmt := topS 33
abbrev n_least_power : List Str := ["table", "row"]
theorem sc_least_power : FnScope ["table", "row"] ["table"] (defScope s_least_power) := ⟨rfl, rfl, rfl, by decide +kernel, rfl, by decide +kernel, by decide +kernel⟩
abbrev s_quarter_tables : Stmt := topS 35
abbrev n_quarter_tables : List Str := ["found", "first", "right", "one", "other", "below", "turns", "rays", "many"]
theorem sc_quarter_tables : FnScope ["found", "first", "right", "one", "other", "below", "turns", "rays", "many"] [] (defScope s_quarter_tables) := ⟨rfl, rfl, rfl, by decide +kernel, rfl, by decide +kernel, by decide +kernel⟩
abbrev s_axis_tables : Stmt := topS 40
abbrev n_axis_tables : List Str := []
theorem sc_axis_tables : FnScope [] [] (defScope s_axis_tables) := ⟨rfl, rfl, rfl, by decide +kernel, rfl, by decide +kernel, by decide +kernel⟩
abbrev s_half_of_diagonal : Stmt := topS 42
abbrev n_half_of_diagonal : List Str := ["table"]
theorem sc_half_of_diagonal : FnScope ["table"] ["table"] (defScope s_half_of_diagonal) := ⟨rfl, rfl, rfl, by decide +kernel, rfl, by decide +kernel, by decide +kernel⟩
abbrev s_axes_table : Stmt := topS 41
abbrev n_axes_table : List Str := ["table", "back", "axes", "turned", "axis", "own"]
theorem sc_axes_table : FnScope ["table", "back", "axes", "turned", "axis", "own"] ["table"] (defScope s_axes_table) := ⟨rfl, rfl, rfl, by decide +kernel, rfl, by decide +kernel, by decide +kernel⟩
abbrev s_axes_power : Stmt := topS 43
abbrev n_axes_power : List Str := ["table"]
theorem sc_axes_power : FnScope ["table"] ["table"] (defScope s_axes_power) := ⟨rfl, rfl, rfl, by decide +kernel, rfl, by decide +kernel, by decide +kernel⟩
abbrev s_is_quarter : Stmt := topS 36
abbrev n_is_quarter : List Str := ["thing"]
theorem sc_is_quarter : FnScope ["thing"] ["thing"] (defScope s_is_quarter) := ⟨rfl, rfl, rfl, by decide +kernel, rfl, by decide +kernel, by decide +kernel⟩
abbrev s_is_reading : Stmt := topS 37
abbrev n_is_reading : List Str := ["thing", "first", "steps", "rest", "step"]
theorem sc_is_reading : FnScope ["thing", "first", "steps", "rest", "step"] ["thing"] (defScope s_is_reading) := ⟨rfl, rfl, rfl, by decide +kernel, rfl, by decide +kernel, by decide +kernel⟩
abbrev s_reading_letters : Stmt := topS 38
abbrev n_reading_letters : List Str := ["reading", "first", "steps", "_"]
theorem sc_reading_letters : FnScope ["reading", "first", "steps", "_"] ["reading"] (defScope s_reading_letters) := ⟨rfl, rfl, rfl, by decide +kernel, rfl, by decide +kernel, by decide +kernel⟩
abbrev s_reading_with : Stmt := topS 39
abbrev n_reading_with : List Str := ["letters", "rest", "first"]
theorem sc_reading_with : FnScope ["letters", "rest", "first"] ["letters", "rest"] (defScope s_reading_with) := ⟨rfl, rfl, rfl, by decide +kernel, rfl, by decide +kernel, by decide +kernel⟩
abbrev s_tables_many : Stmt := topS 45
abbrev n_tables_many : List Str := ["many"]
theorem sc_tables_many : FnScope ["many"] ["many"] (defScope s_tables_many) := ⟨rfl, rfl, rfl, by decide +kernel, rfl, by decide +kernel, by decide +kernel⟩
abbrev s_near_many : Stmt := topS 47
abbrev n_near_many : List Str := ["many"]
theorem sc_near_many : FnScope ["many"] ["many"] (defScope s_near_many) := ⟨rfl, rfl, rfl, by decide +kernel, rfl, by decide +kernel, by decide +kernel⟩
abbrev s_tables_at_most : Stmt := topS 46
abbrev n_tables_at_most : List Str := ["many"]
theorem sc_tables_at_most : FnScope ["many"] ["many"] (defScope s_tables_at_most) := ⟨rfl, rfl, rfl, by decide +kernel, rfl, by decide +kernel, by decide +kernel⟩
abbrev s_letters_by_number : Stmt := topS 48
abbrev n_letters_by_number : List Str := ["length", "number", "steps", "at"]
theorem sc_letters_by_number : FnScope ["length", "number", "steps", "at"] ["length", "number"] (defScope s_letters_by_number) := ⟨rfl, rfl, rfl, by decide +kernel, rfl, by decide +kernel, by decide +kernel⟩
abbrev s_number_of_letters : Stmt := topS 49
abbrev n_number_of_letters : List Str := ["letters", "number", "letter"]
theorem sc_number_of_letters : FnScope ["letters", "number", "letter"] ["letters"] (defScope s_number_of_letters) := ⟨rfl, rfl, rfl, by decide +kernel, rfl, by decide +kernel, by decide +kernel⟩
abbrev s_reading_by_number : Stmt := topS 50
abbrev n_reading_by_number : List Str := ["number", "length", "left"]
theorem sc_reading_by_number : FnScope ["number", "length", "left"] ["number"] (defScope s_reading_by_number) := ⟨rfl, rfl, rfl, by decide +kernel, rfl, by decide +kernel, by decide +kernel⟩
abbrev s_number_of_reading : Stmt := topS 51
abbrev n_number_of_reading : List Str := ["reading", "letters", "ahead"]
theorem sc_number_of_reading : FnScope ["reading", "letters", "ahead"] ["reading"] (defScope s_number_of_reading) := ⟨rfl, rfl, rfl, by decide +kernel, rfl, by decide +kernel, by decide +kernel⟩
abbrev s_next_reading : Stmt := topS 52
abbrev n_next_reading : List Str := ["reading"]
theorem sc_next_reading : FnScope ["reading"] ["reading"] (defScope s_next_reading) := ⟨rfl, rfl, rfl, by decide +kernel, rfl, by decide +kernel, by decide +kernel⟩
abbrev s_ulaw_box : Stmt := topS 54
abbrev n_ulaw_box : List Str := ["script", "k", "cell_so"]
theorem sc_ulaw_box : FnScope ["script", "k", "cell_so"] ["script", "k"] (defScope s_ulaw_box) := ⟨rfl, rfl, rfl, by decide +kernel, rfl, by decide +kernel, by decide +kernel⟩
abbrev s_ulaw_take : Stmt := topS 55
abbrev n_ulaw_take : List Str := ["tin", "below_so", "drawn", "once_so", "wide_so", "twice_so"]
theorem sc_ulaw_take : FnScope ["tin", "below_so", "drawn", "once_so", "wide_so", "twice_so"] ["tin", "below_so"] (defScope s_ulaw_take) := ⟨rfl, rfl, rfl, by decide +kernel, rfl, by decide +kernel, by decide +kernel⟩
abbrev s_ulaw_cells : Stmt := topS 56
abbrev n_ulaw_cells : List Str := ["script", "most_so", "cells_so", "k", "cell_so", "at_so"]
theorem sc_ulaw_cells : FnScope ["script", "most_so", "cells_so", "k", "cell_so", "at_so"] ["script", "most_so"] (defScope s_ulaw_cells) := ⟨rfl, rfl, rfl, by decide +kernel, rfl, by decide +kernel, by decide +kernel⟩
abbrev s_ulaw_of : Stmt := topS 57
abbrev n_ulaw_of : List Str := ["tin", "goods_so"]
theorem sc_ulaw_of : FnScope ["tin", "goods_so"] ["tin", "goods_so"] (defScope s_ulaw_of) := ⟨rfl, rfl, rfl, by decide +kernel, rfl, by decide +kernel, by decide +kernel⟩
abbrev s_ulaw_lists : Stmt := topS 58
abbrev n_ulaw_lists : List Str := ["matter", "bit"]
theorem sc_ulaw_lists : FnScope ["matter", "bit"] ["matter"] (defScope s_ulaw_lists) := ⟨rfl, rfl, rfl, by decide +kernel, rfl, by decide +kernel, by decide +kernel⟩
abbrev s_ulaw_same : Stmt := topS 59
abbrev n_ulaw_same : List Str := ["got", "due", "mine", "its"]
theorem sc_ulaw_same : FnScope ["got", "due", "mine", "its"] ["got", "due"] (defScope s_ulaw_same) := ⟨rfl, rfl, rfl, by decide +kernel, rfl, by decide +kernel, by decide +kernel⟩
abbrev s_ulaw_is_number : Stmt := topS 60
abbrev n_ulaw_is_number : List Str := ["own"]
theorem sc_ulaw_is_number : FnScope ["own"] ["own"] (defScope s_ulaw_is_number) := ⟨rfl, rfl, rfl, by decide +kernel, rfl, by decide +kernel, by decide +kernel⟩
abbrev s_ulaw_is_ray : Stmt := topS 61
abbrev n_ulaw_is_ray : List Str := ["own", "bit"]
theorem sc_ulaw_is_ray : FnScope ["own", "bit"] ["own"] (defScope s_ulaw_is_ray) := ⟨rfl, rfl, rfl, by decide +kernel, rfl, by decide +kernel, by decide +kernel⟩
abbrev s_ulaw_place_state : Stmt := topS 62
abbrev n_ulaw_place_state : List Str := ["size_so", "place_so", "k"]
theorem sc_ulaw_place_state : FnScope ["size_so", "place_so", "k"] ["size_so", "place_so"] (defScope s_ulaw_place_state) := ⟨rfl, rfl, rfl, by decide +kernel, rfl, by decide +kernel, by decide +kernel⟩
abbrev s_ulaw_unit : Stmt := topS 63
abbrev n_ulaw_unit : List Str := ["size_so", "k"]
theorem sc_ulaw_unit : FnScope ["size_so", "k"] ["size_so"] (defScope s_ulaw_unit) := ⟨rfl, rfl, rfl, by decide +kernel, rfl, by decide +kernel, by decide +kernel⟩
abbrev s_ulaw_eighth_of : Stmt := topS 64
abbrev n_ulaw_eighth_of : List Str := ["own", "found", "k"]
theorem sc_ulaw_eighth_of : FnScope ["own", "found", "k"] ["own"] (defScope s_ulaw_eighth_of) := ⟨rfl, rfl, rfl, by decide +kernel, rfl, by decide +kernel, by decide +kernel⟩
abbrev s_ulaw_is_quarter : Stmt := topS 65
abbrev n_ulaw_is_quarter : List Str := ["table_so", "rays_so", "nought_so", "powers_so", "steps_so", "own"]
theorem sc_ulaw_is_quarter : FnScope ["table_so", "rays_so", "nought_so", "powers_so", "steps_so", "own"] ["table_so"] (defScope s_ulaw_is_quarter) := ⟨rfl, rfl, rfl, by decide +kernel, rfl, by decide +kernel, by decide +kernel⟩
abbrev s_ulaw_reading : Stmt := topS 66
abbrev n_ulaw_reading : List Str := ["letters_so", "rest_so", "first_so"]
theorem sc_ulaw_reading : FnScope ["letters_so", "rest_so", "first_so"] ["letters_so", "rest_so"] (defScope s_ulaw_reading) := ⟨rfl, rfl, rfl, by decide +kernel, rfl, by decide +kernel, by decide +kernel⟩
abbrev s_ulaw_is_small_table : Stmt := topS 67
abbrev n_ulaw_is_small_table : List Str := ["own", "its"]
theorem sc_ulaw_is_small_table : FnScope ["own", "its"] ["own"] (defScope s_ulaw_is_small_table) := ⟨rfl, rfl, rfl, by decide +kernel, rfl, by decide +kernel, by decide +kernel⟩
abbrev s_ulaw_is_form : Stmt := topS 68
abbrev n_ulaw_is_form : List Str := ["own", "its"]
theorem sc_ulaw_is_form : FnScope ["own", "its"] ["own"] (defScope s_ulaw_is_form) := ⟨rfl, rfl, rfl, by decide +kernel, rfl, by decide +kernel, by decide +kernel⟩
abbrev s_ulaw_letters : Stmt := topS 69
abbrev n_ulaw_letters : List Str := ["tin", "most_so", "many_so", "k"]
theorem sc_ulaw_letters : FnScope ["tin", "most_so", "many_so", "k"] ["tin", "most_so"] (defScope s_ulaw_letters) := ⟨rfl, rfl, rfl, by decide +kernel, rfl, by decide +kernel, by decide +kernel⟩
abbrev s_ulaw_grown : Stmt := topS 70
abbrev n_ulaw_grown : List Str := ["many_so", "own", "fewer_so", "k"]
theorem sc_ulaw_grown : FnScope ["many_so", "own", "fewer_so", "k"] ["many_so"] (defScope s_ulaw_grown) := ⟨rfl, rfl, rfl, by decide +kernel, rfl, by decide +kernel, by decide +kernel⟩
abbrev s_ulaw_number : Stmt := topS 71
abbrev n_ulaw_number : List Str := ["reading_so", "rests_so", "letters_so", "place_so", "own"]
theorem sc_ulaw_number : FnScope ["reading_so", "rests_so", "letters_so", "place_so", "own"] ["reading_so", "rests_so"] (defScope s_ulaw_number) := ⟨rfl, rfl, rfl, by decide +kernel, rfl, by decide +kernel, by decide +kernel⟩
abbrev s_ulaw_rests_right : Stmt := topS 72
abbrev n_ulaw_rests_right : List Str := ["rests_so", "one_so", "two_so", "own"]
theorem sc_ulaw_rests_right : FnScope ["rests_so", "one_so", "two_so", "own"] ["rests_so"] (defScope s_ulaw_rests_right) := ⟨rfl, rfl, rfl, by decide +kernel, rfl, by decide +kernel, by decide +kernel⟩
abbrev s_ulaw_one_right : Stmt := topS 73
abbrev n_ulaw_one_right : List Str := ["reading_so", "rests_so", "soft", "own", "its"]
theorem sc_ulaw_one_right : FnScope ["reading_so", "rests_so", "soft", "own", "its"] ["reading_so", "rests_so", "soft"] (defScope s_ulaw_one_right) := ⟨rfl, rfl, rfl, by decide +kernel, rfl, by decide +kernel, by decide +kernel⟩
abbrev s_ulaw_by_hand_right : Stmt := topS 74
abbrev n_ulaw_by_hand_right : List Str := ["bare", "got"]
theorem sc_ulaw_by_hand_right : FnScope ["bare", "got"] [] (defScope s_ulaw_by_hand_right) := ⟨rfl, rfl, rfl, by decide +kernel, rfl, by decide +kernel, by decide +kernel⟩
abbrev s_ulaw_right : Stmt := topS 75
abbrev n_ulaw_right : List Str := ["tin", "rests_so", "turn_so", "many_so", "own", "fewer_so", "letters_so", "long_so", "k"]
theorem sc_ulaw_right : FnScope ["tin", "rests_so", "turn_so", "many_so", "own", "fewer_so", "letters_so", "long_so", "k"] ["tin"] (defScope s_ulaw_right) := ⟨rfl, rfl, rfl, by decide +kernel, rfl, by decide +kernel, by decide +kernel⟩
abbrev s_law : Stmt := topS 76
abbrev n_law : List Str := ["script"]
theorem sc_law : FnScope ["script"] ["script"] (defScope s_law) := ⟨rfl, rfl, rfl, by decide +kernel, rfl, by decide +kernel, by decide +kernel⟩
/-! ### what it does, by value -/
def d_ONE : D := (.tup [(.int 1), (.int 0), (.int 0), (.int 0), (.int 0)])
def d_ZERO : D := (.tup [(.int 0), (.int 0), (.int 0), (.int 0), (.int 0)])
def sm_is_number : SM := (sRet (eAnd (eUn (fIsi .int) (eVar 0)) (eNot (eUn (fIsi .bool) (eVar 0)))))
def m_is_number : List D → Option OR := runD 1 1 sm_is_number
def sm_is_below : SM := (sRet (eAnd (eFn m_is_number (aOne (eVar 0))) (eChain (dI fun i j => .bl (decide (i ≤ j))) dLt (eC (.int 0)) (eVar 0) (eVar 1))))
def m_is_below : List D → Option OR := runD 2 2 sm_is_below
def sm_frozen (mrec : List D → Option OR) : SM := (sSeq (sIf (mTru (eUn (fIsi2 .list .tuple) (eVar 0))) (sRet (eCall fTuple (aOne (eLc (iSeq (eVar 0)) (gN 1) mYes (eFn mrec (aOne (eVar 1))) [1])))) sNext)
      (sRet (eVar 0)))
def mr_frozen : Nat → List D → Option OR
  | 0 => fun _ => none
  | n + 1 => runD 1 2 (sm_frozen (mr_frozen n))
def m_frozen : List D → Option OR := mr_frozen 8
def sm_root_divides : SM := (sSeq (sAsg (gU 4 (gsCons (gN 1) (gsCons (gN 2) (gsCons (gN 3) (gsCons (gN 4) gsNil))))) (eVar 0))
      (sRet (eAnd (eOp dEq (eOp (dIc cMod fun i j => .int (i % j)) (eOp dAdd (eVar 1) (eVar 3)) (eC (.int 2))) (eC (.int 0))) (eOp dEq (eOp (dIc cMod fun i j => .int (i % j)) (eOp dAdd (eVar 2) (eVar 4)) (eC (.int 2))) (eC (.int 0))))))
def m_root_divides : List D → Option OR := runD 1 5 sm_root_divides
def sm_times_root : SM := (sSeq (sSet 2 (eOp (dIc cDiv fun i j => .int (i / j)) (eVar 1) (eC (.int 2))))
      (sSeq (sAsg (gU 4 (gsCons (gN 3) (gsCons (gN 4) (gsCons (gN 5) (gsCons (gN 6) gsNil))))) (eLc (iSeq (eVar 0)) (gN 7) mYes (eOp (dIc cShl fun i j => .int (i * 2 ^ j.toNat)) (eVar 7) (eVar 2)) [7]))
      (sSeq (sIf (mVal (eOp dEq (eOp (dIc cMod fun i j => .int (i % j)) (eVar 1) (eC (.int 2))) (eC (.int 1)))) (sRet (eTup (aCons (eOp (dI fun i j => .int (i - j)) (eVar 4) (eVar 6)) (aCons (eOp dAdd (eVar 3) (eVar 5)) (aCons (eOp dAdd (eVar 4) (eVar 6)) (aOne (eOp (dI fun i j => .int (i - j)) (eVar 5) (eVar 3)))))))) sNext)
      (sRet (eTup (aCons (eVar 3) (aCons (eVar 4) (aCons (eVar 5) (aOne (eVar 6))))))))))
def m_times_root : List D → Option OR := runD 2 8 sm_times_root
def sm_is_ray : SM := (sSeq (sIf (mOr (mNot (mTru (eUn (fIsi .tuple) (eVar 0)))) (mVal (eOp dNe (eCall fLen (aOne (eVar 0))) (eC (.int 5))))) (sRet (eC (.bl false))) sNext)
      (sSeq (sIf (mNot (mTru (eCall fAll (aOne (eLc (iSeq (eVar 0)) (gN 1) mYes (eFn m_is_number (aOne (eVar 1))) [1]))))) (sRet (eC (.bl false))) sNext)
      (sRet (eOr (eOp dEq (eOp dIx (eVar 0) (eC (.int 4))) (eC (.int 0))) (eAnd (eOp (dI fun i j => .bl (decide (j < i))) (eOp dIx (eVar 0) (eC (.int 4))) (eC (.int 0))) (eNot (eFn m_root_divides (aOne (eSl dSl (eVar 0) oNo (oPart (eC (.int 4))))))))))))
def m_is_ray : List D → Option OR := runD 1 2 sm_is_ray
def sm_ray_of : SM := (sSeq (sAsg (gU 4 (gsCons (gN 2) (gsCons (gN 3) (gsCons (gN 4) (gsCons (gN 5) gsNil))))) (eVar 0))
      (sSeq (sWhile (mAnd (mVal (eOp (dI fun i j => .bl (decide (j < i))) (eVar 1) (eC (.int 0)))) (mTru (eFn m_root_divides (aOne (eTup (aCons (eVar 2) (aCons (eVar 3) (aCons (eVar 4) (aOne (eVar 5)))))))))) (sSeq (sAsg (gU 4 (gsCons (gN 2) (gsCons (gN 3) (gsCons (gN 4) (gsCons (gN 5) gsNil))))) (eTup (aCons (eOp (dIc cDiv fun i j => .int (i / j)) (eOp (dI fun i j => .int (i - j)) (eVar 3) (eVar 5)) (eC (.int 2))) (aCons (eOp (dIc cDiv fun i j => .int (i / j)) (eOp dAdd (eVar 2) (eVar 4)) (eC (.int 2))) (aCons (eOp (dIc cDiv fun i j => .int (i / j)) (eOp dAdd (eVar 3) (eVar 5)) (eC (.int 2))) (aOne (eOp (dIc cDiv fun i j => .int (i / j)) (eOp (dI fun i j => .int (i - j)) (eVar 4) (eVar 2)) (eC (.int 2)))))))))
      (sAug 1 (fun i j => i - j) (eC (.int 1)))) 1000)
      (sRet (eTup (aCons (eVar 2) (aCons (eVar 3) (aCons (eVar 4) (aCons (eVar 5) (aOne (eVar 1))))))))))
def m_ray_of : List D → Option OR := runD 2 6 sm_ray_of
def sm_rays_added : SM := (sSeq (sSet 2 (eMaxD (aOne (eLc (iSeq (eVar 0)) (gN 1) mYes (eOp dIx (eVar 1) (eC (.int 4))) [1])) 0))
      (sSeq (sSet 3 (eLst (aCons (eC (.int 0)) (aCons (eC (.int 0)) (aCons (eC (.int 0)) (aOne (eC (.int 0))))))))
      (sSeq (sFor (iSeq (eVar 0)) (gN 1) (sSeq (sSet 4 (eFn m_times_root (aCons (eSl dSl (eVar 1) oNo (oPart (eC (.int 4)))) (aOne (eOp (dI fun i j => .int (i - j)) (eVar 2) (eOp dIx (eVar 1) (eC (.int 4))))))))
      (sSet 3 (eLc (iZp (aCons (eVar 3) (aOne (eVar 4)))) (gU 2 (gsCons (gN 5) (gsCons (gN 6) gsNil))) mYes (eOp dAdd (eVar 5) (eVar 6)) [5, 6]))))
      (sRet (eFn m_ray_of (aCons (eVar 3) (aOne (eVar 2))))))))
def m_rays_added : List D → Option OR := runD 1 7 sm_rays_added
def sm_ray_sum : SM := (sRet (eFn m_rays_added (aOne (eTup (aCons (eVar 0) (aOne (eVar 1)))))))
def m_ray_sum : List D → Option OR := runD 2 2 sm_ray_sum
def sm_ray_product : SM := (sSeq (sAsg (gU 5 (gsCons (gN 2) (gsCons (gN 3) (gsCons (gN 4) (gsCons (gN 5) (gsCons (gN 6) gsNil)))))) (eVar 0))
      (sSeq (sAsg (gU 5 (gsCons (gN 7) (gsCons (gN 8) (gsCons (gN 9) (gsCons (gN 10) (gsCons (gN 11) gsNil)))))) (eVar 1))
      (sSeq (sSet 12 (eTup (aCons (eOp (dI fun i j => .int (i - j)) (eOp (dI fun i j => .int (i - j)) (eOp (dI fun i j => .int (i - j)) (eOp dMul (eVar 2) (eVar 7)) (eOp dMul (eVar 3) (eVar 10))) (eOp dMul (eVar 4) (eVar 9))) (eOp dMul (eVar 5) (eVar 8))) (aCons (eOp (dI fun i j => .int (i - j)) (eOp (dI fun i j => .int (i - j)) (eOp dAdd (eOp dMul (eVar 2) (eVar 8)) (eOp dMul (eVar 3) (eVar 7))) (eOp dMul (eVar 4) (eVar 10))) (eOp dMul (eVar 5) (eVar 9))) (aCons (eOp (dI fun i j => .int (i - j)) (eOp dAdd (eOp dAdd (eOp dMul (eVar 2) (eVar 9)) (eOp dMul (eVar 3) (eVar 8))) (eOp dMul (eVar 4) (eVar 7))) (eOp dMul (eVar 5) (eVar 10))) (aOne (eOp dAdd (eOp dAdd (eOp dAdd (eOp dMul (eVar 2) (eVar 10)) (eOp dMul (eVar 3) (eVar 9))) (eOp dMul (eVar 4) (eVar 8))) (eOp dMul (eVar 5) (eVar 7)))))))))
      (sRet (eFn m_ray_of (aCons (eVar 12) (aOne (eOp dAdd (eVar 6) (eVar 11)))))))))
def m_ray_product : List D → Option OR := runD 2 13 sm_ray_product
def sm_turned_ray : SM := (sSeq (sAsg (gU 5 (gsCons (gN 2) (gsCons (gN 3) (gsCons (gN 4) (gsCons (gN 5) (gsCons (gN 6) gsNil)))))) (eVar 0))
      (sSeq (sFor (iR1 (aOne (eOp (dIc cMod fun i j => .int (i % j)) (eVar 1) (eC (.int 8))))) (gN 7) (sAsg (gU 4 (gsCons (gN 2) (gsCons (gN 3) (gsCons (gN 4) (gsCons (gN 5) gsNil))))) (eTup (aCons (eUn fNeg (eVar 5)) (aCons (eVar 2) (aCons (eVar 3) (aOne (eVar 4))))))))
      (sRet (eTup (aCons (eVar 2) (aCons (eVar 3) (aCons (eVar 4) (aCons (eVar 5) (aOne (eVar 6))))))))))
def m_turned_ray : List D → Option OR := runD 2 8 sm_turned_ray
def sm_mirrored : SM := (sSeq (sAsg (gU 5 (gsCons (gN 1) (gsCons (gN 2) (gsCons (gN 3) (gsCons (gN 4) (gsCons (gN 5) gsNil)))))) (eVar 0))
      (sRet (eTup (aCons (eVar 1) (aCons (eUn fNeg (eVar 4)) (aCons (eUn fNeg (eVar 3)) (aCons (eUn fNeg (eVar 2)) (aOne (eVar 5)))))))))
def m_mirrored : List D → Option OR := runD 1 6 sm_mirrored
def sm_size_of : SM := (sRet (eFn m_ray_product (aCons (eVar 0) (aOne (eFn m_mirrored (aOne (eVar 0)))))))
def m_size_of : List D → Option OR := runD 1 1 sm_size_of
def sm_over_root : SM := (sSeq (sSet 2 (eOp dAdd (eOp dIx (eVar 0) (eC (.int 4))) (eVar 1)))
      (sSeq (sIf (mVal (eOp (dI fun i j => .bl (decide (j ≤ i))) (eVar 2) (eC (.int 0)))) (sRet (eFn m_ray_of (aCons (eSl dSl (eVar 0) oNo (oPart (eC (.int 4)))) (aOne (eVar 2))))) sNext)
      (sRet (eFn m_ray_of (aCons (eFn m_times_root (aCons (eSl dSl (eVar 0) oNo (oPart (eC (.int 4)))) (aOne (eUn fNeg (eVar 2))))) (aOne (eC (.int 0))))))))
def m_over_root : List D → Option OR := runD 2 3 sm_over_root
def sm_are_rays : SM := (sRet (eAnd (eUn (fIsi .tuple) (eVar 0)) (eAnd (eOp (dI fun i j => .bl (decide (j ≤ i))) (eCall fLen (aOne (eVar 0))) (eC (.int 2))) (eCall fAll (aOne (eLc (iSeq (eVar 0)) (gN 1) mYes (eFn m_is_ray (aOne (eVar 1))) [1]))))))
def m_are_rays : List D → Option OR := runD 1 2 sm_are_rays
def sm_columns_of : SM := (sRet (eCall fTuple (aOne (eLc (iR1 (aOne (eCall fLen (aOne (eOp dIx (eVar 0) (eC (.int 0))))))) (gN 1) mYes (eCall fTuple (aOne (eLc (iSeq (eVar 0)) (gN 2) mYes (eOp dIx (eVar 2) (eVar 1)) [2]))) [1]))))
def m_columns_of : List D → Option OR := runD 1 3 sm_columns_of
def sm_products_added : SM := (sRet (eFn m_rays_added (aOne (eLc (iZp (aCons (eVar 0) (aOne (eVar 1)))) (gU 2 (gsCons (gN 2) (gsCons (gN 3) gsNil))) (mAnd (mVal (eOp dNe (eVar 2) (eC d_ZERO))) (mVal (eOp dNe (eVar 3) (eC d_ZERO)))) (eFn m_ray_product (aCons (eVar 2) (aOne (eVar 3)))) [2, 3]))))
def m_products_added : List D → Option OR := runD 2 4 sm_products_added
def sm_mirror_product : SM := (sRet (eFn m_products_added (aCons (eLc (iSeq (eVar 0)) (gN 2) mYes (eFn m_mirrored (aOne (eVar 2))) [2]) (aOne (eVar 1)))))
def m_mirror_product : List D → Option OR := runD 2 3 sm_mirror_product
def sm_sizes_make_one : SM := (sSeq (sSet 1 (eCall fSum (aOne (eLc (iSeq (eVar 0)) (gN 2) mYes (eUn fBits (eCall fSum (aOne (eLc (iSeq (eSl dSl (eVar 2) oNo (oPart (eC (.int 4))))) (gN 3) mYes (eOp dMul (eVar 3) (eVar 3)) [3])))) [2]))))
      (sSeq (sIf (mVal (eOp (dI fun i j => .bl (decide (j < i))) (eCall fMax (aOne (eLc (iSeq (eVar 0)) (gN 2) mYes (eOp dIx (eVar 2) (eC (.int 4))) [2]))) (eVar 1))) (sRet (eC (.bl false))) sNext)
      (sRet (eOp dEq (eFn m_rays_added (aOne (eLc (iSeq (eVar 0)) (gN 2) mYes (eFn m_size_of (aOne (eVar 2))) [2]))) (eC d_ONE)))))
def m_sizes_make_one : List D → Option OR := runD 1 4 sm_sizes_make_one
def sm_is_table : SM := (sSeq (sIf (mNot (mTru (eUn (fIsi .tuple) (eVar 0)))) (sRet (eC (.bl false))) sNext)
      (sRet (eAnd (eOp (dI fun i j => .bl (decide (j ≤ i))) (eCall fLen (aOne (eVar 0))) (eC (.int 2))) (eCall fAll (aOne (eLc (iSeq (eVar 0)) (gN 1) mYes (eAnd (eFn m_are_rays (aOne (eVar 1))) (eOp dEq (eCall fLen (aOne (eVar 1))) (eCall fLen (aOne (eVar 0))))) [1]))))))
def m_is_table : List D → Option OR := runD 1 2 sm_is_table
def sm_table_product : SM := (sSeq (sSet 2 (eFn m_columns_of (aOne (eFn m_frozen (aOne (eVar 1))))))
      (sRet (eCall fTuple (aOne (eLc (iSeq (eFn m_frozen (aOne (eVar 0)))) (gN 3) mYes (eCall fTuple (aOne (eLc (iSeq (eVar 2)) (gN 4) mYes (eFn m_products_added (aCons (eVar 3) (aOne (eVar 4)))) [4]))) [3])))))
def m_table_product : List D → Option OR := runD 2 5 sm_table_product
def sm_table_mirrored : SM := (sRet (eCall fTuple (aOne (eLc (iSeq (eFn m_columns_of (aOne (eVar 0)))) (gN 1) mYes (eCall fTuple (aOne (eLc (iSeq (eVar 1)) (gN 2) mYes (eFn m_mirrored (aOne (eVar 2))) [2]))) [1]))))
def m_table_mirrored : List D → Option OR := runD 1 3 sm_table_mirrored
def sm_slants : SM := (sRet (eOp dNe (eFn m_mirror_product (aCons (eOp dIx (eVar 0) (eVar 1)) (aOne (eOp dIx (eVar 0) (eVar 2))))) (eIf (mVal (eOp dEq (eVar 1) (eVar 2))) (eC d_ONE) (eC d_ZERO))))
def m_slants : List D → Option OR := runD 3 3 sm_slants
def sm_least_slant : SM := (sSeq (sFor (iR1 (aOne (eCall fLen (aOne (eVar 0))))) (gN 1) (sFor (iR2 (aCons (eVar 1) (aOne (eCall fLen (aOne (eVar 0)))))) (gN 2) (sIf (mTru (eFn m_slants (aCons (eVar 0) (aCons (eVar 1) (aOne (eVar 2)))))) (sRet (eTup (aCons (eVar 1) (aOne (eVar 2))))) sNext)))
      (sRet (eC .non)))
def m_least_slant : List D → Option OR := runD 1 3 sm_least_slant
def sm_is_upright : SM := (sSeq (sSet 1 (eFn m_columns_of (aOne (eFn m_frozen (aOne (eVar 0))))))
      (sRet (eAnd (eCall fAll (aOne (eLc (iSeq (eVar 1)) (gN 2) mYes (eFn m_sizes_make_one (aOne (eVar 2))) [2]))) (eOp dIs (eFn m_least_slant (aOne (eVar 1))) (eC .non)))))
def m_is_upright : List D → Option OR := runD 1 3 sm_is_upright
def sm_power_of : SM := (sRet (eCall fMax (aOne (eLc (iSeq (eVar 0)) (gN 1) mYes (eOp dIx (eVar 1) (eC (.int 4))) [1]))))
def m_power_of : List D → Option OR := runD 1 2 sm_power_of
def sm_least_power : SM := (sRet (eCall fMax (aOne (eLc (iSeq (eVar 0)) (gN 1) mYes (eFn m_power_of (aOne (eVar 1))) [1]))))
def m_least_power : List D → Option OR := runD 1 2 sm_least_power
def sm_quarter_tables : SM := (sSeq (sSet 0 (eLst aNil))
      (sSeq (sFor (iR1 (aOne (eC (.int 8)))) (gN 1) (sFor (iSeq (eTup (aCons (eC (.int 0)) (aCons (eC (.int 2)) (aCons (eC (.int 4)) (aOne (eC (.int 6)))))))) (gN 2) (sSeq (sPar 3 4 (aCons (eFn m_turned_ray (aCons (eC d_ONE) (aOne (eVar 1)))) (aOne (eFn m_turned_ray (aCons (eC d_ONE) (aOne (eOp dAdd (eVar 1) (eVar 2))))))))
      (sSeq (sExt 0 (eLst (aCons (eTup (aCons (eTup (aCons (eVar 3) (aOne (eC d_ZERO)))) (aOne (eTup (aCons (eC d_ZERO) (aOne (eVar 4))))))) (aOne (eTup (aCons (eTup (aCons (eC d_ZERO) (aOne (eVar 3)))) (aOne (eTup (aCons (eVar 4) (aOne (eC d_ZERO)))))))))))
      (sFor (iSeq (eTup (aCons (eC (.int 0)) (aCons (eC (.int 2)) (aCons (eC (.int 4)) (aOne (eC (.int 6)))))))) (gN 5) (sSeq (sSet 6 (eTup (aCons (eVar 1) (aCons (eOp dAdd (eVar 1) (eVar 2)) (aCons (eOp dAdd (eVar 1) (eVar 5)) (aOne (eOp dAdd (eOp dAdd (eOp dAdd (eVar 1) (eVar 2)) (eVar 5)) (eC (.int 4)))))))))
      (sSeq (sSet 7 (eLc (iSeq (eVar 6)) (gN 8) mYes (eFn m_over_root (aCons (eFn m_turned_ray (aCons (eC d_ONE) (aOne (eVar 8)))) (aOne (eC (.int 1))))) [8]))
      (sApp 0 (eTup (aCons (eTup (aCons (eOp dIx (eVar 7) (eC (.int 0))) (aOne (eOp dIx (eVar 7) (eC (.int 1)))))) (aOne (eTup (aCons (eOp dIx (eVar 7) (eC (.int 2))) (aOne (eOp dIx (eVar 7) (eC (.int 3)))))))))))))))))
      (sRet (eCall fTuple (aOne (eCall fSorted (aOne (eVar 0))))))))
def m_quarter_tables : List D → Option OR := runD 0 9 sm_quarter_tables
def sm_axis_tables : SM := (sRet (eTup (aCons (eTup (aCons (eTup (aCons (eC d_ZERO) (aOne (eC d_ONE)))) (aOne (eTup (aCons (eC d_ONE) (aOne (eC d_ZERO))))))) (aCons (eTup (aCons (eTup (aCons (eC d_ZERO) (aOne (eFn m_turned_ray (aCons (eC d_ONE) (aOne (eC (.int 6)))))))) (aOne (eTup (aCons (eFn m_turned_ray (aCons (eC d_ONE) (aOne (eC (.int 2))))) (aOne (eC d_ZERO))))))) (aOne (eTup (aCons (eTup (aCons (eC d_ONE) (aOne (eC d_ZERO)))) (aOne (eTup (aCons (eC d_ZERO) (aOne (eFn m_turned_ray (aCons (eC d_ONE) (aOne (eC (.int 4))))))))))))))))
def m_axis_tables : List D → Option OR := runD 0 0 sm_axis_tables
def sm_half_of_diagonal : SM := (sRet (eFn m_over_root (aCons (eFn m_ray_sum (aCons (eOp dIx (eOp dIx (eVar 0) (eC (.int 0))) (eC (.int 0))) (aOne (eOp dIx (eOp dIx (eVar 0) (eC (.int 1))) (eC (.int 1)))))) (aOne (eC (.int 2))))))
def m_half_of_diagonal : List D → Option OR := runD 1 1 sm_half_of_diagonal
def sm_axes_table : SM := (sSeq (sSet 1 (eFn m_table_mirrored (aOne (eVar 0))))
      (sSeq (sSet 2 (eFn m_axis_tables aNil))
      (sSeq (sSet 3 (eLc (iSeq (eVar 2)) (gN 4) mYes (eFn m_table_product (aCons (eFn m_table_product (aCons (eVar 0) (aOne (eVar 4)))) (aOne (eVar 1)))) [4]))
      (sRet (eCall fTuple (aOne (eLc (iSeq (eVar 2)) (gN 4) mYes (eCall fTuple (aOne (eLc (iSeq (eVar 3)) (gN 5) mYes (eFn m_half_of_diagonal (aOne (eFn m_table_product (aCons (eVar 4) (aOne (eVar 5)))))) [5]))) [4])))))))
def m_axes_table : List D → Option OR := runD 1 6 sm_axes_table
def sm_axes_power : SM := (sRet (eFn m_least_power (aOne (eFn m_axes_table (aOne (eVar 0))))))
def m_axes_power : List D → Option OR := runD 1 1 sm_axes_power
def sm_is_quarter : SM := (sRet (eAnd (eFn m_is_table (aOne (eVar 0))) (eAnd (eOp dEq (eCall fLen (aOne (eVar 0))) (eC (.int 2))) (eAnd (eFn m_is_upright (aOne (eVar 0))) (eOp dEq (eFn m_axes_power (aOne (eVar 0))) (eC (.int 0)))))))
def m_is_quarter : List D → Option OR := runD 1 1 sm_is_quarter
def sm_is_reading : SM := (sSeq (sIf (mOr (mNot (mTru (eUn (fIsi .tuple) (eVar 0)))) (mVal (eOp dNe (eCall fLen (aOne (eVar 0))) (eC (.int 3))))) (sRet (eC (.bl false))) sNext)
      (sSeq (sAsg (gU 3 (gsCons (gN 1) (gsCons (gN 2) (gsCons (gN 3) gsNil)))) (eVar 0))
      (sSeq (sIf (mOr (mNot (mTru (eUn (fIsi .bool) (eVar 1)))) (mNot (mTru (eUn (fIsi .tuple) (eVar 2))))) (sRet (eC (.bl false))) sNext)
      (sRet (eAnd (eCall fAll (aOne (eLc (iSeq (eVar 2)) (gN 4) mYes (eFn m_is_below (aCons (eVar 4) (aOne (eC (.int 2))))) [4]))) (eFn m_is_quarter (aOne (eVar 3))))))))
def m_is_reading : List D → Option OR := runD 1 5 sm_is_reading
def sm_reading_letters : SM := (sSeq (sAsg (gU 3 (gsCons (gN 1) (gsCons (gN 2) (gsCons (gN 3) gsNil)))) (eVar 0))
      (sRet (eOp dAdd (eIf (mTru (eVar 1)) (eTup (aOne (eC (.int 2)))) (eTup aNil)) (eCall fTuple (aOne (eVar 2))))))
def m_reading_letters : List D → Option OR := runD 1 4 sm_reading_letters
def sm_reading_with : SM := (sSeq (sSet 2 (eOp dEq (eSl dSl (eVar 0) oNo (oPart (eC (.int 1)))) (eTup (aOne (eC (.int 2))))))
      (sRet (eTup (aCons (eVar 2) (aCons (eIf (mTru (eVar 2)) (eSl dSl (eVar 0) (oPart (eC (.int 1))) oNo) (eVar 0)) (aOne (eVar 1)))))))
def m_reading_with : List D → Option OR := runD 2 3 sm_reading_with
def sm_tables_many : SM := (sRet (eIf (mVal (eOp dEq (eVar 0) (eC (.int 0)))) (eC (.int 192)) (eOp (dIc cShl fun i j => .int (i * 2 ^ j.toNat)) (eC (.int 576)) (eOp (dI fun i j => .int (i - j)) (eVar 0) (eC (.int 1))))))
def m_tables_many : List D → Option OR := runD 1 1 sm_tables_many
def sm_near_many : SM := (sRet (eOp (dI fun i j => .int (i - j)) (eOp (dIc cShl fun i j => .int (i * 2 ^ j.toNat)) (eC (.int 3)) (eVar 0)) (eC (.int 2))))
def m_near_many : List D → Option OR := runD 1 1 sm_near_many
def sm_tables_at_most : SM := (sRet (eOp dMul (eC (.int 192)) (eFn m_near_many (aOne (eVar 0)))))
def m_tables_at_most : List D → Option OR := runD 1 1 sm_tables_at_most
def sm_letters_by_number : SM := (sSeq (sIf (mVal (eOp dEq (eVar 0) (eC (.int 0)))) (sRet (eTup aNil)) sNext)
      (sSeq (sSet 2 (eLc (iR1 (aOne (eOp (dI fun i j => .int (i - j)) (eVar 0) (eC (.int 1))))) (gN 3) mYes (eOp (dI fun i j => .int (Builtin.bitAnd i j)) (eOp (dIc cShr fun i j => .int (i / 2 ^ j.toNat)) (eVar 1) (eVar 3)) (eC (.int 1))) [3]))
      (sRet (eOp dAdd (eTup (aOne (eOp (dIc cShr fun i j => .int (i / 2 ^ j.toNat)) (eVar 1) (eOp (dI fun i j => .int (i - j)) (eVar 0) (eC (.int 1)))))) (eCall fTuple (aOne (eUn fRev (eVar 2))))))))
def m_letters_by_number : List D → Option OR := runD 2 4 sm_letters_by_number
def sm_number_of_letters : SM := (sSeq (sSet 1 (eC (.int 0)))
      (sSeq (sFor (iSeq (eVar 0)) (gN 2) (sSet 1 (eOp dAdd (eOp dMul (eC (.int 2)) (eVar 1)) (eVar 2))))
      (sRet (eVar 1))))
def m_number_of_letters : List D → Option OR := runD 1 3 sm_number_of_letters
def sm_reading_by_number : SM := (sSeq (sSet 1 (eC (.int 0)))
      (sSeq (sSet 2 (eVar 0))
      (sSeq (sWhile (mVal (eOp (dI fun i j => .bl (decide (j ≤ i))) (eVar 2) (eFn m_tables_many (aOne (eVar 1))))) (sSeq (sAug 2 (fun i j => i - j) (eFn m_tables_many (aOne (eVar 1))))
      (sAug 1 (fun i j => i + j) (eC (.int 1)))) 1000)
      (sRet (eFn m_reading_with (aCons (eFn m_letters_by_number (aCons (eVar 1) (aOne (eOp (dIc cDiv fun i j => .int (i / j)) (eVar 2) (eC (.int 192)))))) (aOne (eOp dIx (eFn m_quarter_tables aNil) (eOp (dIc cMod fun i j => .int (i % j)) (eVar 2) (eC (.int 192)))))))))))
def m_reading_by_number : List D → Option OR := runD 1 3 sm_reading_by_number
def sm_number_of_reading : SM := (sSeq (sSet 1 (eFn m_reading_letters (aOne (eVar 0))))
      (sSeq (sSet 2 (eIf (mVal (eOp (dI fun i j => .bl (decide (j < i))) (eCall fLen (aOne (eVar 1))) (eC (.int 0)))) (eFn m_tables_at_most (aOne (eOp (dI fun i j => .int (i - j)) (eCall fLen (aOne (eVar 1))) (eC (.int 1))))) (eC (.int 0))))
      (sRet (eOp dAdd (eOp dAdd (eVar 2) (eOp dMul (eC (.int 192)) (eFn m_number_of_letters (aOne (eVar 1))))) (eTIdx (eFn m_quarter_tables aNil) (eFn m_frozen (aOne (eOp dIx (eVar 0) (eC (.int 2))))))))))
def m_number_of_reading : List D → Option OR := runD 1 3 sm_number_of_reading
def sm_next_reading : SM := (sRet (eFn m_reading_by_number (aOne (eOp dAdd (eFn m_number_of_reading (aOne (eVar 0))) (eC (.int 1))))))
def m_next_reading : List D → Option OR := runD 1 1 sm_next_reading
def sm_ulaw_box : SM := (sSeq (sSet 2 (eIf (mVal (eOp dLt (eVar 1) (eCall fLen (aOne (eVar 0))))) (eOp dIx (eVar 0) (eVar 1)) (eC (.int 0))))
      (sRet (eLst (aCons (eOp dMul (eCall fAbs (aOne (eVar 2))) (eCall fInt (aOne (eOp (dI fun i j => .bl (decide (j ≤ i))) (eCall fAbs (aOne (eVar 2))) (eOp (dIc cPow fun i j => .int (i ^ j.toNat)) (eC (.int 10)) (eC (.int 18))))))) (aCons (eOp dAdd (eOp dAdd (eOp (dIc cMod fun i j => .int (i % j)) (eCall fInt (aOne (eVar 2))) (eC (.int 2305843009213693951))) (eOp dMul (eC (.int 39373)) (eVar 1))) (eC (.int 9640))) (aOne (eC (.int 0))))))))
def m_ulaw_box : List D → Option OR := runD 2 3 sm_ulaw_box
def sm_ulaw_take : SM := (sSeq (sIf (mVal (eOp (dI fun i j => .bl (decide (j < i))) (eOp dIx (eVar 0) (eC (.int 0))) (eC (.int 0)))) (sSeq (sSet 2 (eOp (dIc cMod fun i j => .int (i % j)) (eCall fInt (aOne (eOp dIx (eVar 0) (eC (.int 0))))) (eVar 1)))
      (sSeq (sSub 0 (eOp (dIc cDiv fun i j => .int (i / j)) (eOp dIx (eVar 0) (eC (.int 0))) (eVar 1)) (eC (.int 0)))
      (sRet (eVar 2)))) sNext)
      (sSeq (sSub 0 (eOp dAdd (eOp dIx (eVar 0) (eC (.int 2))) (eC (.int 1))) (eC (.int 2)))
      (sSeq (sSet 3 (eOp (dIc cMod fun i j => .int (i % j)) (eCall fInt (aOne (eOp dMul (eOp dAdd (eOp dIx (eVar 0) (eC (.int 1))) (eOp dMul (eC (.int 48271)) (eOp dIx (eVar 0) (eC (.int 2))))) (eOp dAdd (eC (.int 39373)) (eOp dIx (eVar 0) (eC (.int 2))))))) (eC (.int 2147483647))))
      (sSeq (sSet 4 (eOp dAdd (eOp (dIc cMod fun i j => .int (i % j)) (eCall fInt (aOne (eVar 3))) (eC (.int 40009))) (eC (.int 7))))
      (sSeq (sSet 5 (eOp (dIc cMod fun i j => .int (i % j)) (eCall fInt (aOne (eOp dMul (eOp dAdd (eOp dAdd (eVar 3) (eOp dIx (eVar 0) (eC (.int 2)))) (eOp (dIc cDiv fun i j => .int (i / j)) (eOp dIx (eVar 0) (eC (.int 1))) (eC (.int 1000003)))) (eVar 4)))) (eC (.int 2147483629))))
      (sRet (eOp (dIc cMod fun i j => .int (i % j)) (eCall fInt (aOne (eOp (dIc cDiv fun i j => .int (i / j)) (eOp (dIc cMod fun i j => .int (i % j)) (eCall fInt (aOne (eOp dAdd (eOp dMul (eVar 5) (eC (.int 48271))) (eVar 3)))) (eC (.int 2147483587))) (eC (.int 64))))) (eVar 1))))))))
def m_ulaw_take : List D → List D → Option (OR × List D) := runM 2 6 sm_ulaw_take
def sm_ulaw_cells : SM := (sSeq (sSet 2 (eOr (eCall fList (aOne (eSl dSl (eVar 0) oNo (oPart (eVar 1))))) (eLst (aOne (eC (.int 0))))))
      (sSeq (sFor (iEn (aOne (eSl dSl (eVar 0) (oPart (eVar 1)) (oPart (eC (.int 63)))))) (gU 2 (gsCons (gN 3) (gsCons (gN 4) gsNil))) (sSeq (sSet 5 (eOp (dIc cMod fun i j => .int (i % j)) (eCall fInt (aOne (eVar 3))) (eVar 1)))
      (sSub 2 (eOp dAdd (eOp dIx (eVar 2) (eVar 5)) (eOp dMul (eVar 4) (eOp dAdd (eVar 3) (eC (.int 2))))) (eVar 5))))
      (sRet (eVar 2))))
def m_ulaw_cells : List D → Option OR := runD 2 6 sm_ulaw_cells
def sm_ulaw_of : SM := (sRet (eOp dIx (eVar 1) (eFnM m_ulaw_take (aCons (eVar 0) (aOne (eCall fLen (aOne (eVar 1))))))))
def m_ulaw_of : List D → List D → Option (OR × List D) := runM 2 2 sm_ulaw_of
def sm_ulaw_lists (mrec : List D → Option OR) : SM := (sRet (eIf (mTru (eUn (fIsi2 .list .tuple) (eVar 0))) (eLc (iSeq (eVar 0)) (gN 1) mYes (eFn mrec (aOne (eVar 1))) [1]) (eVar 0)))
def mr_ulaw_lists : Nat → List D → Option OR
  | 0 => fun _ => none
  | n + 1 => runD 1 2 (sm_ulaw_lists (mr_ulaw_lists n))
def m_ulaw_lists : List D → Option OR := mr_ulaw_lists 8
def sm_ulaw_same (mrec : List D → Option OR) : SM := (sSeq (sIf (mTru (eUn (fIsi2 .list .tuple) (eVar 1))) (sSeq (sIf (mOr (mVal (eOp dNe (eUn (fIsi .list) (eVar 0)) (eUn (fIsi .list) (eVar 1)))) (mVal (eOp dNe (eUn (fIsi .tuple) (eVar 0)) (eUn (fIsi .tuple) (eVar 1))))) (sRet (eC (.bl false))) sNext)
      (sRet (eAnd (eOp dEq (eCall fLen (aOne (eVar 0))) (eCall fLen (aOne (eVar 1)))) (eCall fAll (aOne (eLc (iZp (aCons (eVar 0) (aOne (eVar 1)))) (gU 2 (gsCons (gN 2) (gsCons (gN 3) gsNil))) mYes (eFn mrec (aCons (eVar 2) (aOne (eVar 3)))) [2, 3])))))) sNext)
      (sSeq (sIf (mOr (mVal (eOp dIs (eVar 1) (eC .non))) (mTru (eUn (fIsi2 .bool .str) (eVar 1)))) (sRet (eAnd (eOp dEq (eVar 0) (eVar 1)) (eAnd (eOp dEq (eUn (fIsi .bool) (eVar 0)) (eUn (fIsi .bool) (eVar 1))) (eOp dEq (eOp dIs (eVar 0) (eC .non)) (eOp dIs (eVar 1) (eC .non)))))) sNext)
      (sRet (eAnd (eUn (fIsi .int) (eVar 0)) (eAnd (eNot (eUn (fIsi .bool) (eVar 0))) (eOp dEq (eVar 0) (eVar 1)))))))
def mr_ulaw_same : Nat → List D → Option OR
  | 0 => fun _ => none
  | n + 1 => runD 2 4 (sm_ulaw_same (mr_ulaw_same n))
def m_ulaw_same : List D → Option OR := mr_ulaw_same 8
def sm_ulaw_is_number : SM := (sRet (eAnd (eUn (fIsi .int) (eVar 0)) (eNot (eUn (fIsi .bool) (eVar 0)))))
def m_ulaw_is_number : List D → Option OR := runD 1 1 sm_ulaw_is_number
def sm_ulaw_is_ray : SM := (sSeq (sIf (mOr (mNot (mTru (eUn (fIsi .tuple) (eVar 0)))) (mOr (mVal (eOp dNe (eCall fLen (aOne (eVar 0))) (eC (.int 5)))) (mOr (mNot (mTru (eCall fAll (aOne (eLc (iSeq (eVar 0)) (gN 1) mYes (eFn m_ulaw_is_number (aOne (eVar 1))) [1]))))) (mVal (eOp dLt (eOp dIx (eVar 0) (eC (.int 4))) (eC (.int 0))))))) (sRet (eC (.bl false))) sNext)
      (sSeq (sIf (mVal (eOp dEq (eSl dSl (eVar 0) oNo (oPart (eC (.int 4)))) (eTup (aCons (eC (.int 0)) (aCons (eC (.int 0)) (aCons (eC (.int 0)) (aOne (eC (.int 0))))))))) (sRet (eOp dEq (eOp dIx (eVar 0) (eC (.int 4))) (eC (.int 0)))) sNext)
      (sRet (eOr (eOp dEq (eOp dIx (eVar 0) (eC (.int 4))) (eC (.int 0))) (eOr (eOp dEq (eOp (dIc cMod fun i j => .int (i % j)) (eOp dAdd (eOp dIx (eVar 0) (eC (.int 0))) (eOp dIx (eVar 0) (eC (.int 2)))) (eC (.int 2))) (eC (.int 1))) (eOp dEq (eOp (dIc cMod fun i j => .int (i % j)) (eOp dAdd (eOp dIx (eVar 0) (eC (.int 1))) (eOp dIx (eVar 0) (eC (.int 3)))) (eC (.int 2))) (eC (.int 1))))))))
def m_ulaw_is_ray : List D → Option OR := runD 1 2 sm_ulaw_is_ray
def sm_ulaw_place_state : SM := (sRet (eCall fTuple (aOne (eLc (iR1 (aOne (eVar 0))) (gN 2) mYes (eIf (mVal (eOp dEq (eVar 2) (eVar 1))) (eTup (aCons (eC (.int 1)) (aCons (eC (.int 0)) (aCons (eC (.int 0)) (aCons (eC (.int 0)) (aOne (eC (.int 0)))))))) (eTup (aCons (eC (.int 0)) (aCons (eC (.int 0)) (aCons (eC (.int 0)) (aCons (eC (.int 0)) (aOne (eC (.int 0))))))))) [2]))))
def m_ulaw_place_state : List D → Option OR := runD 2 3 sm_ulaw_place_state
def sm_ulaw_unit : SM := (sRet (eCall fTuple (aOne (eLc (iR1 (aOne (eVar 0))) (gN 1) mYes (eFn m_ulaw_place_state (aCons (eVar 0) (aOne (eVar 1)))) [1]))))
def m_ulaw_unit : List D → Option OR := runD 1 2 sm_ulaw_unit
def sm_ulaw_eighth_of : SM := (sSeq (sSet 1 (eLc (iR1 (aOne (eC (.int 4)))) (gN 2) (mVal (eOp dNe (eOp dIx (eVar 0) (eVar 2)) (eC (.int 0)))) (eVar 2) [2]))
      (sSeq (sIf (mOr (mVal (eOp dNe (eCall fLen (aOne (eVar 1))) (eC (.int 1)))) (mOr (mVal (eOp dNe (eOp dIx (eVar 0) (eC (.int 4))) (eC (.int 0)))) (mVal (eOp dNe (eCall fAbs (aOne (eOp dIx (eVar 0) (eOp dIx (eVar 1) (eC (.int 0)))))) (eC (.int 1)))))) (sRet (eC .non)) sNext)
      (sRet (eIf (mVal (eOp (dI fun i j => .bl (decide (j < i))) (eOp dIx (eVar 0) (eOp dIx (eVar 1) (eC (.int 0)))) (eC (.int 0)))) (eOp dIx (eVar 1) (eC (.int 0))) (eOp dAdd (eOp dIx (eVar 1) (eC (.int 0))) (eC (.int 4)))))))
def m_ulaw_eighth_of : List D → Option OR := runD 1 3 sm_ulaw_eighth_of
def sm_ulaw_is_quarter : SM := (sSeq (sAsg (gU 2 (gsCons (gN 1) (gsCons (gN 2) gsNil))) (eTup (aCons (eOp dAdd (eOp dIx (eVar 0) (eC (.int 0))) (eOp dIx (eVar 0) (eC (.int 1)))) (aOne (eTup (aCons (eC (.int 0)) (aCons (eC (.int 0)) (aCons (eC (.int 0)) (aCons (eC (.int 0)) (aOne (eC (.int 0))))))))))))
      (sSeq (sIf (mOr (mVal (eChain dEq dEq (eOp dIx (eVar 1) (eC (.int 0))) (eOp dIx (eVar 1) (eC (.int 3))) (eVar 2))) (mVal (eChain dEq dEq (eOp dIx (eVar 1) (eC (.int 1))) (eOp dIx (eVar 1) (eC (.int 2))) (eVar 2)))) (sSeq (sSet 3 (eLc (iSeq (eVar 1)) (gN 5) (mVal (eOp dNe (eVar 5) (eVar 2))) (eFn m_ulaw_eighth_of (aOne (eVar 5))) [5]))
      (sRet (eAnd (eOp dEq (eCall fLen (aOne (eVar 3))) (eC (.int 2))) (eAnd (eOp (dIn true) (eC .non) (eVar 3)) (eOp dEq (eOp (dIc cMod fun i j => .int (i % j)) (eOp (dI fun i j => .int (i - j)) (eOp dIx (eVar 3) (eC (.int 0))) (eOp dIx (eVar 3) (eC (.int 1)))) (eC (.int 2))) (eC (.int 0))))))) sNext)
      (sSeq (sSet 3 (eLc (iSeq (eVar 1)) (gN 5) mYes (eIf (mVal (eOp dEq (eOp dIx (eVar 5) (eC (.int 4))) (eC (.int 1)))) (eFn m_ulaw_eighth_of (aOne (eOp dAdd (eSl dSl (eVar 5) oNo (oPart (eC (.int 4)))) (eTup (aOne (eC (.int 0))))))) (eC .non)) [5]))
      (sSeq (sIf (mVal (eOp (dIn false) (eC .non) (eVar 3))) (sRet (eC (.bl false))) sNext)
      (sSeq (sSet 4 (eLc (iSeq (eVar 3)) (gN 5) mYes (eOp (dIc cMod fun i j => .int (i % j)) (eOp (dI fun i j => .int (i - j)) (eVar 5) (eOp dIx (eVar 3) (eC (.int 0)))) (eC (.int 8))) [5]))
      (sRet (eAnd (eOp dEq (eOp (dIc cMod fun i j => .int (i % j)) (eOp dIx (eVar 4) (eC (.int 1))) (eC (.int 2))) (eC (.int 0))) (eAnd (eOp dEq (eOp (dIc cMod fun i j => .int (i % j)) (eOp dIx (eVar 4) (eC (.int 2))) (eC (.int 2))) (eC (.int 0))) (eOp dEq (eOp (dIc cMod fun i j => .int (i % j)) (eOp dAdd (eOp dAdd (eOp dIx (eVar 4) (eC (.int 1))) (eOp dIx (eVar 4) (eC (.int 2)))) (eC (.int 4))) (eC (.int 8))) (eOp dIx (eVar 4) (eC (.int 3))))))))))))
def m_ulaw_is_quarter : List D → Option OR := runD 1 6 sm_ulaw_is_quarter
def sm_ulaw_reading : SM := (sSeq (sSet 2 (eOp dEq (eSl dSl (eVar 0) oNo (oPart (eC (.int 1)))) (eTup (aOne (eC (.int 2))))))
      (sRet (eTup (aCons (eVar 2) (aCons (eIf (mTru (eVar 2)) (eSl dSl (eVar 0) (oPart (eC (.int 1))) oNo) (eVar 0)) (aOne (eVar 1)))))))
def m_ulaw_reading : List D → Option OR := runD 2 3 sm_ulaw_reading
def sm_ulaw_is_small_table : SM := (sSeq (sIf (mOr (mNot (mTru (eUn (fIsi .tuple) (eVar 0)))) (mOr (mVal (eOp dNe (eCall fLen (aOne (eVar 0))) (eC (.int 2)))) (mNot (mTru (eCall fAll (aOne (eLc (iSeq (eVar 0)) (gN 1) mYes (eAnd (eUn (fIsi .tuple) (eVar 1)) (eOp dEq (eCall fLen (aOne (eVar 1))) (eC (.int 2)))) [1]))))))) (sRet (eC (.bl false))) sNext)
      (sRet (eCall fAll (aOne (eLc (iSeq (eOp dAdd (eOp dIx (eVar 0) (eC (.int 0))) (eOp dIx (eVar 0) (eC (.int 1))))) (gN 1) mYes (eFn m_ulaw_is_ray (aOne (eVar 1))) [1])))))
def m_ulaw_is_small_table : List D → Option OR := runD 1 2 sm_ulaw_is_small_table
def sm_ulaw_is_form : SM := (sSeq (sIf (mOr (mNot (mTru (eUn (fIsi .tuple) (eVar 0)))) (mOr (mVal (eOp dNe (eCall fLen (aOne (eVar 0))) (eC (.int 3)))) (mOr (mNot (mTru (eUn (fIsi .bool) (eOp dIx (eVar 0) (eC (.int 0)))))) (mNot (mTru (eUn (fIsi .tuple) (eOp dIx (eVar 0) (eC (.int 1))))))))) (sRet (eC (.bl false))) sNext)
      (sSeq (sIf (mOr (mVal (eOp (dI fun i j => .bl (decide (j < i))) (eCall fLen (aOne (eOp dIx (eVar 0) (eC (.int 1))))) (eC (.int 300)))) (mNot (mTru (eCall fAll (aOne (eLc (iSeq (eOp dIx (eVar 0) (eC (.int 1)))) (gN 1) mYes (eAnd (eFn m_ulaw_is_number (aOne (eVar 1))) (eOp (dIn false) (eVar 1) (eTup (aCons (eC (.int 0)) (aOne (eC (.int 1))))))) [1])))))) (sRet (eC (.bl false))) sNext)
      (sRet (eAnd (eFn m_ulaw_is_small_table (aOne (eOp dIx (eVar 0) (eC (.int 2))))) (eFn m_ulaw_is_quarter (aOne (eOp dIx (eVar 0) (eC (.int 2)))))))))
def m_ulaw_is_form : List D → Option OR := runD 1 2 sm_ulaw_is_form
def sm_ulaw_letters : SM := (sSeq (sSet 2 (eFnM m_ulaw_take (aCons (eVar 0) (aOne (eOp dAdd (eVar 1) (eC (.int 1)))))))
      (sRet (eCall fTuple (aOne (eLc (iR1 (aOne (eVar 2))) (gN 3) mYes (eFnM m_ulaw_take (aCons (eVar 0) (aOne (eIf (mVal (eOp dEq (eVar 3) (eC (.int 0)))) (eC (.int 3)) (eC (.int 2)))))) [3])))))
def m_ulaw_letters : List D → List D → Option (OR × List D) := runM 2 4 sm_ulaw_letters
def sm_ulaw_grown : SM := (sSeq (sAsg (gU 2 (gsCons (gN 1) (gsCons (gN 2) gsNil))) (eTup (aCons (eC (.int 192)) (aOne (eC (.int 0))))))
      (sSeq (sFor (iR1 (aOne (eVar 0))) (gN 3) (sSeq (sSet 2 (eOp dAdd (eVar 2) (eVar 1)))
      (sSet 1 (eOp dMul (eVar 1) (eIf (mVal (eOp dEq (eVar 3) (eC (.int 0)))) (eC (.int 3)) (eC (.int 2)))))))
      (sRet (eTup (aCons (eVar 1) (aOne (eVar 2)))))))
def m_ulaw_grown : List D → Option OR := runD 1 4 sm_ulaw_grown
def sm_ulaw_number : SM := (sSeq (sSet 2 (eOp dAdd (eIf (mTru (eOp dIx (eVar 0) (eC (.int 0)))) (eTup (aOne (eC (.int 2)))) (eTup aNil)) (eOp dIx (eVar 0) (eC (.int 1)))))
      (sSeq (sSet 3 (eC (.int 0)))
      (sSeq (sFor (iSeq (eVar 2)) (gN 4) (sSet 3 (eOp dAdd (eOp dMul (eVar 3) (eC (.int 2))) (eVar 4))))
      (sRet (eOp dAdd (eOp dAdd (eOp dIx (eFn m_ulaw_grown (aOne (eCall fLen (aOne (eVar 2))))) (eC (.int 1))) (eOp dMul (eC (.int 192)) (eVar 3))) (eTIdx (eVar 1) (eOp dIx (eVar 0) (eC (.int 2)))))))))
def m_ulaw_number : List D → Option OR := runD 2 5 sm_ulaw_number
def sm_ulaw_rests_right : SM := (sSeq (sIf (mOr (mNot (mTru (eUn (fIsi .tuple) (eVar 0)))) (mOr (mVal (eOp dNe (eCall fLen (aOne (eVar 0))) (eC (.int 192)))) (mNot (mTru (eCall fAll (aOne (eLc (iSeq (eVar 0)) (gN 3) mYes (eFn m_ulaw_is_small_table (aOne (eVar 3))) [3]))))))) (sRet (eC (.bl false))) sNext)
      (sSeq (sIf (mVal (eOp dNe (eLc (iZp (aCons (eVar 0) (aOne (eSl dSl (eVar 0) (oPart (eC (.int 1))) oNo)))) (gU 2 (gsCons (gN 1) (gsCons (gN 2) gsNil))) (mNot (mVal (eOp dLt (eVar 1) (eVar 2)))) (eC (.int 1)) [1, 2]) (eLst aNil))) (sRet (eC (.bl false))) sNext)
      (sRet (eCall fAll (aOne (eLc (iSeq (eVar 0)) (gN 3) mYes (eFn m_ulaw_is_quarter (aOne (eVar 3))) [3]))))))
def m_ulaw_rests_right : List D → Option OR := runD 1 4 sm_ulaw_rests_right
def sm_ulaw_one_right : SM := (sSeq (sSet 3 (eFn m_ulaw_number (aCons (eVar 0) (aOne (eVar 1)))))
      (sSeq (sIf (mNot (mTru (eFn m_ulaw_same (aCons (eLst (aCons (eFn m_number_of_reading (aOne (eIf (mTru (eVar 2)) (eFn m_ulaw_lists (aOne (eVar 0))) (eVar 0)))) (aOne (eFn m_reading_by_number (aOne (eVar 3)))))) (aOne (eLst (aCons (eVar 3) (aOne (eVar 0))))))))) (sRet (eC (.bl false))) sNext)
      (sSeq (sIf (mNot (mTru (eVar 2))) (sRet (eC (.bl true))) sNext)
      (sSeq (sSet 4 (eFn m_next_reading (aOne (eVar 0))))
      (sRet (eAnd (eFn m_ulaw_is_form (aOne (eVar 4))) (eOp dEq (eFn m_ulaw_number (aCons (eVar 4) (aOne (eVar 1)))) (eOp dAdd (eVar 3) (eC (.int 1))))))))))
def m_ulaw_one_right : List D → Option OR := runD 3 5 sm_ulaw_one_right
def sm_ulaw_by_hand_right : SM := (sSeq (sSet 0 (eFn m_ulaw_unit (aOne (eC (.int 2)))))
      (sSeq (sSet 1 (eLst (aCons (eFn m_number_of_reading (aOne (eTup (aCons (eC (.bl false)) (aCons (eTup (aOne (eC (.int 0)))) (aOne (eVar 0))))))) (aCons (eFn m_tables_many (aOne (eC (.int 1)))) (aCons (eFn m_tables_at_most (aOne (eC (.int 1)))) (aCons (eFn m_tables_many (aOne (eC (.int 3)))) (aCons (eFn m_tables_at_most (aOne (eC (.int 2)))) (aOne (eFn m_reading_by_number (aOne (eC (.int 367))))))))))))
      (sRet (eFn m_ulaw_same (aCons (eVar 1) (aOne (eLst (aCons (eC (.int 367)) (aCons (eC (.int 576)) (aCons (eC (.int 768)) (aCons (eC (.int 2304)) (aCons (eC (.int 1920)) (aOne (eTup (aCons (eC (.bl false)) (aCons (eTup (aOne (eC (.int 0)))) (aOne (eVar 0))))))))))))))))))
def m_ulaw_by_hand_right : List D → Option OR := runD 0 2 sm_ulaw_by_hand_right
def sm_ulaw_right : SM := (sSeq (sPar 1 2 (aCons (eFn m_quarter_tables aNil) (aOne (eFnM m_ulaw_take (aCons (eVar 0) (aOne (eC (.int 4))))))))
      (sSeq (sIf (mVal (eOp dEq (eVar 2) (eC (.int 0)))) (sRet (eFn m_ulaw_rests_right (aOne (eVar 1)))) sNext)
      (sSeq (sSet 3 (eFnM m_ulaw_take (aCons (eVar 0) (aOne (eC (.int 300))))))
      (sSeq (sAsg (gU 2 (gsCons (gN 4) (gsCons (gN 5) gsNil))) (eFn m_ulaw_grown (aOne (eVar 3))))
      (sSeq (sIf (mOr (mVal (eOp dNe (eCall fLen (aOne (eVar 1))) (eC (.int 192)))) (mNot (mTru (eFn m_ulaw_same (aCons (eLst (aCons (eFn m_tables_many (aOne (eVar 3))) (aCons (eFn m_tables_at_most (aOne (eVar 3))) (aOne (eFn m_tables_many (aOne (eC (.int 0)))))))) (aOne (eLst (aCons (eVar 4) (aCons (eOp dAdd (eVar 5) (eVar 4)) (aOne (eC (.int 192)))))))))))) (sRet (eC (.bl false))) sNext)
      (sSeq (sIf (mVal (eOp dEq (eVar 2) (eC (.int 1)))) (sRet (eFn m_ulaw_one_right (aCons (eFn m_ulaw_reading (aCons (eFnM m_ulaw_letters (aCons (eVar 0) (aOne (eC (.int 5))))) (aOne (eFnM m_ulaw_of (aCons (eVar 0) (aOne (eCall fList (aOne (eVar 1))))))))) (aCons (eVar 1) (aOne (eOp dEq (eFnM m_ulaw_take (aCons (eVar 0) (aOne (eC (.int 3))))) (eC (.int 0)))))))) sNext)
      (sSeq (sIf (mVal (eOp dEq (eVar 2) (eC (.int 2)))) (sSeq (sSet 6 (eIf (mVal (eOp (dI fun i j => .bl (decide (j < i))) (eFnM m_ulaw_take (aCons (eVar 0) (aOne (eC (.int 4))))) (eC (.int 0)))) (eOp dAdd (eTup (aOne (eC (.int 2)))) (eOp dMul (eTup (aOne (eC (.int 1)))) (eFnM m_ulaw_of (aCons (eVar 0) (aOne (eLst (aCons (eC (.int 0)) (aCons (eC (.int 1)) (aCons (eC (.int 2)) (aCons (eC (.int 3)) (aCons (eC (.int 60)) (aOne (eC (.int 90)))))))))))))) (eTup aNil)))
      (sRet (eFn m_ulaw_one_right (aCons (eFn m_ulaw_reading (aCons (eVar 6) (aOne (eOp dIx (eVar 1) (eC (.int 191)))))) (aCons (eVar 1) (aOne (eC (.bl false)))))))) sNext)
      (sSeq (sSet 7 (eCall fTuple (aOne (eLc (iR1 (aOne (eFnM m_ulaw_take (aCons (eVar 0) (aOne (eC (.int 120))))))) (gN 8) mYes (eFnM m_ulaw_take (aCons (eVar 0) (aOne (eC (.int 2))))) [8]))))
      (sSeq (sSet 4 (eFn m_ulaw_reading (aCons (eVar 7) (aOne (eFnM m_ulaw_of (aCons (eVar 0) (aOne (eCall fList (aOne (eVar 1))))))))))
      (sRet (eAnd (eFn m_ulaw_same (aCons (eLst (aCons (eFn m_is_reading (aOne (eVar 4))) (aOne (eFn m_is_quarter (aOne (eOp dIx (eVar 4) (eC (.int 2)))))))) (aOne (eLst (aCons (eC (.bl true)) (aOne (eC (.bl true)))))))) (eFn m_ulaw_one_right (aCons (eVar 4) (aCons (eVar 1) (aOne (eC (.bl false)))))))))))))))))
def m_ulaw_right : List D → List D → Option (OR × List D) := runM 1 9 sm_ulaw_right
def sm_law : SM := (sRet (eAnd (eFn m_ulaw_by_hand_right aNil) (eFnM m_ulaw_right (aOne (eFn m_ulaw_box (aCons (eFn m_ulaw_cells (aCons (eVar 0) (aOne (eC (.int 1))))) (aOne (eC (.int 0)))))))))
def m_law : List D → Option OR := runD 1 1 sm_law
end K20
end
section
set_option Elab.async false
set_option linter.all false
set_option maxRecDepth 100000
set_option maxHeartbeats 4000000
namespace K20
open PySem PySem.Spec PyProof.Rows L2 Evl Pd
structure Tx (K : PySem.W.Frag) (mg : Str → Option Value) where
  a_is_number : Addr
  f_is_number : FuncData
  F_is_number : Fun K "is_number" "is_number" s_is_number a_is_number f_is_number
  g_is_number : mg "is_number" = some (.ref a_is_number)
  b_is_number : Binds K f_is_number ["thing"] []
  a_is_below : Addr
  f_is_below : FuncData
  F_is_below : Fun K "is_below" "is_below" s_is_below a_is_below f_is_below
  g_is_below : mg "is_below" = some (.ref a_is_below)
  b_is_below : Binds K f_is_below ["thing", "many"] []
  a_frozen : Addr
  f_frozen : FuncData
  F_frozen : Fun K "frozen" "frozen" s_frozen a_frozen f_frozen
  g_frozen : mg "frozen" = some (.ref a_frozen)
  b_frozen : Binds K f_frozen ["value"] []
  a_root_divides : Addr
  f_root_divides : FuncData
  F_root_divides : Fun K "root_divides" "root_divides" s_root_divides a_root_divides f_root_divides
  g_root_divides : mg "root_divides" = some (.ref a_root_divides)
  b_root_divides : Binds K f_root_divides ["numbers"] []
  a_times_root : Addr
  f_times_root : FuncData
  F_times_root : Fun K "times_root" "times_root" s_times_root a_times_root f_times_root
  g_times_root : mg "times_root" = some (.ref a_times_root)
  b_times_root : Binds K f_times_root ["numbers", "many"] []
  a_is_ray : Addr
  f_is_ray : FuncData
  F_is_ray : Fun K "is_ray" "is_ray" s_is_ray a_is_ray f_is_ray
  g_is_ray : mg "is_ray" = some (.ref a_is_ray)
  b_is_ray : Binds K f_is_ray ["thing"] []
  a_ray_of : Addr
  f_ray_of : FuncData
  F_ray_of : Fun K "ray_of" "ray_of" s_ray_of a_ray_of f_ray_of
  g_ray_of : mg "ray_of" = some (.ref a_ray_of)
  b_ray_of : Binds K f_ray_of ["numbers", "k"] []
  a_rays_added : Addr
  f_rays_added : FuncData
  F_rays_added : Fun K "rays_added" "rays_added" s_rays_added a_rays_added f_rays_added
  g_rays_added : mg "rays_added" = some (.ref a_rays_added)
  b_rays_added : Binds K f_rays_added ["rays"] []
  a_ray_sum : Addr
  f_ray_sum : FuncData
  F_ray_sum : Fun K "ray_sum" "ray_sum" s_ray_sum a_ray_sum f_ray_sum
  g_ray_sum : mg "ray_sum" = some (.ref a_ray_sum)
  b_ray_sum : Binds K f_ray_sum ["one", "other"] []
  a_ray_product : Addr
  f_ray_product : FuncData
  F_ray_product : Fun K "ray_product" "ray_product" s_ray_product a_ray_product f_ray_product
  g_ray_product : mg "ray_product" = some (.ref a_ray_product)
  b_ray_product : Binds K f_ray_product ["one", "other"] []
  a_turned_ray : Addr
  f_turned_ray : FuncData
  F_turned_ray : Fun K "turned_ray" "turned_ray" s_turned_ray a_turned_ray f_turned_ray
  g_turned_ray : mg "turned_ray" = some (.ref a_turned_ray)
  b_turned_ray : Binds K f_turned_ray ["ray", "many"] []
  a_mirrored : Addr
  f_mirrored : FuncData
  F_mirrored : Fun K "mirrored" "mirrored" s_mirrored a_mirrored f_mirrored
  g_mirrored : mg "mirrored" = some (.ref a_mirrored)
  b_mirrored : Binds K f_mirrored ["ray"] []
  a_size_of : Addr
  f_size_of : FuncData
  F_size_of : Fun K "size_of" "size_of" s_size_of a_size_of f_size_of
  g_size_of : mg "size_of" = some (.ref a_size_of)
  b_size_of : Binds K f_size_of ["ray"] []
  a_over_root : Addr
  f_over_root : FuncData
  F_over_root : Fun K "over_root" "over_root" s_over_root a_over_root f_over_root
  g_over_root : mg "over_root" = some (.ref a_over_root)
  b_over_root : Binds K f_over_root ["ray", "many"] []
  a_are_rays : Addr
  f_are_rays : FuncData
  F_are_rays : Fun K "are_rays" "are_rays" s_are_rays a_are_rays f_are_rays
  g_are_rays : mg "are_rays" = some (.ref a_are_rays)
  b_are_rays : Binds K f_are_rays ["thing"] []
  a_columns_of : Addr
  f_columns_of : FuncData
  F_columns_of : Fun K "columns_of" "columns_of" s_columns_of a_columns_of f_columns_of
  g_columns_of : mg "columns_of" = some (.ref a_columns_of)
  b_columns_of : Binds K f_columns_of ["rows"] []
  a_products_added : Addr
  f_products_added : FuncData
  F_products_added : Fun K "products_added" "products_added" s_products_added a_products_added f_products_added
  g_products_added : mg "products_added" = some (.ref a_products_added)
  b_products_added : Binds K f_products_added ["ones", "others"] []
  a_mirror_product : Addr
  f_mirror_product : FuncData
  F_mirror_product : Fun K "mirror_product" "mirror_product" s_mirror_product a_mirror_product f_mirror_product
  g_mirror_product : mg "mirror_product" = some (.ref a_mirror_product)
  b_mirror_product : Binds K f_mirror_product ["ones", "others"] []
  a_sizes_make_one : Addr
  f_sizes_make_one : FuncData
  F_sizes_make_one : Fun K "sizes_make_one" "sizes_make_one" s_sizes_make_one a_sizes_make_one f_sizes_make_one
  g_sizes_make_one : mg "sizes_make_one" = some (.ref a_sizes_make_one)
  b_sizes_make_one : Binds K f_sizes_make_one ["rays"] []
  a_is_table : Addr
  f_is_table : FuncData
  F_is_table : Fun K "is_table" "is_table" s_is_table a_is_table f_is_table
  g_is_table : mg "is_table" = some (.ref a_is_table)
  b_is_table : Binds K f_is_table ["thing"] []
  a_table_product : Addr
  f_table_product : FuncData
  F_table_product : Fun K "table_product" "table_product" s_table_product a_table_product f_table_product
  g_table_product : mg "table_product" = some (.ref a_table_product)
  b_table_product : Binds K f_table_product ["one", "other"] []
  a_table_mirrored : Addr
  f_table_mirrored : FuncData
  F_table_mirrored : Fun K "table_mirrored" "table_mirrored" s_table_mirrored a_table_mirrored f_table_mirrored
  g_table_mirrored : mg "table_mirrored" = some (.ref a_table_mirrored)
  b_table_mirrored : Binds K f_table_mirrored ["table"] []
  a_slants : Addr
  f_slants : FuncData
  F_slants : Fun K "slants" "slants" s_slants a_slants f_slants
  g_slants : mg "slants" = some (.ref a_slants)
  b_slants : Binds K f_slants ["columns", "i", "j"] []
  a_least_slant : Addr
  f_least_slant : FuncData
  F_least_slant : Fun K "least_slant" "least_slant" s_least_slant a_least_slant f_least_slant
  g_least_slant : mg "least_slant" = some (.ref a_least_slant)
  b_least_slant : Binds K f_least_slant ["columns"] []
  a_is_upright : Addr
  f_is_upright : FuncData
  F_is_upright : Fun K "is_upright" "is_upright" s_is_upright a_is_upright f_is_upright
  g_is_upright : mg "is_upright" = some (.ref a_is_upright)
  b_is_upright : Binds K f_is_upright ["table"] []
  a_power_of : Addr
  f_power_of : FuncData
  F_power_of : Fun K "power_of" "power_of" s_power_of a_power_of f_power_of
  g_power_of : mg "power_of" = some (.ref a_power_of)
  b_power_of : Binds K f_power_of ["rays"] []
  a_least_power : Addr
  f_least_power : FuncData
  F_least_power : Fun K "least_power" "least_power" s_least_power a_least_power f_least_power
  g_least_power : mg "least_power" = some (.ref a_least_power)
  b_least_power : Binds K f_least_power ["table"] []
  a_quarter_tables : Addr
  f_quarter_tables : FuncData
  F_quarter_tables : Fun K "quarter_tables" "quarter_tables" s_quarter_tables a_quarter_tables f_quarter_tables
  g_quarter_tables : mg "quarter_tables" = some (.ref a_quarter_tables)
  b_quarter_tables : Binds K f_quarter_tables [] []
  a_axis_tables : Addr
  f_axis_tables : FuncData
  F_axis_tables : Fun K "axis_tables" "axis_tables" s_axis_tables a_axis_tables f_axis_tables
  g_axis_tables : mg "axis_tables" = some (.ref a_axis_tables)
  b_axis_tables : Binds K f_axis_tables [] []
  a_half_of_diagonal : Addr
  f_half_of_diagonal : FuncData
  F_half_of_diagonal : Fun K "half_of_diagonal" "half_of_diagonal" s_half_of_diagonal a_half_of_diagonal f_half_of_diagonal
  g_half_of_diagonal : mg "half_of_diagonal" = some (.ref a_half_of_diagonal)
  b_half_of_diagonal : Binds K f_half_of_diagonal ["table"] []
  a_axes_table : Addr
  f_axes_table : FuncData
  F_axes_table : Fun K "axes_table" "axes_table" s_axes_table a_axes_table f_axes_table
  g_axes_table : mg "axes_table" = some (.ref a_axes_table)
  b_axes_table : Binds K f_axes_table ["table"] []
  a_axes_power : Addr
  f_axes_power : FuncData
  F_axes_power : Fun K "axes_power" "axes_power" s_axes_power a_axes_power f_axes_power
  g_axes_power : mg "axes_power" = some (.ref a_axes_power)
  b_axes_power : Binds K f_axes_power ["table"] []
  a_is_quarter : Addr
  f_is_quarter : FuncData
  F_is_quarter : Fun K "is_quarter" "is_quarter" s_is_quarter a_is_quarter f_is_quarter
  g_is_quarter : mg "is_quarter" = some (.ref a_is_quarter)
  b_is_quarter : Binds K f_is_quarter ["thing"] []
  a_is_reading : Addr
  f_is_reading : FuncData
  F_is_reading : Fun K "is_reading" "is_reading" s_is_reading a_is_reading f_is_reading
  g_is_reading : mg "is_reading" = some (.ref a_is_reading)
  b_is_reading : Binds K f_is_reading ["thing"] []
  a_reading_letters : Addr
  f_reading_letters : FuncData
  F_reading_letters : Fun K "reading_letters" "reading_letters" s_reading_letters a_reading_letters f_reading_letters
  g_reading_letters : mg "reading_letters" = some (.ref a_reading_letters)
  b_reading_letters : Binds K f_reading_letters ["reading"] []
  a_reading_with : Addr
  f_reading_with : FuncData
  F_reading_with : Fun K "reading_with" "reading_with" s_reading_with a_reading_with f_reading_with
  g_reading_with : mg "reading_with" = some (.ref a_reading_with)
  b_reading_with : Binds K f_reading_with ["letters", "rest"] []
  a_tables_many : Addr
  f_tables_many : FuncData
  F_tables_many : Fun K "tables_many" "tables_many" s_tables_many a_tables_many f_tables_many
  g_tables_many : mg "tables_many" = some (.ref a_tables_many)
  b_tables_many : Binds K f_tables_many ["many"] []
  a_near_many : Addr
  f_near_many : FuncData
  F_near_many : Fun K "near_many" "near_many" s_near_many a_near_many f_near_many
  g_near_many : mg "near_many" = some (.ref a_near_many)
  b_near_many : Binds K f_near_many ["many"] []
  a_tables_at_most : Addr
  f_tables_at_most : FuncData
  F_tables_at_most : Fun K "tables_at_most" "tables_at_most" s_tables_at_most a_tables_at_most f_tables_at_most
  g_tables_at_most : mg "tables_at_most" = some (.ref a_tables_at_most)
  b_tables_at_most : Binds K f_tables_at_most ["many"] []
  a_letters_by_number : Addr
  f_letters_by_number : FuncData
  F_letters_by_number : Fun K "letters_by_number" "letters_by_number" s_letters_by_number a_letters_by_number f_letters_by_number
  g_letters_by_number : mg "letters_by_number" = some (.ref a_letters_by_number)
  b_letters_by_number : Binds K f_letters_by_number ["length", "number"] []
  a_number_of_letters : Addr
  f_number_of_letters : FuncData
  F_number_of_letters : Fun K "number_of_letters" "number_of_letters" s_number_of_letters a_number_of_letters f_number_of_letters
  g_number_of_letters : mg "number_of_letters" = some (.ref a_number_of_letters)
  b_number_of_letters : Binds K f_number_of_letters ["letters"] []
  a_reading_by_number : Addr
  f_reading_by_number : FuncData
  F_reading_by_number : Fun K "reading_by_number" "reading_by_number" s_reading_by_number a_reading_by_number f_reading_by_number
  g_reading_by_number : mg "reading_by_number" = some (.ref a_reading_by_number)
  b_reading_by_number : Binds K f_reading_by_number ["number"] []
  a_number_of_reading : Addr
  f_number_of_reading : FuncData
  F_number_of_reading : Fun K "number_of_reading" "number_of_reading" s_number_of_reading a_number_of_reading f_number_of_reading
  g_number_of_reading : mg "number_of_reading" = some (.ref a_number_of_reading)
  b_number_of_reading : Binds K f_number_of_reading ["reading"] []
  a_next_reading : Addr
  f_next_reading : FuncData
  F_next_reading : Fun K "next_reading" "next_reading" s_next_reading a_next_reading f_next_reading
  g_next_reading : mg "next_reading" = some (.ref a_next_reading)
  b_next_reading : Binds K f_next_reading ["reading"] []
  a_ulaw_box : Addr
  f_ulaw_box : FuncData
  F_ulaw_box : Fun K "_law_box" "_law_box" s_ulaw_box a_ulaw_box f_ulaw_box
  g_ulaw_box : mg "_law_box" = some (.ref a_ulaw_box)
  b_ulaw_box : Binds K f_ulaw_box ["script", "k"] []
  a_ulaw_take : Addr
  f_ulaw_take : FuncData
  F_ulaw_take : Fun K "_law_take" "_law_take" s_ulaw_take a_ulaw_take f_ulaw_take
  g_ulaw_take : mg "_law_take" = some (.ref a_ulaw_take)
  b_ulaw_take : Binds K f_ulaw_take ["tin", "below_so"] []
  a_ulaw_cells : Addr
  f_ulaw_cells : FuncData
  F_ulaw_cells : Fun K "_law_cells" "_law_cells" s_ulaw_cells a_ulaw_cells f_ulaw_cells
  g_ulaw_cells : mg "_law_cells" = some (.ref a_ulaw_cells)
  b_ulaw_cells : Binds K f_ulaw_cells ["script", "most_so"] []
  a_ulaw_of : Addr
  f_ulaw_of : FuncData
  F_ulaw_of : Fun K "_law_of" "_law_of" s_ulaw_of a_ulaw_of f_ulaw_of
  g_ulaw_of : mg "_law_of" = some (.ref a_ulaw_of)
  b_ulaw_of : Binds K f_ulaw_of ["tin", "goods_so"] []
  a_ulaw_lists : Addr
  f_ulaw_lists : FuncData
  F_ulaw_lists : Fun K "_law_lists" "_law_lists" s_ulaw_lists a_ulaw_lists f_ulaw_lists
  g_ulaw_lists : mg "_law_lists" = some (.ref a_ulaw_lists)
  b_ulaw_lists : Binds K f_ulaw_lists ["matter"] []
  a_ulaw_same : Addr
  f_ulaw_same : FuncData
  F_ulaw_same : Fun K "_law_same" "_law_same" s_ulaw_same a_ulaw_same f_ulaw_same
  g_ulaw_same : mg "_law_same" = some (.ref a_ulaw_same)
  b_ulaw_same : Binds K f_ulaw_same ["got", "due"] []
  a_ulaw_is_number : Addr
  f_ulaw_is_number : FuncData
  F_ulaw_is_number : Fun K "_law_is_number" "_law_is_number" s_ulaw_is_number a_ulaw_is_number f_ulaw_is_number
  g_ulaw_is_number : mg "_law_is_number" = some (.ref a_ulaw_is_number)
  b_ulaw_is_number : Binds K f_ulaw_is_number ["own"] []
  a_ulaw_is_ray : Addr
  f_ulaw_is_ray : FuncData
  F_ulaw_is_ray : Fun K "_law_is_ray" "_law_is_ray" s_ulaw_is_ray a_ulaw_is_ray f_ulaw_is_ray
  g_ulaw_is_ray : mg "_law_is_ray" = some (.ref a_ulaw_is_ray)
  b_ulaw_is_ray : Binds K f_ulaw_is_ray ["own"] []
  a_ulaw_place_state : Addr
  f_ulaw_place_state : FuncData
  F_ulaw_place_state : Fun K "_law_place_state" "_law_place_state" s_ulaw_place_state a_ulaw_place_state f_ulaw_place_state
  g_ulaw_place_state : mg "_law_place_state" = some (.ref a_ulaw_place_state)
  b_ulaw_place_state : Binds K f_ulaw_place_state ["size_so", "place_so"] []
  a_ulaw_unit : Addr
  f_ulaw_unit : FuncData
  F_ulaw_unit : Fun K "_law_unit" "_law_unit" s_ulaw_unit a_ulaw_unit f_ulaw_unit
  g_ulaw_unit : mg "_law_unit" = some (.ref a_ulaw_unit)
  b_ulaw_unit : Binds K f_ulaw_unit ["size_so"] []
  a_ulaw_eighth_of : Addr
  f_ulaw_eighth_of : FuncData
  F_ulaw_eighth_of : Fun K "_law_eighth_of" "_law_eighth_of" s_ulaw_eighth_of a_ulaw_eighth_of f_ulaw_eighth_of
  g_ulaw_eighth_of : mg "_law_eighth_of" = some (.ref a_ulaw_eighth_of)
  b_ulaw_eighth_of : Binds K f_ulaw_eighth_of ["own"] []
  a_ulaw_is_quarter : Addr
  f_ulaw_is_quarter : FuncData
  F_ulaw_is_quarter : Fun K "_law_is_quarter" "_law_is_quarter" s_ulaw_is_quarter a_ulaw_is_quarter f_ulaw_is_quarter
  g_ulaw_is_quarter : mg "_law_is_quarter" = some (.ref a_ulaw_is_quarter)
  b_ulaw_is_quarter : Binds K f_ulaw_is_quarter ["table_so"] []
  a_ulaw_reading : Addr
  f_ulaw_reading : FuncData
  F_ulaw_reading : Fun K "_law_reading" "_law_reading" s_ulaw_reading a_ulaw_reading f_ulaw_reading
  g_ulaw_reading : mg "_law_reading" = some (.ref a_ulaw_reading)
  b_ulaw_reading : Binds K f_ulaw_reading ["letters_so", "rest_so"] []
  a_ulaw_is_small_table : Addr
  f_ulaw_is_small_table : FuncData
  F_ulaw_is_small_table : Fun K "_law_is_small_table" "_law_is_small_table" s_ulaw_is_small_table a_ulaw_is_small_table f_ulaw_is_small_table
  g_ulaw_is_small_table : mg "_law_is_small_table" = some (.ref a_ulaw_is_small_table)
  b_ulaw_is_small_table : Binds K f_ulaw_is_small_table ["own"] []
  a_ulaw_is_form : Addr
  f_ulaw_is_form : FuncData
  F_ulaw_is_form : Fun K "_law_is_form" "_law_is_form" s_ulaw_is_form a_ulaw_is_form f_ulaw_is_form
  g_ulaw_is_form : mg "_law_is_form" = some (.ref a_ulaw_is_form)
  b_ulaw_is_form : Binds K f_ulaw_is_form ["own"] []
  a_ulaw_letters : Addr
  f_ulaw_letters : FuncData
  F_ulaw_letters : Fun K "_law_letters" "_law_letters" s_ulaw_letters a_ulaw_letters f_ulaw_letters
  g_ulaw_letters : mg "_law_letters" = some (.ref a_ulaw_letters)
  b_ulaw_letters : Binds K f_ulaw_letters ["tin", "most_so"] []
  a_ulaw_grown : Addr
  f_ulaw_grown : FuncData
  F_ulaw_grown : Fun K "_law_grown" "_law_grown" s_ulaw_grown a_ulaw_grown f_ulaw_grown
  g_ulaw_grown : mg "_law_grown" = some (.ref a_ulaw_grown)
  b_ulaw_grown : Binds K f_ulaw_grown ["many_so"] []
  a_ulaw_number : Addr
  f_ulaw_number : FuncData
  F_ulaw_number : Fun K "_law_number" "_law_number" s_ulaw_number a_ulaw_number f_ulaw_number
  g_ulaw_number : mg "_law_number" = some (.ref a_ulaw_number)
  b_ulaw_number : Binds K f_ulaw_number ["reading_so", "rests_so"] []
  a_ulaw_rests_right : Addr
  f_ulaw_rests_right : FuncData
  F_ulaw_rests_right : Fun K "_law_rests_right" "_law_rests_right" s_ulaw_rests_right a_ulaw_rests_right f_ulaw_rests_right
  g_ulaw_rests_right : mg "_law_rests_right" = some (.ref a_ulaw_rests_right)
  b_ulaw_rests_right : Binds K f_ulaw_rests_right ["rests_so"] []
  a_ulaw_one_right : Addr
  f_ulaw_one_right : FuncData
  F_ulaw_one_right : Fun K "_law_one_right" "_law_one_right" s_ulaw_one_right a_ulaw_one_right f_ulaw_one_right
  g_ulaw_one_right : mg "_law_one_right" = some (.ref a_ulaw_one_right)
  b_ulaw_one_right : Binds K f_ulaw_one_right ["reading_so", "rests_so", "soft"] []
  a_ulaw_by_hand_right : Addr
  f_ulaw_by_hand_right : FuncData
  F_ulaw_by_hand_right : Fun K "_law_by_hand_right" "_law_by_hand_right" s_ulaw_by_hand_right a_ulaw_by_hand_right f_ulaw_by_hand_right
  g_ulaw_by_hand_right : mg "_law_by_hand_right" = some (.ref a_ulaw_by_hand_right)
  b_ulaw_by_hand_right : Binds K f_ulaw_by_hand_right [] []
  a_ulaw_right : Addr
  f_ulaw_right : FuncData
  F_ulaw_right : Fun K "_law_right" "_law_right" s_ulaw_right a_ulaw_right f_ulaw_right
  g_ulaw_right : mg "_law_right" = some (.ref a_ulaw_right)
  b_ulaw_right : Binds K f_ulaw_right ["tin"] []
  a_law : Addr
  f_law : FuncData
  F_law : Fun K "law" "law" s_law a_law f_law
  g_law : mg "law" = some (.ref a_law)
  b_law : Binds K f_law ["script"] []
  m_abs : mg "abs" = none
  m_all : mg "all" = none
  m_bool : mg "bool" = none
  m_enumerate : mg "enumerate" = none
  m_int : mg "int" = none
  m_isinstance : mg "isinstance" = none
  m_len : mg "len" = none
  m_list : mg "list" = none
  m_max : mg "max" = none
  m_range : mg "range" = none
  m_sorted : mg "sorted" = none
  m_str : mg "str" = none
  m_sum : mg "sum" = none
  m_tuple : mg "tuple" = none
  m_zip : mg "zip" = none
  a_ONE : Addr
  g_ONE : mg "ONE" = some (.ref a_ONE)
  r_ONE : ∀ G, Rep K G d_ONE (.ref a_ONE)
  a_ZERO : Addr
  g_ZERO : mg "ZERO" = some (.ref a_ZERO)
  r_ZERO : ∀ G, Rep K G d_ZERO (.ref a_ZERO)
section
variable {P : Program} {w : World} {K : PySem.W.Frag} {mg : Str → Option Value} {base : Heap}
theorem ok_is_number (T : Tx K mg) : FnOk P w K mg base CX0 1 T.a_is_number T.f_is_number ["thing"] (spP K m_is_number) := by
  have hs : SdS K _ sm_is_number := (ss_ret (sd_and (sd_isi (t := .int) sd_var) (sd_not (sd_isi (t := .bool) sd_var))))
  have h1 : FnOk P w K mg base CX0 1 T.a_is_number T.f_is_number ["thing"] (spP K (runD 1 1 sm_is_number)) := by
    refine fn_pure (k := 0) (N := n_is_number) (ps := ["thing"]) T.F_is_number sc_is_number (by decide) hs fun cdv A outer s H E hr => ?_
    have HU := hu64 hr
    have HU65 := hu65 hr
    have HU70 := hu70 hr
    exact (pss_one (ps_ret (pe_andT (xe_callB call_isi (by rfl) T.m_isinstance bt_isinstance (xa_cons (pv 0) (xa_cons (pe_bltn (v := .ty "int") (by rfl) T.m_int bt_int rfl) pa_nil))) (pe_one (pe_notT (xe_callB call_isi (by rfl) T.m_isinstance bt_isinstance (xa_cons (pv 0) (xa_cons (pe_bltn (v := .ty "bool") (by rfl) T.m_bool bt_bool rfl) pa_nil))))))))
  delta m_is_number
  exact h1
theorem ok_is_below (T : Tx K mg) : FnOk P w K mg base CX0 2 T.a_is_below T.f_is_below ["thing", "many"] (spP K m_is_below) := by
  have G_is_number := ok_is_number (P := P) (w := w) (base := base) T
  have hs : SdS K _ sm_is_below := (ss_ret (sd_and (sd_fn (sa_one sd_var)) (sd_chain ob_le ob_ltA sd_int sd_var sd_var)))
  have h1 : FnOk P w K mg base CX0 2 T.a_is_below T.f_is_below ["thing", "many"] (spP K (runD 2 2 sm_is_below)) := by
    refine fn_pure (k := 1) (N := n_is_below) (ps := ["thing", "many"]) T.F_is_below sc_is_below (by decide) hs fun cdv A outer s H E hr => ?_
    have HU := hu64 hr
    have HU65 := hu65 hr
    have HU70 := hu70 hr
    have HR_is_number : Room 1 _ := hr.mono (by decide)
    exact (pss_one (ps_ret (pe_andT (xe_call G_is_number HR_is_number (by rfl) T.g_is_number T.F_is_number.kp T.b_is_number (xa_cons (pv 0) pa_nil)) (pe_one (pe_chain op_le (op_ltA HU) pe_int (pv 0) (pv 1))))))
  delta m_is_below
  exact h1
theorem okr_frozen (T : Tx K mg) : ∀ n : Nat, FnOk P w K mg base CX0 (n + 1) T.a_frozen T.f_frozen ["value"] (spP K (mr_frozen n))
  | 0 => fn_void
  | n + 1 => by
    have G_frozen := okr_frozen T n
    have hs : SdS K _ (sm_frozen (mr_frozen n)) := (ss_seq (ss_if (st_tru (sd_isi2 (t := .list) (u := .tuple) sd_var)) (ss_ret (sd_cb co_tuple (sa_one (sd_lc (js := [1]) (si_any sd_var) sg_name st_yes' (sd_fn (sa_one sd_var)) (by decide))))) ss_next)
      (ss_ret sd_var))
    refine fn_pure T.F_frozen sc_frozen (by decide) hs fun cdv A outer s H E hr => ?_
    have HU := hu64 hr
    have HU65 := hu65 hr
    have HU70 := hu70 hr
    have HR_frozen := hr
    refine (pss_cons ?_ ?_)
    · refine (ps_if ?_ ?_ ?_)
      · exact (pt_truth (xe_callB call_isiT (by rfl) T.m_isinstance bt_isinstance (xa_cons (pv 0) (xa_cons (pe_tup (xa_cons (pe_bltn (v := .ty "list") (by rfl) T.m_list bt_list rfl) (xa_cons (pe_bltn (v := .ty "tuple") (by rfl) T.m_tuple bt_tuple rfl) pa_nil))) pa_nil))) (by intro _; rfl))
      · exact (pss_one (ps_ret (xe_callT call_tuple_ofN (by rfl) T.m_tuple bt_tuple (xa_cons (pe_lc (own := [("part", 1)]) (g := (gName 1)) rfl sc_frozen.nd (pi_any (pv 0)) (blkOk_by (N := n_frozen) (sc := defScope s_frozen) (by decide +kernel)) (fun _ _ _ _ _ => (pg_name (i := 1) sc_frozen.nd rfl (by first | exact Or.inl rfl | exact Or.inr rfl))) (fun _ _ _ _ _ => pts_nil) (fun _ _ _ _ _ => (xe_call G_frozen HR_frozen (by rfl) T.g_frozen T.F_frozen.kp T.b_frozen (xa_cons (pv 1) pa_nil)))) pa_nil))))
      · exact pss_nil
    · exact (pss_one (ps_ret (pv 0)))
theorem ok_frozen (T : Tx K mg) : FnOk P w K mg base CX0 9 T.a_frozen T.f_frozen ["value"] (spP K m_frozen) := okr_frozen T 8
theorem ok_root_divides (T : Tx K mg) : FnOk P w K mg base CX0 1 T.a_root_divides T.f_root_divides ["numbers"] (spP K m_root_divides) := by
  have hs : SdS K _ sm_root_divides := (ss_seq (ss_asg sd_var (sg_any (sgs_cons sg_name (sgs_cons sg_name (sgs_cons sg_name (sgs_cons sg_name sgs_nil))))))
      (ss_ret (sd_and (sd_op ob_eq (sd_op ob_mod (sd_op ob_add sd_var sd_var) sd_int) sd_int) (sd_op ob_eq (sd_op ob_mod (sd_op ob_add sd_var sd_var) sd_int) sd_int))))
  have h1 : FnOk P w K mg base CX0 1 T.a_root_divides T.f_root_divides ["numbers"] (spP K (runD 1 5 sm_root_divides)) := by
    refine fn_pure (k := 0) (N := n_root_divides) (ps := ["numbers"]) T.F_root_divides sc_root_divides (by decide) hs fun cdv A outer s H E hr => ?_
    have HU := hu64 hr
    have HU65 := hu65 hr
    have HU70 := hu70 hr
    exact (pss_cons (ps_asg (pv 0) (pg_any rfl (pgs_cons (pg_name (i := 1) sc_root_divides.nd rfl (Or.inl rfl)) (pgs_cons (pg_name (i := 2) sc_root_divides.nd rfl (Or.inl rfl)) (pgs_cons (pg_name (i := 3) sc_root_divides.nd rfl (Or.inl rfl)) (pgs_cons (pg_name (i := 4) sc_root_divides.nd rfl (Or.inl rfl)) pgs_nil)))))) (pss_one (ps_ret (pe_andT (pe_cmpR (op_eqD HU) (pe_op op_mod (pe_op op_addA (pv 1) (pv 3)) pe_int) pe_int (nomark _)) (pe_one (pe_cmpR (op_eqD HU) (pe_op op_mod (pe_op op_addA (pv 2) (pv 4)) pe_int) pe_int (nomark _)))))))
  delta m_root_divides
  exact h1
theorem ok_times_root (T : Tx K mg) : FnOk P w K mg base CX0 1 T.a_times_root T.f_times_root ["numbers", "many"] (spP K m_times_root) := by
  have hs : SdS K _ sm_times_root := (ss_seq (ss_set (i := 2) (sd_op ob_fdiv sd_var sd_int))
      (ss_seq (ss_asg (sd_lc (js := [7]) (si_any sd_var) sg_name st_yes' (sd_op ob_shl sd_var sd_var) (by decide)) (sg_any (sgs_cons sg_name (sgs_cons sg_name (sgs_cons sg_name (sgs_cons sg_name sgs_nil))))))
      (ss_seq (ss_if (st_tTest (sd_op ob_eq (sd_op ob_mod sd_var sd_int) sd_int)) (ss_ret (sd_tup (sa_cons (sd_op ob_sub sd_var sd_var) (sa_cons (sd_op ob_add sd_var sd_var) (sa_cons (sd_op ob_add sd_var sd_var) (sa_one (sd_op ob_sub sd_var sd_var))))))) ss_next)
      (ss_ret (sd_tup (sa_cons sd_var (sa_cons sd_var (sa_cons sd_var (sa_one sd_var)))))))))
  have h1 : FnOk P w K mg base CX0 1 T.a_times_root T.f_times_root ["numbers", "many"] (spP K (runD 2 8 sm_times_root)) := by
    refine fn_pure (k := 0) (N := n_times_root) (ps := ["numbers", "many"]) T.F_times_root sc_times_root (by decide) hs fun cdv A outer s H E hr => ?_
    have HU := hu64 hr
    have HU65 := hu65 hr
    have HU70 := hu70 hr
    refine (pss_cons ?_ ?_)
    · exact (ps_set (i := 2) sc_times_root.nd rfl (Or.inr rfl) (pe_op op_fdiv (pv 1) pe_int))
    · refine (pss_cons ?_ ?_)
      · exact (ps_asg (pe_lc (own := [("number", 7)]) (g := (gName 7)) rfl sc_times_root.nd (pi_any (pv 0)) (blkOk_by (N := n_times_root) (sc := defScope s_times_root) (by decide +kernel)) (fun _ _ _ _ _ => (pg_name (i := 7) sc_times_root.nd rfl (by first | exact Or.inl rfl | exact Or.inr rfl))) (fun _ _ _ _ _ => pts_nil) (fun _ _ _ _ _ => (pe_op op_shlW (pv 7) (pv 2)))) (pg_any rfl (pgs_cons (pg_name (i := 3) sc_times_root.nd rfl (Or.inl rfl)) (pgs_cons (pg_name (i := 4) sc_times_root.nd rfl (Or.inl rfl)) (pgs_cons (pg_name (i := 5) sc_times_root.nd rfl (Or.inl rfl)) (pgs_cons (pg_name (i := 6) sc_times_root.nd rfl (Or.inl rfl)) pgs_nil))))))
      · exact (pss_cons (ps_if (pt_cmpR (op_eqD HU) (pe_op op_mod (pv 1) pe_int) pe_int (nomark _)) (pss_one (ps_ret (pe_tupN (xa_cons (pe_op op_sub (pv 4) (pv 6)) (xa_cons (pe_op op_addA (pv 3) (pv 5)) (xa_cons (pe_op op_addA (pv 4) (pv 6)) (xa_cons (pe_op op_sub (pv 5) (pv 3)) pa_nil))))))) pss_nil) (pss_one (ps_ret (pe_tupN (xa_cons (pv 3) (xa_cons (pv 4) (xa_cons (pv 5) (xa_cons (pv 6) pa_nil))))))))
  delta m_times_root
  exact h1
theorem ok_is_ray (T : Tx K mg) : FnOk P w K mg base CX0 2 T.a_is_ray T.f_is_ray ["thing"] (spP K m_is_ray) := by
  have G_is_number := ok_is_number (P := P) (w := w) (base := base) T
  have G_root_divides := ok_root_divides (P := P) (w := w) (base := base) T
  have hs : SdS K _ sm_is_ray := (ss_seq (ss_if (st_or (st_not (st_tru (sd_isi (t := .tuple) sd_var))) (st_tTest (sd_op ob_ne (sd_cb co_len (sa_one sd_var)) sd_int))) (ss_ret sd_bl) ss_next)
      (ss_seq (ss_if (st_not (st_tru (sd_cb co_all (sa_one (sd_lc (js := [1]) (si_any sd_var) sg_name st_yes' (sd_fn (sa_one sd_var)) (by decide)))))) (ss_ret sd_bl) ss_next)
      (ss_ret (sd_or (sd_op ob_eq (sd_op ob_ix sd_var sd_int) sd_int) (sd_and (sd_op ob_gt (sd_op ob_ix sd_var sd_int) sd_int) (sd_not (sd_fn (sa_one (sd_sl so_any sd_var so_no (so_part sd_int))))))))))
  have h1 : FnOk P w K mg base CX0 2 T.a_is_ray T.f_is_ray ["thing"] (spP K (runD 1 2 sm_is_ray)) := by
    refine fn_pure (k := 1) (N := n_is_ray) (ps := ["thing"]) T.F_is_ray sc_is_ray (by decide) hs fun cdv A outer s H E hr => ?_
    have HU := hu64 hr
    have HU65 := hu65 hr
    have HU70 := hu70 hr
    have HR_is_number : Room 1 _ := hr.mono (by decide)
    have HR_root_divides : Room 1 _ := hr.mono (by decide)
    refine (pss_cons ?_ ?_)
    · exact (ps_if (PW.pt (pw_or (pt_not (pt_truth (xe_callB call_isi (by rfl) T.m_isinstance bt_isinstance (xa_cons (pv 0) (xa_cons (pe_bltn (v := .ty "tuple") (by rfl) T.m_tuple bt_tuple rfl) pa_nil))) (by intro _; rfl))) (pw_or1 (pt_cmpR (op_neD HU) (xe_callB call_len_seq (by rfl) T.m_len bt_len (xa_cons (pv 0) pa_nil)) pe_int (nomark _))))) (pss_one (ps_ret pe_bl)) pss_nil)
    · refine (pss_cons ?_ ?_)
      · exact (ps_if (pt_not (pt_truth (xe_callB (cr_all rfl) (by rfl) T.m_all bt_all (xa_cons (pe_lc (own := [("part", 1)]) (g := (gName 1)) rfl sc_is_ray.nd (pi_any (pv 0)) (blkOk_by (N := n_is_ray) (sc := defScope s_is_ray) (by decide +kernel)) (fun _ _ _ _ _ => (pg_name (i := 1) sc_is_ray.nd rfl (by first | exact Or.inl rfl | exact Or.inr rfl))) (fun _ _ _ _ _ => pts_nil) (fun _ _ _ _ _ => (xe_call G_is_number HR_is_number (by rfl) T.g_is_number T.F_is_number.kp T.b_is_number (xa_cons (pv 1) pa_nil)))) pa_nil)) (by intro _; rfl))) (pss_one (ps_ret pe_bl)) pss_nil)
      · exact (pss_one (ps_ret (pe_orT (pe_cmpR (op_eqD HU) (pe_ix ix_seq (pv 0) pe_int (fun _ _ => rfl)) pe_int (nomark _)) (pe_one (pe_andT (pe_cmpR op_gt (pe_ix ix_seq (pv 0) pe_int (fun _ _ => rfl)) pe_int (nomark _)) (pe_one (pe_notT (xe_call G_root_divides HR_root_divides (by rfl) T.g_root_divides T.F_root_divides.kp T.b_root_divides (xa_cons (pe_slice sl_any (pv 0) po_none (po_some pe_int)) pa_nil)))))))))
  delta m_is_ray
  exact h1
theorem ok_ray_of (T : Tx K mg) : FnOk P w K mg base CX0 2 T.a_ray_of T.f_ray_of ["numbers", "k"] (spP K m_ray_of) := by
  have G_root_divides := ok_root_divides (P := P) (w := w) (base := base) T
  have hs : SdS K _ sm_ray_of := (ss_seq (ss_asg sd_var (sg_any (sgs_cons sg_name (sgs_cons sg_name (sgs_cons sg_name (sgs_cons sg_name sgs_nil))))))
      (ss_seq (ss_while (st_and (st_tTest (sd_op ob_gt sd_var sd_int)) (st_tru (sd_fn (sa_one (sd_tup (sa_cons sd_var (sa_cons sd_var (sa_cons sd_var (sa_one sd_var))))))))) (ss_seq (ss_asg (sd_tup (sa_cons (sd_op ob_fdiv (sd_op ob_sub sd_var sd_var) sd_int) (sa_cons (sd_op ob_fdiv (sd_op ob_add sd_var sd_var) sd_int) (sa_cons (sd_op ob_fdiv (sd_op ob_add sd_var sd_var) sd_int) (sa_one (sd_op ob_fdiv (sd_op ob_sub sd_var sd_var) sd_int)))))) (sg_any (sgs_cons sg_name (sgs_cons sg_name (sgs_cons sg_name (sgs_cons sg_name sgs_nil))))))
      (ss_aug sd_int)))
      (ss_ret (sd_tup (sa_cons sd_var (sa_cons sd_var (sa_cons sd_var (sa_cons sd_var (sa_one sd_var)))))))))
  have h1 : FnOk P w K mg base CX0 2 T.a_ray_of T.f_ray_of ["numbers", "k"] (spP K (runD 2 6 sm_ray_of)) := by
    refine fn_pure (k := 1) (N := n_ray_of) (ps := ["numbers", "k"]) T.F_ray_of sc_ray_of (by decide) hs fun cdv A outer s H E hr => ?_
    have HU := hu64 hr
    have HU65 := hu65 hr
    have HU70 := hu70 hr
    have HR_root_divides : Room 1 _ := hr.mono (by decide)
    refine (pss_cons ?_ ?_)
    · exact (ps_asg (pv 0) (pg_any rfl (pgs_cons (pg_name (i := 2) sc_ray_of.nd rfl (Or.inl rfl)) (pgs_cons (pg_name (i := 3) sc_ray_of.nd rfl (Or.inl rfl)) (pgs_cons (pg_name (i := 4) sc_ray_of.nd rfl (Or.inl rfl)) (pgs_cons (pg_name (i := 5) sc_ray_of.nd rfl (Or.inl rfl)) pgs_nil))))))
    · refine (pss_cons ?_ ?_)
      · refine (ps_while PassesOwn.never ?_ ?_)
        · exact (PW.pt (pw_and (pt_cmpR op_gt (pv 1) pe_int (nomark _)) (pw_and1 (pt_truth (xe_call G_root_divides HR_root_divides (by rfl) T.g_root_divides T.F_root_divides.kp T.b_root_divides (xa_cons (pe_tupN (xa_cons (pv 2) (xa_cons (pv 3) (xa_cons (pv 4) (xa_cons (pv 5) pa_nil))))) pa_nil)) (by intro _; rfl)))))
        · exact (pss_cons (ps_asg (pe_tupN (xa_cons (pe_op op_fdiv (pe_op op_sub (pv 3) (pv 5)) pe_int) (xa_cons (pe_op op_fdiv (pe_op op_addA (pv 2) (pv 4)) pe_int) (xa_cons (pe_op op_fdiv (pe_op op_addA (pv 3) (pv 5)) pe_int) (xa_cons (pe_op op_fdiv (pe_op op_sub (pv 4) (pv 2)) pe_int) pa_nil))))) (pg_any rfl (pgs_cons (pg_name (i := 2) sc_ray_of.nd rfl (Or.inl rfl)) (pgs_cons (pg_name (i := 3) sc_ray_of.nd rfl (Or.inl rfl)) (pgs_cons (pg_name (i := 4) sc_ray_of.nd rfl (Or.inl rfl)) (pgs_cons (pg_name (i := 5) sc_ray_of.nd rfl (Or.inl rfl)) pgs_nil)))))) (pss_one (ps_aug (i := 1) sc_ray_of.nd rfl (Or.inl rfl) pe_int ip_sub)))
      · exact (pss_one (ps_ret (pe_tupN (xa_cons (pv 2) (xa_cons (pv 3) (xa_cons (pv 4) (xa_cons (pv 5) (xa_cons (pv 1) pa_nil))))))))
  delta m_ray_of
  exact h1
theorem ok_rays_added (T : Tx K mg) : FnOk P w K mg base CX0 3 T.a_rays_added T.f_rays_added ["rays"] (spP K m_rays_added) := by
  have G_times_root := ok_times_root (P := P) (w := w) (base := base) T
  have G_ray_of := ok_ray_of (P := P) (w := w) (base := base) T
  have hs : SdS K _ sm_rays_added := (ss_seq (ss_set (i := 2) (sd_maxD (sa_one (sd_lc (js := [1]) (si_any sd_var) sg_name st_yes' (sd_op ob_ix sd_var sd_int) (by decide)))))
      (ss_seq (ss_set (i := 3) (sd_lst (sa_cons sd_int (sa_cons sd_int (sa_cons sd_int (sa_one sd_int))))))
      (ss_seq (ss_for (si_any sd_var) sg_name (ss_seq (ss_set (i := 4) (sd_fn (sa_cons (sd_sl so_any sd_var so_no (so_part sd_int)) (sa_one (sd_op ob_sub sd_var (sd_op ob_ix sd_var sd_int))))))
      (ss_set (i := 3) (sd_lc (js := [5, 6]) (si_zip (sa_cons sd_var (sa_one sd_var))) (sg_any (sgs_cons sg_name (sgs_cons sg_name sgs_nil))) st_yes' (sd_op ob_add sd_var sd_var) (by decide)))))
      (ss_ret (sd_fn (sa_cons sd_var (sa_one sd_var)))))))
  have h1 : FnOk P w K mg base CX0 3 T.a_rays_added T.f_rays_added ["rays"] (spP K (runD 1 7 sm_rays_added)) := by
    refine fn_pure (k := 2) (N := n_rays_added) (ps := ["rays"]) T.F_rays_added sc_rays_added (by decide) hs fun cdv A outer s H E hr => ?_
    have HU := hu64 hr
    have HU65 := hu65 hr
    have HU70 := hu70 hr
    have HR_times_root : Room 1 _ := hr.mono (by decide)
    have HR_ray_of : Room 2 _ := hr.mono (by decide)
    refine (pss_cons ?_ ?_)
    · exact (ps_set (i := 2) sc_rays_added.nd rfl (Or.inl rfl) (pe_callBK (cr_maxD rfl HU) (by rfl) T.m_max bt_max (xa_cons (pe_lc (own := [("ray", 1)]) (g := (gName 1)) rfl sc_rays_added.nd (pi_any (pv 0)) (blkOk_by (N := n_rays_added) (sc := defScope s_rays_added) (by decide +kernel)) (fun _ _ _ _ _ => (pg_name (i := 1) sc_rays_added.nd rfl (by first | exact Or.inl rfl | exact Or.inr rfl))) (fun _ _ _ _ _ => pts_nil) (fun _ _ _ _ _ => (pe_ix ix_seq (pv 1) pe_int (fun _ _ => rfl)))) pa_nil) (pk_cons pe_int pk_nil)))
    · refine (pss_cons ?_ ?_)
      · exact (ps_set (i := 3) sc_rays_added.nd rfl (Or.inl rfl) (pe_lst (xa_cons pe_int (xa_cons pe_int (xa_cons pe_int (xa_cons pe_int pa_nil))))))
      · refine (pss_cons ?_ ?_)
        · refine (ps_for PassesOwn.never rfl ?_ ?_ ?_)
          · exact (pi_any (pv 0))
          · exact (pg_name (i := 1) sc_rays_added.nd rfl (Or.inl rfl))
          · refine (pss_cons ?_ ?_)
            · exact (ps_set (i := 4) sc_rays_added.nd rfl (Or.inl rfl) (xe_call G_times_root HR_times_root (by rfl) T.g_times_root T.F_times_root.kp T.b_times_root (xa_cons (pe_slice sl_any (pv 1) po_none (po_some pe_int)) (xa_cons (pe_op op_sub (pv 2) (pe_ix ix_seq (pv 1) pe_int (fun _ _ => rfl))) pa_nil))))
            · exact (pss_one (ps_setLc (i := 3) (own := [("one", 5), ("other", 6)]) (g := (gAny K 2 (gCons (gName 5) (gCons (gName 6) gNil)))) rfl sc_rays_added.nd rfl rfl (sw_true rfl rfl rfl (by decide +kernel)) (pi_zipK (by rfl) T.m_zip (xa_cons (pv 3) (xa_cons (pv 4) pa_nil))) (blkOk_by (N := n_rays_added) (sc := defScope s_rays_added) (by decide +kernel)) (fun _ _ _ _ _ => (pg_any rfl (pgs_cons (pg_name (i := 5) sc_rays_added.nd rfl (by first | exact Or.inl rfl | exact Or.inr rfl)) (pgs_cons (pg_name (i := 6) sc_rays_added.nd rfl (by first | exact Or.inl rfl | exact Or.inr rfl)) pgs_nil)))) (fun _ _ _ _ _ => pts_nil) (fun _ _ _ _ _ => (pe_op op_addA (pv 5) (pv 6)))))
        · exact (pss_one (ps_ret (xe_call G_ray_of HR_ray_of (by rfl) T.g_ray_of T.F_ray_of.kp T.b_ray_of (xa_cons (pv 3) (xa_cons (pv 2) pa_nil)))))
  delta m_rays_added
  exact h1
theorem ok_ray_sum (T : Tx K mg) : FnOk P w K mg base CX0 4 T.a_ray_sum T.f_ray_sum ["one", "other"] (spP K m_ray_sum) := by
  have G_rays_added := ok_rays_added (P := P) (w := w) (base := base) T
  have hs : SdS K _ sm_ray_sum := (ss_ret (sd_fn (sa_one (sd_tup (sa_cons sd_var (sa_one sd_var))))))
  have h1 : FnOk P w K mg base CX0 4 T.a_ray_sum T.f_ray_sum ["one", "other"] (spP K (runD 2 2 sm_ray_sum)) := by
    refine fn_pure (k := 3) (N := n_ray_sum) (ps := ["one", "other"]) T.F_ray_sum sc_ray_sum (by decide) hs fun cdv A outer s H E hr => ?_
    have HU := hu64 hr
    have HU65 := hu65 hr
    have HU70 := hu70 hr
    have HR_rays_added : Room 3 _ := hr.mono (by decide)
    exact (pss_one (ps_ret (xe_call G_rays_added HR_rays_added (by rfl) T.g_rays_added T.F_rays_added.kp T.b_rays_added (xa_cons (pe_tupN (xa_cons (pv 0) (xa_cons (pv 1) pa_nil))) pa_nil))))
  delta m_ray_sum
  exact h1
theorem ok_ray_product (T : Tx K mg) : FnOk P w K mg base CX0 3 T.a_ray_product T.f_ray_product ["one", "other"] (spP K m_ray_product) := by
  have G_ray_of := ok_ray_of (P := P) (w := w) (base := base) T
  have hs : SdS K _ sm_ray_product := (ss_seq (ss_asg sd_var (sg_any (sgs_cons sg_name (sgs_cons sg_name (sgs_cons sg_name (sgs_cons sg_name (sgs_cons sg_name sgs_nil)))))))
      (ss_seq (ss_asg sd_var (sg_any (sgs_cons sg_name (sgs_cons sg_name (sgs_cons sg_name (sgs_cons sg_name (sgs_cons sg_name sgs_nil)))))))
      (ss_seq (ss_set (i := 12) (sd_tup (sa_cons (sd_op ob_sub (sd_op ob_sub (sd_op ob_sub (sd_op ob_mul sd_var sd_var) (sd_op ob_mul sd_var sd_var)) (sd_op ob_mul sd_var sd_var)) (sd_op ob_mul sd_var sd_var)) (sa_cons (sd_op ob_sub (sd_op ob_sub (sd_op ob_add (sd_op ob_mul sd_var sd_var) (sd_op ob_mul sd_var sd_var)) (sd_op ob_mul sd_var sd_var)) (sd_op ob_mul sd_var sd_var)) (sa_cons (sd_op ob_sub (sd_op ob_add (sd_op ob_add (sd_op ob_mul sd_var sd_var) (sd_op ob_mul sd_var sd_var)) (sd_op ob_mul sd_var sd_var)) (sd_op ob_mul sd_var sd_var)) (sa_one (sd_op ob_add (sd_op ob_add (sd_op ob_add (sd_op ob_mul sd_var sd_var) (sd_op ob_mul sd_var sd_var)) (sd_op ob_mul sd_var sd_var)) (sd_op ob_mul sd_var sd_var))))))))
      (ss_ret (sd_fn (sa_cons sd_var (sa_one (sd_op ob_add sd_var sd_var))))))))
  have h1 : FnOk P w K mg base CX0 3 T.a_ray_product T.f_ray_product ["one", "other"] (spP K (runD 2 13 sm_ray_product)) := by
    refine fn_pure (k := 2) (N := n_ray_product) (ps := ["one", "other"]) T.F_ray_product sc_ray_product (by decide) hs fun cdv A outer s H E hr => ?_
    have HU := hu64 hr
    have HU65 := hu65 hr
    have HU70 := hu70 hr
    have HR_ray_of : Room 2 _ := hr.mono (by decide)
    refine (pss_cons ?_ ?_)
    · exact (ps_asg (pv 0) (pg_any rfl (pgs_cons (pg_name (i := 2) sc_ray_product.nd rfl (Or.inl rfl)) (pgs_cons (pg_name (i := 3) sc_ray_product.nd rfl (Or.inl rfl)) (pgs_cons (pg_name (i := 4) sc_ray_product.nd rfl (Or.inl rfl)) (pgs_cons (pg_name (i := 5) sc_ray_product.nd rfl (Or.inl rfl)) (pgs_cons (pg_name (i := 6) sc_ray_product.nd rfl (Or.inl rfl)) pgs_nil)))))))
    · refine (pss_cons ?_ ?_)
      · exact (ps_asg (pv 1) (pg_any rfl (pgs_cons (pg_name (i := 7) sc_ray_product.nd rfl (Or.inl rfl)) (pgs_cons (pg_name (i := 8) sc_ray_product.nd rfl (Or.inl rfl)) (pgs_cons (pg_name (i := 9) sc_ray_product.nd rfl (Or.inl rfl)) (pgs_cons (pg_name (i := 10) sc_ray_product.nd rfl (Or.inl rfl)) (pgs_cons (pg_name (i := 11) sc_ray_product.nd rfl (Or.inl rfl)) pgs_nil)))))))
      · refine (pss_cons ?_ ?_)
        · refine (ps_set (i := 12) sc_ray_product.nd rfl (Or.inl rfl) ?_)
          · refine (pe_tupN ?_)
            · refine (xa_cons ?_ ?_)
              · exact (pe_op op_sub (pe_op op_sub (pe_op op_sub (pe_op op_mulA (pv 2) (pv 7)) (pe_op op_mulA (pv 3) (pv 10))) (pe_op op_mulA (pv 4) (pv 9))) (pe_op op_mulA (pv 5) (pv 8)))
              · exact (xa_cons (pe_op op_sub (pe_op op_sub (pe_op op_addA (pe_op op_mulA (pv 2) (pv 8)) (pe_op op_mulA (pv 3) (pv 7))) (pe_op op_mulA (pv 4) (pv 10))) (pe_op op_mulA (pv 5) (pv 9))) (xa_cons (pe_op op_sub (pe_op op_addA (pe_op op_addA (pe_op op_mulA (pv 2) (pv 9)) (pe_op op_mulA (pv 3) (pv 8))) (pe_op op_mulA (pv 4) (pv 7))) (pe_op op_mulA (pv 5) (pv 10))) (xa_cons (pe_op op_addA (pe_op op_addA (pe_op op_addA (pe_op op_mulA (pv 2) (pv 10)) (pe_op op_mulA (pv 3) (pv 9))) (pe_op op_mulA (pv 4) (pv 8))) (pe_op op_mulA (pv 5) (pv 7))) pa_nil)))
        · exact (pss_one (ps_ret (xe_call G_ray_of HR_ray_of (by rfl) T.g_ray_of T.F_ray_of.kp T.b_ray_of (xa_cons (pv 12) (xa_cons (pe_op op_addA (pv 6) (pv 11)) pa_nil)))))
  delta m_ray_product
  exact h1
theorem ok_turned_ray (T : Tx K mg) : FnOk P w K mg base CX0 1 T.a_turned_ray T.f_turned_ray ["ray", "many"] (spP K m_turned_ray) := by
  have hs : SdS K _ sm_turned_ray := (ss_seq (ss_asg sd_var (sg_any (sgs_cons sg_name (sgs_cons sg_name (sgs_cons sg_name (sgs_cons sg_name (sgs_cons sg_name sgs_nil)))))))
      (ss_seq (ss_for (si_r1 (sa_one (sd_op ob_mod sd_var sd_int))) sg_name (ss_asg (sd_tup (sa_cons (sd_un uo_neg sd_var) (sa_cons sd_var (sa_cons sd_var (sa_one sd_var))))) (sg_any (sgs_cons sg_name (sgs_cons sg_name (sgs_cons sg_name (sgs_cons sg_name sgs_nil)))))))
      (ss_ret (sd_tup (sa_cons sd_var (sa_cons sd_var (sa_cons sd_var (sa_cons sd_var (sa_one sd_var)))))))))
  have h1 : FnOk P w K mg base CX0 1 T.a_turned_ray T.f_turned_ray ["ray", "many"] (spP K (runD 2 8 sm_turned_ray)) := by
    refine fn_pure (k := 0) (N := n_turned_ray) (ps := ["ray", "many"]) T.F_turned_ray sc_turned_ray (by decide) hs fun cdv A outer s H E hr => ?_
    have HU := hu64 hr
    have HU65 := hu65 hr
    have HU70 := hu70 hr
    refine (pss_cons ?_ ?_)
    · exact (ps_asg (pv 0) (pg_any rfl (pgs_cons (pg_name (i := 2) sc_turned_ray.nd rfl (Or.inl rfl)) (pgs_cons (pg_name (i := 3) sc_turned_ray.nd rfl (Or.inl rfl)) (pgs_cons (pg_name (i := 4) sc_turned_ray.nd rfl (Or.inl rfl)) (pgs_cons (pg_name (i := 5) sc_turned_ray.nd rfl (Or.inl rfl)) (pgs_cons (pg_name (i := 6) sc_turned_ray.nd rfl (Or.inl rfl)) pgs_nil)))))))
    · exact (pss_cons (ps_for PassesOwn.never rfl (pi_range1 (by rfl) T.m_range (xa_cons (pe_op op_mod (pv 1) pe_int) pa_nil)) (pg_name (i := 7) sc_turned_ray.nd rfl (Or.inl rfl)) (pss_one (ps_asg (pe_tupN (xa_cons (pe_un un_neg (pv 5)) (xa_cons (pv 2) (xa_cons (pv 3) (xa_cons (pv 4) pa_nil))))) (pg_any rfl (pgs_cons (pg_name (i := 2) sc_turned_ray.nd rfl (Or.inl rfl)) (pgs_cons (pg_name (i := 3) sc_turned_ray.nd rfl (Or.inl rfl)) (pgs_cons (pg_name (i := 4) sc_turned_ray.nd rfl (Or.inl rfl)) (pgs_cons (pg_name (i := 5) sc_turned_ray.nd rfl (Or.inl rfl)) pgs_nil)))))))) (pss_one (ps_ret (pe_tupN (xa_cons (pv 2) (xa_cons (pv 3) (xa_cons (pv 4) (xa_cons (pv 5) (xa_cons (pv 6) pa_nil)))))))))
  delta m_turned_ray
  exact h1
theorem ok_mirrored (T : Tx K mg) : FnOk P w K mg base CX0 1 T.a_mirrored T.f_mirrored ["ray"] (spP K m_mirrored) := by
  have hs : SdS K _ sm_mirrored := (ss_seq (ss_asg sd_var (sg_any (sgs_cons sg_name (sgs_cons sg_name (sgs_cons sg_name (sgs_cons sg_name (sgs_cons sg_name sgs_nil)))))))
      (ss_ret (sd_tup (sa_cons sd_var (sa_cons (sd_un uo_neg sd_var) (sa_cons (sd_un uo_neg sd_var) (sa_cons (sd_un uo_neg sd_var) (sa_one sd_var))))))))
  have h1 : FnOk P w K mg base CX0 1 T.a_mirrored T.f_mirrored ["ray"] (spP K (runD 1 6 sm_mirrored)) := by
    refine fn_pure (k := 0) (N := n_mirrored) (ps := ["ray"]) T.F_mirrored sc_mirrored (by decide) hs fun cdv A outer s H E hr => ?_
    have HU := hu64 hr
    have HU65 := hu65 hr
    have HU70 := hu70 hr
    exact (pss_cons (ps_asg (pv 0) (pg_any rfl (pgs_cons (pg_name (i := 1) sc_mirrored.nd rfl (Or.inl rfl)) (pgs_cons (pg_name (i := 2) sc_mirrored.nd rfl (Or.inl rfl)) (pgs_cons (pg_name (i := 3) sc_mirrored.nd rfl (Or.inl rfl)) (pgs_cons (pg_name (i := 4) sc_mirrored.nd rfl (Or.inl rfl)) (pgs_cons (pg_name (i := 5) sc_mirrored.nd rfl (Or.inl rfl)) pgs_nil))))))) (pss_one (ps_ret (pe_tupN (xa_cons (pv 1) (xa_cons (pe_un un_neg (pv 4)) (xa_cons (pe_un un_neg (pv 3)) (xa_cons (pe_un un_neg (pv 2)) (xa_cons (pv 5) pa_nil)))))))))
  delta m_mirrored
  exact h1
theorem ok_size_of (T : Tx K mg) : FnOk P w K mg base CX0 4 T.a_size_of T.f_size_of ["ray"] (spP K m_size_of) := by
  have G_mirrored := ok_mirrored (P := P) (w := w) (base := base) T
  have G_ray_product := ok_ray_product (P := P) (w := w) (base := base) T
  have hs : SdS K _ sm_size_of := (ss_ret (sd_fn (sa_cons sd_var (sa_one (sd_fn (sa_one sd_var))))))
  have h1 : FnOk P w K mg base CX0 4 T.a_size_of T.f_size_of ["ray"] (spP K (runD 1 1 sm_size_of)) := by
    refine fn_pure (k := 3) (N := n_size_of) (ps := ["ray"]) T.F_size_of sc_size_of (by decide) hs fun cdv A outer s H E hr => ?_
    have HU := hu64 hr
    have HU65 := hu65 hr
    have HU70 := hu70 hr
    have HR_mirrored : Room 1 _ := hr.mono (by decide)
    have HR_ray_product : Room 3 _ := hr.mono (by decide)
    exact (pss_one (ps_ret (xe_call G_ray_product HR_ray_product (by rfl) T.g_ray_product T.F_ray_product.kp T.b_ray_product (xa_cons (pv 0) (xa_cons (xe_call G_mirrored HR_mirrored (by rfl) T.g_mirrored T.F_mirrored.kp T.b_mirrored (xa_cons (pv 0) pa_nil)) pa_nil)))))
  delta m_size_of
  exact h1
theorem ok_over_root (T : Tx K mg) : FnOk P w K mg base CX0 3 T.a_over_root T.f_over_root ["ray", "many"] (spP K m_over_root) := by
  have G_ray_of := ok_ray_of (P := P) (w := w) (base := base) T
  have G_times_root := ok_times_root (P := P) (w := w) (base := base) T
  have hs : SdS K _ sm_over_root := (ss_seq (ss_set (i := 2) (sd_op ob_add (sd_op ob_ix sd_var sd_int) sd_var))
      (ss_seq (ss_if (st_tTest (sd_op ob_ge sd_var sd_int)) (ss_ret (sd_fn (sa_cons (sd_sl so_any sd_var so_no (so_part sd_int)) (sa_one sd_var)))) ss_next)
      (ss_ret (sd_fn (sa_cons (sd_fn (sa_cons (sd_sl so_any sd_var so_no (so_part sd_int)) (sa_one (sd_un uo_neg sd_var)))) (sa_one sd_int))))))
  have h1 : FnOk P w K mg base CX0 3 T.a_over_root T.f_over_root ["ray", "many"] (spP K (runD 2 3 sm_over_root)) := by
    refine fn_pure (k := 2) (N := n_over_root) (ps := ["ray", "many"]) T.F_over_root sc_over_root (by decide) hs fun cdv A outer s H E hr => ?_
    have HU := hu64 hr
    have HU65 := hu65 hr
    have HU70 := hu70 hr
    have HR_ray_of : Room 2 _ := hr.mono (by decide)
    have HR_times_root : Room 1 _ := hr.mono (by decide)
    exact (pss_cons (ps_set (i := 2) sc_over_root.nd rfl (Or.inl rfl) (pe_op op_addA (pe_ix ix_seq (pv 0) pe_int (fun _ _ => rfl)) (pv 1))) (pss_cons (ps_if (pt_cmpR op_ge (pv 2) pe_int (nomark _)) (pss_one (ps_ret (xe_call G_ray_of HR_ray_of (by rfl) T.g_ray_of T.F_ray_of.kp T.b_ray_of (xa_cons (pe_slice sl_any (pv 0) po_none (po_some pe_int)) (xa_cons (pv 2) pa_nil))))) pss_nil) (pss_one (ps_ret (xe_call G_ray_of HR_ray_of (by rfl) T.g_ray_of T.F_ray_of.kp T.b_ray_of (xa_cons (xe_call G_times_root HR_times_root (by rfl) T.g_times_root T.F_times_root.kp T.b_times_root (xa_cons (pe_slice sl_any (pv 0) po_none (po_some pe_int)) (xa_cons (pe_un un_neg (pv 2)) pa_nil))) (xa_cons pe_int pa_nil)))))))
  delta m_over_root
  exact h1
theorem ok_are_rays (T : Tx K mg) : FnOk P w K mg base CX0 3 T.a_are_rays T.f_are_rays ["thing"] (spP K m_are_rays) := by
  have G_is_ray := ok_is_ray (P := P) (w := w) (base := base) T
  have hs : SdS K _ sm_are_rays := (ss_ret (sd_and (sd_isi (t := .tuple) sd_var) (sd_and (sd_op ob_ge (sd_cb co_len (sa_one sd_var)) sd_int) (sd_cb co_all (sa_one (sd_lc (js := [1]) (si_any sd_var) sg_name st_yes' (sd_fn (sa_one sd_var)) (by decide)))))))
  have h1 : FnOk P w K mg base CX0 3 T.a_are_rays T.f_are_rays ["thing"] (spP K (runD 1 2 sm_are_rays)) := by
    refine fn_pure (k := 2) (N := n_are_rays) (ps := ["thing"]) T.F_are_rays sc_are_rays (by decide) hs fun cdv A outer s H E hr => ?_
    have HU := hu64 hr
    have HU65 := hu65 hr
    have HU70 := hu70 hr
    have HR_is_ray : Room 2 _ := hr.mono (by decide)
    refine (pss_one ?_)
    · refine (ps_ret ?_)
      · refine (pe_andT ?_ ?_)
        · exact (xe_callB call_isi (by rfl) T.m_isinstance bt_isinstance (xa_cons (pv 0) (xa_cons (pe_bltn (v := .ty "tuple") (by rfl) T.m_tuple bt_tuple rfl) pa_nil)))
        · exact (pe_andT (pe_cmpR op_ge (xe_callB call_len_seq (by rfl) T.m_len bt_len (xa_cons (pv 0) pa_nil)) pe_int (nomark _)) (pe_one (xe_callB (cr_all rfl) (by rfl) T.m_all bt_all (xa_cons (pe_lc (own := [("part", 1)]) (g := (gName 1)) rfl sc_are_rays.nd (pi_any (pv 0)) (blkOk_by (N := n_are_rays) (sc := defScope s_are_rays) (by decide +kernel)) (fun _ _ _ _ _ => (pg_name (i := 1) sc_are_rays.nd rfl (by first | exact Or.inl rfl | exact Or.inr rfl))) (fun _ _ _ _ _ => pts_nil) (fun _ _ _ _ _ => (xe_call G_is_ray HR_is_ray (by rfl) T.g_is_ray T.F_is_ray.kp T.b_is_ray (xa_cons (pv 1) pa_nil)))) pa_nil))))
  delta m_are_rays
  exact h1
theorem ok_columns_of (T : Tx K mg) : FnOk P w K mg base CX0 1 T.a_columns_of T.f_columns_of ["rows"] (spP K m_columns_of) := by
  have hs : SdS K _ sm_columns_of := (ss_ret (sd_cb co_tuple (sa_one (sd_lc (js := [1]) (si_r1 (sa_one (sd_cb co_len (sa_one (sd_op ob_ix sd_var sd_int))))) sg_name st_yes' (sd_cb co_tuple (sa_one (sd_lc (js := [2]) (si_any sd_var) sg_name st_yes' (sd_op ob_ix sd_var sd_var) (by decide)))) (by decide)))))
  have h1 : FnOk P w K mg base CX0 1 T.a_columns_of T.f_columns_of ["rows"] (spP K (runD 1 3 sm_columns_of)) := by
    refine fn_pure (k := 0) (N := n_columns_of) (ps := ["rows"]) T.F_columns_of sc_columns_of (by decide) hs fun cdv A outer s H E hr => ?_
    have HU := hu64 hr
    have HU65 := hu65 hr
    have HU70 := hu70 hr
    refine (pss_one ?_)
    · refine (ps_ret ?_)
      · refine (xe_callT call_tuple_ofN (by rfl) T.m_tuple bt_tuple ?_)
        · refine (xa_cons ?_ pa_nil)
          · exact (pe_lc (own := [("place", 1)]) (g := (gName 1)) rfl sc_columns_of.nd (pi_range1 (by rfl) T.m_range (xa_cons (xe_callB call_len_seq (by rfl) T.m_len bt_len (xa_cons (pe_ix ix_seq (pv 0) pe_int (fun _ _ => rfl)) pa_nil)) pa_nil)) (blkOk_by (N := n_columns_of) (sc := defScope s_columns_of) (by decide +kernel)) (fun _ _ _ _ _ => (pg_name (i := 1) sc_columns_of.nd rfl (by first | exact Or.inl rfl | exact Or.inr rfl))) (fun _ _ _ _ _ => pts_nil) (fun _ _ _ _ _ => (xe_callT call_tuple_ofN (by rfl) T.m_tuple bt_tuple (xa_cons (pe_lc (own := [("row", 2)]) (g := (gName 2)) rfl sc_columns_of.nd (pi_any (pv 0)) (blkOk_by (N := n_columns_of) (by kernel_rfl)) (fun _ _ _ _ _ => (pg_name (i := 2) sc_columns_of.nd rfl (by first | exact Or.inl rfl | exact Or.inr rfl))) (fun _ _ _ _ _ => pts_nil) (fun _ _ _ _ _ => (pe_ix ix_seq (pv 2) (pv 1) (fun _ _ => rfl)))) pa_nil))))
  delta m_columns_of
  exact h1
theorem ok_products_added (T : Tx K mg) : FnOk P w K mg base CX0 4 T.a_products_added T.f_products_added ["ones", "others"] (spP K m_products_added) := by
  have G_ray_product := ok_ray_product (P := P) (w := w) (base := base) T
  have G_rays_added := ok_rays_added (P := P) (w := w) (base := base) T
  have hs : SdS K _ sm_products_added := (ss_ret (sd_fn (sa_one (sd_lc (js := [2, 3]) (si_zip (sa_cons sd_var (sa_one sd_var))) (sg_any (sgs_cons sg_name (sgs_cons sg_name sgs_nil))) (st_and (st_tTest (sd_op ob_ne sd_var (sd_c T.r_ZERO))) (st_tTest (sd_op ob_ne sd_var (sd_c T.r_ZERO)))) (sd_fn (sa_cons sd_var (sa_one sd_var))) (by decide)))))
  have h1 : FnOk P w K mg base CX0 4 T.a_products_added T.f_products_added ["ones", "others"] (spP K (runD 2 4 sm_products_added)) := by
    refine fn_pure (k := 3) (N := n_products_added) (ps := ["ones", "others"]) T.F_products_added sc_products_added (by decide) hs fun cdv A outer s H E hr => ?_
    have HU := hu64 hr
    have HU65 := hu65 hr
    have HU70 := hu70 hr
    have HR_ray_product : Room 3 _ := hr.mono (by decide)
    have HR_rays_added : Room 3 _ := hr.mono (by decide)
    refine (pss_one ?_)
    · refine (ps_ret ?_)
      · refine (xe_call G_rays_added HR_rays_added (by rfl) T.g_rays_added T.F_rays_added.kp T.b_rays_added ?_)
        · refine (xa_cons ?_ pa_nil)
          · exact (pe_lc (own := [("one", 2), ("other", 3)]) (g := (gAny K 2 (gCons (gName 2) (gCons (gName 3) gNil)))) rfl sc_products_added.nd (pi_zipK (by rfl) T.m_zip (xa_cons (pv 0) (xa_cons (pv 1) pa_nil))) (blkOk_by (N := n_products_added) (sc := defScope s_products_added) (by decide +kernel)) (fun _ _ _ _ _ => (pg_any rfl (pgs_cons (pg_name (i := 2) sc_products_added.nd rfl (by first | exact Or.inl rfl | exact Or.inr rfl)) (pgs_cons (pg_name (i := 3) sc_products_added.nd rfl (by first | exact Or.inl rfl | exact Or.inr rfl)) pgs_nil)))) (fun _ _ _ _ _ => (pts_one (PW.pt (pw_and (pt_cmpR (op_neD HU) (pv 2) (pe_glob (by rfl) T.g_ZERO (show RelV (.ref T.a_ZERO) (.ref T.a_ZERO) from rfl)) (nomark _)) (pw_and1 (pt_cmpR (op_neD HU) (pv 3) (pe_glob (by rfl) T.g_ZERO (show RelV (.ref T.a_ZERO) (.ref T.a_ZERO) from rfl)) (nomark _))))))) (fun _ _ _ _ _ => (xe_call G_ray_product HR_ray_product (by rfl) T.g_ray_product T.F_ray_product.kp T.b_ray_product (xa_cons (pv 2) (xa_cons (pv 3) pa_nil)))))
  delta m_products_added
  exact h1
theorem ok_mirror_product (T : Tx K mg) : FnOk P w K mg base CX0 5 T.a_mirror_product T.f_mirror_product ["ones", "others"] (spP K m_mirror_product) := by
  have G_mirrored := ok_mirrored (P := P) (w := w) (base := base) T
  have G_products_added := ok_products_added (P := P) (w := w) (base := base) T
  have hs : SdS K _ sm_mirror_product := (ss_ret (sd_fn (sa_cons (sd_lc (js := [2]) (si_any sd_var) sg_name st_yes' (sd_fn (sa_one sd_var)) (by decide)) (sa_one sd_var))))
  have h1 : FnOk P w K mg base CX0 5 T.a_mirror_product T.f_mirror_product ["ones", "others"] (spP K (runD 2 3 sm_mirror_product)) := by
    refine fn_pure (k := 4) (N := n_mirror_product) (ps := ["ones", "others"]) T.F_mirror_product sc_mirror_product (by decide) hs fun cdv A outer s H E hr => ?_
    have HU := hu64 hr
    have HU65 := hu65 hr
    have HU70 := hu70 hr
    have HR_mirrored : Room 1 _ := hr.mono (by decide)
    have HR_products_added : Room 4 _ := hr.mono (by decide)
    exact (pss_one (ps_ret (xe_call G_products_added HR_products_added (by rfl) T.g_products_added T.F_products_added.kp T.b_products_added (xa_cons (pe_lc (own := [("ray", 2)]) (g := (gName 2)) rfl sc_mirror_product.nd (pi_any (pv 0)) (blkOk_by (N := n_mirror_product) (sc := defScope s_mirror_product) (by decide +kernel)) (fun _ _ _ _ _ => (pg_name (i := 2) sc_mirror_product.nd rfl (by first | exact Or.inl rfl | exact Or.inr rfl))) (fun _ _ _ _ _ => pts_nil) (fun _ _ _ _ _ => (xe_call G_mirrored HR_mirrored (by rfl) T.g_mirrored T.F_mirrored.kp T.b_mirrored (xa_cons (pv 2) pa_nil)))) (xa_cons (pv 1) pa_nil)))))
  delta m_mirror_product
  exact h1
theorem ok_sizes_make_one (T : Tx K mg) : FnOk P w K mg base CX0 5 T.a_sizes_make_one T.f_sizes_make_one ["rays"] (spP K m_sizes_make_one) := by
  have G_size_of := ok_size_of (P := P) (w := w) (base := base) T
  have G_rays_added := ok_rays_added (P := P) (w := w) (base := base) T
  have hs : SdS K _ sm_sizes_make_one := (ss_seq (ss_set (i := 1) (sd_cb co_sum (sa_one (sd_lc (js := [2]) (si_any sd_var) sg_name st_yes' (sd_bits (sd_cb co_sum (sa_one (sd_lc (js := [3]) (si_any (sd_sl so_any sd_var so_no (so_part sd_int))) sg_name st_yes' (sd_op ob_mul sd_var sd_var) (by decide))))) (by decide)))))
      (ss_seq (ss_if (st_tTest (sd_op ob_gt (sd_cb co_max (sa_one (sd_lc (js := [2]) (si_any sd_var) sg_name st_yes' (sd_op ob_ix sd_var sd_int) (by decide)))) sd_var)) (ss_ret sd_bl) ss_next)
      (ss_ret (sd_op ob_eq (sd_fn (sa_one (sd_lc (js := [2]) (si_any sd_var) sg_name st_yes' (sd_fn (sa_one sd_var)) (by decide)))) (sd_c T.r_ONE)))))
  have h1 : FnOk P w K mg base CX0 5 T.a_sizes_make_one T.f_sizes_make_one ["rays"] (spP K (runD 1 4 sm_sizes_make_one)) := by
    refine fn_pure (k := 4) (N := n_sizes_make_one) (ps := ["rays"]) T.F_sizes_make_one sc_sizes_make_one (by decide) hs fun cdv A outer s H E hr => ?_
    have HU := hu64 hr
    have HU65 := hu65 hr
    have HU70 := hu70 hr
    have HR_size_of : Room 4 _ := hr.mono (by decide)
    have HR_rays_added : Room 3 _ := hr.mono (by decide)
    refine (pss_cons ?_ ?_)
    · refine (ps_set (i := 1) sc_sizes_make_one.nd rfl (Or.inl rfl) ?_)
      · refine (xe_callB (cr_sum rfl) (by rfl) T.m_sum bt_sum ?_)
        · refine (xa_cons ?_ pa_nil)
          · exact (pe_lc (own := [("ray", 2)]) (g := (gName 2)) rfl sc_sizes_make_one.nd (pi_any (pv 0)) (blkOk_by (N := n_sizes_make_one) (sc := defScope s_sizes_make_one) (by decide +kernel)) (fun _ _ _ _ _ => (pg_name (i := 2) sc_sizes_make_one.nd rfl (by first | exact Or.inl rfl | exact Or.inr rfl))) (fun _ _ _ _ _ => pts_nil) (fun _ _ _ _ _ => (pe_bits (xe_callB (cr_sum rfl) (by rfl) T.m_sum bt_sum (xa_cons (pe_lc (own := [("part", 3)]) (g := (gName 3)) rfl sc_sizes_make_one.nd (pi_any (pe_slice sl_any (pv 2) po_none (po_some pe_int))) (blkOk_by (N := n_sizes_make_one) (by kernel_rfl)) (fun _ _ _ _ _ => (pg_name (i := 3) sc_sizes_make_one.nd rfl (by first | exact Or.inl rfl | exact Or.inr rfl))) (fun _ _ _ _ _ => pts_nil) (fun _ _ _ _ _ => (pe_op op_mulA (pv 3) (pv 3)))) pa_nil)))))
    · refine (pss_cons ?_ ?_)
      · exact (ps_if (pt_cmpR op_gt (xe_callB (cr_max1 rfl HU) (by rfl) T.m_max bt_max (xa_cons (pe_lc (own := [("ray", 2)]) (g := (gName 2)) rfl sc_sizes_make_one.nd (pi_any (pv 0)) (blkOk_by (N := n_sizes_make_one) (sc := defScope s_sizes_make_one) (by decide +kernel)) (fun _ _ _ _ _ => (pg_name (i := 2) sc_sizes_make_one.nd rfl (by first | exact Or.inl rfl | exact Or.inr rfl))) (fun _ _ _ _ _ => pts_nil) (fun _ _ _ _ _ => (pe_ix ix_seq (pv 2) pe_int (fun _ _ => rfl)))) pa_nil)) (pv 1) (nomark _)) (pss_one (ps_ret pe_bl)) pss_nil)
      · exact (pss_one (ps_ret (pe_cmpR (op_eqD HU) (xe_call G_rays_added HR_rays_added (by rfl) T.g_rays_added T.F_rays_added.kp T.b_rays_added (xa_cons (pe_lc (own := [("ray", 2)]) (g := (gName 2)) rfl sc_sizes_make_one.nd (pi_any (pv 0)) (blkOk_by (N := n_sizes_make_one) (sc := defScope s_sizes_make_one) (by decide +kernel)) (fun _ _ _ _ _ => (pg_name (i := 2) sc_sizes_make_one.nd rfl (by first | exact Or.inl rfl | exact Or.inr rfl))) (fun _ _ _ _ _ => pts_nil) (fun _ _ _ _ _ => (xe_call G_size_of HR_size_of (by rfl) T.g_size_of T.F_size_of.kp T.b_size_of (xa_cons (pv 2) pa_nil)))) pa_nil)) (pe_glob (by rfl) T.g_ONE (show RelV (.ref T.a_ONE) (.ref T.a_ONE) from rfl)) (nomark _))))
  delta m_sizes_make_one
  exact h1
theorem ok_is_table (T : Tx K mg) : FnOk P w K mg base CX0 4 T.a_is_table T.f_is_table ["thing"] (spP K m_is_table) := by
  have G_are_rays := ok_are_rays (P := P) (w := w) (base := base) T
  have hs : SdS K _ sm_is_table := (ss_seq (ss_if (st_not (st_tru (sd_isi (t := .tuple) sd_var))) (ss_ret sd_bl) ss_next)
      (ss_ret (sd_and (sd_op ob_ge (sd_cb co_len (sa_one sd_var)) sd_int) (sd_cb co_all (sa_one (sd_lc (js := [1]) (si_any sd_var) sg_name st_yes' (sd_and (sd_fn (sa_one sd_var)) (sd_op ob_eq (sd_cb co_len (sa_one sd_var)) (sd_cb co_len (sa_one sd_var)))) (by decide)))))))
  have h1 : FnOk P w K mg base CX0 4 T.a_is_table T.f_is_table ["thing"] (spP K (runD 1 2 sm_is_table)) := by
    refine fn_pure (k := 3) (N := n_is_table) (ps := ["thing"]) T.F_is_table sc_is_table (by decide) hs fun cdv A outer s H E hr => ?_
    have HU := hu64 hr
    have HU65 := hu65 hr
    have HU70 := hu70 hr
    have HR_are_rays : Room 3 _ := hr.mono (by decide)
    refine (pss_cons ?_ ?_)
    · exact (ps_if (pt_not (pt_truth (xe_callB call_isi (by rfl) T.m_isinstance bt_isinstance (xa_cons (pv 0) (xa_cons (pe_bltn (v := .ty "tuple") (by rfl) T.m_tuple bt_tuple rfl) pa_nil))) (by intro _; rfl))) (pss_one (ps_ret pe_bl)) pss_nil)
    · refine (pss_one ?_)
      · refine (ps_ret ?_)
        · refine (pe_andT ?_ ?_)
          · exact (pe_cmpR op_ge (xe_callB call_len_seq (by rfl) T.m_len bt_len (xa_cons (pv 0) pa_nil)) pe_int (nomark _))
          · exact (pe_one (xe_callB (cr_all rfl) (by rfl) T.m_all bt_all (xa_cons (pe_lc (own := [("row", 1)]) (g := (gName 1)) rfl sc_is_table.nd (pi_any (pv 0)) (blkOk_by (N := n_is_table) (sc := defScope s_is_table) (by decide +kernel)) (fun _ _ _ _ _ => (pg_name (i := 1) sc_is_table.nd rfl (by first | exact Or.inl rfl | exact Or.inr rfl))) (fun _ _ _ _ _ => pts_nil) (fun _ _ _ _ _ => (pe_andT (xe_call G_are_rays HR_are_rays (by rfl) T.g_are_rays T.F_are_rays.kp T.b_are_rays (xa_cons (pv 1) pa_nil)) (pe_one (pe_cmpR (op_eqD HU) (xe_callB call_len_seq (by rfl) T.m_len bt_len (xa_cons (pv 1) pa_nil)) (xe_callB call_len_seq (by rfl) T.m_len bt_len (xa_cons (pv 0) pa_nil)) (nomark _)))))) pa_nil)))
  delta m_is_table
  exact h1
theorem ok_table_product (T : Tx K mg) : FnOk P w K mg base CX0 10 T.a_table_product T.f_table_product ["one", "other"] (spP K m_table_product) := by
  have G_frozen := ok_frozen (P := P) (w := w) (base := base) T
  have G_columns_of := ok_columns_of (P := P) (w := w) (base := base) T
  have G_products_added := ok_products_added (P := P) (w := w) (base := base) T
  have hs : SdS K _ sm_table_product := (ss_seq (ss_set (i := 2) (sd_fn (sa_one (sd_fn (sa_one sd_var)))))
      (ss_ret (sd_cb co_tuple (sa_one (sd_lc (js := [3]) (si_any (sd_fn (sa_one sd_var))) sg_name st_yes' (sd_cb co_tuple (sa_one (sd_lc (js := [4]) (si_any sd_var) sg_name st_yes' (sd_fn (sa_cons sd_var (sa_one sd_var))) (by decide)))) (by decide))))))
  have h1 : FnOk P w K mg base CX0 10 T.a_table_product T.f_table_product ["one", "other"] (spP K (runD 2 5 sm_table_product)) := by
    refine fn_pure (k := 9) (N := n_table_product) (ps := ["one", "other"]) T.F_table_product sc_table_product (by decide) hs fun cdv A outer s H E hr => ?_
    have HU := hu64 hr
    have HU65 := hu65 hr
    have HU70 := hu70 hr
    have HR_frozen : Room 9 _ := hr.mono (by decide)
    have HR_columns_of : Room 1 _ := hr.mono (by decide)
    have HR_products_added : Room 4 _ := hr.mono (by decide)
    refine (pss_cons ?_ ?_)
    · exact (ps_set (i := 2) sc_table_product.nd rfl (Or.inr rfl) (xe_call G_columns_of HR_columns_of (by rfl) T.g_columns_of T.F_columns_of.kp T.b_columns_of (xa_cons (xe_call G_frozen HR_frozen (by rfl) T.g_frozen T.F_frozen.kp T.b_frozen (xa_cons (pv 1) pa_nil)) pa_nil)))
    · refine (pss_one ?_)
      · refine (ps_ret ?_)
        · refine (xe_callT call_tuple_ofN (by rfl) T.m_tuple bt_tuple ?_)
          · refine (xa_cons ?_ pa_nil)
            · exact (pe_lc (own := [("row", 3)]) (g := (gName 3)) rfl sc_table_product.nd (pi_any (xe_call G_frozen HR_frozen (by rfl) T.g_frozen T.F_frozen.kp T.b_frozen (xa_cons (pv 0) pa_nil))) (blkOk_by (N := n_table_product) (sc := defScope s_table_product) (by decide +kernel)) (fun _ _ _ _ _ => (pg_name (i := 3) sc_table_product.nd rfl (by first | exact Or.inl rfl | exact Or.inr rfl))) (fun _ _ _ _ _ => pts_nil) (fun _ _ _ _ _ => (xe_callT call_tuple_ofN (by rfl) T.m_tuple bt_tuple (xa_cons (pe_lc (own := [("column", 4)]) (g := (gName 4)) rfl sc_table_product.nd (pi_any (pv 2)) (blkOk_by (N := n_table_product) (by kernel_rfl)) (fun _ _ _ _ _ => (pg_name (i := 4) sc_table_product.nd rfl (by first | exact Or.inl rfl | exact Or.inr rfl))) (fun _ _ _ _ _ => pts_nil) (fun _ _ _ _ _ => (xe_call G_products_added HR_products_added (by rfl) T.g_products_added T.F_products_added.kp T.b_products_added (xa_cons (pv 3) (xa_cons (pv 4) pa_nil))))) pa_nil))))
  delta m_table_product
  exact h1
theorem ok_table_mirrored (T : Tx K mg) : FnOk P w K mg base CX0 2 T.a_table_mirrored T.f_table_mirrored ["table"] (spP K m_table_mirrored) := by
  have G_columns_of := ok_columns_of (P := P) (w := w) (base := base) T
  have G_mirrored := ok_mirrored (P := P) (w := w) (base := base) T
  have hs : SdS K _ sm_table_mirrored := (ss_ret (sd_cb co_tuple (sa_one (sd_lc (js := [1]) (si_any (sd_fn (sa_one sd_var))) sg_name st_yes' (sd_cb co_tuple (sa_one (sd_lc (js := [2]) (si_any sd_var) sg_name st_yes' (sd_fn (sa_one sd_var)) (by decide)))) (by decide)))))
  have h1 : FnOk P w K mg base CX0 2 T.a_table_mirrored T.f_table_mirrored ["table"] (spP K (runD 1 3 sm_table_mirrored)) := by
    refine fn_pure (k := 1) (N := n_table_mirrored) (ps := ["table"]) T.F_table_mirrored sc_table_mirrored (by decide) hs fun cdv A outer s H E hr => ?_
    have HU := hu64 hr
    have HU65 := hu65 hr
    have HU70 := hu70 hr
    have HR_columns_of : Room 1 _ := hr.mono (by decide)
    have HR_mirrored : Room 1 _ := hr.mono (by decide)
    refine (pss_one ?_)
    · refine (ps_ret ?_)
      · refine (xe_callT call_tuple_ofN (by rfl) T.m_tuple bt_tuple ?_)
        · refine (xa_cons ?_ pa_nil)
          · exact (pe_lc (own := [("column", 1)]) (g := (gName 1)) rfl sc_table_mirrored.nd (pi_any (xe_call G_columns_of HR_columns_of (by rfl) T.g_columns_of T.F_columns_of.kp T.b_columns_of (xa_cons (pv 0) pa_nil))) (blkOk_by (N := n_table_mirrored) (sc := defScope s_table_mirrored) (by decide +kernel)) (fun _ _ _ _ _ => (pg_name (i := 1) sc_table_mirrored.nd rfl (by first | exact Or.inl rfl | exact Or.inr rfl))) (fun _ _ _ _ _ => pts_nil) (fun _ _ _ _ _ => (xe_callT call_tuple_ofN (by rfl) T.m_tuple bt_tuple (xa_cons (pe_lc (own := [("ray", 2)]) (g := (gName 2)) rfl sc_table_mirrored.nd (pi_any (pv 1)) (blkOk_by (N := n_table_mirrored) (by kernel_rfl)) (fun _ _ _ _ _ => (pg_name (i := 2) sc_table_mirrored.nd rfl (by first | exact Or.inl rfl | exact Or.inr rfl))) (fun _ _ _ _ _ => pts_nil) (fun _ _ _ _ _ => (xe_call G_mirrored HR_mirrored (by rfl) T.g_mirrored T.F_mirrored.kp T.b_mirrored (xa_cons (pv 2) pa_nil)))) pa_nil))))
  delta m_table_mirrored
  exact h1
theorem ok_slants (T : Tx K mg) : FnOk P w K mg base CX0 6 T.a_slants T.f_slants ["columns", "i", "j"] (spP K m_slants) := by
  have G_mirror_product := ok_mirror_product (P := P) (w := w) (base := base) T
  have hs : SdS K _ sm_slants := (ss_ret (sd_op ob_ne (sd_fn (sa_cons (sd_op ob_ix sd_var sd_var) (sa_one (sd_op ob_ix sd_var sd_var)))) (sd_if (st_tTest (sd_op ob_eq sd_var sd_var)) (sd_c T.r_ONE) (sd_c T.r_ZERO))))
  have h1 : FnOk P w K mg base CX0 6 T.a_slants T.f_slants ["columns", "i", "j"] (spP K (runD 3 3 sm_slants)) := by
    refine fn_pure (k := 5) (N := n_slants) (ps := ["columns", "i", "j"]) T.F_slants sc_slants (by decide) hs fun cdv A outer s H E hr => ?_
    have HU := hu64 hr
    have HU65 := hu65 hr
    have HU70 := hu70 hr
    have HR_mirror_product : Room 5 _ := hr.mono (by decide)
    exact (pss_one (ps_ret (pe_cmpR (op_neD HU) (xe_call G_mirror_product HR_mirror_product (by rfl) T.g_mirror_product T.F_mirror_product.kp T.b_mirror_product (xa_cons (pe_ix ix_seq (pv 0) (pv 1) (fun _ _ => rfl)) (xa_cons (pe_ix ix_seq (pv 0) (pv 2) (fun _ _ => rfl)) pa_nil))) (pe_ifExp (pt_cmpR (op_eqD HU) (pv 1) (pv 2) (nomark _)) (pe_glob (by rfl) T.g_ONE (show RelV (.ref T.a_ONE) (.ref T.a_ONE) from rfl)) (pe_glob (by rfl) T.g_ZERO (show RelV (.ref T.a_ZERO) (.ref T.a_ZERO) from rfl))) (nomark _))))
  delta m_slants
  exact h1
theorem ok_least_slant (T : Tx K mg) : FnOk P w K mg base CX0 7 T.a_least_slant T.f_least_slant ["columns"] (spP K m_least_slant) := by
  have G_slants := ok_slants (P := P) (w := w) (base := base) T
  have hs : SdS K _ sm_least_slant := (ss_seq (ss_for (si_r1 (sa_one (sd_cb co_len (sa_one sd_var)))) sg_name (ss_for (si_r2 (sa_cons sd_var (sa_one (sd_cb co_len (sa_one sd_var))))) sg_name (ss_if (st_tru (sd_fn (sa_cons sd_var (sa_cons sd_var (sa_one sd_var))))) (ss_ret (sd_tup (sa_cons sd_var (sa_one sd_var)))) ss_next)))
      (ss_ret sd_non))
  have h1 : FnOk P w K mg base CX0 7 T.a_least_slant T.f_least_slant ["columns"] (spP K (runD 1 3 sm_least_slant)) := by
    refine fn_pure (k := 6) (N := n_least_slant) (ps := ["columns"]) T.F_least_slant sc_least_slant (by decide) hs fun cdv A outer s H E hr => ?_
    have HU := hu64 hr
    have HU65 := hu65 hr
    have HU70 := hu70 hr
    have HR_slants : Room 6 _ := hr.mono (by decide)
    refine (pss_cons ?_ ?_)
    · exact (ps_for PassesOwn.never rfl (pi_range1 (by rfl) T.m_range (xa_cons (xe_callB call_len_seq (by rfl) T.m_len bt_len (xa_cons (pv 0) pa_nil)) pa_nil)) (pg_name (i := 1) sc_least_slant.nd rfl (Or.inl rfl)) (pss_one (ps_for PassesOwn.never rfl (pi_range2 (by rfl) T.m_range (xa_cons (pv 1) (xa_cons (xe_callB call_len_seq (by rfl) T.m_len bt_len (xa_cons (pv 0) pa_nil)) pa_nil))) (pg_name (i := 2) sc_least_slant.nd rfl (Or.inl rfl)) (pss_one (ps_if (pt_truth (xe_call G_slants HR_slants (by rfl) T.g_slants T.F_slants.kp T.b_slants (xa_cons (pv 0) (xa_cons (pv 1) (xa_cons (pv 2) pa_nil)))) (by intro _; rfl)) (pss_one (ps_ret (pe_tupN (xa_cons (pv 1) (xa_cons (pv 2) pa_nil))))) pss_nil)))))
    · exact (pss_one (ps_ret pe_non))
  delta m_least_slant
  exact h1
theorem ok_is_upright (T : Tx K mg) : FnOk P w K mg base CX0 10 T.a_is_upright T.f_is_upright ["table"] (spP K m_is_upright) := by
  have G_frozen := ok_frozen (P := P) (w := w) (base := base) T
  have G_columns_of := ok_columns_of (P := P) (w := w) (base := base) T
  have G_sizes_make_one := ok_sizes_make_one (P := P) (w := w) (base := base) T
  have G_least_slant := ok_least_slant (P := P) (w := w) (base := base) T
  have hs : SdS K _ sm_is_upright := (ss_seq (ss_set (i := 1) (sd_fn (sa_one (sd_fn (sa_one sd_var)))))
      (ss_ret (sd_and (sd_cb co_all (sa_one (sd_lc (js := [2]) (si_any sd_var) sg_name st_yes' (sd_fn (sa_one sd_var)) (by decide)))) (sd_op ob_is (sd_fn (sa_one sd_var)) sd_non))))
  have h1 : FnOk P w K mg base CX0 10 T.a_is_upright T.f_is_upright ["table"] (spP K (runD 1 3 sm_is_upright)) := by
    refine fn_pure (k := 9) (N := n_is_upright) (ps := ["table"]) T.F_is_upright sc_is_upright (by decide) hs fun cdv A outer s H E hr => ?_
    have HU := hu64 hr
    have HU65 := hu65 hr
    have HU70 := hu70 hr
    have HR_frozen : Room 9 _ := hr.mono (by decide)
    have HR_columns_of : Room 1 _ := hr.mono (by decide)
    have HR_sizes_make_one : Room 5 _ := hr.mono (by decide)
    have HR_least_slant : Room 7 _ := hr.mono (by decide)
    refine (pss_cons ?_ ?_)
    · exact (ps_set (i := 1) sc_is_upright.nd rfl (Or.inl rfl) (xe_call G_columns_of HR_columns_of (by rfl) T.g_columns_of T.F_columns_of.kp T.b_columns_of (xa_cons (xe_call G_frozen HR_frozen (by rfl) T.g_frozen T.F_frozen.kp T.b_frozen (xa_cons (pv 0) pa_nil)) pa_nil)))
    · refine (pss_one ?_)
      · refine (ps_ret ?_)
        · refine (pe_andT ?_ ?_)
          · exact (xe_callB (cr_all rfl) (by rfl) T.m_all bt_all (xa_cons (pe_lc (own := [("column", 2)]) (g := (gName 2)) rfl sc_is_upright.nd (pi_any (pv 1)) (blkOk_by (N := n_is_upright) (sc := defScope s_is_upright) (by decide +kernel)) (fun _ _ _ _ _ => (pg_name (i := 2) sc_is_upright.nd rfl (by first | exact Or.inl rfl | exact Or.inr rfl))) (fun _ _ _ _ _ => pts_nil) (fun _ _ _ _ _ => (xe_call G_sizes_make_one HR_sizes_make_one (by rfl) T.g_sizes_make_one T.F_sizes_make_one.kp T.b_sizes_make_one (xa_cons (pv 2) pa_nil)))) pa_nil))
          · exact (pe_one (pe_cmpR op_isA (xe_call G_least_slant HR_least_slant (by rfl) T.g_least_slant T.F_least_slant.kp T.b_least_slant (xa_cons (pv 1) pa_nil)) pe_non (nomark _)))
  delta m_is_upright
  exact h1
theorem ok_power_of (T : Tx K mg) : FnOk P w K mg base CX0 1 T.a_power_of T.f_power_of ["rays"] (spP K m_power_of) := by
  have hs : SdS K _ sm_power_of := (ss_ret (sd_cb co_max (sa_one (sd_lc (js := [1]) (si_any sd_var) sg_name st_yes' (sd_op ob_ix sd_var sd_int) (by decide)))))
  have h1 : FnOk P w K mg base CX0 1 T.a_power_of T.f_power_of ["rays"] (spP K (runD 1 2 sm_power_of)) := by
    refine fn_pure (k := 0) (N := n_power_of) (ps := ["rays"]) T.F_power_of sc_power_of (by decide) hs fun cdv A outer s H E hr => ?_
    have HU := hu64 hr
    have HU65 := hu65 hr
    have HU70 := hu70 hr
    exact (pss_one (ps_ret (xe_callB (cr_max1 rfl HU) (by rfl) T.m_max bt_max (xa_cons (pe_lc (own := [("ray", 1)]) (g := (gName 1)) rfl sc_power_of.nd (pi_any (pv 0)) (blkOk_by (N := n_power_of) (sc := defScope s_power_of) (by decide +kernel)) (fun _ _ _ _ _ => (pg_name (i := 1) sc_power_of.nd rfl (by first | exact Or.inl rfl | exact Or.inr rfl))) (fun _ _ _ _ _ => pts_nil) (fun _ _ _ _ _ => (pe_ix ix_seq (pv 1) pe_int (fun _ _ => rfl)))) pa_nil))))
  delta m_power_of
  exact h1
theorem ok_least_power (T : Tx K mg) : FnOk P w K mg base CX0 2 T.a_least_power T.f_least_power ["table"] (spP K m_least_power) := by
  have G_power_of := ok_power_of (P := P) (w := w) (base := base) T
  have hs : SdS K _ sm_least_power := (ss_ret (sd_cb co_max (sa_one (sd_lc (js := [1]) (si_any sd_var) sg_name st_yes' (sd_fn (sa_one sd_var)) (by decide)))))
  have h1 : FnOk P w K mg base CX0 2 T.a_least_power T.f_least_power ["table"] (spP K (runD 1 2 sm_least_power)) := by
    refine fn_pure (k := 1) (N := n_least_power) (ps := ["table"]) T.F_least_power sc_least_power (by decide) hs fun cdv A outer s H E hr => ?_
    have HU := hu64 hr
    have HU65 := hu65 hr
    have HU70 := hu70 hr
    have HR_power_of : Room 1 _ := hr.mono (by decide)
    exact (pss_one (ps_ret (xe_callB (cr_max1 rfl HU) (by rfl) T.m_max bt_max (xa_cons (pe_lc (own := [("row", 1)]) (g := (gName 1)) rfl sc_least_power.nd (pi_any (pv 0)) (blkOk_by (N := n_least_power) (sc := defScope s_least_power) (by decide +kernel)) (fun _ _ _ _ _ => (pg_name (i := 1) sc_least_power.nd rfl (by first | exact Or.inl rfl | exact Or.inr rfl))) (fun _ _ _ _ _ => pts_nil) (fun _ _ _ _ _ => (xe_call G_power_of HR_power_of (by rfl) T.g_power_of T.F_power_of.kp T.b_power_of (xa_cons (pv 1) pa_nil)))) pa_nil))))
  delta m_least_power
  exact h1
theorem ok_quarter_tables (T : Tx K mg) : FnOk P w K mg base CX0 4 T.a_quarter_tables T.f_quarter_tables [] (spP K m_quarter_tables) := by
  have G_turned_ray := ok_turned_ray (P := P) (w := w) (base := base) T
  have G_over_root := ok_over_root (P := P) (w := w) (base := base) T
  have hs : SdS K _ sm_quarter_tables := (ss_seq (ss_set (i := 0) (sd_lst sa_nil))
      (ss_seq (ss_for (si_r1 (sa_one sd_int)) sg_name (ss_for (si_any (sd_tup (sa_cons sd_int (sa_cons sd_int (sa_cons sd_int (sa_one sd_int)))))) sg_name (ss_seq (ss_par (sa_cons (sd_fn (sa_cons (sd_c T.r_ONE) (sa_one sd_var))) (sa_one (sd_fn (sa_cons (sd_c T.r_ONE) (sa_one (sd_op ob_add sd_var sd_var)))))))
      (ss_seq (ss_ext (sd_lst (sa_cons (sd_tup (sa_cons (sd_tup (sa_cons sd_var (sa_one (sd_c T.r_ZERO)))) (sa_one (sd_tup (sa_cons (sd_c T.r_ZERO) (sa_one sd_var)))))) (sa_one (sd_tup (sa_cons (sd_tup (sa_cons (sd_c T.r_ZERO) (sa_one sd_var))) (sa_one (sd_tup (sa_cons sd_var (sa_one (sd_c T.r_ZERO)))))))))))
      (ss_for (si_any (sd_tup (sa_cons sd_int (sa_cons sd_int (sa_cons sd_int (sa_one sd_int)))))) sg_name (ss_seq (ss_set (i := 6) (sd_tup (sa_cons sd_var (sa_cons (sd_op ob_add sd_var sd_var) (sa_cons (sd_op ob_add sd_var sd_var) (sa_one (sd_op ob_add (sd_op ob_add (sd_op ob_add sd_var sd_var) sd_var) sd_int)))))))
      (ss_seq (ss_set (i := 7) (sd_lc (js := [8]) (si_any sd_var) sg_name st_yes' (sd_fn (sa_cons (sd_fn (sa_cons (sd_c T.r_ONE) (sa_one sd_var))) (sa_one sd_int))) (by decide)))
      (ss_app (sd_tup (sa_cons (sd_tup (sa_cons (sd_op ob_ix sd_var sd_int) (sa_one (sd_op ob_ix sd_var sd_int)))) (sa_one (sd_tup (sa_cons (sd_op ob_ix sd_var sd_int) (sa_one (sd_op ob_ix sd_var sd_int)))))))))))))))
      (ss_ret (sd_cb co_tuple (sa_one (sd_cb co_sorted (sa_one sd_var)))))))
  have h1 : FnOk P w K mg base CX0 4 T.a_quarter_tables T.f_quarter_tables [] (spP K (runD 0 9 sm_quarter_tables)) := by
    refine fn_pure (k := 3) (N := n_quarter_tables) (ps := []) T.F_quarter_tables sc_quarter_tables (by decide) hs fun cdv A outer s H E hr => ?_
    have HU := hu64 hr
    have HU65 := hu65 hr
    have HU70 := hu70 hr
    have HR_turned_ray : Room 1 _ := hr.mono (by decide)
    have HR_over_root : Room 3 _ := hr.mono (by decide)
    refine (pss_cons ?_ ?_)
    · exact (ps_set (i := 0) sc_quarter_tables.nd rfl (Or.inl rfl) (pe_lst pa_nil))
    · refine (pss_cons ?_ ?_)
      · refine (ps_for PassesOwn.never rfl ?_ ?_ ?_)
        · exact (pi_range1 (by rfl) T.m_range (xa_cons pe_int pa_nil))
        · exact (pg_name (i := 1) sc_quarter_tables.nd rfl (Or.inl rfl))
        · refine (pss_one ?_)
          · refine (ps_for PassesOwn.never rfl ?_ ?_ ?_)
            · exact (pi_any (pe_tupN (xa_cons pe_int (xa_cons pe_int (xa_cons pe_int (xa_cons pe_int pa_nil))))))
            · exact (pg_name (i := 2) sc_quarter_tables.nd rfl (Or.inl rfl))
            · refine (pss_cons ?_ ?_)
              · exact (ps_par (i := 3) (j := 4) (by rfl) sc_quarter_tables.nd rfl rfl (by decide) rfl rfl (xa_cons (xe_call G_turned_ray HR_turned_ray (by rfl) T.g_turned_ray T.F_turned_ray.kp T.b_turned_ray (xa_cons (pe_glob (by rfl) T.g_ONE (show RelV (.ref T.a_ONE) (.ref T.a_ONE) from rfl)) (xa_cons (pv 1) pa_nil))) (xa_cons (xe_call G_turned_ray HR_turned_ray (by rfl) T.g_turned_ray T.F_turned_ray.kp T.b_turned_ray (xa_cons (pe_glob (by rfl) T.g_ONE (show RelV (.ref T.a_ONE) (.ref T.a_ONE) from rfl)) (xa_cons (pe_op op_addA (pv 1) (pv 2)) pa_nil))) pa_nil)) (by rfl))
              · refine (pss_cons ?_ ?_)
                · exact (ps_expr (pe_bm PySem.F.plainAttrs_list PySem.F.slot_list_extend PySem.F.type_list_extend mt_extend (pv 0) (xa_cons (pe_lst (xa_cons (pe_tupN (xa_cons (pe_tupN (xa_cons (pv 3) (xa_cons (pe_glob (by rfl) T.g_ZERO (show RelV (.ref T.a_ZERO) (.ref T.a_ZERO) from rfl)) pa_nil))) (xa_cons (pe_tupN (xa_cons (pe_glob (by rfl) T.g_ZERO (show RelV (.ref T.a_ZERO) (.ref T.a_ZERO) from rfl)) (xa_cons (pv 4) pa_nil))) pa_nil))) (xa_cons (pe_tupN (xa_cons (pe_tupN (xa_cons (pe_glob (by rfl) T.g_ZERO (show RelV (.ref T.a_ZERO) (.ref T.a_ZERO) from rfl)) (xa_cons (pv 3) pa_nil))) (xa_cons (pe_tupN (xa_cons (pv 4) (xa_cons (pe_glob (by rfl) T.g_ZERO (show RelV (.ref T.a_ZERO) (.ref T.a_ZERO) from rfl)) pa_nil))) pa_nil))) pa_nil))) pa_nil)))
                · refine (pss_one ?_)
                  · refine (ps_for PassesOwn.never rfl ?_ ?_ ?_)
                    · exact (pi_any (pe_tupN (xa_cons pe_int (xa_cons pe_int (xa_cons pe_int (xa_cons pe_int pa_nil))))))
                    · exact (pg_name (i := 5) sc_quarter_tables.nd rfl (Or.inl rfl))
                    · refine (pss_cons ?_ ?_)
                      · exact (ps_set (i := 6) sc_quarter_tables.nd rfl (Or.inl rfl) (pe_tupN (xa_cons (pv 1) (xa_cons (pe_op op_addA (pv 1) (pv 2)) (xa_cons (pe_op op_addA (pv 1) (pv 5)) (xa_cons (pe_op op_addA (pe_op op_addA (pe_op op_addA (pv 1) (pv 2)) (pv 5)) pe_int) pa_nil))))))
                      · refine (pss_cons ?_ ?_)
                        · exact (ps_setLc (i := 7) (own := [("many", 8)]) (g := (gName 8)) rfl sc_quarter_tables.nd rfl rfl (sw_true rfl rfl rfl (by decide +kernel)) (pi_any (pv 6)) (blkOk_by (N := n_quarter_tables) (sc := defScope s_quarter_tables) (by decide +kernel)) (fun _ _ _ _ _ => (pg_name (i := 8) sc_quarter_tables.nd rfl (by first | exact Or.inl rfl | exact Or.inr rfl))) (fun _ _ _ _ _ => pts_nil) (fun _ _ _ _ _ => (xe_call G_over_root HR_over_root (by rfl) T.g_over_root T.F_over_root.kp T.b_over_root (xa_cons (xe_call G_turned_ray HR_turned_ray (by rfl) T.g_turned_ray T.F_turned_ray.kp T.b_turned_ray (xa_cons (pe_glob (by rfl) T.g_ONE (show RelV (.ref T.a_ONE) (.ref T.a_ONE) from rfl)) (xa_cons (pv 8) pa_nil))) (xa_cons pe_int pa_nil)))))
                        · exact (pss_one (ps_expr (pe_bm PySem.F.plainAttrs_list PySem.F.slot_list_append PySem.F.type_list_append mt_append (pv 0) (xa_cons (pe_tupN (xa_cons (pe_tupN (xa_cons (pe_ix ix_seq (pv 7) pe_int (fun _ _ => rfl)) (xa_cons (pe_ix ix_seq (pv 7) pe_int (fun _ _ => rfl)) pa_nil))) (xa_cons (pe_tupN (xa_cons (pe_ix ix_seq (pv 7) pe_int (fun _ _ => rfl)) (xa_cons (pe_ix ix_seq (pv 7) pe_int (fun _ _ => rfl)) pa_nil))) pa_nil))) pa_nil))))
      · exact (pss_one (ps_ret (xe_callT call_tuple_ofN (by rfl) T.m_tuple bt_tuple (xa_cons (xe_callB (cr_sortedD HU70) (by rfl) T.m_sorted bt_sorted (xa_cons (pv 0) pa_nil)) pa_nil))))
  delta m_quarter_tables
  exact h1
theorem ok_axis_tables (T : Tx K mg) : FnOk P w K mg base CX0 2 T.a_axis_tables T.f_axis_tables [] (spP K m_axis_tables) := by
  have G_turned_ray := ok_turned_ray (P := P) (w := w) (base := base) T
  have hs : SdS K _ sm_axis_tables := (ss_ret (sd_tup (sa_cons (sd_tup (sa_cons (sd_tup (sa_cons (sd_c T.r_ZERO) (sa_one (sd_c T.r_ONE)))) (sa_one (sd_tup (sa_cons (sd_c T.r_ONE) (sa_one (sd_c T.r_ZERO))))))) (sa_cons (sd_tup (sa_cons (sd_tup (sa_cons (sd_c T.r_ZERO) (sa_one (sd_fn (sa_cons (sd_c T.r_ONE) (sa_one sd_int)))))) (sa_one (sd_tup (sa_cons (sd_fn (sa_cons (sd_c T.r_ONE) (sa_one sd_int))) (sa_one (sd_c T.r_ZERO))))))) (sa_one (sd_tup (sa_cons (sd_tup (sa_cons (sd_c T.r_ONE) (sa_one (sd_c T.r_ZERO)))) (sa_one (sd_tup (sa_cons (sd_c T.r_ZERO) (sa_one (sd_fn (sa_cons (sd_c T.r_ONE) (sa_one sd_int))))))))))))))
  have h1 : FnOk P w K mg base CX0 2 T.a_axis_tables T.f_axis_tables [] (spP K (runD 0 0 sm_axis_tables)) := by
    refine fn_pure (k := 1) (N := n_axis_tables) (ps := []) T.F_axis_tables sc_axis_tables (by decide) hs fun cdv A outer s H E hr => ?_
    have HU := hu64 hr
    have HU65 := hu65 hr
    have HU70 := hu70 hr
    have HR_turned_ray : Room 1 _ := hr.mono (by decide)
    refine (pss_one ?_)
    · refine (ps_ret ?_)
      · refine (pe_tupN ?_)
        · refine (xa_cons ?_ ?_)
          · exact (pe_tupN (xa_cons (pe_tupN (xa_cons (pe_glob (by rfl) T.g_ZERO (show RelV (.ref T.a_ZERO) (.ref T.a_ZERO) from rfl)) (xa_cons (pe_glob (by rfl) T.g_ONE (show RelV (.ref T.a_ONE) (.ref T.a_ONE) from rfl)) pa_nil))) (xa_cons (pe_tupN (xa_cons (pe_glob (by rfl) T.g_ONE (show RelV (.ref T.a_ONE) (.ref T.a_ONE) from rfl)) (xa_cons (pe_glob (by rfl) T.g_ZERO (show RelV (.ref T.a_ZERO) (.ref T.a_ZERO) from rfl)) pa_nil))) pa_nil)))
          · refine (xa_cons ?_ ?_)
            · exact (pe_tupN (xa_cons (pe_tupN (xa_cons (pe_glob (by rfl) T.g_ZERO (show RelV (.ref T.a_ZERO) (.ref T.a_ZERO) from rfl)) (xa_cons (xe_call G_turned_ray HR_turned_ray (by rfl) T.g_turned_ray T.F_turned_ray.kp T.b_turned_ray (xa_cons (pe_glob (by rfl) T.g_ONE (show RelV (.ref T.a_ONE) (.ref T.a_ONE) from rfl)) (xa_cons pe_int pa_nil))) pa_nil))) (xa_cons (pe_tupN (xa_cons (xe_call G_turned_ray HR_turned_ray (by rfl) T.g_turned_ray T.F_turned_ray.kp T.b_turned_ray (xa_cons (pe_glob (by rfl) T.g_ONE (show RelV (.ref T.a_ONE) (.ref T.a_ONE) from rfl)) (xa_cons pe_int pa_nil))) (xa_cons (pe_glob (by rfl) T.g_ZERO (show RelV (.ref T.a_ZERO) (.ref T.a_ZERO) from rfl)) pa_nil))) pa_nil)))
            · exact (xa_cons (pe_tupN (xa_cons (pe_tupN (xa_cons (pe_glob (by rfl) T.g_ONE (show RelV (.ref T.a_ONE) (.ref T.a_ONE) from rfl)) (xa_cons (pe_glob (by rfl) T.g_ZERO (show RelV (.ref T.a_ZERO) (.ref T.a_ZERO) from rfl)) pa_nil))) (xa_cons (pe_tupN (xa_cons (pe_glob (by rfl) T.g_ZERO (show RelV (.ref T.a_ZERO) (.ref T.a_ZERO) from rfl)) (xa_cons (xe_call G_turned_ray HR_turned_ray (by rfl) T.g_turned_ray T.F_turned_ray.kp T.b_turned_ray (xa_cons (pe_glob (by rfl) T.g_ONE (show RelV (.ref T.a_ONE) (.ref T.a_ONE) from rfl)) (xa_cons pe_int pa_nil))) pa_nil))) pa_nil))) pa_nil)
  delta m_axis_tables
  exact h1
theorem ok_half_of_diagonal (T : Tx K mg) : FnOk P w K mg base CX0 5 T.a_half_of_diagonal T.f_half_of_diagonal ["table"] (spP K m_half_of_diagonal) := by
  have G_ray_sum := ok_ray_sum (P := P) (w := w) (base := base) T
  have G_over_root := ok_over_root (P := P) (w := w) (base := base) T
  have hs : SdS K _ sm_half_of_diagonal := (ss_ret (sd_fn (sa_cons (sd_fn (sa_cons (sd_op ob_ix (sd_op ob_ix sd_var sd_int) sd_int) (sa_one (sd_op ob_ix (sd_op ob_ix sd_var sd_int) sd_int)))) (sa_one sd_int))))
  have h1 : FnOk P w K mg base CX0 5 T.a_half_of_diagonal T.f_half_of_diagonal ["table"] (spP K (runD 1 1 sm_half_of_diagonal)) := by
    refine fn_pure (k := 4) (N := n_half_of_diagonal) (ps := ["table"]) T.F_half_of_diagonal sc_half_of_diagonal (by decide) hs fun cdv A outer s H E hr => ?_
    have HU := hu64 hr
    have HU65 := hu65 hr
    have HU70 := hu70 hr
    have HR_ray_sum : Room 4 _ := hr.mono (by decide)
    have HR_over_root : Room 3 _ := hr.mono (by decide)
    exact (pss_one (ps_ret (xe_call G_over_root HR_over_root (by rfl) T.g_over_root T.F_over_root.kp T.b_over_root (xa_cons (xe_call G_ray_sum HR_ray_sum (by rfl) T.g_ray_sum T.F_ray_sum.kp T.b_ray_sum (xa_cons (pe_ix ix_seq (pe_ix ix_seq (pv 0) pe_int (fun _ _ => rfl)) pe_int (fun _ _ => rfl)) (xa_cons (pe_ix ix_seq (pe_ix ix_seq (pv 0) pe_int (fun _ _ => rfl)) pe_int (fun _ _ => rfl)) pa_nil))) (xa_cons pe_int pa_nil)))))
  delta m_half_of_diagonal
  exact h1
theorem ok_axes_table (T : Tx K mg) : FnOk P w K mg base CX0 11 T.a_axes_table T.f_axes_table ["table"] (spP K m_axes_table) := by
  have G_table_mirrored := ok_table_mirrored (P := P) (w := w) (base := base) T
  have G_axis_tables := ok_axis_tables (P := P) (w := w) (base := base) T
  have G_table_product := ok_table_product (P := P) (w := w) (base := base) T
  have G_half_of_diagonal := ok_half_of_diagonal (P := P) (w := w) (base := base) T
  have hs : SdS K _ sm_axes_table := (ss_seq (ss_set (i := 1) (sd_fn (sa_one sd_var)))
      (ss_seq (ss_set (i := 2) (sd_fn sa_nil))
      (ss_seq (ss_set (i := 3) (sd_lc (js := [4]) (si_any sd_var) sg_name st_yes' (sd_fn (sa_cons (sd_fn (sa_cons sd_var (sa_one sd_var))) (sa_one sd_var))) (by decide)))
      (ss_ret (sd_cb co_tuple (sa_one (sd_lc (js := [4]) (si_any sd_var) sg_name st_yes' (sd_cb co_tuple (sa_one (sd_lc (js := [5]) (si_any sd_var) sg_name st_yes' (sd_fn (sa_one (sd_fn (sa_cons sd_var (sa_one sd_var))))) (by decide)))) (by decide))))))))
  have h1 : FnOk P w K mg base CX0 11 T.a_axes_table T.f_axes_table ["table"] (spP K (runD 1 6 sm_axes_table)) := by
    refine fn_pure (k := 10) (N := n_axes_table) (ps := ["table"]) T.F_axes_table sc_axes_table (by decide) hs fun cdv A outer s H E hr => ?_
    have HU := hu64 hr
    have HU65 := hu65 hr
    have HU70 := hu70 hr
    have HR_table_mirrored : Room 2 _ := hr.mono (by decide)
    have HR_axis_tables : Room 2 _ := hr.mono (by decide)
    have HR_table_product : Room 10 _ := hr.mono (by decide)
    have HR_half_of_diagonal : Room 5 _ := hr.mono (by decide)
    refine (pss_cons ?_ ?_)
    · exact (ps_set (i := 1) sc_axes_table.nd rfl (Or.inr rfl) (xe_call G_table_mirrored HR_table_mirrored (by rfl) T.g_table_mirrored T.F_table_mirrored.kp T.b_table_mirrored (xa_cons (pv 0) pa_nil)))
    · refine (pss_cons ?_ ?_)
      · exact (ps_set (i := 2) sc_axes_table.nd rfl (Or.inl rfl) (pe_call0 G_axis_tables HR_axis_tables (by rfl) T.g_axis_tables T.F_axis_tables.kp T.b_axis_tables .nil pass0))
      · refine (pss_cons ?_ ?_)
        · exact (ps_set (i := 3) sc_axes_table.nd rfl (Or.inr rfl) (pe_lc (own := [("axis", 4)]) (g := (gName 4)) rfl sc_axes_table.nd (pi_any (pv 2)) (blkOk_by (N := n_axes_table) (sc := defScope s_axes_table) (by decide +kernel)) (fun _ _ _ _ _ => (pg_name (i := 4) sc_axes_table.nd rfl (by first | exact Or.inl rfl | exact Or.inr rfl))) (fun _ _ _ _ _ => pts_nil) (fun _ _ _ _ _ => (xe_call G_table_product HR_table_product (by rfl) T.g_table_product T.F_table_product.kp T.b_table_product (xa_cons (xe_call G_table_product HR_table_product (by rfl) T.g_table_product T.F_table_product.kp T.b_table_product (xa_cons (pv 0) (xa_cons (pv 4) pa_nil))) (xa_cons (pv 1) pa_nil))))))
        · refine (pss_one ?_)
          · refine (ps_ret ?_)
            · refine (xe_callT call_tuple_ofN (by rfl) T.m_tuple bt_tuple ?_)
              · refine (xa_cons ?_ pa_nil)
                · exact (pe_lc (own := [("axis", 4)]) (g := (gName 4)) rfl sc_axes_table.nd (pi_any (pv 2)) (blkOk_by (N := n_axes_table) (sc := defScope s_axes_table) (by decide +kernel)) (fun _ _ _ _ _ => (pg_name (i := 4) sc_axes_table.nd rfl (by first | exact Or.inl rfl | exact Or.inr rfl))) (fun _ _ _ _ _ => pts_nil) (fun _ _ _ _ _ => (xe_callT call_tuple_ofN (by rfl) T.m_tuple bt_tuple (xa_cons (pe_lc (own := [("own", 5)]) (g := (gName 5)) rfl sc_axes_table.nd (pi_any (pv 3)) (blkOk_by (N := n_axes_table) (by kernel_rfl)) (fun _ _ _ _ _ => (pg_name (i := 5) sc_axes_table.nd rfl (by first | exact Or.inl rfl | exact Or.inr rfl))) (fun _ _ _ _ _ => pts_nil) (fun _ _ _ _ _ => (xe_call G_half_of_diagonal HR_half_of_diagonal (by rfl) T.g_half_of_diagonal T.F_half_of_diagonal.kp T.b_half_of_diagonal (xa_cons (xe_call G_table_product HR_table_product (by rfl) T.g_table_product T.F_table_product.kp T.b_table_product (xa_cons (pv 4) (xa_cons (pv 5) pa_nil))) pa_nil)))) pa_nil))))
  delta m_axes_table
  exact h1
theorem ok_axes_power (T : Tx K mg) : FnOk P w K mg base CX0 12 T.a_axes_power T.f_axes_power ["table"] (spP K m_axes_power) := by
  have G_axes_table := ok_axes_table (P := P) (w := w) (base := base) T
  have G_least_power := ok_least_power (P := P) (w := w) (base := base) T
  have hs : SdS K _ sm_axes_power := (ss_ret (sd_fn (sa_one (sd_fn (sa_one sd_var)))))
  have h1 : FnOk P w K mg base CX0 12 T.a_axes_power T.f_axes_power ["table"] (spP K (runD 1 1 sm_axes_power)) := by
    refine fn_pure (k := 11) (N := n_axes_power) (ps := ["table"]) T.F_axes_power sc_axes_power (by decide) hs fun cdv A outer s H E hr => ?_
    have HU := hu64 hr
    have HU65 := hu65 hr
    have HU70 := hu70 hr
    have HR_axes_table : Room 11 _ := hr.mono (by decide)
    have HR_least_power : Room 2 _ := hr.mono (by decide)
    exact (pss_one (ps_ret (xe_call G_least_power HR_least_power (by rfl) T.g_least_power T.F_least_power.kp T.b_least_power (xa_cons (xe_call G_axes_table HR_axes_table (by rfl) T.g_axes_table T.F_axes_table.kp T.b_axes_table (xa_cons (pv 0) pa_nil)) pa_nil))))
  delta m_axes_power
  exact h1
theorem ok_is_quarter (T : Tx K mg) : FnOk P w K mg base CX0 13 T.a_is_quarter T.f_is_quarter ["thing"] (spP K m_is_quarter) := by
  have G_is_table := ok_is_table (P := P) (w := w) (base := base) T
  have G_is_upright := ok_is_upright (P := P) (w := w) (base := base) T
  have G_axes_power := ok_axes_power (P := P) (w := w) (base := base) T
  have hs : SdS K _ sm_is_quarter := (ss_ret (sd_and (sd_fn (sa_one sd_var)) (sd_and (sd_op ob_eq (sd_cb co_len (sa_one sd_var)) sd_int) (sd_and (sd_fn (sa_one sd_var)) (sd_op ob_eq (sd_fn (sa_one sd_var)) sd_int)))))
  have h1 : FnOk P w K mg base CX0 13 T.a_is_quarter T.f_is_quarter ["thing"] (spP K (runD 1 1 sm_is_quarter)) := by
    refine fn_pure (k := 12) (N := n_is_quarter) (ps := ["thing"]) T.F_is_quarter sc_is_quarter (by decide) hs fun cdv A outer s H E hr => ?_
    have HU := hu64 hr
    have HU65 := hu65 hr
    have HU70 := hu70 hr
    have HR_is_table : Room 4 _ := hr.mono (by decide)
    have HR_is_upright : Room 10 _ := hr.mono (by decide)
    have HR_axes_power : Room 12 _ := hr.mono (by decide)
    exact (pss_one (ps_ret (pe_andT (xe_call G_is_table HR_is_table (by rfl) T.g_is_table T.F_is_table.kp T.b_is_table (xa_cons (pv 0) pa_nil)) (pe_andT (pe_cmpR (op_eqD HU) (xe_callB call_len_seq (by rfl) T.m_len bt_len (xa_cons (pv 0) pa_nil)) pe_int (nomark _)) (pe_andT (xe_call G_is_upright HR_is_upright (by rfl) T.g_is_upright T.F_is_upright.kp T.b_is_upright (xa_cons (pv 0) pa_nil)) (pe_one (pe_cmpR (op_eqD HU) (xe_call G_axes_power HR_axes_power (by rfl) T.g_axes_power T.F_axes_power.kp T.b_axes_power (xa_cons (pv 0) pa_nil)) pe_int (nomark _))))))))
  delta m_is_quarter
  exact h1
theorem ok_is_reading (T : Tx K mg) : FnOk P w K mg base CX0 14 T.a_is_reading T.f_is_reading ["thing"] (spP K m_is_reading) := by
  have G_is_below := ok_is_below (P := P) (w := w) (base := base) T
  have G_is_quarter := ok_is_quarter (P := P) (w := w) (base := base) T
  have hs : SdS K _ sm_is_reading := (ss_seq (ss_if (st_or (st_not (st_tru (sd_isi (t := .tuple) sd_var))) (st_tTest (sd_op ob_ne (sd_cb co_len (sa_one sd_var)) sd_int))) (ss_ret sd_bl) ss_next)
      (ss_seq (ss_asg sd_var (sg_any (sgs_cons sg_name (sgs_cons sg_name (sgs_cons sg_name sgs_nil)))))
      (ss_seq (ss_if (st_or (st_not (st_tru (sd_isi (t := .bool) sd_var))) (st_not (st_tru (sd_isi (t := .tuple) sd_var)))) (ss_ret sd_bl) ss_next)
      (ss_ret (sd_and (sd_cb co_all (sa_one (sd_lc (js := [4]) (si_any sd_var) sg_name st_yes' (sd_fn (sa_cons sd_var (sa_one sd_int))) (by decide)))) (sd_fn (sa_one sd_var)))))))
  have h1 : FnOk P w K mg base CX0 14 T.a_is_reading T.f_is_reading ["thing"] (spP K (runD 1 5 sm_is_reading)) := by
    refine fn_pure (k := 13) (N := n_is_reading) (ps := ["thing"]) T.F_is_reading sc_is_reading (by decide) hs fun cdv A outer s H E hr => ?_
    have HU := hu64 hr
    have HU65 := hu65 hr
    have HU70 := hu70 hr
    have HR_is_below : Room 2 _ := hr.mono (by decide)
    have HR_is_quarter : Room 13 _ := hr.mono (by decide)
    refine (pss_cons ?_ ?_)
    · exact (ps_if (PW.pt (pw_or (pt_not (pt_truth (xe_callB call_isi (by rfl) T.m_isinstance bt_isinstance (xa_cons (pv 0) (xa_cons (pe_bltn (v := .ty "tuple") (by rfl) T.m_tuple bt_tuple rfl) pa_nil))) (by intro _; rfl))) (pw_or1 (pt_cmpR (op_neD HU) (xe_callB call_len_seq (by rfl) T.m_len bt_len (xa_cons (pv 0) pa_nil)) pe_int (nomark _))))) (pss_one (ps_ret pe_bl)) pss_nil)
    · refine (pss_cons ?_ ?_)
      · exact (ps_asg (pv 0) (pg_any rfl (pgs_cons (pg_name (i := 1) sc_is_reading.nd rfl (Or.inl rfl)) (pgs_cons (pg_name (i := 2) sc_is_reading.nd rfl (Or.inl rfl)) (pgs_cons (pg_name (i := 3) sc_is_reading.nd rfl (Or.inl rfl)) pgs_nil)))))
      · refine (pss_cons ?_ ?_)
        · exact (ps_if (PW.pt (pw_or (pt_not (pt_truth (xe_callB call_isi (by rfl) T.m_isinstance bt_isinstance (xa_cons (pv 1) (xa_cons (pe_bltn (v := .ty "bool") (by rfl) T.m_bool bt_bool rfl) pa_nil))) (by intro _; rfl))) (pw_or1 (pt_not (pt_truth (xe_callB call_isi (by rfl) T.m_isinstance bt_isinstance (xa_cons (pv 2) (xa_cons (pe_bltn (v := .ty "tuple") (by rfl) T.m_tuple bt_tuple rfl) pa_nil))) (by intro _; rfl)))))) (pss_one (ps_ret pe_bl)) pss_nil)
        · exact (pss_one (ps_ret (pe_andT (xe_callB (cr_all rfl) (by rfl) T.m_all bt_all (xa_cons (pe_lc (own := [("step", 4)]) (g := (gName 4)) rfl sc_is_reading.nd (pi_any (pv 2)) (blkOk_by (N := n_is_reading) (sc := defScope s_is_reading) (by decide +kernel)) (fun _ _ _ _ _ => (pg_name (i := 4) sc_is_reading.nd rfl (by first | exact Or.inl rfl | exact Or.inr rfl))) (fun _ _ _ _ _ => pts_nil) (fun _ _ _ _ _ => (xe_call G_is_below HR_is_below (by rfl) T.g_is_below T.F_is_below.kp T.b_is_below (xa_cons (pv 4) (xa_cons pe_int pa_nil))))) pa_nil)) (pe_one (xe_call G_is_quarter HR_is_quarter (by rfl) T.g_is_quarter T.F_is_quarter.kp T.b_is_quarter (xa_cons (pv 3) pa_nil))))))
  delta m_is_reading
  exact h1
theorem ok_reading_letters (T : Tx K mg) : FnOk P w K mg base CX0 1 T.a_reading_letters T.f_reading_letters ["reading"] (spP K m_reading_letters) := by
  have hs : SdS K _ sm_reading_letters := (ss_seq (ss_asg sd_var (sg_any (sgs_cons sg_name (sgs_cons sg_name (sgs_cons sg_name sgs_nil)))))
      (ss_ret (sd_op ob_add (sd_if (st_tru sd_var) (sd_tup (sa_one sd_int)) (sd_tup sa_nil)) (sd_cb co_tuple (sa_one sd_var)))))
  have h1 : FnOk P w K mg base CX0 1 T.a_reading_letters T.f_reading_letters ["reading"] (spP K (runD 1 4 sm_reading_letters)) := by
    refine fn_pure (k := 0) (N := n_reading_letters) (ps := ["reading"]) T.F_reading_letters sc_reading_letters (by decide) hs fun cdv A outer s H E hr => ?_
    have HU := hu64 hr
    have HU65 := hu65 hr
    have HU70 := hu70 hr
    exact (pss_cons (ps_asg (pv 0) (pg_any rfl (pgs_cons (pg_name (i := 1) sc_reading_letters.nd rfl (Or.inl rfl)) (pgs_cons (pg_name (i := 2) sc_reading_letters.nd rfl (Or.inl rfl)) (pgs_cons (pg_name (i := 3) sc_reading_letters.nd rfl (Or.inl rfl)) pgs_nil))))) (pss_one (ps_ret (pe_op op_addA (pe_ifExp (pt_truth (pv 1) (by intro _; rfl)) (pe_tupN (xa_cons pe_int pa_nil)) (pe_tupN pa_nil)) (xe_callT call_tuple_ofN (by rfl) T.m_tuple bt_tuple (xa_cons (pv 2) pa_nil))))))
  delta m_reading_letters
  exact h1
theorem ok_reading_with (T : Tx K mg) : FnOk P w K mg base CX0 1 T.a_reading_with T.f_reading_with ["letters", "rest"] (spP K m_reading_with) := by
  have hs : SdS K _ sm_reading_with := (ss_seq (ss_set (i := 2) (sd_op ob_eq (sd_sl so_any sd_var so_no (so_part sd_int)) (sd_tup (sa_one sd_int))))
      (ss_ret (sd_tup (sa_cons sd_var (sa_cons (sd_if (st_tru sd_var) (sd_sl so_any sd_var (so_part sd_int) so_no) sd_var) (sa_one sd_var))))))
  have h1 : FnOk P w K mg base CX0 1 T.a_reading_with T.f_reading_with ["letters", "rest"] (spP K (runD 2 3 sm_reading_with)) := by
    refine fn_pure (k := 0) (N := n_reading_with) (ps := ["letters", "rest"]) T.F_reading_with sc_reading_with (by decide) hs fun cdv A outer s H E hr => ?_
    have HU := hu64 hr
    have HU65 := hu65 hr
    have HU70 := hu70 hr
    exact (pss_cons (ps_set (i := 2) sc_reading_with.nd rfl (Or.inl rfl) (pe_cmpR (op_eqD HU) (pe_slice sl_any (pv 0) po_none (po_some pe_int)) (pe_tupN (xa_cons pe_int pa_nil)) (nomark _))) (pss_one (ps_ret (pe_tupN (xa_cons (pv 2) (xa_cons (pe_ifExp (pt_truth (pv 2) (by intro _; rfl)) (pe_slice sl_any (pv 0) (po_some pe_int) po_none) (pv 0)) (xa_cons (pv 1) pa_nil)))))))
  delta m_reading_with
  exact h1
theorem ok_tables_many (T : Tx K mg) : FnOk P w K mg base CX0 1 T.a_tables_many T.f_tables_many ["many"] (spP K m_tables_many) := by
  have hs : SdS K _ sm_tables_many := (ss_ret (sd_if (st_tTest (sd_op ob_eq sd_var sd_int)) sd_int (sd_op ob_shl sd_int (sd_op ob_sub sd_var sd_int))))
  have h1 : FnOk P w K mg base CX0 1 T.a_tables_many T.f_tables_many ["many"] (spP K (runD 1 1 sm_tables_many)) := by
    refine fn_pure (k := 0) (N := n_tables_many) (ps := ["many"]) T.F_tables_many sc_tables_many (by decide) hs fun cdv A outer s H E hr => ?_
    have HU := hu64 hr
    have HU65 := hu65 hr
    have HU70 := hu70 hr
    exact (pss_one (ps_ret (pe_ifExp (pt_cmpR (op_eqD HU) (pv 0) pe_int (nomark _)) pe_int (pe_op op_shlW pe_int (pe_op op_sub (pv 0) pe_int)))))
  delta m_tables_many
  exact h1
theorem ok_near_many (T : Tx K mg) : FnOk P w K mg base CX0 1 T.a_near_many T.f_near_many ["many"] (spP K m_near_many) := by
  have hs : SdS K _ sm_near_many := (ss_ret (sd_op ob_sub (sd_op ob_shl sd_int sd_var) sd_int))
  have h1 : FnOk P w K mg base CX0 1 T.a_near_many T.f_near_many ["many"] (spP K (runD 1 1 sm_near_many)) := by
    refine fn_pure (k := 0) (N := n_near_many) (ps := ["many"]) T.F_near_many sc_near_many (by decide) hs fun cdv A outer s H E hr => ?_
    have HU := hu64 hr
    have HU65 := hu65 hr
    have HU70 := hu70 hr
    exact (pss_one (ps_ret (pe_op op_sub (pe_op op_shlW pe_int (pv 0)) pe_int)))
  delta m_near_many
  exact h1
theorem ok_tables_at_most (T : Tx K mg) : FnOk P w K mg base CX0 2 T.a_tables_at_most T.f_tables_at_most ["many"] (spP K m_tables_at_most) := by
  have G_near_many := ok_near_many (P := P) (w := w) (base := base) T
  have hs : SdS K _ sm_tables_at_most := (ss_ret (sd_op ob_mul sd_int (sd_fn (sa_one sd_var))))
  have h1 : FnOk P w K mg base CX0 2 T.a_tables_at_most T.f_tables_at_most ["many"] (spP K (runD 1 1 sm_tables_at_most)) := by
    refine fn_pure (k := 1) (N := n_tables_at_most) (ps := ["many"]) T.F_tables_at_most sc_tables_at_most (by decide) hs fun cdv A outer s H E hr => ?_
    have HU := hu64 hr
    have HU65 := hu65 hr
    have HU70 := hu70 hr
    have HR_near_many : Room 1 _ := hr.mono (by decide)
    exact (pss_one (ps_ret (pe_op op_mulA pe_int (xe_call G_near_many HR_near_many (by rfl) T.g_near_many T.F_near_many.kp T.b_near_many (xa_cons (pv 0) pa_nil)))))
  delta m_tables_at_most
  exact h1
theorem ok_letters_by_number (T : Tx K mg) : FnOk P w K mg base CX0 1 T.a_letters_by_number T.f_letters_by_number ["length", "number"] (spP K m_letters_by_number) := by
  have hs : SdS K _ sm_letters_by_number := (ss_seq (ss_if (st_tTest (sd_op ob_eq sd_var sd_int)) (ss_ret (sd_tup sa_nil)) ss_next)
      (ss_seq (ss_set (i := 2) (sd_lc (js := [3]) (si_r1 (sa_one (sd_op ob_sub sd_var sd_int))) sg_name st_yes' (sd_op ob_and (sd_op ob_shr sd_var sd_var) sd_int) (by decide)))
      (ss_ret (sd_op ob_add (sd_tup (sa_one (sd_op ob_shr sd_var (sd_op ob_sub sd_var sd_int)))) (sd_cb co_tuple (sa_one (sd_revL sd_var)))))))
  have h1 : FnOk P w K mg base CX0 1 T.a_letters_by_number T.f_letters_by_number ["length", "number"] (spP K (runD 2 4 sm_letters_by_number)) := by
    refine fn_pure (k := 0) (N := n_letters_by_number) (ps := ["length", "number"]) T.F_letters_by_number sc_letters_by_number (by decide) hs fun cdv A outer s H E hr => ?_
    have HU := hu64 hr
    have HU65 := hu65 hr
    have HU70 := hu70 hr
    refine (pss_cons ?_ ?_)
    · exact (ps_if (pt_cmpR (op_eqD HU) (pv 0) pe_int (nomark _)) (pss_one (ps_ret (pe_tupN pa_nil))) pss_nil)
    · refine (pss_cons ?_ ?_)
      · exact (ps_setLc (i := 2) (own := [("at", 3)]) (g := (gName 3)) rfl sc_letters_by_number.nd rfl rfl (sw_true rfl rfl rfl (by decide +kernel)) (pi_range1 (by rfl) T.m_range (xa_cons (pe_op op_sub (pv 0) pe_int) pa_nil)) (blkOk_by (N := n_letters_by_number) (sc := defScope s_letters_by_number) (by decide +kernel)) (fun _ _ _ _ _ => (pg_name (i := 3) sc_letters_by_number.nd rfl (by first | exact Or.inl rfl | exact Or.inr rfl))) (fun _ _ _ _ _ => pts_nil) (fun _ _ _ _ _ => (pe_op op_and (pe_op op_shr (pv 1) (pv 3)) pe_int)))
      · exact (pss_one (ps_ret (pe_op op_addA (pe_tupN (xa_cons (pe_op op_shr (pv 1) (pe_op op_sub (pv 0) pe_int)) pa_nil)) (xe_callT call_tuple_ofN (by rfl) T.m_tuple bt_tuple (xa_cons (pe_revL (pv 2)) pa_nil)))))
  delta m_letters_by_number
  exact h1
theorem ok_number_of_letters (T : Tx K mg) : FnOk P w K mg base CX0 1 T.a_number_of_letters T.f_number_of_letters ["letters"] (spP K m_number_of_letters) := by
  have hs : SdS K _ sm_number_of_letters := (ss_seq (ss_set (i := 1) sd_int)
      (ss_seq (ss_for (si_any sd_var) sg_name (ss_set (i := 1) (sd_op ob_add (sd_op ob_mul sd_int sd_var) sd_var)))
      (ss_ret sd_var)))
  have h1 : FnOk P w K mg base CX0 1 T.a_number_of_letters T.f_number_of_letters ["letters"] (spP K (runD 1 3 sm_number_of_letters)) := by
    refine fn_pure (k := 0) (N := n_number_of_letters) (ps := ["letters"]) T.F_number_of_letters sc_number_of_letters (by decide) hs fun cdv A outer s H E hr => ?_
    have HU := hu64 hr
    have HU65 := hu65 hr
    have HU70 := hu70 hr
    exact (pss_cons (ps_set (i := 1) sc_number_of_letters.nd rfl (Or.inl rfl) pe_int) (pss_cons (ps_for PassesOwn.never rfl (pi_any (pv 0)) (pg_name (i := 2) sc_number_of_letters.nd rfl (Or.inl rfl)) (pss_one (ps_set (i := 1) sc_number_of_letters.nd rfl (Or.inl rfl) (pe_op op_addA (pe_op op_mulA pe_int (pv 1)) (pv 2))))) (pss_one (ps_ret (pv 1)))))
  delta m_number_of_letters
  exact h1
theorem ok_reading_by_number (T : Tx K mg) : FnOk P w K mg base CX0 5 T.a_reading_by_number T.f_reading_by_number ["number"] (spP K m_reading_by_number) := by
  have G_tables_many := ok_tables_many (P := P) (w := w) (base := base) T
  have G_letters_by_number := ok_letters_by_number (P := P) (w := w) (base := base) T
  have G_quarter_tables := ok_quarter_tables (P := P) (w := w) (base := base) T
  have G_reading_with := ok_reading_with (P := P) (w := w) (base := base) T
  have hs : SdS K _ sm_reading_by_number := (ss_seq (ss_set (i := 1) sd_int)
      (ss_seq (ss_set (i := 2) sd_var)
      (ss_seq (ss_while (st_tTest (sd_op ob_ge sd_var (sd_fn (sa_one sd_var)))) (ss_seq (ss_aug (sd_fn (sa_one sd_var)))
      (ss_aug sd_int)))
      (ss_ret (sd_fn (sa_cons (sd_fn (sa_cons sd_var (sa_one (sd_op ob_fdiv sd_var sd_int)))) (sa_one (sd_op ob_ix (sd_fn sa_nil) (sd_op ob_mod sd_var sd_int)))))))))
  have h1 : FnOk P w K mg base CX0 5 T.a_reading_by_number T.f_reading_by_number ["number"] (spP K (runD 1 3 sm_reading_by_number)) := by
    refine fn_pure (k := 4) (N := n_reading_by_number) (ps := ["number"]) T.F_reading_by_number sc_reading_by_number (by decide) hs fun cdv A outer s H E hr => ?_
    have HU := hu64 hr
    have HU65 := hu65 hr
    have HU70 := hu70 hr
    have HR_tables_many : Room 1 _ := hr.mono (by decide)
    have HR_letters_by_number : Room 1 _ := hr.mono (by decide)
    have HR_quarter_tables : Room 4 _ := hr.mono (by decide)
    have HR_reading_with : Room 1 _ := hr.mono (by decide)
    refine (pss_cons ?_ ?_)
    · exact (ps_set (i := 1) sc_reading_by_number.nd rfl (Or.inl rfl) pe_int)
    · refine (pss_cons ?_ ?_)
      · exact (ps_set (i := 2) sc_reading_by_number.nd rfl (Or.inl rfl) (pv 0))
      · refine (pss_cons ?_ ?_)
        · exact (ps_while PassesOwn.never (pt_cmpR op_ge (pv 2) (xe_call G_tables_many HR_tables_many (by rfl) T.g_tables_many T.F_tables_many.kp T.b_tables_many (xa_cons (pv 1) pa_nil)) (nomark _)) (pss_cons (ps_aug (i := 2) sc_reading_by_number.nd rfl (Or.inl rfl) (xe_call G_tables_many HR_tables_many (by rfl) T.g_tables_many T.F_tables_many.kp T.b_tables_many (xa_cons (pv 1) pa_nil)) ip_sub) (pss_one (ps_aug (i := 1) sc_reading_by_number.nd rfl (Or.inl rfl) pe_int ip_add))))
        · exact (pss_one (ps_ret (xe_call G_reading_with HR_reading_with (by rfl) T.g_reading_with T.F_reading_with.kp T.b_reading_with (xa_cons (xe_call G_letters_by_number HR_letters_by_number (by rfl) T.g_letters_by_number T.F_letters_by_number.kp T.b_letters_by_number (xa_cons (pv 1) (xa_cons (pe_op op_fdiv (pv 2) pe_int) pa_nil))) (xa_cons (pe_ix ix_seq (pe_call0 G_quarter_tables HR_quarter_tables (by rfl) T.g_quarter_tables T.F_quarter_tables.kp T.b_quarter_tables .nil pass0) (pe_op op_mod (pv 2) pe_int) (fun _ _ => rfl)) pa_nil)))))
  delta m_reading_by_number
  exact h1
theorem ok_number_of_reading (T : Tx K mg) : FnOk P w K mg base CX0 10 T.a_number_of_reading T.f_number_of_reading ["reading"] (spP K m_number_of_reading) := by
  have G_reading_letters := ok_reading_letters (P := P) (w := w) (base := base) T
  have G_tables_at_most := ok_tables_at_most (P := P) (w := w) (base := base) T
  have G_number_of_letters := ok_number_of_letters (P := P) (w := w) (base := base) T
  have G_quarter_tables := ok_quarter_tables (P := P) (w := w) (base := base) T
  have G_frozen := ok_frozen (P := P) (w := w) (base := base) T
  have hs : SdS K _ sm_number_of_reading := (ss_seq (ss_set (i := 1) (sd_fn (sa_one sd_var)))
      (ss_seq (ss_set (i := 2) (sd_if (st_tTest (sd_op ob_gt (sd_cb co_len (sa_one sd_var)) sd_int)) (sd_fn (sa_one (sd_op ob_sub (sd_cb co_len (sa_one sd_var)) sd_int))) sd_int))
      (ss_ret (sd_op ob_add (sd_op ob_add sd_var (sd_op ob_mul sd_int (sd_fn (sa_one sd_var)))) (sd_tidx (sd_fn sa_nil) (sd_fn (sa_one (sd_op ob_ix sd_var sd_int))))))))
  have h1 : FnOk P w K mg base CX0 10 T.a_number_of_reading T.f_number_of_reading ["reading"] (spP K (runD 1 3 sm_number_of_reading)) := by
    refine fn_pure (k := 9) (N := n_number_of_reading) (ps := ["reading"]) T.F_number_of_reading sc_number_of_reading (by decide) hs fun cdv A outer s H E hr => ?_
    have HU := hu64 hr
    have HU65 := hu65 hr
    have HU70 := hu70 hr
    have HR_reading_letters : Room 1 _ := hr.mono (by decide)
    have HR_tables_at_most : Room 2 _ := hr.mono (by decide)
    have HR_number_of_letters : Room 1 _ := hr.mono (by decide)
    have HR_quarter_tables : Room 4 _ := hr.mono (by decide)
    have HR_frozen : Room 9 _ := hr.mono (by decide)
    refine (pss_cons ?_ ?_)
    · exact (ps_set (i := 1) sc_number_of_reading.nd rfl (Or.inl rfl) (xe_call G_reading_letters HR_reading_letters (by rfl) T.g_reading_letters T.F_reading_letters.kp T.b_reading_letters (xa_cons (pv 0) pa_nil)))
    · refine (pss_cons ?_ ?_)
      · exact (ps_set (i := 2) sc_number_of_reading.nd rfl (Or.inl rfl) (pe_ifExp (pt_cmpR op_gt (xe_callB call_len_seq (by rfl) T.m_len bt_len (xa_cons (pv 1) pa_nil)) pe_int (nomark _)) (xe_call G_tables_at_most HR_tables_at_most (by rfl) T.g_tables_at_most T.F_tables_at_most.kp T.b_tables_at_most (xa_cons (pe_op op_sub (xe_callB call_len_seq (by rfl) T.m_len bt_len (xa_cons (pv 1) pa_nil)) pe_int) pa_nil)) pe_int))
      · exact (pss_one (ps_ret (pe_op op_addA (pe_op op_addA (pv 2) (pe_op op_mulA pe_int (xe_call G_number_of_letters HR_number_of_letters (by rfl) T.g_number_of_letters T.F_number_of_letters.kp T.b_number_of_letters (xa_cons (pv 1) pa_nil)))) (pe_tm PySem.F.slot_tuple_index PySem.F.type_tuple_index (mt_tindexD HU65) (pe_call0 G_quarter_tables HR_quarter_tables (by rfl) T.g_quarter_tables T.F_quarter_tables.kp T.b_quarter_tables .nil pass0) (xa_cons (xe_call G_frozen HR_frozen (by rfl) T.g_frozen T.F_frozen.kp T.b_frozen (xa_cons (pe_ix ix_seq (pv 0) pe_int (fun _ _ => rfl)) pa_nil)) pa_nil)))))
  delta m_number_of_reading
  exact h1
theorem ok_next_reading (T : Tx K mg) : FnOk P w K mg base CX0 11 T.a_next_reading T.f_next_reading ["reading"] (spP K m_next_reading) := by
  have G_number_of_reading := ok_number_of_reading (P := P) (w := w) (base := base) T
  have G_reading_by_number := ok_reading_by_number (P := P) (w := w) (base := base) T
  have hs : SdS K _ sm_next_reading := (ss_ret (sd_fn (sa_one (sd_op ob_add (sd_fn (sa_one sd_var)) sd_int))))
  have h1 : FnOk P w K mg base CX0 11 T.a_next_reading T.f_next_reading ["reading"] (spP K (runD 1 1 sm_next_reading)) := by
    refine fn_pure (k := 10) (N := n_next_reading) (ps := ["reading"]) T.F_next_reading sc_next_reading (by decide) hs fun cdv A outer s H E hr => ?_
    have HU := hu64 hr
    have HU65 := hu65 hr
    have HU70 := hu70 hr
    have HR_number_of_reading : Room 10 _ := hr.mono (by decide)
    have HR_reading_by_number : Room 5 _ := hr.mono (by decide)
    exact (pss_one (ps_ret (xe_call G_reading_by_number HR_reading_by_number (by rfl) T.g_reading_by_number T.F_reading_by_number.kp T.b_reading_by_number (xa_cons (pe_op op_addA (xe_call G_number_of_reading HR_number_of_reading (by rfl) T.g_number_of_reading T.F_number_of_reading.kp T.b_number_of_reading (xa_cons (pv 0) pa_nil)) pe_int) pa_nil))))
  delta m_next_reading
  exact h1
theorem ok_ulaw_box (T : Tx K mg) : FnOk P w K mg base CX0 1 T.a_ulaw_box T.f_ulaw_box ["script", "k"] (spP K m_ulaw_box) := by
  have hs : SdS K _ sm_ulaw_box := (ss_seq (ss_set (i := 2) (sd_if (st_tTest (sd_op ob_ltA sd_var (sd_cb co_len (sa_one sd_var)))) (sd_op ob_ix sd_var sd_var) sd_int))
      (ss_ret (sd_lst (sa_cons (sd_op ob_mul (sd_cb co_abs (sa_one sd_var)) (sd_cb co_int (sa_one (sd_op ob_ge (sd_cb co_abs (sa_one sd_var)) (sd_op ob_pow sd_int sd_int))))) (sa_cons (sd_op ob_add (sd_op ob_add (sd_op ob_mod (sd_cb co_int (sa_one sd_var)) sd_int) (sd_op ob_mul sd_int sd_var)) sd_int) (sa_one sd_int))))))
  have h1 : FnOk P w K mg base CX0 1 T.a_ulaw_box T.f_ulaw_box ["script", "k"] (spP K (runD 2 3 sm_ulaw_box)) := by
    refine fn_pure (k := 0) (N := n_ulaw_box) (ps := ["script", "k"]) T.F_ulaw_box sc_ulaw_box (by decide) hs fun cdv A outer s H E hr => ?_
    have HU := hu64 hr
    have HU65 := hu65 hr
    have HU70 := hu70 hr
    refine (pss_cons ?_ ?_)
    · exact (ps_set (i := 2) sc_ulaw_box.nd rfl (Or.inl rfl) (pe_ifExp (pt_cmpR (op_ltA HU) (pv 1) (xe_callB call_len_seq (by rfl) T.m_len bt_len (xa_cons (pv 0) pa_nil)) (nomark _)) (pe_ix ix_seq (pv 0) (pv 1) (fun _ _ => rfl)) pe_int))
    · exact (pss_one (ps_ret (pe_lst (xa_cons (pe_op op_mulA (xe_callB call_abs (by rfl) T.m_abs bt_abs (xa_cons (pv 2) pa_nil)) (xe_callT call_int1 (by rfl) T.m_int bt_int (xa_cons (pe_cmpR op_ge (xe_callB call_abs (by rfl) T.m_abs bt_abs (xa_cons (pv 2) pa_nil)) (pe_op op_pow pe_int pe_int) (nomark _)) pa_nil))) (xa_cons (pe_op op_addA (pe_op op_addA (pe_op op_mod (xe_callT call_int1 (by rfl) T.m_int bt_int (xa_cons (pv 2) pa_nil)) pe_int) (pe_op op_mulA pe_int (pv 1))) pe_int) (xa_cons pe_int pa_nil))))))
  delta m_ulaw_box
  exact h1
theorem ok_ulaw_take (T : Tx K mg) : FnOk P w K mg base CX0 1 T.a_ulaw_take T.f_ulaw_take ["tin", "below_so"] (spM K m_ulaw_take) := by
  have hs : SdS K _ sm_ulaw_take := (ss_seq (ss_if (st_tTest (sd_op ob_gt (sd_op ob_ix sd_var sd_int) sd_int)) (ss_seq (ss_set (i := 2) (sd_op ob_mod (sd_cb co_int (sa_one (sd_op ob_ix sd_var sd_int))) sd_var))
      (ss_seq (ss_sub (sd_op ob_fdiv (sd_op ob_ix sd_var sd_int) sd_var) sd_int)
      (ss_ret sd_var))) ss_next)
      (ss_seq (ss_sub (sd_op ob_add (sd_op ob_ix sd_var sd_int) sd_int) sd_int)
      (ss_seq (ss_set (i := 3) (sd_op ob_mod (sd_cb co_int (sa_one (sd_op ob_mul (sd_op ob_add (sd_op ob_ix sd_var sd_int) (sd_op ob_mul sd_int (sd_op ob_ix sd_var sd_int))) (sd_op ob_add sd_int (sd_op ob_ix sd_var sd_int))))) sd_int))
      (ss_seq (ss_set (i := 4) (sd_op ob_add (sd_op ob_mod (sd_cb co_int (sa_one sd_var)) sd_int) sd_int))
      (ss_seq (ss_set (i := 5) (sd_op ob_mod (sd_cb co_int (sa_one (sd_op ob_mul (sd_op ob_add (sd_op ob_add sd_var (sd_op ob_ix sd_var sd_int)) (sd_op ob_fdiv (sd_op ob_ix sd_var sd_int) sd_int)) sd_var))) sd_int))
      (ss_ret (sd_op ob_mod (sd_cb co_int (sa_one (sd_op ob_fdiv (sd_op ob_mod (sd_cb co_int (sa_one (sd_op ob_add (sd_op ob_mul sd_var sd_int) sd_var))) sd_int) sd_int))) sd_var)))))))
  have h1 : FnOk P w K mg base CX0 1 T.a_ulaw_take T.f_ulaw_take ["tin", "below_so"] (spM K (runM 2 6 sm_ulaw_take)) := by
    refine fn_mut (k := 0) (N := n_ulaw_take) (ps := ["tin", "below_so"]) T.F_ulaw_take sc_ulaw_take (by decide) hs fun cdv A outer s H E hr => ?_
    have HU := hu64 hr
    have HU65 := hu65 hr
    have HU70 := hu70 hr
    refine (pss_cons ?_ ?_)
    · exact (ps_if (pt_cmpR op_gt (pe_ix ix_seq (pv 0) pe_int (fun _ _ => rfl)) pe_int (nomark _)) (pss_cons (ps_set (i := 2) sc_ulaw_take.nd rfl (Or.inl rfl) (pe_op op_mod (xe_callT call_int1 (by rfl) T.m_int bt_int (xa_cons (pe_ix ix_seq (pv 0) pe_int (fun _ _ => rfl)) pa_nil)) (pv 1))) (pss_cons (ps_asg (pe_op op_fdiv (pe_ix ix_seq (pv 0) pe_int (fun _ _ => rfl)) (pv 1)) (pg_sub (pv 0) pe_int set_list)) (pss_one (ps_ret (pv 2))))) pss_nil)
    · refine (pss_cons ?_ ?_)
      · exact (ps_asg (pe_op op_addA (pe_ix ix_seq (pv 0) pe_int (fun _ _ => rfl)) pe_int) (pg_sub (pv 0) pe_int set_list))
      · refine (pss_cons ?_ ?_)
        · exact (ps_set (i := 3) sc_ulaw_take.nd rfl (Or.inl rfl) (pe_op op_mod (xe_callT call_int1 (by rfl) T.m_int bt_int (xa_cons (pe_op op_mulA (pe_op op_addA (pe_ix ix_seq (pv 0) pe_int (fun _ _ => rfl)) (pe_op op_mulA pe_int (pe_ix ix_seq (pv 0) pe_int (fun _ _ => rfl)))) (pe_op op_addA pe_int (pe_ix ix_seq (pv 0) pe_int (fun _ _ => rfl)))) pa_nil)) pe_int))
        · refine (pss_cons ?_ ?_)
          · exact (ps_set (i := 4) sc_ulaw_take.nd rfl (Or.inl rfl) (pe_op op_addA (pe_op op_mod (xe_callT call_int1 (by rfl) T.m_int bt_int (xa_cons (pv 3) pa_nil)) pe_int) pe_int))
          · exact (pss_cons (ps_set (i := 5) sc_ulaw_take.nd rfl (Or.inl rfl) (pe_op op_mod (xe_callT call_int1 (by rfl) T.m_int bt_int (xa_cons (pe_op op_mulA (pe_op op_addA (pe_op op_addA (pv 3) (pe_ix ix_seq (pv 0) pe_int (fun _ _ => rfl))) (pe_op op_fdiv (pe_ix ix_seq (pv 0) pe_int (fun _ _ => rfl)) pe_int)) (pv 4)) pa_nil)) pe_int)) (pss_one (ps_ret (pe_op op_mod (xe_callT call_int1 (by rfl) T.m_int bt_int (xa_cons (pe_op op_fdiv (pe_op op_mod (xe_callT call_int1 (by rfl) T.m_int bt_int (xa_cons (pe_op op_addA (pe_op op_mulA (pv 5) pe_int) (pv 3)) pa_nil)) pe_int) pe_int) pa_nil)) (pv 1)))))
  delta m_ulaw_take
  exact h1
theorem ok_ulaw_cells (T : Tx K mg) : FnOk P w K mg base CX0 1 T.a_ulaw_cells T.f_ulaw_cells ["script", "most_so"] (spP K m_ulaw_cells) := by
  have hs : SdS K _ sm_ulaw_cells := (ss_seq (ss_set (i := 2) (sd_or (sd_cb co_list (sa_one (sd_sl so_any sd_var so_no (so_part sd_var)))) (sd_lst (sa_one sd_int))))
      (ss_seq (ss_for (si_enum (sa_one (sd_sl so_any sd_var (so_part sd_var) (so_part sd_int)))) (sg_any (sgs_cons sg_name (sgs_cons sg_name sgs_nil))) (ss_seq (ss_set (i := 5) (sd_op ob_mod (sd_cb co_int (sa_one sd_var)) sd_var))
      (ss_sub (sd_op ob_add (sd_op ob_ix sd_var sd_var) (sd_op ob_mul sd_var (sd_op ob_add sd_var sd_int))) sd_var)))
      (ss_ret sd_var)))
  have h1 : FnOk P w K mg base CX0 1 T.a_ulaw_cells T.f_ulaw_cells ["script", "most_so"] (spP K (runD 2 6 sm_ulaw_cells)) := by
    refine fn_pure (k := 0) (N := n_ulaw_cells) (ps := ["script", "most_so"]) T.F_ulaw_cells sc_ulaw_cells (by decide) hs fun cdv A outer s H E hr => ?_
    have HU := hu64 hr
    have HU65 := hu65 hr
    have HU70 := hu70 hr
    refine (pss_cons ?_ ?_)
    · exact (ps_set (i := 2) sc_ulaw_cells.nd rfl (Or.inl rfl) (pe_orT (xe_callT call_list_of (by rfl) T.m_list bt_list (xa_cons (pe_slice sl_any (pv 0) po_none (po_some (pv 1))) pa_nil)) (pe_one (pe_lst (xa_cons pe_int pa_nil)))))
    · exact (pss_cons (ps_for PassesOwn.never rfl (pi_enum (by rfl) T.m_enumerate (xa_cons (pe_slice sl_any (pv 0) (po_some (pv 1)) (po_some pe_int)) pa_nil)) (pg_any rfl (pgs_cons (pg_name (i := 3) sc_ulaw_cells.nd rfl (Or.inl rfl)) (pgs_cons (pg_name (i := 4) sc_ulaw_cells.nd rfl (Or.inl rfl)) pgs_nil))) (pss_cons (ps_set (i := 5) sc_ulaw_cells.nd rfl (Or.inl rfl) (pe_op op_mod (xe_callT call_int1 (by rfl) T.m_int bt_int (xa_cons (pv 3) pa_nil)) (pv 1))) (pss_one (ps_asg (pe_op op_addA (pe_ix ix_seq (pv 2) (pv 5) (fun _ _ => rfl)) (pe_op op_mulA (pv 4) (pe_op op_addA (pv 3) pe_int))) (pg_sub (pv 2) (pv 5) set_list))))) (pss_one (ps_ret (pv 2))))
  delta m_ulaw_cells
  exact h1
theorem ok_ulaw_of (T : Tx K mg) : FnOk P w K mg base CX0 2 T.a_ulaw_of T.f_ulaw_of ["tin", "goods_so"] (spM K m_ulaw_of) := by
  have G_ulaw_take := ok_ulaw_take (P := P) (w := w) (base := base) T
  have hs : SdS K _ sm_ulaw_of := (ss_ret (sd_op ob_ix sd_var (sd_fnM (sa_cons sd_var (sa_one (sd_cb co_len (sa_one sd_var)))))))
  have h1 : FnOk P w K mg base CX0 2 T.a_ulaw_of T.f_ulaw_of ["tin", "goods_so"] (spM K (runM 2 2 sm_ulaw_of)) := by
    refine fn_mut (k := 1) (N := n_ulaw_of) (ps := ["tin", "goods_so"]) T.F_ulaw_of sc_ulaw_of (by decide) hs fun cdv A outer s H E hr => ?_
    have HU := hu64 hr
    have HU65 := hu65 hr
    have HU70 := hu70 hr
    have HR_ulaw_take : Room 1 _ := hr.mono (by decide)
    exact (pss_one (ps_ret (pe_ix ix_seq (pv 1) (xe_call G_ulaw_take HR_ulaw_take (by rfl) T.g_ulaw_take T.F_ulaw_take.kp T.b_ulaw_take (xa_cons (pv 0) (xa_cons (xe_callB call_len_seq (by rfl) T.m_len bt_len (xa_cons (pv 1) pa_nil)) pa_nil))) (fun _ _ => rfl))))
  delta m_ulaw_of
  exact h1
theorem okr_ulaw_lists (T : Tx K mg) : ∀ n : Nat, FnOk P w K mg base CX0 (n + 1) T.a_ulaw_lists T.f_ulaw_lists ["matter"] (spP K (mr_ulaw_lists n))
  | 0 => fn_void
  | n + 1 => by
    have G_ulaw_lists := okr_ulaw_lists T n
    have hs : SdS K _ (sm_ulaw_lists (mr_ulaw_lists n)) := (ss_ret (sd_if (st_tru (sd_isi2 (t := .list) (u := .tuple) sd_var)) (sd_lc (js := [1]) (si_any sd_var) sg_name st_yes' (sd_fn (sa_one sd_var)) (by decide)) sd_var))
    refine fn_pure T.F_ulaw_lists sc_ulaw_lists (by decide) hs fun cdv A outer s H E hr => ?_
    have HU := hu64 hr
    have HU65 := hu65 hr
    have HU70 := hu70 hr
    have HR_ulaw_lists := hr
    refine (pss_one ?_)
    · refine (ps_ret ?_)
      · refine (pe_ifExp ?_ ?_ ?_)
        · exact (pt_truth (xe_callB call_isiT (by rfl) T.m_isinstance bt_isinstance (xa_cons (pv 0) (xa_cons (pe_tup (xa_cons (pe_bltn (v := .ty "list") (by rfl) T.m_list bt_list rfl) (xa_cons (pe_bltn (v := .ty "tuple") (by rfl) T.m_tuple bt_tuple rfl) pa_nil))) pa_nil))) (by intro _; rfl))
        · exact (pe_lc (own := [("bit", 1)]) (g := (gName 1)) rfl sc_ulaw_lists.nd (pi_any (pv 0)) (blkOk_by (N := n_ulaw_lists) (sc := defScope s_ulaw_lists) (by decide +kernel)) (fun _ _ _ _ _ => (pg_name (i := 1) sc_ulaw_lists.nd rfl (by first | exact Or.inl rfl | exact Or.inr rfl))) (fun _ _ _ _ _ => pts_nil) (fun _ _ _ _ _ => (xe_call G_ulaw_lists HR_ulaw_lists (by rfl) T.g_ulaw_lists T.F_ulaw_lists.kp T.b_ulaw_lists (xa_cons (pv 1) pa_nil))))
        · exact (pv 0)
theorem ok_ulaw_lists (T : Tx K mg) : FnOk P w K mg base CX0 9 T.a_ulaw_lists T.f_ulaw_lists ["matter"] (spP K m_ulaw_lists) := okr_ulaw_lists T 8
theorem okr_ulaw_same (T : Tx K mg) : ∀ n : Nat, FnOk P w K mg base CX0 (n + 1) T.a_ulaw_same T.f_ulaw_same ["got", "due"] (spP K (mr_ulaw_same n))
  | 0 => fn_void
  | n + 1 => by
    have G_ulaw_same := okr_ulaw_same T n
    have hs : SdS K _ (sm_ulaw_same (mr_ulaw_same n)) := (ss_seq (ss_if (st_tru (sd_isi2 (t := .list) (u := .tuple) sd_var)) (ss_seq (ss_if (st_or (st_tTest (sd_op ob_ne (sd_isi (t := .list) sd_var) (sd_isi (t := .list) sd_var))) (st_tTest (sd_op ob_ne (sd_isi (t := .tuple) sd_var) (sd_isi (t := .tuple) sd_var)))) (ss_ret sd_bl) ss_next)
      (ss_ret (sd_and (sd_op ob_eq (sd_cb co_len (sa_one sd_var)) (sd_cb co_len (sa_one sd_var))) (sd_cb co_all (sa_one (sd_lc (js := [2, 3]) (si_zip (sa_cons sd_var (sa_one sd_var))) (sg_any (sgs_cons sg_name (sgs_cons sg_name sgs_nil))) st_yes' (sd_fn (sa_cons sd_var (sa_one sd_var))) (by decide))))))) ss_next)
      (ss_seq (ss_if (st_or (st_tTest (sd_op ob_is sd_var sd_non)) (st_tru (sd_isi2 (t := .bool) (u := .str) sd_var))) (ss_ret (sd_and (sd_op ob_eq sd_var sd_var) (sd_and (sd_op ob_eq (sd_isi (t := .bool) sd_var) (sd_isi (t := .bool) sd_var)) (sd_op ob_eq (sd_op ob_is sd_var sd_non) (sd_op ob_is sd_var sd_non))))) ss_next)
      (ss_ret (sd_and (sd_isi (t := .int) sd_var) (sd_and (sd_not (sd_isi (t := .bool) sd_var)) (sd_op ob_eq sd_var sd_var))))))
    refine fn_pure T.F_ulaw_same sc_ulaw_same (by decide) hs fun cdv A outer s H E hr => ?_
    have HU := hu64 hr
    have HU65 := hu65 hr
    have HU70 := hu70 hr
    have HR_ulaw_same := hr
    refine (pss_cons ?_ ?_)
    · refine (ps_if ?_ ?_ ?_)
      · exact (pt_truth (xe_callB call_isiT (by rfl) T.m_isinstance bt_isinstance (xa_cons (pv 1) (xa_cons (pe_tup (xa_cons (pe_bltn (v := .ty "list") (by rfl) T.m_list bt_list rfl) (xa_cons (pe_bltn (v := .ty "tuple") (by rfl) T.m_tuple bt_tuple rfl) pa_nil))) pa_nil))) (by intro _; rfl))
      · refine (pss_cons ?_ ?_)
        · refine (ps_if ?_ ?_ ?_)
          · exact (PW.pt (pw_or (pt_cmpR (op_neD HU) (xe_callB call_isi (by rfl) T.m_isinstance bt_isinstance (xa_cons (pv 0) (xa_cons (pe_bltn (v := .ty "list") (by rfl) T.m_list bt_list rfl) pa_nil))) (xe_callB call_isi (by rfl) T.m_isinstance bt_isinstance (xa_cons (pv 1) (xa_cons (pe_bltn (v := .ty "list") (by rfl) T.m_list bt_list rfl) pa_nil))) (nomark _)) (pw_or1 (pt_cmpR (op_neD HU) (xe_callB call_isi (by rfl) T.m_isinstance bt_isinstance (xa_cons (pv 0) (xa_cons (pe_bltn (v := .ty "tuple") (by rfl) T.m_tuple bt_tuple rfl) pa_nil))) (xe_callB call_isi (by rfl) T.m_isinstance bt_isinstance (xa_cons (pv 1) (xa_cons (pe_bltn (v := .ty "tuple") (by rfl) T.m_tuple bt_tuple rfl) pa_nil))) (nomark _)))))
          · exact (pss_one (ps_ret pe_bl))
          · exact pss_nil
        · refine (pss_one ?_)
          · refine (ps_ret ?_)
            · refine (pe_andT ?_ ?_)
              · exact (pe_cmpR (op_eqD HU) (xe_callB call_len_seq (by rfl) T.m_len bt_len (xa_cons (pv 0) pa_nil)) (xe_callB call_len_seq (by rfl) T.m_len bt_len (xa_cons (pv 1) pa_nil)) (nomark _))
              · refine (pe_one ?_)
                · refine (xe_callB (cr_all rfl) (by rfl) T.m_all bt_all ?_)
                  · exact (xa_cons (pe_lc (own := [("mine", 2), ("its", 3)]) (g := (gAny K 2 (gCons (gName 2) (gCons (gName 3) gNil)))) rfl sc_ulaw_same.nd (pi_zipK (by rfl) T.m_zip (xa_cons (pv 0) (xa_cons (pv 1) pa_nil))) (blkOk_by (N := n_ulaw_same) (sc := defScope s_ulaw_same) (by decide +kernel)) (fun _ _ _ _ _ => (pg_any rfl (pgs_cons (pg_name (i := 2) sc_ulaw_same.nd rfl (by first | exact Or.inl rfl | exact Or.inr rfl)) (pgs_cons (pg_name (i := 3) sc_ulaw_same.nd rfl (by first | exact Or.inl rfl | exact Or.inr rfl)) pgs_nil)))) (fun _ _ _ _ _ => pts_nil) (fun _ _ _ _ _ => (xe_call G_ulaw_same HR_ulaw_same (by rfl) T.g_ulaw_same T.F_ulaw_same.kp T.b_ulaw_same (xa_cons (pv 2) (xa_cons (pv 3) pa_nil))))) pa_nil)
      · exact pss_nil
    · refine (pss_cons ?_ ?_)
      · refine (ps_if ?_ ?_ ?_)
        · exact (PW.pt (pw_or (pt_cmpR op_isA (pv 1) pe_non (nomark _)) (pw_or1 (pt_truth (xe_callB call_isiT (by rfl) T.m_isinstance bt_isinstance (xa_cons (pv 1) (xa_cons (pe_tup (xa_cons (pe_bltn (v := .ty "bool") (by rfl) T.m_bool bt_bool rfl) (xa_cons (pe_bltn (v := .ty "str") (by rfl) T.m_str bt_str rfl) pa_nil))) pa_nil))) (by intro _; rfl)))))
        · exact (pss_one (ps_ret (pe_andT (pe_cmpR (op_eqD HU) (pv 0) (pv 1) (nomark _)) (pe_andT (pe_cmpR (op_eqD HU) (xe_callB call_isi (by rfl) T.m_isinstance bt_isinstance (xa_cons (pv 0) (xa_cons (pe_bltn (v := .ty "bool") (by rfl) T.m_bool bt_bool rfl) pa_nil))) (xe_callB call_isi (by rfl) T.m_isinstance bt_isinstance (xa_cons (pv 1) (xa_cons (pe_bltn (v := .ty "bool") (by rfl) T.m_bool bt_bool rfl) pa_nil))) (nomark _)) (pe_one (pe_cmpR (op_eqD HU) (pe_cmpR op_isA (pv 0) pe_non (nomark _)) (pe_cmpR op_isA (pv 1) pe_non (nomark _)) (nomark _)))))))
        · exact pss_nil
      · exact (pss_one (ps_ret (pe_andT (xe_callB call_isi (by rfl) T.m_isinstance bt_isinstance (xa_cons (pv 0) (xa_cons (pe_bltn (v := .ty "int") (by rfl) T.m_int bt_int rfl) pa_nil))) (pe_andT (pe_notT (xe_callB call_isi (by rfl) T.m_isinstance bt_isinstance (xa_cons (pv 0) (xa_cons (pe_bltn (v := .ty "bool") (by rfl) T.m_bool bt_bool rfl) pa_nil)))) (pe_one (pe_cmpR (op_eqD HU) (pv 0) (pv 1) (nomark _)))))))
theorem ok_ulaw_same (T : Tx K mg) : FnOk P w K mg base CX0 9 T.a_ulaw_same T.f_ulaw_same ["got", "due"] (spP K m_ulaw_same) := okr_ulaw_same T 8
theorem ok_ulaw_is_number (T : Tx K mg) : FnOk P w K mg base CX0 1 T.a_ulaw_is_number T.f_ulaw_is_number ["own"] (spP K m_ulaw_is_number) := by
  have hs : SdS K _ sm_ulaw_is_number := (ss_ret (sd_and (sd_isi (t := .int) sd_var) (sd_not (sd_isi (t := .bool) sd_var))))
  have h1 : FnOk P w K mg base CX0 1 T.a_ulaw_is_number T.f_ulaw_is_number ["own"] (spP K (runD 1 1 sm_ulaw_is_number)) := by
    refine fn_pure (k := 0) (N := n_ulaw_is_number) (ps := ["own"]) T.F_ulaw_is_number sc_ulaw_is_number (by decide) hs fun cdv A outer s H E hr => ?_
    have HU := hu64 hr
    have HU65 := hu65 hr
    have HU70 := hu70 hr
    exact (pss_one (ps_ret (pe_andT (xe_callB call_isi (by rfl) T.m_isinstance bt_isinstance (xa_cons (pv 0) (xa_cons (pe_bltn (v := .ty "int") (by rfl) T.m_int bt_int rfl) pa_nil))) (pe_one (pe_notT (xe_callB call_isi (by rfl) T.m_isinstance bt_isinstance (xa_cons (pv 0) (xa_cons (pe_bltn (v := .ty "bool") (by rfl) T.m_bool bt_bool rfl) pa_nil))))))))
  delta m_ulaw_is_number
  exact h1
theorem ok_ulaw_is_ray (T : Tx K mg) : FnOk P w K mg base CX0 2 T.a_ulaw_is_ray T.f_ulaw_is_ray ["own"] (spP K m_ulaw_is_ray) := by
  have G_ulaw_is_number := ok_ulaw_is_number (P := P) (w := w) (base := base) T
  have hs : SdS K _ sm_ulaw_is_ray := (ss_seq (ss_if (st_or (st_not (st_tru (sd_isi (t := .tuple) sd_var))) (st_or (st_tTest (sd_op ob_ne (sd_cb co_len (sa_one sd_var)) sd_int)) (st_or (st_not (st_tru (sd_cb co_all (sa_one (sd_lc (js := [1]) (si_any sd_var) sg_name st_yes' (sd_fn (sa_one sd_var)) (by decide)))))) (st_tTest (sd_op ob_ltA (sd_op ob_ix sd_var sd_int) sd_int))))) (ss_ret sd_bl) ss_next)
      (ss_seq (ss_if (st_tTest (sd_op ob_eq (sd_sl so_any sd_var so_no (so_part sd_int)) (sd_tup (sa_cons sd_int (sa_cons sd_int (sa_cons sd_int (sa_one sd_int))))))) (ss_ret (sd_op ob_eq (sd_op ob_ix sd_var sd_int) sd_int)) ss_next)
      (ss_ret (sd_or (sd_op ob_eq (sd_op ob_ix sd_var sd_int) sd_int) (sd_or (sd_op ob_eq (sd_op ob_mod (sd_op ob_add (sd_op ob_ix sd_var sd_int) (sd_op ob_ix sd_var sd_int)) sd_int) sd_int) (sd_op ob_eq (sd_op ob_mod (sd_op ob_add (sd_op ob_ix sd_var sd_int) (sd_op ob_ix sd_var sd_int)) sd_int) sd_int))))))
  have h1 : FnOk P w K mg base CX0 2 T.a_ulaw_is_ray T.f_ulaw_is_ray ["own"] (spP K (runD 1 2 sm_ulaw_is_ray)) := by
    refine fn_pure (k := 1) (N := n_ulaw_is_ray) (ps := ["own"]) T.F_ulaw_is_ray sc_ulaw_is_ray (by decide) hs fun cdv A outer s H E hr => ?_
    have HU := hu64 hr
    have HU65 := hu65 hr
    have HU70 := hu70 hr
    have HR_ulaw_is_number : Room 1 _ := hr.mono (by decide)
    refine (pss_cons ?_ ?_)
    · refine (ps_if ?_ ?_ ?_)
      · refine (PW.pt ?_)
        · refine (pw_or ?_ ?_)
          · exact (pt_not (pt_truth (xe_callB call_isi (by rfl) T.m_isinstance bt_isinstance (xa_cons (pv 0) (xa_cons (pe_bltn (v := .ty "tuple") (by rfl) T.m_tuple bt_tuple rfl) pa_nil))) (by intro _; rfl)))
          · refine (pw_or ?_ ?_)
            · exact (pt_cmpR (op_neD HU) (xe_callB call_len_seq (by rfl) T.m_len bt_len (xa_cons (pv 0) pa_nil)) pe_int (nomark _))
            · exact (pw_or (pt_not (pt_truth (xe_callB (cr_all rfl) (by rfl) T.m_all bt_all (xa_cons (pe_lc (own := [("bit", 1)]) (g := (gName 1)) rfl sc_ulaw_is_ray.nd (pi_any (pv 0)) (blkOk_by (N := n_ulaw_is_ray) (sc := defScope s_ulaw_is_ray) (by decide +kernel)) (fun _ _ _ _ _ => (pg_name (i := 1) sc_ulaw_is_ray.nd rfl (by first | exact Or.inl rfl | exact Or.inr rfl))) (fun _ _ _ _ _ => pts_nil) (fun _ _ _ _ _ => (xe_call G_ulaw_is_number HR_ulaw_is_number (by rfl) T.g_ulaw_is_number T.F_ulaw_is_number.kp T.b_ulaw_is_number (xa_cons (pv 1) pa_nil)))) pa_nil)) (by intro _; rfl))) (pw_or1 (pt_cmpR (op_ltA HU) (pe_ix ix_seq (pv 0) pe_int (fun _ _ => rfl)) pe_int (nomark _))))
      · exact (pss_one (ps_ret pe_bl))
      · exact pss_nil
    · refine (pss_cons ?_ ?_)
      · exact (ps_if (pt_cmpR (op_eqD HU) (pe_slice sl_any (pv 0) po_none (po_some pe_int)) (pe_tupN (xa_cons pe_int (xa_cons pe_int (xa_cons pe_int (xa_cons pe_int pa_nil))))) (nomark _)) (pss_one (ps_ret (pe_cmpR (op_eqD HU) (pe_ix ix_seq (pv 0) pe_int (fun _ _ => rfl)) pe_int (nomark _)))) pss_nil)
      · exact (pss_one (ps_ret (pe_orT (pe_cmpR (op_eqD HU) (pe_ix ix_seq (pv 0) pe_int (fun _ _ => rfl)) pe_int (nomark _)) (pe_orT (pe_cmpR (op_eqD HU) (pe_op op_mod (pe_op op_addA (pe_ix ix_seq (pv 0) pe_int (fun _ _ => rfl)) (pe_ix ix_seq (pv 0) pe_int (fun _ _ => rfl))) pe_int) pe_int (nomark _)) (pe_one (pe_cmpR (op_eqD HU) (pe_op op_mod (pe_op op_addA (pe_ix ix_seq (pv 0) pe_int (fun _ _ => rfl)) (pe_ix ix_seq (pv 0) pe_int (fun _ _ => rfl))) pe_int) pe_int (nomark _)))))))
  delta m_ulaw_is_ray
  exact h1
theorem ok_ulaw_place_state (T : Tx K mg) : FnOk P w K mg base CX0 1 T.a_ulaw_place_state T.f_ulaw_place_state ["size_so", "place_so"] (spP K m_ulaw_place_state) := by
  have hs : SdS K _ sm_ulaw_place_state := (ss_ret (sd_cb co_tuple (sa_one (sd_lc (js := [2]) (si_r1 (sa_one sd_var)) sg_name st_yes' (sd_if (st_tTest (sd_op ob_eq sd_var sd_var)) (sd_tup (sa_cons sd_int (sa_cons sd_int (sa_cons sd_int (sa_cons sd_int (sa_one sd_int)))))) (sd_tup (sa_cons sd_int (sa_cons sd_int (sa_cons sd_int (sa_cons sd_int (sa_one sd_int))))))) (by decide)))))
  have h1 : FnOk P w K mg base CX0 1 T.a_ulaw_place_state T.f_ulaw_place_state ["size_so", "place_so"] (spP K (runD 2 3 sm_ulaw_place_state)) := by
    refine fn_pure (k := 0) (N := n_ulaw_place_state) (ps := ["size_so", "place_so"]) T.F_ulaw_place_state sc_ulaw_place_state (by decide) hs fun cdv A outer s H E hr => ?_
    have HU := hu64 hr
    have HU65 := hu65 hr
    have HU70 := hu70 hr
    refine (pss_one ?_)
    · refine (ps_ret ?_)
      · refine (xe_callT call_tuple_ofN (by rfl) T.m_tuple bt_tuple ?_)
        · exact (xa_cons (pe_lc (own := [("k", 2)]) (g := (gName 2)) rfl sc_ulaw_place_state.nd (pi_range1 (by rfl) T.m_range (xa_cons (pv 0) pa_nil)) (blkOk_by (N := n_ulaw_place_state) (sc := defScope s_ulaw_place_state) (by decide +kernel)) (fun _ _ _ _ _ => (pg_name (i := 2) sc_ulaw_place_state.nd rfl (by first | exact Or.inl rfl | exact Or.inr rfl))) (fun _ _ _ _ _ => pts_nil) (fun _ _ _ _ _ => (pe_ifExp (pt_cmpR (op_eqD HU) (pv 2) (pv 1) (nomark _)) (pe_tupN (xa_cons pe_int (xa_cons pe_int (xa_cons pe_int (xa_cons pe_int (xa_cons pe_int pa_nil)))))) (pe_tupN (xa_cons pe_int (xa_cons pe_int (xa_cons pe_int (xa_cons pe_int (xa_cons pe_int pa_nil))))))))) pa_nil)
  delta m_ulaw_place_state
  exact h1
theorem ok_ulaw_unit (T : Tx K mg) : FnOk P w K mg base CX0 2 T.a_ulaw_unit T.f_ulaw_unit ["size_so"] (spP K m_ulaw_unit) := by
  have G_ulaw_place_state := ok_ulaw_place_state (P := P) (w := w) (base := base) T
  have hs : SdS K _ sm_ulaw_unit := (ss_ret (sd_cb co_tuple (sa_one (sd_lc (js := [1]) (si_r1 (sa_one sd_var)) sg_name st_yes' (sd_fn (sa_cons sd_var (sa_one sd_var))) (by decide)))))
  have h1 : FnOk P w K mg base CX0 2 T.a_ulaw_unit T.f_ulaw_unit ["size_so"] (spP K (runD 1 2 sm_ulaw_unit)) := by
    refine fn_pure (k := 1) (N := n_ulaw_unit) (ps := ["size_so"]) T.F_ulaw_unit sc_ulaw_unit (by decide) hs fun cdv A outer s H E hr => ?_
    have HU := hu64 hr
    have HU65 := hu65 hr
    have HU70 := hu70 hr
    have HR_ulaw_place_state : Room 1 _ := hr.mono (by decide)
    exact (pss_one (ps_ret (xe_callT call_tuple_ofN (by rfl) T.m_tuple bt_tuple (xa_cons (pe_lc (own := [("k", 1)]) (g := (gName 1)) rfl sc_ulaw_unit.nd (pi_range1 (by rfl) T.m_range (xa_cons (pv 0) pa_nil)) (blkOk_by (N := n_ulaw_unit) (sc := defScope s_ulaw_unit) (by decide +kernel)) (fun _ _ _ _ _ => (pg_name (i := 1) sc_ulaw_unit.nd rfl (by first | exact Or.inl rfl | exact Or.inr rfl))) (fun _ _ _ _ _ => pts_nil) (fun _ _ _ _ _ => (xe_call G_ulaw_place_state HR_ulaw_place_state (by rfl) T.g_ulaw_place_state T.F_ulaw_place_state.kp T.b_ulaw_place_state (xa_cons (pv 0) (xa_cons (pv 1) pa_nil))))) pa_nil))))
  delta m_ulaw_unit
  exact h1
theorem ok_ulaw_eighth_of (T : Tx K mg) : FnOk P w K mg base CX0 1 T.a_ulaw_eighth_of T.f_ulaw_eighth_of ["own"] (spP K m_ulaw_eighth_of) := by
  have hs : SdS K _ sm_ulaw_eighth_of := (ss_seq (ss_set (i := 1) (sd_lc (js := [2]) (si_r1 (sa_one sd_int)) sg_name (st_tTest (sd_op ob_ne (sd_op ob_ix sd_var sd_var) sd_int)) sd_var (by decide)))
      (ss_seq (ss_if (st_or (st_tTest (sd_op ob_ne (sd_cb co_len (sa_one sd_var)) sd_int)) (st_or (st_tTest (sd_op ob_ne (sd_op ob_ix sd_var sd_int) sd_int)) (st_tTest (sd_op ob_ne (sd_cb co_abs (sa_one (sd_op ob_ix sd_var (sd_op ob_ix sd_var sd_int)))) sd_int)))) (ss_ret sd_non) ss_next)
      (ss_ret (sd_if (st_tTest (sd_op ob_gt (sd_op ob_ix sd_var (sd_op ob_ix sd_var sd_int)) sd_int)) (sd_op ob_ix sd_var sd_int) (sd_op ob_add (sd_op ob_ix sd_var sd_int) sd_int)))))
  have h1 : FnOk P w K mg base CX0 1 T.a_ulaw_eighth_of T.f_ulaw_eighth_of ["own"] (spP K (runD 1 3 sm_ulaw_eighth_of)) := by
    refine fn_pure (k := 0) (N := n_ulaw_eighth_of) (ps := ["own"]) T.F_ulaw_eighth_of sc_ulaw_eighth_of (by decide) hs fun cdv A outer s H E hr => ?_
    have HU := hu64 hr
    have HU65 := hu65 hr
    have HU70 := hu70 hr
    refine (pss_cons ?_ ?_)
    · exact (ps_setLc (i := 1) (own := [("k", 2)]) (g := (gName 2)) rfl sc_ulaw_eighth_of.nd rfl rfl (sw_true rfl rfl rfl (by decide +kernel)) (pi_range1 (by rfl) T.m_range (xa_cons pe_int pa_nil)) (blkOk_by (N := n_ulaw_eighth_of) (sc := defScope s_ulaw_eighth_of) (by decide +kernel)) (fun _ _ _ _ _ => (pg_name (i := 2) sc_ulaw_eighth_of.nd rfl (by first | exact Or.inl rfl | exact Or.inr rfl))) (fun _ _ _ _ _ => (pts_one (pt_cmpR (op_neD HU) (pe_ix ix_seq (pv 0) (pv 2) (fun _ _ => rfl)) pe_int (nomark _)))) (fun _ _ _ _ _ => (pv 2)))
    · refine (pss_cons ?_ ?_)
      · exact (ps_if (PW.pt (pw_or (pt_cmpR (op_neD HU) (xe_callB call_len_seq (by rfl) T.m_len bt_len (xa_cons (pv 1) pa_nil)) pe_int (nomark _)) (pw_or (pt_cmpR (op_neD HU) (pe_ix ix_seq (pv 0) pe_int (fun _ _ => rfl)) pe_int (nomark _)) (pw_or1 (pt_cmpR (op_neD HU) (xe_callB call_abs (by rfl) T.m_abs bt_abs (xa_cons (pe_ix ix_seq (pv 0) (pe_ix ix_seq (pv 1) pe_int (fun _ _ => rfl)) (fun _ _ => rfl)) pa_nil)) pe_int (nomark _)))))) (pss_one (ps_ret pe_non)) pss_nil)
      · exact (pss_one (ps_ret (pe_ifExp (pt_cmpR op_gt (pe_ix ix_seq (pv 0) (pe_ix ix_seq (pv 1) pe_int (fun _ _ => rfl)) (fun _ _ => rfl)) pe_int (nomark _)) (pe_ix ix_seq (pv 1) pe_int (fun _ _ => rfl)) (pe_op op_addA (pe_ix ix_seq (pv 1) pe_int (fun _ _ => rfl)) pe_int))))
  delta m_ulaw_eighth_of
  exact h1
theorem ok_ulaw_is_quarter (T : Tx K mg) : FnOk P w K mg base CX0 2 T.a_ulaw_is_quarter T.f_ulaw_is_quarter ["table_so"] (spP K m_ulaw_is_quarter) := by
  have G_ulaw_eighth_of := ok_ulaw_eighth_of (P := P) (w := w) (base := base) T
  have hs : SdS K _ sm_ulaw_is_quarter := (ss_seq (ss_asg (sd_tup (sa_cons (sd_op ob_add (sd_op ob_ix sd_var sd_int) (sd_op ob_ix sd_var sd_int)) (sa_one (sd_tup (sa_cons sd_int (sa_cons sd_int (sa_cons sd_int (sa_cons sd_int (sa_one sd_int))))))))) (sg_any (sgs_cons sg_name (sgs_cons sg_name sgs_nil))))
      (ss_seq (ss_if (st_or (st_tTest (sd_chain ob_eq ob_eq (sd_op ob_ix sd_var sd_int) (sd_op ob_ix sd_var sd_int) sd_var)) (st_tTest (sd_chain ob_eq ob_eq (sd_op ob_ix sd_var sd_int) (sd_op ob_ix sd_var sd_int) sd_var))) (ss_seq (ss_set (i := 3) (sd_lc (js := [5]) (si_any sd_var) sg_name (st_tTest (sd_op ob_ne sd_var sd_var)) (sd_fn (sa_one sd_var)) (by decide)))
      (ss_ret (sd_and (sd_op ob_eq (sd_cb co_len (sa_one sd_var)) sd_int) (sd_and (sd_op ob_in sd_non sd_var) (sd_op ob_eq (sd_op ob_mod (sd_op ob_sub (sd_op ob_ix sd_var sd_int) (sd_op ob_ix sd_var sd_int)) sd_int) sd_int))))) ss_next)
      (ss_seq (ss_set (i := 3) (sd_lc (js := [5]) (si_any sd_var) sg_name st_yes' (sd_if (st_tTest (sd_op ob_eq (sd_op ob_ix sd_var sd_int) sd_int)) (sd_fn (sa_one (sd_op ob_add (sd_sl so_any sd_var so_no (so_part sd_int)) (sd_tup (sa_one sd_int))))) sd_non) (by decide)))
      (ss_seq (ss_if (st_tTest (sd_op ob_in sd_non sd_var)) (ss_ret sd_bl) ss_next)
      (ss_seq (ss_set (i := 4) (sd_lc (js := [5]) (si_any sd_var) sg_name st_yes' (sd_op ob_mod (sd_op ob_sub sd_var (sd_op ob_ix sd_var sd_int)) sd_int) (by decide)))
      (ss_ret (sd_and (sd_op ob_eq (sd_op ob_mod (sd_op ob_ix sd_var sd_int) sd_int) sd_int) (sd_and (sd_op ob_eq (sd_op ob_mod (sd_op ob_ix sd_var sd_int) sd_int) sd_int) (sd_op ob_eq (sd_op ob_mod (sd_op ob_add (sd_op ob_add (sd_op ob_ix sd_var sd_int) (sd_op ob_ix sd_var sd_int)) sd_int) sd_int) (sd_op ob_ix sd_var sd_int))))))))))
  have h1 : FnOk P w K mg base CX0 2 T.a_ulaw_is_quarter T.f_ulaw_is_quarter ["table_so"] (spP K (runD 1 6 sm_ulaw_is_quarter)) := by
    refine fn_pure (k := 1) (N := n_ulaw_is_quarter) (ps := ["table_so"]) T.F_ulaw_is_quarter sc_ulaw_is_quarter (by decide) hs fun cdv A outer s H E hr => ?_
    have HU := hu64 hr
    have HU65 := hu65 hr
    have HU70 := hu70 hr
    have HR_ulaw_eighth_of : Room 1 _ := hr.mono (by decide)
    refine (pss_cons ?_ ?_)
    · exact (ps_asg (pe_tupN (xa_cons (pe_op op_addA (pe_ix ix_seq (pv 0) pe_int (fun _ _ => rfl)) (pe_ix ix_seq (pv 0) pe_int (fun _ _ => rfl))) (xa_cons (pe_tupN (xa_cons pe_int (xa_cons pe_int (xa_cons pe_int (xa_cons pe_int (xa_cons pe_int pa_nil)))))) pa_nil))) (pg_any rfl (pgs_cons (pg_name (i := 1) sc_ulaw_is_quarter.nd rfl (Or.inl rfl)) (pgs_cons (pg_name (i := 2) sc_ulaw_is_quarter.nd rfl (Or.inr rfl)) pgs_nil))))
    · refine (pss_cons ?_ ?_)
      · refine (ps_if ?_ ?_ ?_)
        · exact (PW.pt (pw_or (pt_chain (op_eqD HU) (op_eqD HU) (pe_ix ix_seq (pv 1) pe_int (fun _ _ => rfl)) (pe_ix ix_seq (pv 1) pe_int (fun _ _ => rfl)) (pv 2)) (pw_or1 (pt_chain (op_eqD HU) (op_eqD HU) (pe_ix ix_seq (pv 1) pe_int (fun _ _ => rfl)) (pe_ix ix_seq (pv 1) pe_int (fun _ _ => rfl)) (pv 2)))))
        · refine (pss_cons ?_ ?_)
          · exact (ps_set (i := 3) sc_ulaw_is_quarter.nd rfl (Or.inr rfl) (pe_lc (own := [("own", 5)]) (g := (gName 5)) rfl sc_ulaw_is_quarter.nd (pi_any (pv 1)) (blkOk_by (N := n_ulaw_is_quarter) (sc := defScope s_ulaw_is_quarter) (by decide +kernel)) (fun _ _ _ _ _ => (pg_name (i := 5) sc_ulaw_is_quarter.nd rfl (by first | exact Or.inl rfl | exact Or.inr rfl))) (fun _ _ _ _ _ => (pts_one (pt_cmpR (op_neD HU) (pv 5) (pv 2) (nomark _)))) (fun _ _ _ _ _ => (xe_call G_ulaw_eighth_of HR_ulaw_eighth_of (by rfl) T.g_ulaw_eighth_of T.F_ulaw_eighth_of.kp T.b_ulaw_eighth_of (xa_cons (pv 5) pa_nil)))))
          · exact (pss_one (ps_ret (pe_andT (pe_cmpR (op_eqD HU) (xe_callB call_len_seq (by rfl) T.m_len bt_len (xa_cons (pv 3) pa_nil)) pe_int (nomark _)) (pe_andT (pe_cmpR op_notIn_seq pe_non (pv 3) (by rfl)) (pe_one (pe_cmpR (op_eqD HU) (pe_op op_mod (pe_op op_sub (pe_ix ix_seq (pv 3) pe_int (fun _ _ => rfl)) (pe_ix ix_seq (pv 3) pe_int (fun _ _ => rfl))) pe_int) pe_int (nomark _)))))))
        · exact pss_nil
      · refine (pss_cons ?_ ?_)
        · refine (ps_set (i := 3) sc_ulaw_is_quarter.nd rfl (Or.inr rfl) ?_)
          · exact (pe_lc (own := [("own", 5)]) (g := (gName 5)) rfl sc_ulaw_is_quarter.nd (pi_any (pv 1)) (blkOk_by (N := n_ulaw_is_quarter) (sc := defScope s_ulaw_is_quarter) (by decide +kernel)) (fun _ _ _ _ _ => (pg_name (i := 5) sc_ulaw_is_quarter.nd rfl (by first | exact Or.inl rfl | exact Or.inr rfl))) (fun _ _ _ _ _ => pts_nil) (fun _ _ _ _ _ => (pe_ifExp (pt_cmpR (op_eqD HU) (pe_ix ix_seq (pv 5) pe_int (fun _ _ => rfl)) pe_int (nomark _)) (xe_call G_ulaw_eighth_of HR_ulaw_eighth_of (by rfl) T.g_ulaw_eighth_of T.F_ulaw_eighth_of.kp T.b_ulaw_eighth_of (xa_cons (pe_op op_addA (pe_slice sl_any (pv 5) po_none (po_some pe_int)) (pe_tupN (xa_cons pe_int pa_nil))) pa_nil)) pe_non)))
        · refine (pss_cons ?_ ?_)
          · exact (ps_if (pt_cmpR op_in_seq pe_non (pv 3) (by rfl)) (pss_one (ps_ret pe_bl)) pss_nil)
          · refine (pss_cons ?_ ?_)
            · exact (ps_setLc (i := 4) (own := [("own", 5)]) (g := (gName 5)) rfl sc_ulaw_is_quarter.nd rfl rfl (sw_true rfl rfl rfl (by decide +kernel)) (pi_any (pv 3)) (blkOk_by (N := n_ulaw_is_quarter) (sc := defScope s_ulaw_is_quarter) (by decide +kernel)) (fun _ _ _ _ _ => (pg_name (i := 5) sc_ulaw_is_quarter.nd rfl (by first | exact Or.inl rfl | exact Or.inr rfl))) (fun _ _ _ _ _ => pts_nil) (fun _ _ _ _ _ => (pe_op op_mod (pe_op op_sub (pv 5) (pe_ix ix_seq (pv 3) pe_int (fun _ _ => rfl))) pe_int)))
            · exact (pss_one (ps_ret (pe_andT (pe_cmpR (op_eqD HU) (pe_op op_mod (pe_ix ix_seq (pv 4) pe_int (fun _ _ => rfl)) pe_int) pe_int (nomark _)) (pe_andT (pe_cmpR (op_eqD HU) (pe_op op_mod (pe_ix ix_seq (pv 4) pe_int (fun _ _ => rfl)) pe_int) pe_int (nomark _)) (pe_one (pe_cmpR (op_eqD HU) (pe_op op_mod (pe_op op_addA (pe_op op_addA (pe_ix ix_seq (pv 4) pe_int (fun _ _ => rfl)) (pe_ix ix_seq (pv 4) pe_int (fun _ _ => rfl))) pe_int) pe_int) (pe_ix ix_seq (pv 4) pe_int (fun _ _ => rfl)) (nomark _)))))))
  delta m_ulaw_is_quarter
  exact h1
theorem ok_ulaw_reading (T : Tx K mg) : FnOk P w K mg base CX0 1 T.a_ulaw_reading T.f_ulaw_reading ["letters_so", "rest_so"] (spP K m_ulaw_reading) := by
  have hs : SdS K _ sm_ulaw_reading := (ss_seq (ss_set (i := 2) (sd_op ob_eq (sd_sl so_any sd_var so_no (so_part sd_int)) (sd_tup (sa_one sd_int))))
      (ss_ret (sd_tup (sa_cons sd_var (sa_cons (sd_if (st_tru sd_var) (sd_sl so_any sd_var (so_part sd_int) so_no) sd_var) (sa_one sd_var))))))
  have h1 : FnOk P w K mg base CX0 1 T.a_ulaw_reading T.f_ulaw_reading ["letters_so", "rest_so"] (spP K (runD 2 3 sm_ulaw_reading)) := by
    refine fn_pure (k := 0) (N := n_ulaw_reading) (ps := ["letters_so", "rest_so"]) T.F_ulaw_reading sc_ulaw_reading (by decide) hs fun cdv A outer s H E hr => ?_
    have HU := hu64 hr
    have HU65 := hu65 hr
    have HU70 := hu70 hr
    exact (pss_cons (ps_set (i := 2) sc_ulaw_reading.nd rfl (Or.inl rfl) (pe_cmpR (op_eqD HU) (pe_slice sl_any (pv 0) po_none (po_some pe_int)) (pe_tupN (xa_cons pe_int pa_nil)) (nomark _))) (pss_one (ps_ret (pe_tupN (xa_cons (pv 2) (xa_cons (pe_ifExp (pt_truth (pv 2) (by intro _; rfl)) (pe_slice sl_any (pv 0) (po_some pe_int) po_none) (pv 0)) (xa_cons (pv 1) pa_nil)))))))
  delta m_ulaw_reading
  exact h1
theorem ok_ulaw_is_small_table (T : Tx K mg) : FnOk P w K mg base CX0 3 T.a_ulaw_is_small_table T.f_ulaw_is_small_table ["own"] (spP K m_ulaw_is_small_table) := by
  have G_ulaw_is_ray := ok_ulaw_is_ray (P := P) (w := w) (base := base) T
  have hs : SdS K _ sm_ulaw_is_small_table := (ss_seq (ss_if (st_or (st_not (st_tru (sd_isi (t := .tuple) sd_var))) (st_or (st_tTest (sd_op ob_ne (sd_cb co_len (sa_one sd_var)) sd_int)) (st_not (st_tru (sd_cb co_all (sa_one (sd_lc (js := [1]) (si_any sd_var) sg_name st_yes' (sd_and (sd_isi (t := .tuple) sd_var) (sd_op ob_eq (sd_cb co_len (sa_one sd_var)) sd_int)) (by decide)))))))) (ss_ret sd_bl) ss_next)
      (ss_ret (sd_cb co_all (sa_one (sd_lc (js := [1]) (si_any (sd_op ob_add (sd_op ob_ix sd_var sd_int) (sd_op ob_ix sd_var sd_int))) sg_name st_yes' (sd_fn (sa_one sd_var)) (by decide))))))
  have h1 : FnOk P w K mg base CX0 3 T.a_ulaw_is_small_table T.f_ulaw_is_small_table ["own"] (spP K (runD 1 2 sm_ulaw_is_small_table)) := by
    refine fn_pure (k := 2) (N := n_ulaw_is_small_table) (ps := ["own"]) T.F_ulaw_is_small_table sc_ulaw_is_small_table (by decide) hs fun cdv A outer s H E hr => ?_
    have HU := hu64 hr
    have HU65 := hu65 hr
    have HU70 := hu70 hr
    have HR_ulaw_is_ray : Room 2 _ := hr.mono (by decide)
    refine (pss_cons ?_ ?_)
    · refine (ps_if ?_ ?_ ?_)
      · refine (PW.pt ?_)
        · refine (pw_or ?_ ?_)
          · exact (pt_not (pt_truth (xe_callB call_isi (by rfl) T.m_isinstance bt_isinstance (xa_cons (pv 0) (xa_cons (pe_bltn (v := .ty "tuple") (by rfl) T.m_tuple bt_tuple rfl) pa_nil))) (by intro _; rfl)))
          · refine (pw_or ?_ ?_)
            · exact (pt_cmpR (op_neD HU) (xe_callB call_len_seq (by rfl) T.m_len bt_len (xa_cons (pv 0) pa_nil)) pe_int (nomark _))
            · refine (pw_or1 ?_)
              · refine (pt_not ?_)
                · refine (pt_truth ?_ (by intro _; rfl))
                  · refine (xe_callB (cr_all rfl) (by rfl) T.m_all bt_all ?_)
                    · exact (xa_cons (pe_lc (own := [("its", 1)]) (g := (gName 1)) rfl sc_ulaw_is_small_table.nd (pi_any (pv 0)) (blkOk_by (N := n_ulaw_is_small_table) (sc := defScope s_ulaw_is_small_table) (by decide +kernel)) (fun _ _ _ _ _ => (pg_name (i := 1) sc_ulaw_is_small_table.nd rfl (by first | exact Or.inl rfl | exact Or.inr rfl))) (fun _ _ _ _ _ => pts_nil) (fun _ _ _ _ _ => (pe_andT (xe_callB call_isi (by rfl) T.m_isinstance bt_isinstance (xa_cons (pv 1) (xa_cons (pe_bltn (v := .ty "tuple") (by rfl) T.m_tuple bt_tuple rfl) pa_nil))) (pe_one (pe_cmpR (op_eqD HU) (xe_callB call_len_seq (by rfl) T.m_len bt_len (xa_cons (pv 1) pa_nil)) pe_int (nomark _)))))) pa_nil)
      · exact (pss_one (ps_ret pe_bl))
      · exact pss_nil
    · exact (pss_one (ps_ret (xe_callB (cr_all rfl) (by rfl) T.m_all bt_all (xa_cons (pe_lc (own := [("its", 1)]) (g := (gName 1)) rfl sc_ulaw_is_small_table.nd (pi_any (pe_op op_addA (pe_ix ix_seq (pv 0) pe_int (fun _ _ => rfl)) (pe_ix ix_seq (pv 0) pe_int (fun _ _ => rfl)))) (blkOk_by (N := n_ulaw_is_small_table) (sc := defScope s_ulaw_is_small_table) (by decide +kernel)) (fun _ _ _ _ _ => (pg_name (i := 1) sc_ulaw_is_small_table.nd rfl (by first | exact Or.inl rfl | exact Or.inr rfl))) (fun _ _ _ _ _ => pts_nil) (fun _ _ _ _ _ => (xe_call G_ulaw_is_ray HR_ulaw_is_ray (by rfl) T.g_ulaw_is_ray T.F_ulaw_is_ray.kp T.b_ulaw_is_ray (xa_cons (pv 1) pa_nil)))) pa_nil))))
  delta m_ulaw_is_small_table
  exact h1
theorem ok_ulaw_is_form (T : Tx K mg) : FnOk P w K mg base CX0 4 T.a_ulaw_is_form T.f_ulaw_is_form ["own"] (spP K m_ulaw_is_form) := by
  have G_ulaw_is_number := ok_ulaw_is_number (P := P) (w := w) (base := base) T
  have G_ulaw_is_small_table := ok_ulaw_is_small_table (P := P) (w := w) (base := base) T
  have G_ulaw_is_quarter := ok_ulaw_is_quarter (P := P) (w := w) (base := base) T
  have hs : SdS K _ sm_ulaw_is_form := (ss_seq (ss_if (st_or (st_not (st_tru (sd_isi (t := .tuple) sd_var))) (st_or (st_tTest (sd_op ob_ne (sd_cb co_len (sa_one sd_var)) sd_int)) (st_or (st_not (st_tru (sd_isi (t := .bool) (sd_op ob_ix sd_var sd_int)))) (st_not (st_tru (sd_isi (t := .tuple) (sd_op ob_ix sd_var sd_int))))))) (ss_ret sd_bl) ss_next)
      (ss_seq (ss_if (st_or (st_tTest (sd_op ob_gt (sd_cb co_len (sa_one (sd_op ob_ix sd_var sd_int))) sd_int)) (st_not (st_tru (sd_cb co_all (sa_one (sd_lc (js := [1]) (si_any (sd_op ob_ix sd_var sd_int)) sg_name st_yes' (sd_and (sd_fn (sa_one sd_var)) (sd_op ob_in sd_var (sd_tup (sa_cons sd_int (sa_one sd_int))))) (by decide))))))) (ss_ret sd_bl) ss_next)
      (ss_ret (sd_and (sd_fn (sa_one (sd_op ob_ix sd_var sd_int))) (sd_fn (sa_one (sd_op ob_ix sd_var sd_int)))))))
  have h1 : FnOk P w K mg base CX0 4 T.a_ulaw_is_form T.f_ulaw_is_form ["own"] (spP K (runD 1 2 sm_ulaw_is_form)) := by
    refine fn_pure (k := 3) (N := n_ulaw_is_form) (ps := ["own"]) T.F_ulaw_is_form sc_ulaw_is_form (by decide) hs fun cdv A outer s H E hr => ?_
    have HU := hu64 hr
    have HU65 := hu65 hr
    have HU70 := hu70 hr
    have HR_ulaw_is_number : Room 1 _ := hr.mono (by decide)
    have HR_ulaw_is_small_table : Room 3 _ := hr.mono (by decide)
    have HR_ulaw_is_quarter : Room 2 _ := hr.mono (by decide)
    refine (pss_cons ?_ ?_)
    · refine (ps_if ?_ ?_ ?_)
      · refine (PW.pt ?_)
        · refine (pw_or ?_ ?_)
          · exact (pt_not (pt_truth (xe_callB call_isi (by rfl) T.m_isinstance bt_isinstance (xa_cons (pv 0) (xa_cons (pe_bltn (v := .ty "tuple") (by rfl) T.m_tuple bt_tuple rfl) pa_nil))) (by intro _; rfl)))
          · exact (pw_or (pt_cmpR (op_neD HU) (xe_callB call_len_seq (by rfl) T.m_len bt_len (xa_cons (pv 0) pa_nil)) pe_int (nomark _)) (pw_or (pt_not (pt_truth (xe_callB call_isi (by rfl) T.m_isinstance bt_isinstance (xa_cons (pe_ix ix_seq (pv 0) pe_int (fun _ _ => rfl)) (xa_cons (pe_bltn (v := .ty "bool") (by rfl) T.m_bool bt_bool rfl) pa_nil))) (by intro _; rfl))) (pw_or1 (pt_not (pt_truth (xe_callB call_isi (by rfl) T.m_isinstance bt_isinstance (xa_cons (pe_ix ix_seq (pv 0) pe_int (fun _ _ => rfl)) (xa_cons (pe_bltn (v := .ty "tuple") (by rfl) T.m_tuple bt_tuple rfl) pa_nil))) (by intro _; rfl))))))
      · exact (pss_one (ps_ret pe_bl))
      · exact pss_nil
    · refine (pss_cons ?_ ?_)
      · refine (ps_if ?_ ?_ ?_)
        · refine (PW.pt ?_)
          · refine (pw_or ?_ ?_)
            · exact (pt_cmpR op_gt (xe_callB call_len_seq (by rfl) T.m_len bt_len (xa_cons (pe_ix ix_seq (pv 0) pe_int (fun _ _ => rfl)) pa_nil)) pe_int (nomark _))
            · refine (pw_or1 ?_)
              · refine (pt_not ?_)
                · refine (pt_truth ?_ (by intro _; rfl))
                  · exact (xe_callB (cr_all rfl) (by rfl) T.m_all bt_all (xa_cons (pe_lc (own := [("its", 1)]) (g := (gName 1)) rfl sc_ulaw_is_form.nd (pi_any (pe_ix ix_seq (pv 0) pe_int (fun _ _ => rfl))) (blkOk_by (N := n_ulaw_is_form) (sc := defScope s_ulaw_is_form) (by decide +kernel)) (fun _ _ _ _ _ => (pg_name (i := 1) sc_ulaw_is_form.nd rfl (by first | exact Or.inl rfl | exact Or.inr rfl))) (fun _ _ _ _ _ => pts_nil) (fun _ _ _ _ _ => (pe_andT (xe_call G_ulaw_is_number HR_ulaw_is_number (by rfl) T.g_ulaw_is_number T.F_ulaw_is_number.kp T.b_ulaw_is_number (xa_cons (pv 1) pa_nil)) (pe_one (pe_cmpR op_in_seq (pv 1) (pe_tupN (xa_cons pe_int (xa_cons pe_int pa_nil))) (by rfl)))))) pa_nil))
        · exact (pss_one (ps_ret pe_bl))
        · exact pss_nil
      · exact (pss_one (ps_ret (pe_andT (xe_call G_ulaw_is_small_table HR_ulaw_is_small_table (by rfl) T.g_ulaw_is_small_table T.F_ulaw_is_small_table.kp T.b_ulaw_is_small_table (xa_cons (pe_ix ix_seq (pv 0) pe_int (fun _ _ => rfl)) pa_nil)) (pe_one (xe_call G_ulaw_is_quarter HR_ulaw_is_quarter (by rfl) T.g_ulaw_is_quarter T.F_ulaw_is_quarter.kp T.b_ulaw_is_quarter (xa_cons (pe_ix ix_seq (pv 0) pe_int (fun _ _ => rfl)) pa_nil))))))
  delta m_ulaw_is_form
  exact h1
theorem ok_ulaw_letters (T : Tx K mg) : FnOk P w K mg base CX0 2 T.a_ulaw_letters T.f_ulaw_letters ["tin", "most_so"] (spM K m_ulaw_letters) := by
  have G_ulaw_take := ok_ulaw_take (P := P) (w := w) (base := base) T
  have hs : SdS K _ sm_ulaw_letters := (ss_seq (ss_set (i := 2) (sd_fnM (sa_cons sd_var (sa_one (sd_op ob_add sd_var sd_int)))))
      (ss_ret (sd_cb co_tuple (sa_one (sd_lc (js := [3]) (si_r1 (sa_one sd_var)) sg_name st_yes' (sd_fnM (sa_cons sd_var (sa_one (sd_if (st_tTest (sd_op ob_eq sd_var sd_int)) sd_int sd_int)))) (by decide))))))
  have h1 : FnOk P w K mg base CX0 2 T.a_ulaw_letters T.f_ulaw_letters ["tin", "most_so"] (spM K (runM 2 4 sm_ulaw_letters)) := by
    refine fn_mut (k := 1) (N := n_ulaw_letters) (ps := ["tin", "most_so"]) T.F_ulaw_letters sc_ulaw_letters (by decide) hs fun cdv A outer s H E hr => ?_
    have HU := hu64 hr
    have HU65 := hu65 hr
    have HU70 := hu70 hr
    have HR_ulaw_take : Room 1 _ := hr.mono (by decide)
    refine (pss_cons ?_ ?_)
    · exact (ps_set (i := 2) sc_ulaw_letters.nd rfl (Or.inl rfl) (xe_call G_ulaw_take HR_ulaw_take (by rfl) T.g_ulaw_take T.F_ulaw_take.kp T.b_ulaw_take (xa_cons (pv 0) (xa_cons (pe_op op_addA (pv 1) pe_int) pa_nil))))
    · exact (pss_one (ps_ret (xe_callT call_tuple_ofN (by rfl) T.m_tuple bt_tuple (xa_cons (pe_lc (own := [("k", 3)]) (g := (gName 3)) rfl sc_ulaw_letters.nd (pi_range1 (by rfl) T.m_range (xa_cons (pv 2) pa_nil)) (blkOk_by (N := n_ulaw_letters) (sc := defScope s_ulaw_letters) (by decide +kernel)) (fun _ _ _ _ _ => (pg_name (i := 3) sc_ulaw_letters.nd rfl (by first | exact Or.inl rfl | exact Or.inr rfl))) (fun _ _ _ _ _ => pts_nil) (fun _ _ _ _ _ => (xe_call G_ulaw_take HR_ulaw_take (by rfl) T.g_ulaw_take T.F_ulaw_take.kp T.b_ulaw_take (xa_cons (pv 0) (xa_cons (pe_ifExp (pt_cmpR (op_eqD HU) (pv 3) pe_int (nomark _)) pe_int pe_int) pa_nil))))) pa_nil))))
  delta m_ulaw_letters
  exact h1
theorem ok_ulaw_grown (T : Tx K mg) : FnOk P w K mg base CX0 1 T.a_ulaw_grown T.f_ulaw_grown ["many_so"] (spP K m_ulaw_grown) := by
  have hs : SdS K _ sm_ulaw_grown := (ss_seq (ss_asg (sd_tup (sa_cons sd_int (sa_one sd_int))) (sg_any (sgs_cons sg_name (sgs_cons sg_name sgs_nil))))
      (ss_seq (ss_for (si_r1 (sa_one sd_var)) sg_name (ss_seq (ss_set (i := 2) (sd_op ob_add sd_var sd_var))
      (ss_set (i := 1) (sd_op ob_mul sd_var (sd_if (st_tTest (sd_op ob_eq sd_var sd_int)) sd_int sd_int)))))
      (ss_ret (sd_tup (sa_cons sd_var (sa_one sd_var))))))
  have h1 : FnOk P w K mg base CX0 1 T.a_ulaw_grown T.f_ulaw_grown ["many_so"] (spP K (runD 1 4 sm_ulaw_grown)) := by
    refine fn_pure (k := 0) (N := n_ulaw_grown) (ps := ["many_so"]) T.F_ulaw_grown sc_ulaw_grown (by decide) hs fun cdv A outer s H E hr => ?_
    have HU := hu64 hr
    have HU65 := hu65 hr
    have HU70 := hu70 hr
    exact (pss_cons (ps_asg (pe_tupN (xa_cons pe_int (xa_cons pe_int pa_nil))) (pg_any rfl (pgs_cons (pg_name (i := 1) sc_ulaw_grown.nd rfl (Or.inl rfl)) (pgs_cons (pg_name (i := 2) sc_ulaw_grown.nd rfl (Or.inl rfl)) pgs_nil)))) (pss_cons (ps_for PassesOwn.never rfl (pi_range1 (by rfl) T.m_range (xa_cons (pv 0) pa_nil)) (pg_name (i := 3) sc_ulaw_grown.nd rfl (Or.inl rfl)) (pss_cons (ps_set (i := 2) sc_ulaw_grown.nd rfl (Or.inl rfl) (pe_op op_addA (pv 2) (pv 1))) (pss_one (ps_set (i := 1) sc_ulaw_grown.nd rfl (Or.inl rfl) (pe_op op_mulA (pv 1) (pe_ifExp (pt_cmpR (op_eqD HU) (pv 3) pe_int (nomark _)) pe_int pe_int)))))) (pss_one (ps_ret (pe_tupN (xa_cons (pv 1) (xa_cons (pv 2) pa_nil)))))))
  delta m_ulaw_grown
  exact h1
theorem ok_ulaw_number (T : Tx K mg) : FnOk P w K mg base CX0 2 T.a_ulaw_number T.f_ulaw_number ["reading_so", "rests_so"] (spP K m_ulaw_number) := by
  have G_ulaw_grown := ok_ulaw_grown (P := P) (w := w) (base := base) T
  have hs : SdS K _ sm_ulaw_number := (ss_seq (ss_set (i := 2) (sd_op ob_add (sd_if (st_tru (sd_op ob_ix sd_var sd_int)) (sd_tup (sa_one sd_int)) (sd_tup sa_nil)) (sd_op ob_ix sd_var sd_int)))
      (ss_seq (ss_set (i := 3) sd_int)
      (ss_seq (ss_for (si_any sd_var) sg_name (ss_set (i := 3) (sd_op ob_add (sd_op ob_mul sd_var sd_int) sd_var)))
      (ss_ret (sd_op ob_add (sd_op ob_add (sd_op ob_ix (sd_fn (sa_one (sd_cb co_len (sa_one sd_var)))) sd_int) (sd_op ob_mul sd_int sd_var)) (sd_tidx sd_var (sd_op ob_ix sd_var sd_int)))))))
  have h1 : FnOk P w K mg base CX0 2 T.a_ulaw_number T.f_ulaw_number ["reading_so", "rests_so"] (spP K (runD 2 5 sm_ulaw_number)) := by
    refine fn_pure (k := 1) (N := n_ulaw_number) (ps := ["reading_so", "rests_so"]) T.F_ulaw_number sc_ulaw_number (by decide) hs fun cdv A outer s H E hr => ?_
    have HU := hu64 hr
    have HU65 := hu65 hr
    have HU70 := hu70 hr
    have HR_ulaw_grown : Room 1 _ := hr.mono (by decide)
    refine (pss_cons ?_ ?_)
    · exact (ps_set (i := 2) sc_ulaw_number.nd rfl (Or.inl rfl) (pe_op op_addA (pe_ifExp (pt_truth (pe_ix ix_seq (pv 0) pe_int (fun _ _ => rfl)) (by intro _; rfl)) (pe_tupN (xa_cons pe_int pa_nil)) (pe_tupN pa_nil)) (pe_ix ix_seq (pv 0) pe_int (fun _ _ => rfl))))
    · refine (pss_cons ?_ ?_)
      · exact (ps_set (i := 3) sc_ulaw_number.nd rfl (Or.inl rfl) pe_int)
      · exact (pss_cons (ps_for PassesOwn.never rfl (pi_any (pv 2)) (pg_name (i := 4) sc_ulaw_number.nd rfl (Or.inl rfl)) (pss_one (ps_set (i := 3) sc_ulaw_number.nd rfl (Or.inl rfl) (pe_op op_addA (pe_op op_mulA (pv 3) pe_int) (pv 4))))) (pss_one (ps_ret (pe_op op_addA (pe_op op_addA (pe_ix ix_seq (xe_call G_ulaw_grown HR_ulaw_grown (by rfl) T.g_ulaw_grown T.F_ulaw_grown.kp T.b_ulaw_grown (xa_cons (xe_callB call_len_seq (by rfl) T.m_len bt_len (xa_cons (pv 2) pa_nil)) pa_nil)) pe_int (fun _ _ => rfl)) (pe_op op_mulA pe_int (pv 3))) (pe_tm PySem.F.slot_tuple_index PySem.F.type_tuple_index (mt_tindexD HU65) (pv 1) (xa_cons (pe_ix ix_seq (pv 0) pe_int (fun _ _ => rfl)) pa_nil))))))
  delta m_ulaw_number
  exact h1
theorem ok_ulaw_rests_right (T : Tx K mg) : FnOk P w K mg base CX0 4 T.a_ulaw_rests_right T.f_ulaw_rests_right ["rests_so"] (spP K m_ulaw_rests_right) := by
  have G_ulaw_is_small_table := ok_ulaw_is_small_table (P := P) (w := w) (base := base) T
  have G_ulaw_is_quarter := ok_ulaw_is_quarter (P := P) (w := w) (base := base) T
  have hs : SdS K _ sm_ulaw_rests_right := (ss_seq (ss_if (st_or (st_not (st_tru (sd_isi (t := .tuple) sd_var))) (st_or (st_tTest (sd_op ob_ne (sd_cb co_len (sa_one sd_var)) sd_int)) (st_not (st_tru (sd_cb co_all (sa_one (sd_lc (js := [3]) (si_any sd_var) sg_name st_yes' (sd_fn (sa_one sd_var)) (by decide)))))))) (ss_ret sd_bl) ss_next)
      (ss_seq (ss_if (st_tTest (sd_op ob_ne (sd_lc (js := [1, 2]) (si_zip (sa_cons sd_var (sa_one (sd_sl so_any sd_var (so_part sd_int) so_no)))) (sg_any (sgs_cons sg_name (sgs_cons sg_name sgs_nil))) (st_not (st_tTest (sd_op ob_ltA sd_var sd_var))) sd_int (by decide)) (sd_lst sa_nil))) (ss_ret sd_bl) ss_next)
      (ss_ret (sd_cb co_all (sa_one (sd_lc (js := [3]) (si_any sd_var) sg_name st_yes' (sd_fn (sa_one sd_var)) (by decide)))))))
  have h1 : FnOk P w K mg base CX0 4 T.a_ulaw_rests_right T.f_ulaw_rests_right ["rests_so"] (spP K (runD 1 4 sm_ulaw_rests_right)) := by
    refine fn_pure (k := 3) (N := n_ulaw_rests_right) (ps := ["rests_so"]) T.F_ulaw_rests_right sc_ulaw_rests_right (by decide) hs fun cdv A outer s H E hr => ?_
    have HU := hu64 hr
    have HU65 := hu65 hr
    have HU70 := hu70 hr
    have HR_ulaw_is_small_table : Room 3 _ := hr.mono (by decide)
    have HR_ulaw_is_quarter : Room 2 _ := hr.mono (by decide)
    refine (pss_cons ?_ ?_)
    · refine (ps_if ?_ ?_ ?_)
      · refine (PW.pt ?_)
        · refine (pw_or ?_ ?_)
          · exact (pt_not (pt_truth (xe_callB call_isi (by rfl) T.m_isinstance bt_isinstance (xa_cons (pv 0) (xa_cons (pe_bltn (v := .ty "tuple") (by rfl) T.m_tuple bt_tuple rfl) pa_nil))) (by intro _; rfl)))
          · refine (pw_or ?_ ?_)
            · exact (pt_cmpR (op_neD HU) (xe_callB call_len_seq (by rfl) T.m_len bt_len (xa_cons (pv 0) pa_nil)) pe_int (nomark _))
            · exact (pw_or1 (pt_not (pt_truth (xe_callB (cr_all rfl) (by rfl) T.m_all bt_all (xa_cons (pe_lc (own := [("own", 3)]) (g := (gName 3)) rfl sc_ulaw_rests_right.nd (pi_any (pv 0)) (blkOk_by (N := n_ulaw_rests_right) (sc := defScope s_ulaw_rests_right) (by decide +kernel)) (fun _ _ _ _ _ => (pg_name (i := 3) sc_ulaw_rests_right.nd rfl (by first | exact Or.inl rfl | exact Or.inr rfl))) (fun _ _ _ _ _ => pts_nil) (fun _ _ _ _ _ => (xe_call G_ulaw_is_small_table HR_ulaw_is_small_table (by rfl) T.g_ulaw_is_small_table T.F_ulaw_is_small_table.kp T.b_ulaw_is_small_table (xa_cons (pv 3) pa_nil)))) pa_nil)) (by intro _; rfl))))
      · exact (pss_one (ps_ret pe_bl))
      · exact pss_nil
    · refine (pss_cons ?_ ?_)
      · refine (ps_if ?_ ?_ ?_)
        · refine (pt_cmpR (op_neD HU) ?_ ?_ (nomark _))
          · exact (pe_lc (own := [("one_so", 1), ("two_so", 2)]) (g := (gAny K 2 (gCons (gName 1) (gCons (gName 2) gNil)))) rfl sc_ulaw_rests_right.nd (pi_zipK (by rfl) T.m_zip (xa_cons (pv 0) (xa_cons (pe_slice sl_any (pv 0) (po_some pe_int) po_none) pa_nil))) (blkOk_by (N := n_ulaw_rests_right) (sc := defScope s_ulaw_rests_right) (by decide +kernel)) (fun _ _ _ _ _ => (pg_any rfl (pgs_cons (pg_name (i := 1) sc_ulaw_rests_right.nd rfl (by first | exact Or.inl rfl | exact Or.inr rfl)) (pgs_cons (pg_name (i := 2) sc_ulaw_rests_right.nd rfl (by first | exact Or.inl rfl | exact Or.inr rfl)) pgs_nil)))) (fun _ _ _ _ _ => (pts_one (pt_not (pt_cmpR (op_ltA HU) (pv 1) (pv 2) (nomark _))))) (fun _ _ _ _ _ => pe_int))
          · exact (pe_lst pa_nil)
        · exact (pss_one (ps_ret pe_bl))
        · exact pss_nil
      · exact (pss_one (ps_ret (xe_callB (cr_all rfl) (by rfl) T.m_all bt_all (xa_cons (pe_lc (own := [("own", 3)]) (g := (gName 3)) rfl sc_ulaw_rests_right.nd (pi_any (pv 0)) (blkOk_by (N := n_ulaw_rests_right) (sc := defScope s_ulaw_rests_right) (by decide +kernel)) (fun _ _ _ _ _ => (pg_name (i := 3) sc_ulaw_rests_right.nd rfl (by first | exact Or.inl rfl | exact Or.inr rfl))) (fun _ _ _ _ _ => pts_nil) (fun _ _ _ _ _ => (xe_call G_ulaw_is_quarter HR_ulaw_is_quarter (by rfl) T.g_ulaw_is_quarter T.F_ulaw_is_quarter.kp T.b_ulaw_is_quarter (xa_cons (pv 3) pa_nil)))) pa_nil))))
  delta m_ulaw_rests_right
  exact h1
theorem ok_ulaw_one_right (T : Tx K mg) : FnOk P w K mg base CX0 12 T.a_ulaw_one_right T.f_ulaw_one_right ["reading_so", "rests_so", "soft"] (spP K m_ulaw_one_right) := by
  have G_ulaw_number := ok_ulaw_number (P := P) (w := w) (base := base) T
  have G_ulaw_lists := ok_ulaw_lists (P := P) (w := w) (base := base) T
  have G_number_of_reading := ok_number_of_reading (P := P) (w := w) (base := base) T
  have G_reading_by_number := ok_reading_by_number (P := P) (w := w) (base := base) T
  have G_ulaw_same := ok_ulaw_same (P := P) (w := w) (base := base) T
  have G_next_reading := ok_next_reading (P := P) (w := w) (base := base) T
  have G_ulaw_is_form := ok_ulaw_is_form (P := P) (w := w) (base := base) T
  have hs : SdS K _ sm_ulaw_one_right := (ss_seq (ss_set (i := 3) (sd_fn (sa_cons sd_var (sa_one sd_var))))
      (ss_seq (ss_if (st_not (st_tru (sd_fn (sa_cons (sd_lst (sa_cons (sd_fn (sa_one (sd_if (st_tru sd_var) (sd_fn (sa_one sd_var)) sd_var))) (sa_one (sd_fn (sa_one sd_var))))) (sa_one (sd_lst (sa_cons sd_var (sa_one sd_var)))))))) (ss_ret sd_bl) ss_next)
      (ss_seq (ss_if (st_not (st_tru sd_var)) (ss_ret sd_bl) ss_next)
      (ss_seq (ss_set (i := 4) (sd_fn (sa_one sd_var)))
      (ss_ret (sd_and (sd_fn (sa_one sd_var)) (sd_op ob_eq (sd_fn (sa_cons sd_var (sa_one sd_var))) (sd_op ob_add sd_var sd_int))))))))
  have h1 : FnOk P w K mg base CX0 12 T.a_ulaw_one_right T.f_ulaw_one_right ["reading_so", "rests_so", "soft"] (spP K (runD 3 5 sm_ulaw_one_right)) := by
    refine fn_pure (k := 11) (N := n_ulaw_one_right) (ps := ["reading_so", "rests_so", "soft"]) T.F_ulaw_one_right sc_ulaw_one_right (by decide) hs fun cdv A outer s H E hr => ?_
    have HU := hu64 hr
    have HU65 := hu65 hr
    have HU70 := hu70 hr
    have HR_ulaw_number : Room 2 _ := hr.mono (by decide)
    have HR_ulaw_lists : Room 9 _ := hr.mono (by decide)
    have HR_number_of_reading : Room 10 _ := hr.mono (by decide)
    have HR_reading_by_number : Room 5 _ := hr.mono (by decide)
    have HR_ulaw_same : Room 9 _ := hr.mono (by decide)
    have HR_next_reading : Room 11 _ := hr.mono (by decide)
    have HR_ulaw_is_form : Room 4 _ := hr.mono (by decide)
    refine (pss_cons ?_ ?_)
    · exact (ps_set (i := 3) sc_ulaw_one_right.nd rfl (Or.inl rfl) (xe_call G_ulaw_number HR_ulaw_number (by rfl) T.g_ulaw_number T.F_ulaw_number.kp T.b_ulaw_number (xa_cons (pv 0) (xa_cons (pv 1) pa_nil))))
    · refine (pss_cons ?_ ?_)
      · refine (ps_if ?_ ?_ ?_)
        · refine (pt_not ?_)
          · refine (pt_truth ?_ (by intro _; rfl))
            · exact (xe_call G_ulaw_same HR_ulaw_same (by rfl) T.g_ulaw_same T.F_ulaw_same.kp T.b_ulaw_same (xa_cons (pe_lst (xa_cons (xe_call G_number_of_reading HR_number_of_reading (by rfl) T.g_number_of_reading T.F_number_of_reading.kp T.b_number_of_reading (xa_cons (pe_ifExp (pt_truth (pv 2) (by intro _; rfl)) (xe_call G_ulaw_lists HR_ulaw_lists (by rfl) T.g_ulaw_lists T.F_ulaw_lists.kp T.b_ulaw_lists (xa_cons (pv 0) pa_nil)) (pv 0)) pa_nil)) (xa_cons (xe_call G_reading_by_number HR_reading_by_number (by rfl) T.g_reading_by_number T.F_reading_by_number.kp T.b_reading_by_number (xa_cons (pv 3) pa_nil)) pa_nil))) (xa_cons (pe_lst (xa_cons (pv 3) (xa_cons (pv 0) pa_nil))) pa_nil)))
        · exact (pss_one (ps_ret pe_bl))
        · exact pss_nil
      · exact (pss_cons (ps_if (pt_not (pt_truth (pv 2) (by intro _; rfl))) (pss_one (ps_ret pe_bl)) pss_nil) (pss_cons (ps_set (i := 4) sc_ulaw_one_right.nd rfl (Or.inl rfl) (xe_call G_next_reading HR_next_reading (by rfl) T.g_next_reading T.F_next_reading.kp T.b_next_reading (xa_cons (pv 0) pa_nil))) (pss_one (ps_ret (pe_andT (xe_call G_ulaw_is_form HR_ulaw_is_form (by rfl) T.g_ulaw_is_form T.F_ulaw_is_form.kp T.b_ulaw_is_form (xa_cons (pv 4) pa_nil)) (pe_one (pe_cmpR (op_eqD HU) (xe_call G_ulaw_number HR_ulaw_number (by rfl) T.g_ulaw_number T.F_ulaw_number.kp T.b_ulaw_number (xa_cons (pv 4) (xa_cons (pv 1) pa_nil))) (pe_op op_addA (pv 3) pe_int) (nomark _))))))))
  delta m_ulaw_one_right
  exact h1
theorem ok_ulaw_by_hand_right (T : Tx K mg) : FnOk P w K mg base CX0 11 T.a_ulaw_by_hand_right T.f_ulaw_by_hand_right [] (spP K m_ulaw_by_hand_right) := by
  have G_ulaw_unit := ok_ulaw_unit (P := P) (w := w) (base := base) T
  have G_number_of_reading := ok_number_of_reading (P := P) (w := w) (base := base) T
  have G_tables_many := ok_tables_many (P := P) (w := w) (base := base) T
  have G_tables_at_most := ok_tables_at_most (P := P) (w := w) (base := base) T
  have G_reading_by_number := ok_reading_by_number (P := P) (w := w) (base := base) T
  have G_ulaw_same := ok_ulaw_same (P := P) (w := w) (base := base) T
  have hs : SdS K _ sm_ulaw_by_hand_right := (ss_seq (ss_set (i := 0) (sd_fn (sa_one sd_int)))
      (ss_seq (ss_set (i := 1) (sd_lst (sa_cons (sd_fn (sa_one (sd_tup (sa_cons sd_bl (sa_cons (sd_tup (sa_one sd_int)) (sa_one sd_var)))))) (sa_cons (sd_fn (sa_one sd_int)) (sa_cons (sd_fn (sa_one sd_int)) (sa_cons (sd_fn (sa_one sd_int)) (sa_cons (sd_fn (sa_one sd_int)) (sa_one (sd_fn (sa_one sd_int))))))))))
      (ss_ret (sd_fn (sa_cons sd_var (sa_one (sd_lst (sa_cons sd_int (sa_cons sd_int (sa_cons sd_int (sa_cons sd_int (sa_cons sd_int (sa_one (sd_tup (sa_cons sd_bl (sa_cons (sd_tup (sa_one sd_int)) (sa_one sd_var)))))))))))))))))
  have h1 : FnOk P w K mg base CX0 11 T.a_ulaw_by_hand_right T.f_ulaw_by_hand_right [] (spP K (runD 0 2 sm_ulaw_by_hand_right)) := by
    refine fn_pure (k := 10) (N := n_ulaw_by_hand_right) (ps := []) T.F_ulaw_by_hand_right sc_ulaw_by_hand_right (by decide) hs fun cdv A outer s H E hr => ?_
    have HU := hu64 hr
    have HU65 := hu65 hr
    have HU70 := hu70 hr
    have HR_ulaw_unit : Room 2 _ := hr.mono (by decide)
    have HR_number_of_reading : Room 10 _ := hr.mono (by decide)
    have HR_tables_many : Room 1 _ := hr.mono (by decide)
    have HR_tables_at_most : Room 2 _ := hr.mono (by decide)
    have HR_reading_by_number : Room 5 _ := hr.mono (by decide)
    have HR_ulaw_same : Room 9 _ := hr.mono (by decide)
    refine (pss_cons ?_ ?_)
    · exact (ps_set (i := 0) sc_ulaw_by_hand_right.nd rfl (Or.inl rfl) (xe_call G_ulaw_unit HR_ulaw_unit (by rfl) T.g_ulaw_unit T.F_ulaw_unit.kp T.b_ulaw_unit (xa_cons pe_int pa_nil)))
    · refine (pss_cons ?_ ?_)
      · refine (ps_set (i := 1) sc_ulaw_by_hand_right.nd rfl (Or.inl rfl) ?_)
        · refine (pe_lst ?_)
          · refine (xa_cons ?_ ?_)
            · exact (xe_call G_number_of_reading HR_number_of_reading (by rfl) T.g_number_of_reading T.F_number_of_reading.kp T.b_number_of_reading (xa_cons (pe_tupN (xa_cons pe_bl (xa_cons (pe_tupN (xa_cons pe_int pa_nil)) (xa_cons (pv 0) pa_nil)))) pa_nil))
            · refine (xa_cons ?_ ?_)
              · exact (xe_call G_tables_many HR_tables_many (by rfl) T.g_tables_many T.F_tables_many.kp T.b_tables_many (xa_cons pe_int pa_nil))
              · exact (xa_cons (xe_call G_tables_at_most HR_tables_at_most (by rfl) T.g_tables_at_most T.F_tables_at_most.kp T.b_tables_at_most (xa_cons pe_int pa_nil)) (xa_cons (xe_call G_tables_many HR_tables_many (by rfl) T.g_tables_many T.F_tables_many.kp T.b_tables_many (xa_cons pe_int pa_nil)) (xa_cons (xe_call G_tables_at_most HR_tables_at_most (by rfl) T.g_tables_at_most T.F_tables_at_most.kp T.b_tables_at_most (xa_cons pe_int pa_nil)) (xa_cons (xe_call G_reading_by_number HR_reading_by_number (by rfl) T.g_reading_by_number T.F_reading_by_number.kp T.b_reading_by_number (xa_cons pe_int pa_nil)) pa_nil))))
      · exact (pss_one (ps_ret (xe_call G_ulaw_same HR_ulaw_same (by rfl) T.g_ulaw_same T.F_ulaw_same.kp T.b_ulaw_same (xa_cons (pv 1) (xa_cons (pe_lst (xa_cons pe_int (xa_cons pe_int (xa_cons pe_int (xa_cons pe_int (xa_cons pe_int (xa_cons (pe_tupN (xa_cons pe_bl (xa_cons (pe_tupN (xa_cons pe_int pa_nil)) (xa_cons (pv 0) pa_nil)))) pa_nil))))))) pa_nil)))))
  delta m_ulaw_by_hand_right
  exact h1
theorem ok_ulaw_right (T : Tx K mg) : FnOk P w K mg base CX0 15 T.a_ulaw_right T.f_ulaw_right ["tin"] (spM K m_ulaw_right) := by
  have G_quarter_tables := ok_quarter_tables (P := P) (w := w) (base := base) T
  have G_ulaw_take := ok_ulaw_take (P := P) (w := w) (base := base) T
  have G_ulaw_rests_right := ok_ulaw_rests_right (P := P) (w := w) (base := base) T
  have G_ulaw_grown := ok_ulaw_grown (P := P) (w := w) (base := base) T
  have G_tables_many := ok_tables_many (P := P) (w := w) (base := base) T
  have G_tables_at_most := ok_tables_at_most (P := P) (w := w) (base := base) T
  have G_ulaw_same := ok_ulaw_same (P := P) (w := w) (base := base) T
  have G_ulaw_letters := ok_ulaw_letters (P := P) (w := w) (base := base) T
  have G_ulaw_of := ok_ulaw_of (P := P) (w := w) (base := base) T
  have G_ulaw_reading := ok_ulaw_reading (P := P) (w := w) (base := base) T
  have G_ulaw_one_right := ok_ulaw_one_right (P := P) (w := w) (base := base) T
  have G_is_reading := ok_is_reading (P := P) (w := w) (base := base) T
  have G_is_quarter := ok_is_quarter (P := P) (w := w) (base := base) T
  have hs : SdS K _ sm_ulaw_right := (ss_seq (ss_par (sa_cons (sd_fn sa_nil) (sa_one (sd_fnM (sa_cons sd_var (sa_one sd_int))))))
      (ss_seq (ss_if (st_tTest (sd_op ob_eq sd_var sd_int)) (ss_ret (sd_fn (sa_one sd_var))) ss_next)
      (ss_seq (ss_set (i := 3) (sd_fnM (sa_cons sd_var (sa_one sd_int))))
      (ss_seq (ss_asg (sd_fn (sa_one sd_var)) (sg_any (sgs_cons sg_name (sgs_cons sg_name sgs_nil))))
      (ss_seq (ss_if (st_or (st_tTest (sd_op ob_ne (sd_cb co_len (sa_one sd_var)) sd_int)) (st_not (st_tru (sd_fn (sa_cons (sd_lst (sa_cons (sd_fn (sa_one sd_var)) (sa_cons (sd_fn (sa_one sd_var)) (sa_one (sd_fn (sa_one sd_int)))))) (sa_one (sd_lst (sa_cons sd_var (sa_cons (sd_op ob_add sd_var sd_var) (sa_one sd_int)))))))))) (ss_ret sd_bl) ss_next)
      (ss_seq (ss_if (st_tTest (sd_op ob_eq sd_var sd_int)) (ss_ret (sd_fn (sa_cons (sd_fn (sa_cons (sd_fnM (sa_cons sd_var (sa_one sd_int))) (sa_one (sd_fnM (sa_cons sd_var (sa_one (sd_cb co_list (sa_one sd_var)))))))) (sa_cons sd_var (sa_one (sd_op ob_eq (sd_fnM (sa_cons sd_var (sa_one sd_int))) sd_int)))))) ss_next)
      (ss_seq (ss_if (st_tTest (sd_op ob_eq sd_var sd_int)) (ss_seq (ss_set (i := 6) (sd_if (st_tTest (sd_op ob_gt (sd_fnM (sa_cons sd_var (sa_one sd_int))) sd_int)) (sd_op ob_add (sd_tup (sa_one sd_int)) (sd_op ob_mul (sd_tup (sa_one sd_int)) (sd_fnM (sa_cons sd_var (sa_one (sd_lst (sa_cons sd_int (sa_cons sd_int (sa_cons sd_int (sa_cons sd_int (sa_cons sd_int (sa_one sd_int)))))))))))) (sd_tup sa_nil)))
      (ss_ret (sd_fn (sa_cons (sd_fn (sa_cons sd_var (sa_one (sd_op ob_ix sd_var sd_int)))) (sa_cons sd_var (sa_one sd_bl)))))) ss_next)
      (ss_seq (ss_set (i := 7) (sd_cb co_tuple (sa_one (sd_lc (js := [8]) (si_r1 (sa_one (sd_fnM (sa_cons sd_var (sa_one sd_int))))) sg_name st_yes' (sd_fnM (sa_cons sd_var (sa_one sd_int))) (by decide)))))
      (ss_seq (ss_set (i := 4) (sd_fn (sa_cons sd_var (sa_one (sd_fnM (sa_cons sd_var (sa_one (sd_cb co_list (sa_one sd_var)))))))))
      (ss_ret (sd_and (sd_fn (sa_cons (sd_lst (sa_cons (sd_fn (sa_one sd_var)) (sa_one (sd_fn (sa_one (sd_op ob_ix sd_var sd_int)))))) (sa_one (sd_lst (sa_cons sd_bl (sa_one sd_bl)))))) (sd_fn (sa_cons sd_var (sa_cons sd_var (sa_one sd_bl)))))))))))))))
  have h1 : FnOk P w K mg base CX0 15 T.a_ulaw_right T.f_ulaw_right ["tin"] (spM K (runM 1 9 sm_ulaw_right)) := by
    refine fn_mut (k := 14) (N := n_ulaw_right) (ps := ["tin"]) T.F_ulaw_right sc_ulaw_right (by decide) hs fun cdv A outer s H E hr => ?_
    have HU := hu64 hr
    have HU65 := hu65 hr
    have HU70 := hu70 hr
    have HR_quarter_tables : Room 4 _ := hr.mono (by decide)
    have HR_ulaw_take : Room 1 _ := hr.mono (by decide)
    have HR_ulaw_rests_right : Room 4 _ := hr.mono (by decide)
    have HR_ulaw_grown : Room 1 _ := hr.mono (by decide)
    have HR_tables_many : Room 1 _ := hr.mono (by decide)
    have HR_tables_at_most : Room 2 _ := hr.mono (by decide)
    have HR_ulaw_same : Room 9 _ := hr.mono (by decide)
    have HR_ulaw_letters : Room 2 _ := hr.mono (by decide)
    have HR_ulaw_of : Room 2 _ := hr.mono (by decide)
    have HR_ulaw_reading : Room 1 _ := hr.mono (by decide)
    have HR_ulaw_one_right : Room 12 _ := hr.mono (by decide)
    have HR_is_reading : Room 14 _ := hr.mono (by decide)
    have HR_is_quarter : Room 13 _ := hr.mono (by decide)
    refine (pss_cons ?_ ?_)
    · exact (ps_par (i := 1) (j := 2) (by rfl) sc_ulaw_right.nd rfl rfl (by decide) rfl rfl (xa_cons (pe_call0 G_quarter_tables HR_quarter_tables (by rfl) T.g_quarter_tables T.F_quarter_tables.kp T.b_quarter_tables .nil pass0) (xa_cons (xe_call G_ulaw_take HR_ulaw_take (by rfl) T.g_ulaw_take T.F_ulaw_take.kp T.b_ulaw_take (xa_cons (pv 0) (xa_cons pe_int pa_nil))) pa_nil)) (by rfl))
    · refine (pss_cons ?_ ?_)
      · exact (ps_if (pt_cmpR (op_eqD HU) (pv 2) pe_int (nomark _)) (pss_one (ps_ret (xe_call G_ulaw_rests_right HR_ulaw_rests_right (by rfl) T.g_ulaw_rests_right T.F_ulaw_rests_right.kp T.b_ulaw_rests_right (xa_cons (pv 1) pa_nil)))) pss_nil)
      · refine (pss_cons ?_ ?_)
        · exact (ps_set (i := 3) sc_ulaw_right.nd rfl (Or.inl rfl) (xe_call G_ulaw_take HR_ulaw_take (by rfl) T.g_ulaw_take T.F_ulaw_take.kp T.b_ulaw_take (xa_cons (pv 0) (xa_cons pe_int pa_nil))))
        · refine (pss_cons ?_ ?_)
          · exact (ps_asg (xe_call G_ulaw_grown HR_ulaw_grown (by rfl) T.g_ulaw_grown T.F_ulaw_grown.kp T.b_ulaw_grown (xa_cons (pv 3) pa_nil)) (pg_any rfl (pgs_cons (pg_name (i := 4) sc_ulaw_right.nd rfl (Or.inl rfl)) (pgs_cons (pg_name (i := 5) sc_ulaw_right.nd rfl (Or.inl rfl)) pgs_nil))))
          · refine (pss_cons ?_ ?_)
            · refine (ps_if ?_ ?_ ?_)
              · refine (PW.pt ?_)
                · refine (pw_or ?_ ?_)
                  · exact (pt_cmpR (op_neD HU) (xe_callB call_len_seq (by rfl) T.m_len bt_len (xa_cons (pv 1) pa_nil)) pe_int (nomark _))
                  · exact (pw_or1 (pt_not (pt_truth (xe_call G_ulaw_same HR_ulaw_same (by rfl) T.g_ulaw_same T.F_ulaw_same.kp T.b_ulaw_same (xa_cons (pe_lst (xa_cons (xe_call G_tables_many HR_tables_many (by rfl) T.g_tables_many T.F_tables_many.kp T.b_tables_many (xa_cons (pv 3) pa_nil)) (xa_cons (xe_call G_tables_at_most HR_tables_at_most (by rfl) T.g_tables_at_most T.F_tables_at_most.kp T.b_tables_at_most (xa_cons (pv 3) pa_nil)) (xa_cons (xe_call G_tables_many HR_tables_many (by rfl) T.g_tables_many T.F_tables_many.kp T.b_tables_many (xa_cons pe_int pa_nil)) pa_nil)))) (xa_cons (pe_lst (xa_cons (pv 4) (xa_cons (pe_op op_addA (pv 5) (pv 4)) (xa_cons pe_int pa_nil)))) pa_nil))) (by intro _; rfl))))
              · exact (pss_one (ps_ret pe_bl))
              · exact pss_nil
            · refine (pss_cons ?_ ?_)
              · refine (ps_if ?_ ?_ ?_)
                · exact (pt_cmpR (op_eqD HU) (pv 2) pe_int (nomark _))
                · refine (pss_one ?_)
                  · refine (ps_ret ?_)
                    · refine (xe_call G_ulaw_one_right HR_ulaw_one_right (by rfl) T.g_ulaw_one_right T.F_ulaw_one_right.kp T.b_ulaw_one_right ?_)
                      · exact (xa_cons (xe_call G_ulaw_reading HR_ulaw_reading (by rfl) T.g_ulaw_reading T.F_ulaw_reading.kp T.b_ulaw_reading (xa_cons (xe_call G_ulaw_letters HR_ulaw_letters (by rfl) T.g_ulaw_letters T.F_ulaw_letters.kp T.b_ulaw_letters (xa_cons (pv 0) (xa_cons pe_int pa_nil))) (xa_cons (xe_call G_ulaw_of HR_ulaw_of (by rfl) T.g_ulaw_of T.F_ulaw_of.kp T.b_ulaw_of (xa_cons (pv 0) (xa_cons (xe_callT call_list_of (by rfl) T.m_list bt_list (xa_cons (pv 1) pa_nil)) pa_nil))) pa_nil))) (xa_cons (pv 1) (xa_cons (pe_cmpR (op_eqD HU) (xe_call G_ulaw_take HR_ulaw_take (by rfl) T.g_ulaw_take T.F_ulaw_take.kp T.b_ulaw_take (xa_cons (pv 0) (xa_cons pe_int pa_nil))) pe_int (nomark _)) pa_nil)))
                · exact pss_nil
              · refine (pss_cons ?_ ?_)
                · refine (ps_if ?_ ?_ ?_)
                  · exact (pt_cmpR (op_eqD HU) (pv 2) pe_int (nomark _))
                  · refine (pss_cons ?_ ?_)
                    · exact (ps_set (i := 6) sc_ulaw_right.nd rfl (Or.inl rfl) (pe_ifExp (pt_cmpR op_gt (xe_call G_ulaw_take HR_ulaw_take (by rfl) T.g_ulaw_take T.F_ulaw_take.kp T.b_ulaw_take (xa_cons (pv 0) (xa_cons pe_int pa_nil))) pe_int (nomark _)) (pe_op op_addA (pe_tupN (xa_cons pe_int pa_nil)) (pe_op op_mulA (pe_tupN (xa_cons pe_int pa_nil)) (xe_call G_ulaw_of HR_ulaw_of (by rfl) T.g_ulaw_of T.F_ulaw_of.kp T.b_ulaw_of (xa_cons (pv 0) (xa_cons (pe_lst (xa_cons pe_int (xa_cons pe_int (xa_cons pe_int (xa_cons pe_int (xa_cons pe_int (xa_cons pe_int pa_nil))))))) pa_nil))))) (pe_tupN pa_nil)))
                    · exact (pss_one (ps_ret (xe_call G_ulaw_one_right HR_ulaw_one_right (by rfl) T.g_ulaw_one_right T.F_ulaw_one_right.kp T.b_ulaw_one_right (xa_cons (xe_call G_ulaw_reading HR_ulaw_reading (by rfl) T.g_ulaw_reading T.F_ulaw_reading.kp T.b_ulaw_reading (xa_cons (pv 6) (xa_cons (pe_ix ix_seq (pv 1) pe_int (fun _ _ => rfl)) pa_nil))) (xa_cons (pv 1) (xa_cons pe_bl pa_nil))))))
                  · exact pss_nil
                · refine (pss_cons ?_ ?_)
                  · refine (ps_set (i := 7) sc_ulaw_right.nd rfl (Or.inl rfl) ?_)
                    · exact (xe_callT call_tuple_ofN (by rfl) T.m_tuple bt_tuple (xa_cons (pe_lc (own := [("k", 8)]) (g := (gName 8)) rfl sc_ulaw_right.nd (pi_range1 (by rfl) T.m_range (xa_cons (xe_call G_ulaw_take HR_ulaw_take (by rfl) T.g_ulaw_take T.F_ulaw_take.kp T.b_ulaw_take (xa_cons (pv 0) (xa_cons pe_int pa_nil))) pa_nil)) (blkOk_by (N := n_ulaw_right) (sc := defScope s_ulaw_right) (by decide +kernel)) (fun _ _ _ _ _ => (pg_name (i := 8) sc_ulaw_right.nd rfl (by first | exact Or.inl rfl | exact Or.inr rfl))) (fun _ _ _ _ _ => pts_nil) (fun _ _ _ _ _ => (xe_call G_ulaw_take HR_ulaw_take (by rfl) T.g_ulaw_take T.F_ulaw_take.kp T.b_ulaw_take (xa_cons (pv 0) (xa_cons pe_int pa_nil))))) pa_nil))
                  · refine (pss_cons ?_ ?_)
                    · exact (ps_set (i := 4) sc_ulaw_right.nd rfl (Or.inl rfl) (xe_call G_ulaw_reading HR_ulaw_reading (by rfl) T.g_ulaw_reading T.F_ulaw_reading.kp T.b_ulaw_reading (xa_cons (pv 7) (xa_cons (xe_call G_ulaw_of HR_ulaw_of (by rfl) T.g_ulaw_of T.F_ulaw_of.kp T.b_ulaw_of (xa_cons (pv 0) (xa_cons (xe_callT call_list_of (by rfl) T.m_list bt_list (xa_cons (pv 1) pa_nil)) pa_nil))) pa_nil))))
                    · exact (pss_one (ps_ret (pe_andT (xe_call G_ulaw_same HR_ulaw_same (by rfl) T.g_ulaw_same T.F_ulaw_same.kp T.b_ulaw_same (xa_cons (pe_lst (xa_cons (xe_call G_is_reading HR_is_reading (by rfl) T.g_is_reading T.F_is_reading.kp T.b_is_reading (xa_cons (pv 4) pa_nil)) (xa_cons (xe_call G_is_quarter HR_is_quarter (by rfl) T.g_is_quarter T.F_is_quarter.kp T.b_is_quarter (xa_cons (pe_ix ix_seq (pv 4) pe_int (fun _ _ => rfl)) pa_nil)) pa_nil))) (xa_cons (pe_lst (xa_cons pe_bl (xa_cons pe_bl pa_nil))) pa_nil))) (pe_one (xe_call G_ulaw_one_right HR_ulaw_one_right (by rfl) T.g_ulaw_one_right T.F_ulaw_one_right.kp T.b_ulaw_one_right (xa_cons (pv 4) (xa_cons (pv 1) (xa_cons pe_bl pa_nil))))))))
  delta m_ulaw_right
  exact h1
theorem ok_law (T : Tx K mg) : FnOk P w K mg base CX0 16 T.a_law T.f_law ["script"] (spP K m_law) := by
  have G_ulaw_by_hand_right := ok_ulaw_by_hand_right (P := P) (w := w) (base := base) T
  have G_ulaw_cells := ok_ulaw_cells (P := P) (w := w) (base := base) T
  have G_ulaw_box := ok_ulaw_box (P := P) (w := w) (base := base) T
  have G_ulaw_right := ok_ulaw_right (P := P) (w := w) (base := base) T
  have hs : SdS K _ sm_law := (ss_ret (sd_and (sd_fn sa_nil) (sd_fnM (sa_one (sd_fn (sa_cons (sd_fn (sa_cons sd_var (sa_one sd_int))) (sa_one sd_int)))))))
  have h1 : FnOk P w K mg base CX0 16 T.a_law T.f_law ["script"] (spP K (runD 1 1 sm_law)) := by
    refine fn_pure (k := 15) (N := n_law) (ps := ["script"]) T.F_law sc_law (by decide) hs fun cdv A outer s H E hr => ?_
    have HU := hu64 hr
    have HU65 := hu65 hr
    have HU70 := hu70 hr
    have HR_ulaw_by_hand_right : Room 11 _ := hr.mono (by decide)
    have HR_ulaw_cells : Room 1 _ := hr.mono (by decide)
    have HR_ulaw_box : Room 1 _ := hr.mono (by decide)
    have HR_ulaw_right : Room 15 _ := hr.mono (by decide)
    exact (pss_one (ps_ret (pe_andT (pe_call0 G_ulaw_by_hand_right HR_ulaw_by_hand_right (by rfl) T.g_ulaw_by_hand_right T.F_ulaw_by_hand_right.kp T.b_ulaw_by_hand_right .nil pass0) (pe_one (xe_call G_ulaw_right HR_ulaw_right (by rfl) T.g_ulaw_right T.F_ulaw_right.kp T.b_ulaw_right (xa_cons (xe_call G_ulaw_box HR_ulaw_box (by rfl) T.g_ulaw_box T.F_ulaw_box.kp T.b_ulaw_box (xa_cons (xe_call G_ulaw_cells HR_ulaw_cells (by rfl) T.g_ulaw_cells T.F_ulaw_cells.kp T.b_ulaw_cells (xa_cons (pv 0) (xa_cons pe_int pa_nil))) (xa_cons pe_int pa_nil))) pa_nil))))))
  delta m_law
  exact h1
end
end K20
end
section
set_option linter.all false
set_option maxRecDepth 100000
namespace K20
open Pd PySem
def ray_of_t1 : TM := (mAnd (mVal (eOp (dI fun i j => .bl (decide (j < i))) (eVar 1) (eC (.int 0)))) (mTru (eFn m_root_divides (aOne (eTup (aCons (eVar 2) (aCons (eVar 3) (aCons (eVar 4) (aOne (eVar 5))))))))))
def ray_of_b1 : SM := (sSeq (sAsg (gU 4 (gsCons (gN 2) (gsCons (gN 3) (gsCons (gN 4) (gsCons (gN 5) gsNil))))) (eTup (aCons (eOp (dIc cDiv fun i j => .int (i / j)) (eOp (dI fun i j => .int (i - j)) (eVar 3) (eVar 5)) (eC (.int 2))) (aCons (eOp (dIc cDiv fun i j => .int (i / j)) (eOp dAdd (eVar 2) (eVar 4)) (eC (.int 2))) (aCons (eOp (dIc cDiv fun i j => .int (i / j)) (eOp dAdd (eVar 3) (eVar 5)) (eC (.int 2))) (aOne (eOp (dIc cDiv fun i j => .int (i / j)) (eOp (dI fun i j => .int (i - j)) (eVar 4) (eVar 2)) (eC (.int 2)))))))))
      (sAug 1 (fun i j => i - j) (eC (.int 1))))
theorem sx_ray_of : sm_ray_of = (sSeq (sAsg (gU 4 (gsCons (gN 2) (gsCons (gN 3) (gsCons (gN 4) (gsCons (gN 5) gsNil))))) (eVar 0))
      (sSeq (sWhile ray_of_t1 ray_of_b1 1000)
      (sRet (eTup (aCons (eVar 2) (aCons (eVar 3) (aCons (eVar 4) (aCons (eVar 5) (aOne (eVar 1)))))))))) := rfl
def rays_added_b1 : SM := (sSeq (sSet 4 (eFn m_times_root (aCons (eSl dSl (eVar 1) oNo (oPart (eC (.int 4)))) (aOne (eOp (dI fun i j => .int (i - j)) (eVar 2) (eOp dIx (eVar 1) (eC (.int 4))))))))
      (sSet 3 (eLc (iZp (aCons (eVar 3) (aOne (eVar 4)))) (gU 2 (gsCons (gN 5) (gsCons (gN 6) gsNil))) mYes (eOp dAdd (eVar 5) (eVar 6)) [5, 6])))
theorem sx_rays_added : sm_rays_added = (sSeq (sSet 2 (eMaxD (aOne (eLc (iSeq (eVar 0)) (gN 1) mYes (eOp dIx (eVar 1) (eC (.int 4))) [1])) 0))
      (sSeq (sSet 3 (eLst (aCons (eC (.int 0)) (aCons (eC (.int 0)) (aCons (eC (.int 0)) (aOne (eC (.int 0))))))))
      (sSeq (sFor (iSeq (eVar 0)) (gN 1) rays_added_b1)
      (sRet (eFn m_ray_of (aCons (eVar 3) (aOne (eVar 2)))))))) := rfl
def turned_ray_b1 : SM := (sAsg (gU 4 (gsCons (gN 2) (gsCons (gN 3) (gsCons (gN 4) (gsCons (gN 5) gsNil))))) (eTup (aCons (eUn fNeg (eVar 5)) (aCons (eVar 2) (aCons (eVar 3) (aOne (eVar 4)))))))
theorem sx_turned_ray : sm_turned_ray = (sSeq (sAsg (gU 5 (gsCons (gN 2) (gsCons (gN 3) (gsCons (gN 4) (gsCons (gN 5) (gsCons (gN 6) gsNil)))))) (eVar 0))
      (sSeq (sFor (iR1 (aOne (eOp (dIc cMod fun i j => .int (i % j)) (eVar 1) (eC (.int 8))))) (gN 7) turned_ray_b1)
      (sRet (eTup (aCons (eVar 2) (aCons (eVar 3) (aCons (eVar 4) (aCons (eVar 5) (aOne (eVar 6)))))))))) := rfl
def ulaw_cells_b1 : SM := (sSeq (sSet 5 (eOp (dIc cMod fun i j => .int (i % j)) (eCall fInt (aOne (eVar 3))) (eVar 1)))
      (sSub 2 (eOp dAdd (eOp dIx (eVar 2) (eVar 5)) (eOp dMul (eVar 4) (eOp dAdd (eVar 3) (eC (.int 2))))) (eVar 5)))
theorem sx_ulaw_cells : sm_ulaw_cells = (sSeq (sSet 2 (eOr (eCall fList (aOne (eSl dSl (eVar 0) oNo (oPart (eVar 1))))) (eLst (aOne (eC (.int 0))))))
      (sSeq (sFor (iEn (aOne (eSl dSl (eVar 0) (oPart (eVar 1)) (oPart (eC (.int 63)))))) (gU 2 (gsCons (gN 3) (gsCons (gN 4) gsNil))) ulaw_cells_b1)
      (sRet (eVar 2)))) := rfl
def number_of_letters_b1 : SM := (sSet 1 (eOp dAdd (eOp dMul (eC (.int 2)) (eVar 1)) (eVar 2)))
theorem sx_number_of_letters : sm_number_of_letters = (sSeq (sSet 1 (eC (.int 0)))
      (sSeq (sFor (iSeq (eVar 0)) (gN 2) number_of_letters_b1)
      (sRet (eVar 1)))) := rfl
def reading_by_number_t1 : TM := (mVal (eOp (dI fun i j => .bl (decide (j ≤ i))) (eVar 2) (eFn m_tables_many (aOne (eVar 1)))))
def reading_by_number_b1 : SM := (sSeq (sAug 2 (fun i j => i - j) (eFn m_tables_many (aOne (eVar 1))))
      (sAug 1 (fun i j => i + j) (eC (.int 1))))
theorem sx_reading_by_number : sm_reading_by_number = (sSeq (sSet 1 (eC (.int 0)))
      (sSeq (sSet 2 (eVar 0))
      (sSeq (sWhile reading_by_number_t1 reading_by_number_b1 1000)
      (sRet (eFn m_reading_with (aCons (eFn m_letters_by_number (aCons (eVar 1) (aOne (eOp (dIc cDiv fun i j => .int (i / j)) (eVar 2) (eC (.int 192)))))) (aOne (eOp dIx (eFn m_quarter_tables aNil) (eOp (dIc cMod fun i j => .int (i % j)) (eVar 2) (eC (.int 192))))))))))) := rfl
def ulaw_grown_b1 : SM := (sSeq (sSet 2 (eOp dAdd (eVar 2) (eVar 1)))
      (sSet 1 (eOp dMul (eVar 1) (eIf (mVal (eOp dEq (eVar 3) (eC (.int 0)))) (eC (.int 3)) (eC (.int 2))))))
theorem sx_ulaw_grown : sm_ulaw_grown = (sSeq (sAsg (gU 2 (gsCons (gN 1) (gsCons (gN 2) gsNil))) (eTup (aCons (eC (.int 192)) (aOne (eC (.int 0))))))
      (sSeq (sFor (iR1 (aOne (eVar 0))) (gN 3) ulaw_grown_b1)
      (sRet (eTup (aCons (eVar 1) (aOne (eVar 2))))))) := rfl
def ulaw_number_b1 : SM := (sSet 3 (eOp dAdd (eOp dMul (eVar 3) (eC (.int 2))) (eVar 4)))
theorem sx_ulaw_number : sm_ulaw_number = (sSeq (sSet 2 (eOp dAdd (eIf (mTru (eOp dIx (eVar 0) (eC (.int 0)))) (eTup (aOne (eC (.int 2)))) (eTup aNil)) (eOp dIx (eVar 0) (eC (.int 1)))))
      (sSeq (sSet 3 (eC (.int 0)))
      (sSeq (sFor (iSeq (eVar 2)) (gN 4) ulaw_number_b1)
      (sRet (eOp dAdd (eOp dAdd (eOp dIx (eFn m_ulaw_grown (aOne (eCall fLen (aOne (eVar 2))))) (eC (.int 1))) (eOp dMul (eC (.int 192)) (eVar 3))) (eTIdx (eVar 1) (eOp dIx (eVar 0) (eC (.int 2))))))))) := rfl
def least_slant_b1 : SM := (sFor (iR2 (aCons (eVar 1) (aOne (eCall fLen (aOne (eVar 0)))))) (gN 2) (sIf (mTru (eFn m_slants (aCons (eVar 0) (aCons (eVar 1) (aOne (eVar 2)))))) (sRet (eTup (aCons (eVar 1) (aOne (eVar 2))))) sNext))
def least_slant_b2 : SM := (sIf (mTru (eFn m_slants (aCons (eVar 0) (aCons (eVar 1) (aOne (eVar 2)))))) (sRet (eTup (aCons (eVar 1) (aOne (eVar 2))))) sNext)
theorem sx_least_slant : sm_least_slant = (sSeq (sFor (iR1 (aOne (eCall fLen (aOne (eVar 0))))) (gN 1) least_slant_b1)
      (sRet (eC .non))) := rfl
def ray_product_e0 : EM := (eOp (dI fun i j => .int (i - j)) (eOp (dI fun i j => .int (i - j)) (eOp (dI fun i j => .int (i - j)) (eOp dMul (eVar 2) (eVar 7)) (eOp dMul (eVar 3) (eVar 10))) (eOp dMul (eVar 4) (eVar 9))) (eOp dMul (eVar 5) (eVar 8)))
def ray_product_e1 : EM := (eOp (dI fun i j => .int (i - j)) (eOp (dI fun i j => .int (i - j)) (eOp dAdd (eOp dMul (eVar 2) (eVar 8)) (eOp dMul (eVar 3) (eVar 7))) (eOp dMul (eVar 4) (eVar 10))) (eOp dMul (eVar 5) (eVar 9)))
def ray_product_e2 : EM := (eOp (dI fun i j => .int (i - j)) (eOp dAdd (eOp dAdd (eOp dMul (eVar 2) (eVar 9)) (eOp dMul (eVar 3) (eVar 8))) (eOp dMul (eVar 4) (eVar 7))) (eOp dMul (eVar 5) (eVar 10)))
def ray_product_e3 : EM := (eOp dAdd (eOp dAdd (eOp dAdd (eOp dMul (eVar 2) (eVar 10)) (eOp dMul (eVar 3) (eVar 9))) (eOp dMul (eVar 4) (eVar 8))) (eOp dMul (eVar 5) (eVar 7)))
theorem sx_ray_product : sm_ray_product = (sSeq (sAsg (gU 5 (gsCons (gN 2) (gsCons (gN 3) (gsCons (gN 4) (gsCons (gN 5) (gsCons (gN 6) gsNil)))))) (eVar 0))
      (sSeq (sAsg (gU 5 (gsCons (gN 7) (gsCons (gN 8) (gsCons (gN 9) (gsCons (gN 10) (gsCons (gN 11) gsNil)))))) (eVar 1))
      (sSeq (sSet 12 (eTup (aCons ray_product_e0 (aCons ray_product_e1 (aCons ray_product_e2 (aOne ray_product_e3))))))
      (sRet (eFn m_ray_of (aCons (eVar 12) (aOne (eOp dAdd (eVar 6) (eVar 11))))))))) := rfl
end K20
end
section
set_option maxRecDepth 100000
set_option linter.all false
set_option exponentiation.threshold 5000
set_option maxHeartbeats 8000000
namespace K20
open Pd PySem
structure Q4 where
  a : Int
  b : Int
  c : Int
  d : Int
@[simp] theorem eqD_int (i j : Int) : eqD (.int i) (.int j) = (i == j) := by simp [eqD, toP, PyData.eqv]
@[simp] theorem shp_int (i : Int) : shp (.int i) = true := by simp [shp, toP, SeqAt.shaped, PyData.canLay0, PyData.depth]
def sq (f : Bool) (l : List D) : D := if f = true then .tup l else .lst l
abbrev t4 (f : Bool) (q : Q4) : D := sq f [.int q.a, .int q.b, .int q.c, .int q.d]
abbrev ry (f : Bool) (q : Q4) (k : Nat) : D := sq f [.int q.a, .int q.b, .int q.c, .int q.d, .int (k : Int)]
def rd2 (q : Q4) : Bool := ((q.a + q.c) % 2 == 0) && ((q.b + q.d) % 2 == 0)
def half (q : Q4) : Q4 := ⟨(q.b - q.d) / 2, (q.a + q.c) / 2, (q.b + q.d) / 2, (q.c - q.a) / 2⟩
def rt (q : Q4) : Q4 := ⟨q.b - q.d, q.a + q.c, q.b + q.d, q.c - q.a⟩
def rtI : Nat → Q4 → Q4
  | 0, q => q
  | n + 1, q => rtI n (rt q)
def red : Nat → Q4 → Q4 × Nat
  | 0, q => (q, 0)
  | k + 1, q => if rd2 q = true then red k (half q) else (q, k + 1)
theorem root_divides_ok (f : Bool) (q : Q4) : m_root_divides [t4 f q] = some (.v (.bl (rd2 q))) := by
  cases f <;> simp [m_root_divides, sm_root_divides, rd2, sq] <;> cases (q.a + q.c) % 2 == 0 <;> rfl
def env6 (x : D) (k : Nat) (q : Q4) : DEnv := [.val x, .val (.int k), .val (.int q.a), .val (.int q.b), .val (.int q.c), .val (.int q.d)]
theorem red_t (x : D) (k : Nat) (q : Q4) : ray_of_t1 (env6 x (k + 1) q) = some (rd2 q, env6 x (k + 1) q) := by
  have z : decide ((0 : Int) < ((k + 1 : Nat) : Int)) = true := decide_eq_true (by omega)
  have r := root_divides_ok true q
  simp [sq] at r
  have z2 : (0 : Int) < (k : Int) + 1 := by omega
  simp [ray_of_t1, env6, z2, r]
theorem red_b (x : D) (k : Nat) (q : Q4) : ray_of_b1 (env6 x (k + 1) q) = some (.nxt, env6 x k (half q)) := by
  simp [ray_of_b1, env6, half]
theorem red_loop (x : D) : ∀ (k n : Nat) (q : Q4), k < n → sWhile ray_of_t1 ray_of_b1 n (env6 x k q) = some (.nxt, env6 x (red k q).2 (red k q).1)
  | 0, n + 1, q, _ => by
    simp [sWhile, ray_of_t1, env6, red]
  | k + 1, n + 1, q, h => by
    have ih := red_loop x k n (half q) (by omega)
    unfold sWhile
    rw [red_t]
    unfold red
    cases rd2 q
    · simp
    · simp [red_b, ih]
theorem ray_of_ok (f : Bool) (q : Q4) (k : Nat) (h : k < 1000) : m_ray_of [t4 f q, .int k] = some (.v (ry true (red k q).1 (red k q).2)) := by
  have e : ∀ x, sWhile ray_of_t1 ray_of_b1 1000 [.val x, .val (.int k), .val (.int q.a), .val (.int q.b), .val (.int q.c), .val (.int q.d)] = _ := fun x => red_loop x k 1000 q h
  cases f <;> simp [m_ray_of, sx_ray_of, sq, runD, e, env6]
theorem red_zero : ∀ k, red k ⟨0, 0, 0, 0⟩ = (⟨0, 0, 0, 0⟩, 0)
  | 0 => rfl
  | k + 1 => by
    unfold red
    exact red_zero k
@[simp] theorem eqD_l4 (a b c d e f g h : Int) : eqD (.lst [.int a, .int b, .int c, .int d]) (.lst [.int e, .int f, .int g, .int h]) = (a == e && (b == f && (c == g && d == h))) := by
  simp [eqD, toP, toPs, PyData.eqv, PyData.eqvAll]
@[simp] theorem eqD_t5 (a b c d k e f g h m : Int) : eqD (.tup [.int a, .int b, .int c, .int d, .int k]) (.tup [.int e, .int f, .int g, .int h, .int m]) = (a == e && (b == f && (c == g && (d == h && k == m)))) := by
  simp [eqD, toP, toPs, PyData.eqv, PyData.eqvAll]
@[simp] theorem eqD_t2 (a b e f : Int) : eqD (.tup [.int a, .int b]) (.tup [.int e, .int f]) = (a == e && b == f) := by
  simp [eqD, toP, toPs, PyData.eqv, PyData.eqvAll]
@[simp] theorem eqD_bl (a b : Bool) : eqD (.bl a) (.bl b) = (a == b) := by
  cases a <;> cases b <;> rfl
@[simp] theorem shp_bl (a : Bool) : shp (.bl a) = true := by
  cases a <;> rfl
@[simp] theorem shp_non : shp .non = true := rfl
@[simp] theorem shp_l4 (a b c d : Int) : shp (.lst [.int a, .int b, .int c, .int d]) = true := by
  simp [shp, toP, toPs, SeqAt.shaped, PyData.canLay0, PyData.depth, PyData.canLayAll0, PyData.depthAll]
@[simp] theorem shp_t5 (a b c d e : Int) : shp (.tup [.int a, .int b, .int c, .int d, .int e]) = true := by
  simp [shp, toP, toPs, SeqAt.shaped, PyData.canLay0, PyData.depth, PyData.canLayAll0, PyData.depthAll]
@[simp] theorem shp_t2 (a b : Int) : shp (.tup [.int a, .int b]) = true := by
  simp [shp, toP, toPs, SeqAt.shaped, PyData.canLay0, PyData.depth, PyData.canLayAll0, PyData.depthAll]
/-! times_root -/
def dbl (m : Nat) (q : Q4) : Q4 := ⟨q.a * 2 ^ m, q.b * 2 ^ m, q.c * 2 ^ m, q.d * 2 ^ m⟩
theorem rt_rt (q : Q4) : rt (rt q) = ⟨q.a * 2, q.b * 2, q.c * 2, q.d * 2⟩ := by
  simp only [rt, Q4.mk.injEq]; omega
theorem rtI_add : ∀ (m n : Nat) (q : Q4), rtI (m + n) q = rtI n (rtI m q)
  | 0, n, q => by simp [rtI]
  | m + 1, n, q => by
    rw [Nat.succ_add]
    exact rtI_add m n (rt q)
theorem rtI_two : ∀ (m : Nat) (q : Q4), rtI (2 * m) q = dbl m q
  | 0, q => by simp [rtI, dbl]
  | m + 1, q => by
    rw [show 2 * (m + 1) = 2 * m + 1 + 1 from rfl]
    show rtI (2 * m) (rt (rt q)) = _
    rw [rtI_two m, rt_rt]
    simp only [dbl, Q4.mk.injEq, Int.pow_succ]
    refine ⟨?_, ?_, ?_, ?_⟩ <;> grind
def smQ (q : Q4) : Bool := sm q.a && (sm q.b && (sm q.c && sm q.d))
theorem times_root_ok (f : Bool) (q : Q4) (n : Nat) (h : n < 1000) (hs : smQ q = true) : m_times_root [t4 f q, .int n] = some (.v (t4 true (rtI n q))) := by
  have d1 : ((n : Int) / 2).toNat = n / 2 := by omega
  have c1 : ∀ i, sm i = true → cShl i ((n : Int) / 2) = true := fun i hi => by
    unfold cShl
    rw [hi]
    simp
    omega
  simp [smQ] at hs
  obtain ⟨s1, s2, s3, s4⟩ := hs
  have e0 := c1 _ s1
  have e1 := c1 _ s2
  have e2 := c1 _ s3
  have e3 := c1 _ s4
  rcases Nat.mod_two_eq_zero_or_one n with z | z
  · have z1 : (n : Int) % 2 = 0 := by omega
    have z2 : n = 2 * (n / 2) := by omega
    have w : rtI n q = dbl (n / 2) q := by
      conv => lhs; rw [z2]
      exact rtI_two _ _
    rw [w]
    cases f <;> simp [m_times_root, sm_times_root, sq, runD, lcD, d1, z1, e0, e1, e2, e3, dbl]
  · have z1 : (n : Int) % 2 = 1 := by omega
    have z2 : n = 2 * (n / 2) + 1 := by omega
    have w : rtI n q = rt (dbl (n / 2) q) := by
      conv => lhs; rw [z2]
      rw [rtI_add, rtI_two]
      rfl
    rw [w]
    cases f <;> simp [m_times_root, sm_times_root, sq, runD, lcD, d1, z1, e0, e1, e2, e3, dbl, rt]
@[simp] theorem at5_0 {α : Type} (a b c d e : α) : L2.atI [a, b, c, d, e] 0 = some a := rfl
@[simp] theorem at5_1 {α : Type} (a b c d e : α) : L2.atI [a, b, c, d, e] 1 = some b := rfl
@[simp] theorem at5_2 {α : Type} (a b c d e : α) : L2.atI [a, b, c, d, e] 2 = some c := rfl
@[simp] theorem at5_3 {α : Type} (a b c d e : α) : L2.atI [a, b, c, d, e] 3 = some d := rfl
@[simp] theorem at5_4 {α : Type} (a b c d e : α) : L2.atI [a, b, c, d, e] 4 = some e := rfl
@[simp] theorem at3_0 {α : Type} (a b c : α) : L2.atI [a, b, c] 0 = some a := rfl
@[simp] theorem at3_1 {α : Type} (a b c : α) : L2.atI [a, b, c] 1 = some b := rfl
@[simp] theorem at3_2 {α : Type} (a b c : α) : L2.atI [a, b, c] 2 = some c := rfl
@[simp] theorem sx5n : HT.sIx 5 0 none = 0 := rfl
@[simp] theorem sx54 : HT.sIx 5 5 (some 4) = 4 := rfl
@[simp] theorem sx4n : HT.sIx 4 0 none = 0 := rfl
@[simp] theorem sx44 : HT.sIx 4 4 none = 4 := rfl
@[simp] theorem sx42 : HT.sIx 4 0 (some 2) = 2 := rfl
@[simp] theorem sx4e : HT.sIx 4 4 (some 2) = 2 := rfl
def add (p q : Q4) : Q4 := ⟨p.a + q.a, p.b + q.b, p.c + q.c, p.d + q.d⟩
def mul (p q : Q4) : Q4 := ⟨p.a * q.a - p.b * q.d - p.c * q.c - p.d * q.b, p.a * q.b + p.b * q.a - p.c * q.d - p.d * q.c, p.a * q.c + p.b * q.b + p.c * q.a - p.d * q.d, p.a * q.d + p.b * q.c + p.c * q.b + p.d * q.a⟩
def bd (n : Nat) (q : Q4) : Prop := q.a.natAbs ≤ n ∧ q.b.natAbs ≤ n ∧ q.c.natAbs ≤ n ∧ q.d.natAbs ≤ n
abbrev sumOf (p : Q4) (k : Nat) (q : Q4) (l : Nat) : Q4 := add (rtI (max k l - k) p) (rtI (max k l - l) q)
theorem sm_of {i : Int} (h : i.natAbs < 2 ^ 64) : sm i = true := by
  unfold sm
  exact decide_eq_true (Nat.lt_of_lt_of_le h (Nat.pow_le_pow_right (by decide) (by decide)))
theorem smQ_of {n : Nat} {q : Q4} (h : bd n q) (hn : n < 2 ^ 64) : smQ q = true := by
  obtain ⟨h1, h2, h3, h4⟩ := h
  simp [smQ, sm_of (Nat.lt_of_le_of_lt h1 hn), sm_of (Nat.lt_of_le_of_lt h2 hn), sm_of (Nat.lt_of_le_of_lt h3 hn), sm_of (Nat.lt_of_le_of_lt h4 hn)]
theorem cMul_of {i j : Int} (h : i.natAbs < 18446744073709551616) : cMul i j = true := by
  unfold cMul b64
  rw [decide_eq_true h]
  rfl
theorem bd_mul {n : Nat} {p : Q4} (h : bd n p) (hn : n < 2 ^ 64) : (∀ j, cMul p.a j = true) ∧ (∀ j, cMul p.b j = true) ∧ (∀ j, cMul p.c j = true) ∧ (∀ j, cMul p.d j = true) :=
  ⟨fun j => cMul_of (Nat.lt_of_le_of_lt h.1 hn), fun j => cMul_of (Nat.lt_of_le_of_lt h.2.1 hn), fun j => cMul_of (Nat.lt_of_le_of_lt h.2.2.1 hn), fun j => cMul_of (Nat.lt_of_le_of_lt h.2.2.2 hn)⟩
def envP (x y : D) (p q : Q4) (k l : Int) : DEnv := [.val x, .val y, .val (.int p.a), .val (.int p.b), .val (.int p.c), .val (.int p.d), .val (.int k), .val (.int q.a), .val (.int q.b), .val (.int q.c), .val (.int q.d), .val (.int l), .none]
theorem prod_e0 {x y : D} {p q : Q4} {k l : Int} {n : Nat} (h1 : bd n p) (hn : n < 2 ^ 64) : ray_product_e0 (envP x y p q k l) = some (.val (.int (mul p q).a), envP x y p q k l) := by
  obtain ⟨c1, c2, c3, c4⟩ := bd_mul h1 hn
  simp [ray_product_e0, envP, c1, c2, c3, c4, mul]
theorem prod_e1 {x y : D} {p q : Q4} {k l : Int} {n : Nat} (h1 : bd n p) (hn : n < 2 ^ 64) : ray_product_e1 (envP x y p q k l) = some (.val (.int (mul p q).b), envP x y p q k l) := by
  obtain ⟨c1, c2, c3, c4⟩ := bd_mul h1 hn
  simp [ray_product_e1, envP, c1, c2, c3, c4, mul]
theorem prod_e2 {x y : D} {p q : Q4} {k l : Int} {n : Nat} (h1 : bd n p) (hn : n < 2 ^ 64) : ray_product_e2 (envP x y p q k l) = some (.val (.int (mul p q).c), envP x y p q k l) := by
  obtain ⟨c1, c2, c3, c4⟩ := bd_mul h1 hn
  simp [ray_product_e2, envP, c1, c2, c3, c4, mul]
theorem prod_e3 {x y : D} {p q : Q4} {k l : Int} {n : Nat} (h1 : bd n p) (hn : n < 2 ^ 64) : ray_product_e3 (envP x y p q k l) = some (.val (.int (mul p q).d), envP x y p q k l) := by
  obtain ⟨c1, c2, c3, c4⟩ := bd_mul h1 hn
  simp [ray_product_e3, envP, c1, c2, c3, c4, mul]
theorem product_ok (f : Bool) (p q : Q4) (k l : Nat) (hk : k + l < 1000) {n : Nat} (h1 : bd n p) (hn : n < 2 ^ 64) :
    m_ray_product [ry f p k, ry f q l] = some (.v (ry true (red (k + l) (mul p q)).1 (red (k + l) (mul p q)).2)) := by
  have r := ray_of_ok true (mul p q) (k + l) hk
  have a0 := fun x y => prod_e0 (x := x) (y := y) (q := q) (k := k) (l := l) h1 hn
  have a1 := fun x y => prod_e1 (x := x) (y := y) (q := q) (k := k) (l := l) h1 hn
  have a2 := fun x y => prod_e2 (x := x) (y := y) (q := q) (k := k) (l := l) h1 hn
  have a3 := fun x y => prod_e3 (x := x) (y := y) (q := q) (k := k) (l := l) h1 hn
  generalize mul p q = z at *
  have e1 : (k : Int) + (l : Int) = ((k + l : Nat) : Int) := by omega
  generalize k + l = N at *
  generalize red N z = w at *
  simp only [sq, if_true] at r
  simp only [envP] at a0 a1 a2 a3
  cases f <;> simp [m_ray_product, sx_ray_product, sq, runD, a0, a1, a2, a3, e1, r]
def trn (q : Q4) : Q4 := ⟨-q.d, q.a, q.b, q.c⟩
def trnI : Nat → Q4 → Q4
  | 0, q => q
  | n + 1, q => trnI n (trn q)
theorem turn_loop (x y k : D) : ∀ (n : Nat) (lo : Int) (s : Sl) (q : Q4), ∃ s', forD (gN 7) turned_ray_b1 (rangeD lo n) [.val x, .val y, .val (.int q.a), .val (.int q.b), .val (.int q.c), .val (.int q.d), .val k, s] = some (.nxt, [.val x, .val y, .val (.int (trnI n q).a), .val (.int (trnI n q).b), .val (.int (trnI n q).c), .val (.int (trnI n q).d), .val k, s'])
  | 0, lo, s, q => ⟨s, rfl⟩
  | n + 1, lo, s, q => by
    obtain ⟨s', ih⟩ := turn_loop x y k n (lo + 1) (.val (.int lo)) (trn q)
    refine ⟨s', ?_⟩
    rw [← show trnI n (trn q) = trnI (n + 1) q from rfl, ← ih]
    simp [forD, turned_ray_b1, trn]
theorem turned_ok (f : Bool) (q : Q4) (k : Nat) (m : Int) : m_turned_ray [ry f q k, .int m] = some (.v (ry true (trnI (m % 8).toNat q) k)) := by
  have w : ∀ x y k s q, ∃ s', forD (gN 7) turned_ray_b1 (rangeD 0 (m % 8).toNat) _ = _ := fun x y k s q => turn_loop x y k (m % 8).toNat 0 s q
  obtain ⟨s1, w1⟩ := w (.tup [.int q.a, .int q.b, .int q.c, .int q.d, .int (k : Int)]) (.int m) (.int k) .none q
  obtain ⟨s2, w2⟩ := w (.lst [.int q.a, .int q.b, .int q.c, .int q.d, .int (k : Int)]) (.int m) (.int k) .none q
  have h2 : -4611686018427387904 ≤ m % 8 ∧ m % 8 < 4611686018427387904 := by omega
  cases f <;> simp [m_turned_ray, sx_turned_ray, sq, runD, h2, w1, w2]
def mir (q : Q4) : Q4 := ⟨q.a, -q.d, -q.c, -q.b⟩
theorem mirrored_ok (f : Bool) (q : Q4) (k : Nat) : m_mirrored [ry f q k] = some (.v (ry true (mir q) k)) := by
  cases f <;> simp [m_mirrored, sm_mirrored, sq, runD, mir]
theorem size_ok (q : Q4) (k : Nat) (hk : k + k < 1000) {n : Nat} (h1 : bd n q) (hn : n < 2 ^ 64) :
    m_size_of [ry true q k] = some (.v (ry true (red (k + k) (mul q (mir q))).1 (red (k + k) (mul q (mir q))).2)) := by
  have r := product_ok true q (mir q) k k hk h1 hn
  have m := mirrored_ok true q k
  simp [sq] at r m
  simp [m_size_of, sm_size_of, sq, runD, m, r]
def ovr (q : Q4) (k : Nat) (m : Int) : Q4 × Nat := if 0 ≤ (k : Int) + m then red ((k : Int) + m).toNat q else (rtI (-((k : Int) + m)).toNat q, 0)
theorem over_ok (f : Bool) (q : Q4) (k : Nat) (m : Int) (hk : k < 500) (hm : m.natAbs < 400) (hs : smQ q = true) : m_over_root [ry f q k, .int m] = some (.v (ry true (ovr q k m).1 (ovr q k m).2)) := by
  unfold ovr
  split
  · rename_i h
    have e : (k : Int) + m = ((((k : Int) + m).toNat : Nat) : Int) := by omega
    have r := ray_of_ok f q ((k : Int) + m).toNat (by omega)
    have r2 := ray_of_ok true q ((k : Int) + m).toNat (by omega)
    rw [← e] at r r2
    generalize red _ q = z at *
    cases f <;> simp [sq] at r r2 <;> simp [m_over_root, sm_over_root, sq, runD, h, r, r2]
  · rename_i h
    have e : -((k : Int) + m) = (((-((k : Int) + m)).toNat : Nat) : Int) := by omega
    have t := times_root_ok f q (-((k : Int) + m)).toNat (by omega) hs
    rw [← e] at t
    generalize rtI _ q = z at *
    have r := ray_of_ok true z 0 (by omega)
    cases f <;> simp [sq, red] at r t <;> simp [m_over_root, sm_over_root, sq, runD, h, r, t]
/-! the arithmetic of rays, on four whole numbers -/
theorem half_rt (q : Q4) : half (rt q) = q := by
  rcases q with ⟨a, b, c, d⟩
  simp only [half, rt, Q4.mk.injEq]; omega
theorem rd2_rt (q : Q4) : rd2 (rt q) = true := by
  rcases q with ⟨a, b, c, d⟩
  simp only [rd2, rt, Bool.and_eq_true, beq_iff_eq]; omega
theorem rt_half {q : Q4} (h : rd2 q = true) : rt (half q) = q := by
  rcases q with ⟨a, b, c, d⟩
  simp only [rd2, Bool.and_eq_true, beq_iff_eq] at h
  simp only [half, rt, Q4.mk.injEq]; omega
theorem rtI_succ (n : Nat) (q : Q4) : rtI (n + 1) q = rt (rtI n q) := by
  rw [rtI_add]; rfl
theorem rtI_inj : ∀ (n : Nat) {p q : Q4}, rtI n p = rtI n q → p = q
  | 0, p, q, h => h
  | n + 1, p, q, h => by
    have := rtI_inj n (p := rt p) (q := rt q) h
    rw [← half_rt p, ← half_rt q, this]
theorem red_rt : ∀ (n k : Nat) (q : Q4), red (k + n) (rtI n q) = red k q
  | 0, k, q => rfl
  | n + 1, k, q => by
    rw [rtI_succ]
    show (if rd2 (rt (rtI n q)) = true then red (k + n) (half (rt (rtI n q))) else _) = _
    rw [rd2_rt, if_pos rfl, half_rt]
    exact red_rt n k q
theorem red_eq {j k : Nat} {p q : Q4} (h : rtI k p = rtI j q) : red j p = red k q := by
  rw [← red_rt k j p, ← red_rt j k q, h, Nat.add_comm]
theorem red_back : ∀ (k : Nat) (q : Q4), (red k q).2 ≤ k ∧ rtI (k - (red k q).2) (red k q).1 = q
  | 0, q => ⟨Nat.le_refl _, rfl⟩
  | k + 1, q => by
    unfold red
    by_cases h : rd2 q = true
    · rw [if_pos h]
      obtain ⟨h1, h2⟩ := red_back k (half q)
      refine ⟨by omega, ?_⟩
      rw [show k + 1 - (red k (half q)).2 = k - (red k (half q)).2 + 1 by omega, rtI_succ, h2]
      exact rt_half h
    · rw [if_neg h]
      exact ⟨Nat.le_refl _, by simp [rtI]⟩
/-- one pair of numbers and halvings stands for the same value as another -/
def Eqv (p : Q4) (j : Nat) (q : Q4) (k : Nat) : Prop := rtI k p = rtI j q
theorem rtI_comm (m n : Nat) (q : Q4) : rtI m (rtI n q) = rtI n (rtI m q) := by
  rw [← rtI_add, ← rtI_add, Nat.add_comm]
theorem red_eqv (k : Nat) (q : Q4) : Eqv (red k q).1 (red k q).2 q k := by
  obtain ⟨h1, h2⟩ := red_back k q
  have h3 : rtI (red k q).2 (rtI (k - (red k q).2) (red k q).1) = rtI k (red k q).1 := by
    rw [← rtI_add]
    congr 1
    omega
  rw [h2] at h3
  exact h3.symm
theorem Eqv.symm {p q : Q4} {j k : Nat} (h : Eqv p j q k) : Eqv q k p j := Eq.symm h
theorem Eqv.trans {p q r : Q4} {j k l : Nat} (h : Eqv p j q k) (h2 : Eqv q k r l) : Eqv p j r l := by
  unfold Eqv at *
  apply rtI_inj k
  rw [rtI_comm k l, h, rtI_comm l j, h2, rtI_comm j k]
theorem rt_add (p q : Q4) : rt (add p q) = add (rt p) (rt q) := by
  simp only [rt, add, Q4.mk.injEq]; omega
theorem rtI_addq : ∀ (n : Nat) (p q : Q4), rtI n (add p q) = add (rtI n p) (rtI n q)
  | 0, p, q => rfl
  | n + 1, p, q => by
    show rtI n (rt (add p q)) = add (rtI n (rt p)) (rtI n (rt q))
    rw [rt_add]
    exact rtI_addq n _ _
theorem rt_mul_l (p q : Q4) : mul (rt p) q = rt (mul p q) := by
  simp only [rt, mul, Q4.mk.injEq]
  refine ⟨?_, ?_, ?_, ?_⟩ <;> grind
theorem mul_comm (p q : Q4) : mul p q = mul q p := by
  simp only [mul, Q4.mk.injEq]
  refine ⟨?_, ?_, ?_, ?_⟩ <;> grind
theorem mul_add (p q r : Q4) : mul (add p q) r = add (mul p r) (mul q r) := by
  simp only [mul, add, Q4.mk.injEq]
  refine ⟨?_, ?_, ?_, ?_⟩ <;> grind
theorem mul_assoc (p q r : Q4) : mul (mul p q) r = mul p (mul q r) := by
  simp only [mul, Q4.mk.injEq]
  refine ⟨?_, ?_, ?_, ?_⟩ <;> grind
theorem add_comm (p q : Q4) : add p q = add q p := by
  simp only [add, Q4.mk.injEq]; omega
theorem rtI_mul_l : ∀ (n : Nat) (p q : Q4), mul (rtI n p) q = rtI n (mul p q)
  | 0, p, q => rfl
  | n + 1, p, q => by
    show mul (rtI n (rt p)) q = rtI n (rt (mul p q))
    rw [rtI_mul_l n, rt_mul_l]
theorem rtI_mul_r (n : Nat) (p q : Q4) : mul p (rtI n q) = rtI n (mul p q) := by
  rw [mul_comm, rtI_mul_l, mul_comm]
theorem Eqv.mul {p q r s : Q4} {j k l m : Nat} (h : Eqv p j q k) (h2 : Eqv r l s m) : Eqv (mul p r) (j + l) (mul q s) (k + m) := by
  unfold Eqv at *
  rw [rtI_add, ← rtI_mul_l, h, ← rtI_mul_r, h2, rtI_mul_l, rtI_mul_r, ← rtI_add, Nat.add_comm]
theorem eqv_up (p : Q4) (k n : Nat) : Eqv (rtI n p) (k + n) p k := by
  unfold Eqv
  rw [← rtI_add]
  congr 1
  omega
theorem Eqv.add {p q r s : Q4} {j k : Nat} (h : Eqv p j q k) (h2 : Eqv r j s k) : Eqv (add p r) j (add q s) k := by
  unfold Eqv at *
  rw [rtI_addq, rtI_addq, h, h2]
theorem red_of {p q : Q4} {j k : Nat} (h : Eqv p j q k) : red j p = red k q := red_eq h
/-- sums of pairs that stand for the same values -/
theorem sum_eqv {p q r s : Q4} {j k l m : Nat} (h : Eqv p j q k) (h2 : Eqv r l s m) : Eqv (sumOf p j r l) (max j l) (sumOf q k s m) (max k m) := by
  refine Eqv.add ?_ ?_
  · have a := eqv_up p j (max j l - j)
    rw [show j + (max j l - j) = max j l by omega] at a
    have b := eqv_up q k (max k m - k)
    rw [show k + (max k m - k) = max k m by omega] at b
    exact (a.trans h).trans b.symm
  · have a := eqv_up r l (max j l - l)
    rw [show l + (max j l - l) = max j l by omega] at a
    have b := eqv_up s m (max k m - m)
    rw [show m + (max k m - m) = max k m by omega] at b
    exact (a.trans h2).trans b.symm
def norm (q : Q4) (k : Nat) : Prop := red k q = (q, k)
theorem norm_red : ∀ (k : Nat) (q : Q4), norm (red k q).1 (red k q).2
  | 0, q => rfl
  | k + 1, q => by
    unfold red
    by_cases h : rd2 q = true
    · rw [if_pos h]; exact norm_red k (half q)
    · rw [if_neg h]; unfold norm red; rw [if_neg h]
theorem sum_comm' (p q : Q4) (k l : Nat) : sumOf p k q l = sumOf q l p k := by
  unfold sumOf
  rw [Nat.max_comm l k, add_comm]
theorem sumOf_mul (p q r : Q4) (k l m : Nat) : Eqv (mul (sumOf p k q l) r) (max k l + m) (sumOf (mul p r) (k + m) (mul q r) (l + m)) (max (k + m) (l + m)) := by
  have e : max (k + m) (l + m) = max k l + m := by omega
  unfold sumOf
  rw [e, mul_add, rtI_mul_l, rtI_mul_l, show max k l + m - (k + m) = max k l - k by omega, show max k l + m - (l + m) = max k l - l by omega]
  rfl
@[simp] theorem is_number_ok (i : Int) : m_is_number [.int i] = some (.v (.bl true)) := by
  simp [m_is_number, sm_is_number, runD]
theorem is_ray_ok (q : Q4) (k : Nat) (hn : norm q k) (hk : k ≤ 400) : m_is_ray [ry true q k] = some (.v (.bl true)) := by
  have r := root_divides_ok true q
  simp [sq] at r
  rcases k with _ | k
  · simp [m_is_ray, sm_is_ray, sq, runD, lcD]
  · have h : rd2 q = false := by
      unfold norm red at hn
      cases z : rd2 q
      · rfl
      · rw [if_pos z] at hn
        have := (red_back k (half q)).1
        rw [hn] at this
        simp at this
        omega
    rw [h] at r
    have z1 : ((k : Int) + 1 == 0) = false := by
      simp
      omega
    have z2 : (0 : Int) < (k : Int) + 1 := by omega
    simp [m_is_ray, sm_is_ray, sq, runD, lcD, r, z1, z2]
end K20
end
section
set_option maxRecDepth 100000
set_option linter.all false
set_option exponentiation.threshold 5000
set_option maxHeartbeats 8000000
namespace K20
open Pd PySem
@[simp] theorem at1_0 {α : Type} (a : α) : L2.atI [a] 0 = some a := rfl
@[simp] theorem at2_0 {α : Type} (a b : α) : L2.atI [a, b] 0 = some a := rfl
@[simp] theorem at2_1 {α : Type} (a b : α) : L2.atI [a, b] 1 = some b := rfl
structure Ry where
  q : Q4
  k : Nat
def dR (r : Ry) : D := ry true r.q r.k
theorem dR_eq (r : Ry) : dR r = .tup [.int r.q.a, .int r.q.b, .int r.q.c, .int r.q.d, .int (r.k : Int)] := rfl
theorem seq_nxt {a b : SM} {δ δ' : DEnv} {r : Option (Ctl × DEnv)} (h : a δ = some (.nxt, δ')) (h2 : b δ' = r) : sSeq a b δ = r := by
  simp [h, h2]
def kmax (l : List Ry) : Nat := (l.map Ry.k).foldl max 0
def sumL (K : Nat) : Q4 → List Ry → Q4
  | s, [] => s
  | s, r :: l => sumL K (add s (rtI (K - r.k) r.q)) l
def z4 : Q4 := ⟨0, 0, 0, 0⟩
def rsum (l : List Ry) : Ry := ⟨(red (kmax l) (sumL (kmax l) z4 l)).1, (red (kmax l) (sumL (kmax l) z4 l)).2⟩
theorem maxI_fold : ∀ (l : List Ry) (a : Nat), (l.map fun r => (r.k : Int)).foldl (fun a y => if a < y then y else a) (a : Int) = (((l.map Ry.k).foldl max a : Nat) : Int)
  | [], a => rfl
  | r :: l, a => by
    have e : (if (a : Int) < (r.k : Int) then (r.k : Int) else (a : Int)) = ((max a r.k : Nat) : Int) := by
      split <;> omega
    simp only [List.map_cons, List.foldl_cons, e]
    exact maxI_fold l (max a r.k)
theorem maxI_k (l : List Ry) : maxI 0 (l.map fun r => (r.k : Int)) = (kmax l : Int) := by
  cases l with
  | nil => rfl
  | cons r l =>
    show (l.map fun r => (r.k : Int)).foldl _ (r.k : Int) = _
    rw [maxI_fold]
    unfold kmax
    simp
theorem kmax_le : ∀ (l : List Nat) (a : Nat), a ≤ l.foldl max a ∧ ∀ x ∈ l, x ≤ l.foldl max a
  | [], a => ⟨Nat.le_refl _, fun x h => by cases h⟩
  | y :: l, a => by
    obtain ⟨h1, h2⟩ := kmax_le l (max a y)
    simp only [List.foldl_cons]
    refine ⟨by omega, fun x hx => ?_⟩
    rcases List.mem_cons.mp hx with rfl | hx
    · omega
    · exact h2 x hx
theorem kmax_lt : ∀ (l : List Nat) (a n : Nat), a < n → (∀ x ∈ l, x < n) → l.foldl max a < n
  | [], a, n, h, _ => h
  | y :: l, a, n, h, h2 => by
    simp only [List.foldl_cons]
    exact kmax_lt l _ n (by have := h2 y List.mem_cons_self; omega) fun x hx => h2 x (List.mem_cons_of_mem _ hx)
theorem lc_k (X : D) (s2 s3 s4 s5 s6 : Sl) : ∀ (l : List Ry) (acc : List D), acc.length + l.length ≤ 100000 →
    lcD (gN 1) mYes (eOp dIx (eVar 1) (eC (.int 4))) [1] (l.map dR) [.val X, .none, s2, s3, s4, s5, s6] acc = some (.tmp (acc ++ l.map fun r => .int (r.k : Int)), [.val X, .none, s2, s3, s4, s5, s6])
  | [], acc, _ => by simp [lcD]
  | r :: l, acc, h => by
    simp only [List.length_cons] at h
    have ih := lc_k X s2 s3 s4 s5 s6 l (acc ++ [.int (r.k : Int)]) (by simp; omega)
    have ha : acc.length < 100000 := by omega
    simp [lcD, dR_eq, ha, ih]
theorem ints_k : ∀ l : List Ry, intsOf (l.map fun r => .int (r.k : Int)) = some (l.map fun r => (r.k : Int))
  | [] => rfl
  | r :: l => by
    show (intsOf _).bind _ = _
    rw [ints_k l]
    rfl
theorem add_step (X : D) (K : Nat) (s : Q4) (r : Ry) (s4 s5 s6 : Sl) (hk : K - r.k < 1000) (hK : r.k ≤ K) (hs : smQ r.q = true) :
    rays_added_b1 [.val X, .val (dR r), .val (.int K), .own false [.int s.a, .int s.b, .int s.c, .int s.d], s4, .none, .none] =
      some (.nxt, [.val X, .val (dR r), .val (.int K), .own false [.int (add s (rtI (K - r.k) r.q)).a, .int (add s (rtI (K - r.k) r.q)).b, .int (add s (rtI (K - r.k) r.q)).c, .int (add s (rtI (K - r.k) r.q)).d], .val (t4 true (rtI (K - r.k) r.q)), .none, .none]) := by
  have t := times_root_ok true r.q (K - r.k) hk hs
  have e : (K : Int) - (r.k : Int) = ((K - r.k : Nat) : Int) := by omega
  generalize K - r.k = n at *
  generalize rtI n r.q = z at *
  simp [sq] at t
  simp [rays_added_b1, dR_eq, sq, e, t, lcD, add]
theorem add_loop (X : D) (K : Nat) : ∀ (l : List Ry) (s : Q4) (s1 s4 : Sl), (∀ r ∈ l, K - r.k < 1000 ∧ r.k ≤ K ∧ smQ r.q = true) →
    ∃ t1 t4, forD (gN 1) rays_added_b1 (l.map dR) [.val X, s1, .val (.int K), .own false [.int s.a, .int s.b, .int s.c, .int s.d], s4, .none, .none] =
      some (.nxt, [.val X, t1, .val (.int K), .own false [.int (sumL K s l).a, .int (sumL K s l).b, .int (sumL K s l).c, .int (sumL K s l).d], t4, .none, .none])
  | [], s, s1, s4, _ => ⟨s1, s4, rfl⟩
  | r :: l, s, s1, s4, h => by
    obtain ⟨h1, h2, h3⟩ := h r List.mem_cons_self
    have st := add_step X K s r s4 .none .none h1 h2 h3
    obtain ⟨t1, t4', ih⟩ := add_loop X K l (add s (rtI (K - r.k) r.q)) (.val (dR r)) (.val (t4 true (rtI (K - r.k) r.q))) fun x hx => h x (List.mem_cons_of_mem _ hx)
    refine ⟨t1, t4', ?_⟩
    show forD (gN 1) rays_added_b1 (dR r :: l.map dR) _ = _
    simp [forD, st, ih]
    exact ⟨rfl, rfl, rfl, rfl⟩
theorem rays_added_list (f : Bool) (l : List Ry) (hl : l.length ≤ 1000) (h : ∀ r ∈ l, r.k < 1000 ∧ smQ r.q = true) : m_rays_added [sq f (l.map dR)] = some (.v (dR (rsum l))) := by
  have hK : kmax l < 1000 := kmax_lt _ 0 _ (by decide) fun x hx => by
    obtain ⟨r, hr, rfl⟩ := List.mem_map.mp hx
    exact (h r hr).1
  have hle : ∀ r ∈ l, r.k ≤ kmax l := fun r hr => (kmax_le _ 0).2 _ (List.mem_map_of_mem hr)
  obtain ⟨t1, t4', lo⟩ := add_loop (sq f (l.map dR)) (kmax l) l z4 .none .none fun r hr => ⟨by have := h r hr; omega, hle r hr, (h r hr).2⟩
  have r := ray_of_ok false (sumL (kmax l) z4 l) (kmax l) hK
  have main : sm_rays_added [.val (sq f (l.map dR)), .none, .none, .none, .none, .none, .none] = some (.ret (.val (dR (rsum l))), [.val (sq f (l.map dR)), t1, .val (.int (kmax l)), .val (.lst [.int (sumL (kmax l) z4 l).a, .int (sumL (kmax l) z4 l).b, .int (sumL (kmax l) z4 l).c, .int (sumL (kmax l) z4 l).d]), t4', .none, .none]) := by
    rw [sx_rays_added]
    refine seq_nxt (δ' := [.val (sq f (l.map dR)), .none, .val (.int (kmax l)), .none, .none, .none, .none]) ?_ ?_
    · have e := lc_k (sq f (l.map dR)) .none .none .none .none .none l [] (by simp; omega)
      cases f <;> simp [sq] at e <;> simp [sq, e, ints_k, maxI_k]
    refine seq_nxt (δ' := [.val (sq f (l.map dR)), .none, .val (.int (kmax l)), .own false [.int 0, .int 0, .int 0, .int 0], .none, .none, .none]) (by simp) ?_
    refine seq_nxt (δ' := [.val (sq f (l.map dR)), t1, .val (.int (kmax l)), .own false [.int (sumL (kmax l) z4 l).a, .int (sumL (kmax l) z4 l).b, .int (sumL (kmax l) z4 l).c, .int (sumL (kmax l) z4 l).d], t4', .none, .none]) ?_ ?_
    · simp only [z4] at lo
      cases f <;> simp [sq] at lo <;> simp [sq, lo, z4]
    · simp [sq] at r
      simp [r, rsum, dR, sq]
  simp [m_rays_added, main]
theorem rsum_two (f : Bool) (p q : Ry) (h1 : p.k < 1000 ∧ smQ p.q = true) (h2 : q.k < 1000 ∧ smQ q.q = true) : m_rays_added [sq f [dR p, dR q]] = some (.v (dR (rsum [p, q]))) := by
  have := rays_added_list f [p, q] (by simp) fun r hr => by
    simp only [List.mem_cons, List.not_mem_nil, or_false] at hr
    rcases hr with rfl | rfl
    · exact h1
    · exact h2
  simpa using this
theorem ray_sum_ok (p q : Ry) (h1 : p.k < 1000 ∧ smQ p.q = true) (h2 : q.k < 1000 ∧ smQ q.q = true) : m_ray_sum [dR p, dR q] = some (.v (dR (rsum [p, q]))) := by
  have := rsum_two true p q h1 h2
  simp [sq] at this
  simp [m_ray_sum, sm_ray_sum, this]
/-! ### small rays -/
def i64 (i : Int) : Bool := decide (i.natAbs < 18446744073709551616)
def okB (r : Ry) : Bool := decide (r.k < 400) && (i64 r.q.a && (i64 r.q.b && (i64 r.q.c && i64 r.q.d)))
theorem okB_k {r : Ry} (h : okB r = true) : r.k < 400 := by
  unfold okB at h
  rw [Bool.and_eq_true] at h
  exact of_decide_eq_true h.1
theorem okB_bd {r : Ry} (h : okB r = true) : bd 18446744073709551615 r.q := by
  unfold okB i64 at h
  simp only [Bool.and_eq_true, decide_eq_true_eq] at h
  obtain ⟨_, h1, h2, h3, h4⟩ := h
  exact ⟨by omega, by omega, by omega, by omega⟩
theorem okB_sm {r : Ry} (h : okB r = true) : smQ r.q = true := smQ_of (okB_bd h) (by decide)
theorem okB_two {r : Ry} (h : okB r = true) : r.k < 1000 ∧ smQ r.q = true := ⟨by have := okB_k h; omega, okB_sm h⟩
def rprod (a b : Ry) : Ry := ⟨(red (a.k + b.k) (mul a.q b.q)).1, (red (a.k + b.k) (mul a.q b.q)).2⟩
theorem prod_ok (a b : Ry) (ha : okB a = true) (hb : okB b = true) : m_ray_product [dR a, dR b] = some (.v (dR (rprod a b))) :=
  product_ok true a.q b.q a.k b.k (by have := okB_k ha; have := okB_k hb; omega) (okB_bd ha) (by decide)
def rmir (a : Ry) : Ry := ⟨mir a.q, a.k⟩
theorem mir_ok (a : Ry) : m_mirrored [dR a] = some (.v (dR (rmir a))) := mirrored_ok true a.q a.k
def rsize (a : Ry) : Ry := rprod a (rmir a)
theorem rsize_ok (a : Ry) (ha : okB a = true) : m_size_of [dR a] = some (.v (dR (rsize a))) :=
  size_ok a.q a.k (by have := okB_k ha; omega) (okB_bd ha) (by decide)
def isz (r : Ry) : Bool := r.q.a == 0 && (r.q.b == 0 && (r.q.c == 0 && (r.q.d == 0 && (r.k : Int) == 0)))
theorem eqD_tup (l m : List D) : eqD (.tup l) (.tup m) = PyData.eqvAll (toPs l) (toPs m) := by
  show PyData.eqv (.tuple (toPs l)) (.tuple (toPs m)) = _
  rw [PyData.eqv]
theorem eqP_cons (a b : D) (l m : List D) : PyData.eqvAll (toPs (a :: l)) (toPs (b :: m)) = (eqD a b && PyData.eqvAll (toPs l) (toPs m)) := by
  show PyData.eqvAll (toP a :: toPs l) (toP b :: toPs m) = _
  rw [PyData.eqvAll]
  rfl
theorem eqP_nil : PyData.eqvAll (toPs []) (toPs []) = true := by
  show PyData.eqvAll [] [] = true
  rw [PyData.eqvAll]
theorem isz_eq (r : Ry) : eqD (dR r) d_ZERO = isz r := by
  rw [dR_eq, d_ZERO, eqD_tup]
  simp only [eqP_cons, eqP_nil, eqD_int, isz, Bool.and_true]
def isRy (r s : Ry) : Bool := r.q.a == s.q.a && (r.q.b == s.q.b && (r.q.c == s.q.c && (r.q.d == s.q.d && (r.k : Int) == (s.k : Int))))
theorem isRy_eq (r s : Ry) : eqD (dR r) (dR s) = isRy r s := by
  rw [dR_eq, dR_eq, eqD_tup]
  simp only [eqP_cons, eqP_nil, eqD_int, isRy, Bool.and_true]
theorem shp_dR (r : Ry) : shp (dR r) = true := by
  simp [shp, dR_eq, toP, toPs, SeqAt.shaped, PyData.canLay0, PyData.canLayAll0, PyData.depth, PyData.depthAll]
theorem shp_Z : shp d_ZERO = true := shp_dR ⟨⟨0, 0, 0, 0⟩, 0⟩
def prods : List Ry → List Ry → List Ry
  | a :: as, b :: bs => if (!isz a && !isz b) = true then rprod a b :: prods as bs else prods as bs
  | _, _ => []
def paOk : List Ry → List Ry → Bool
  | a :: as, b :: bs => (okB a && (okB b && okB (rprod a b))) && paOk as bs
  | _, _ => true
abbrev pa_g : GM := gU 2 (gsCons (gN 2) (gsCons (gN 3) gsNil))
abbrev pa_t : TM := mAnd (mVal (eOp dNe (eVar 2) (eC d_ZERO))) (mVal (eOp dNe (eVar 3) (eC d_ZERO)))
abbrev pa_e : EM := eFn m_ray_product (aCons (eVar 2) (aOne (eVar 3)))
theorem sx_products : sm_products_added = sRet (eFn m_rays_added (aOne (eLc (iZp (aCons (eVar 0) (aOne (eVar 1)))) pa_g pa_t pa_e [2, 3]))) := rfl
theorem lc_pa (X Y : D) : ∀ (as bs : List Ry) (acc : List D), acc.length + as.length ≤ 100000 → paOk as bs = true →
    lcD pa_g pa_t pa_e [2, 3] (zipD (as.map dR) (bs.map dR)) [.val X, .val Y, .none, .none] acc = some (.tmp (acc ++ (prods as bs).map dR), [.val X, .val Y, .none, .none])
  | [], bs, acc, _, _ => by simp [lcD, prods]
  | a :: as, [], acc, _, _ => by simp [lcD, prods]
  | a :: as, b :: bs, acc, h, ho => by
    simp only [List.length_cons] at h
    simp only [paOk, Bool.and_eq_true] at ho
    obtain ⟨⟨oa, ob, oc⟩, ho⟩ := ho
    have ha : acc.length < 100000 := by omega
    have p := prod_ok a b oa ob
    have ih1 := lc_pa X Y as bs acc (by omega) ho
    have ih2 := lc_pa X Y as bs (acc ++ [dR (rprod a b)]) (by simp; omega) ho
    unfold prods
    cases za : isz a <;> cases zb : isz b <;> simp [lcD, shp_dR, shp_Z, isz_eq, za, zb, p, ha, ih1, ih2]
theorem prods_ok : ∀ (as bs : List Ry), paOk as bs = true → (∀ r ∈ prods as bs, r.k < 1000 ∧ smQ r.q = true) ∧ (prods as bs).length ≤ as.length
  | [], bs, _ => ⟨fun r h => (by cases h), Nat.le_refl _⟩
  | a :: as, [], _ => ⟨fun r h => (by cases h), Nat.zero_le _⟩
  | a :: as, b :: bs, h => by
    simp only [paOk, Bool.and_eq_true] at h
    obtain ⟨h1, h2⟩ := prods_ok as bs h.2
    unfold prods
    split
    · refine ⟨fun r hr => ?_, by simp only [List.length_cons]; omega⟩
      rcases List.mem_cons.mp hr with rfl | hr
      · exact okB_two h.1.2.2
      · exact h1 r hr
    · exact ⟨h1, by simp only [List.length_cons]; omega⟩
def rpa (as bs : List Ry) : Ry := rsum (prods as bs)
theorem pa_ok (f : Bool) (as bs : List Ry) (hl : as.length ≤ 1000) (h : paOk as bs = true) : m_products_added [sq f (as.map dR), .tup (bs.map dR)] = some (.v (dR (rpa as bs))) := by
  have lc := lc_pa (sq f (as.map dR)) (.tup (bs.map dR)) as bs [] (by simp; omega) h
  obtain ⟨h1, h2⟩ := prods_ok as bs h
  have r := rays_added_list false (prods as bs) (by omega) h1
  simp [sq] at r
  cases f <;> simp [sq] at lc <;> simp [m_products_added, sx_products, sq, lc, r, rpa]
end K20
end
section
set_option maxRecDepth 100000
set_option linter.all false
set_option exponentiation.threshold 5000
set_option maxHeartbeats 8000000
namespace K20
open Pd PySem
def t2 (p q r s : D) : D := .tup [.tup [p, q], .tup [r, s]]
structure T2 where
  p : Ry
  q : Ry
  r : Ry
  s : Ry
def dT (t : T2) : D := t2 (dR t.p) (dR t.q) (dR t.r) (dR t.s)
/-! frozen -/
theorem fz_int (n : Nat) (i : Int) : mr_frozen (n + 1) [.int i] = some (.v (.int i)) := by
  simp [mr_frozen, sm_frozen]
theorem fz_bl (n : Nat) (i : Bool) : mr_frozen (n + 1) [.bl i] = some (.v (.bl i)) := by
  simp [mr_frozen, sm_frozen]
theorem fz_loop (n : Nat) (X : D) : ∀ (l m acc : List D), l.length = m.length → acc.length + l.length ≤ 100000 → (∀ (i : Nat) (a b : D), l[i]? = some a → m[i]? = some b → mr_frozen n [a] = some (.v b)) →
    lcD (gN 1) mYes (eFn (mr_frozen n) (aOne (eVar 1))) [1] l [.val X, .none] acc = some (.tmp (acc ++ m), [.val X, .none])
  | [], [], acc, _, _, _ => by simp [lcD]
  | a :: l, b :: m, acc, hl, ha, h => by
    simp only [List.length_cons] at hl ha
    have h0 := h 0 a b rfl rfl
    have ih := fz_loop n X l m (acc ++ [b]) (by omega) (by simp; omega) fun i x y hx hy => h (i + 1) x y (by simpa using hx) (by simpa using hy)
    have hacc : acc.length < 100000 := by omega
    simp [lcD, h0, hacc, ih]
  | [], _ :: _, _, hl, _, _ => by simp at hl
  | _ :: _, [], _, hl, _, _ => by simp at hl
theorem fz_seq (n : Nat) (f : Bool) (l m : List D) (hl : l.length = m.length) (ha : l.length ≤ 100000) (h : ∀ (i : Nat) (a b : D), l[i]? = some a → m[i]? = some b → mr_frozen n [a] = some (.v b)) : mr_frozen (n + 1) [sq f l] = some (.v (.tup m)) := by
  have e := fz_loop n (sq f l) l m [] hl (by simp; omega) h
  cases f <;> simp [sq] at e <;> simp [mr_frozen, sm_frozen, sq, e]
theorem fz_dR (n : Nat) (f : Bool) (r : Ry) : mr_frozen (n + 2) [ry f r.q r.k] = some (.v (dR r)) := by
  refine fz_seq (n + 1) f _ _ rfl (by simp) fun i a b ha hb => ?_
  rw [ha] at hb
  cases hb
  rcases i with _ | _ | _ | _ | _ | i <;> simp at ha <;> subst ha <;> exact fz_int n _
theorem fz_dR' (n : Nat) (r : Ry) : mr_frozen (n + 2) [dR r] = some (.v (dR r)) := fz_dR n true r
theorem fz_two (n : Nat) (f : Bool) (a b c d : D) (h1 : mr_frozen n [a] = some (.v c)) (h2 : mr_frozen n [b] = some (.v d)) : mr_frozen (n + 1) [sq f [a, b]] = some (.v (.tup [c, d])) := by
  refine fz_seq n f _ _ rfl (by simp) fun i x y hx hy => ?_
  rcases i with _ | _ | i <;> simp at hx hy
  · subst hx hy; exact h1
  · subst hx hy; exact h2
theorem fz_dT (n : Nat) (t : T2) : mr_frozen (n + 4) [dT t] = some (.v (dT t)) :=
  fz_two (n + 3) true _ _ _ _ (fz_two (n + 2) true _ _ _ _ (fz_dR' n _) (fz_dR' n _)) (fz_two (n + 2) true _ _ _ _ (fz_dR' n _) (fz_dR' n _))
theorem frozen_dT (t : T2) : m_frozen [dT t] = some (.v (dT t)) := fz_dT 4 t
/-! columns, products -/
theorem columns_two (a b c d : D) : m_columns_of [t2 a b c d] = some (.v (t2 a c b d)) := by
  simp [m_columns_of, sm_columns_of, t2, lcD]
def tpOk (A B : T2) : Bool := paOk [A.p, A.q] [B.p, B.r] && (paOk [A.p, A.q] [B.q, B.s] && (paOk [A.r, A.s] [B.p, B.r] && paOk [A.r, A.s] [B.q, B.s]))
def tp (A B : T2) : T2 := ⟨rpa [A.p, A.q] [B.p, B.r], rpa [A.p, A.q] [B.q, B.s], rpa [A.r, A.s] [B.p, B.r], rpa [A.r, A.s] [B.q, B.s]⟩
theorem tp_s (A B : D) (a b c d e f g h x y z w : D) (hA : m_frozen [A] = some (.v (t2 a b c d))) (hB : m_frozen [B] = some (.v (t2 e f g h)))
    (h1 : m_products_added [.tup [a, b], .tup [e, g]] = some (.v x)) (h2 : m_products_added [.tup [a, b], .tup [f, h]] = some (.v y)) (h3 : m_products_added [.tup [c, d], .tup [e, g]] = some (.v z)) (h4 : m_products_added [.tup [c, d], .tup [f, h]] = some (.v w)) :
    m_table_product [A, B] = some (.v (t2 x y z w)) := by
  have hc := columns_two e f g h
  simp [t2] at hA hB hc
  simp [m_table_product, sm_table_product, t2, lcD, hA, hB, hc, h1, h2, h3, h4]
theorem tp_ok (A B : T2) (h : tpOk A B = true) : m_table_product [dT A, dT B] = some (.v (dT (tp A B))) := by
  unfold tpOk at h
  simp only [Bool.and_eq_true] at h
  exact tp_s _ _ _ _ _ _ _ _ _ _ _ _ _ _ (frozen_dT A) (frozen_dT B) (pa_ok true [A.p, A.q] [B.p, B.r] (by simp) h.1) (pa_ok true [A.p, A.q] [B.q, B.s] (by simp) h.2.1) (pa_ok true [A.r, A.s] [B.p, B.r] (by simp) h.2.2.1) (pa_ok true [A.r, A.s] [B.q, B.s] (by simp) h.2.2.2)
def tmir (A : T2) : T2 := ⟨rmir A.p, rmir A.r, rmir A.q, rmir A.s⟩
theorem tm_s (a b c d x y z w : D) (h1 : m_mirrored [a] = some (.v x)) (h2 : m_mirrored [b] = some (.v y)) (h3 : m_mirrored [c] = some (.v z)) (h4 : m_mirrored [d] = some (.v w)) : m_table_mirrored [t2 a b c d] = some (.v (t2 x z y w)) := by
  have hc := columns_two a b c d
  simp [t2] at hc
  simp [m_table_mirrored, sm_table_mirrored, t2, lcD, hc, h1, h2, h3, h4]
theorem tmir_ok (A : T2) : m_table_mirrored [dT A] = some (.v (dT (tmir A))) := tm_s _ _ _ _ _ _ _ _ (mir_ok _) (mir_ok _) (mir_ok _) (mir_ok _)
/-! the axes -/
def rO : Ry := ⟨⟨1, 0, 0, 0⟩, 0⟩
def rZ : Ry := ⟨⟨0, 0, 0, 0⟩, 0⟩
def ax0 : T2 := ⟨rZ, rO, rO, rZ⟩
def ax1 : T2 := ⟨rZ, ⟨⟨0, 0, -1, 0⟩, 0⟩, ⟨⟨0, 0, 1, 0⟩, 0⟩, rZ⟩
def ax2 : T2 := ⟨rO, rZ, rZ, ⟨⟨-1, 0, 0, 0⟩, 0⟩⟩
theorem axis_ok : m_axis_tables [] = some (.v (.tup [dT ax0, dT ax1, dT ax2])) := by kernel_rfl
def hdOk (A : T2) : Bool := okB A.p && (okB A.s && okB (rsum [A.p, A.s]))
def hd (A : T2) : Ry := ⟨(ovr (rsum [A.p, A.s]).q (rsum [A.p, A.s]).k 2).1, (ovr (rsum [A.p, A.s]).q (rsum [A.p, A.s]).k 2).2⟩
theorem hd_ok (A : T2) (h : hdOk A = true) : m_half_of_diagonal [dT A] = some (.v (dR (hd A))) := by
  unfold hdOk at h
  simp only [Bool.and_eq_true] at h
  have s := ray_sum_ok A.p A.s (okB_two h.1) (okB_two h.2.1)
  have o := over_ok true (rsum [A.p, A.s]).q (rsum [A.p, A.s]).k 2 (by have := okB_k h.2.2; omega) (by decide) (okB_sm h.2.2)
  have e : ry true (rsum [A.p, A.s]).q (rsum [A.p, A.s]).k = dR (rsum [A.p, A.s]) := rfl
  rw [e] at o
  have o' : m_over_root [dR (rsum [A.p, A.s]), .int 2] = some (.v (dR (hd A))) := o
  unfold dT t2
  simp [m_half_of_diagonal, sm_half_of_diagonal, s, o']
structure A9 where
  a : Ry
  b : Ry
  c : Ry
  d : Ry
  e : Ry
  f : Ry
  g : Ry
  h : Ry
  i : Ry
def dA (x : A9) : D := .tup [.tup [dR x.a, dR x.b, dR x.c], .tup [dR x.d, dR x.e, dR x.f], .tup [dR x.g, dR x.h, dR x.i]]
def tr (A X : T2) : T2 := tp (tp A X) (tmir A)
def trOk (A X : T2) : Bool := tpOk A X && tpOk (tp A X) (tmir A)
def ah (X Y : T2) : Ry := hd (tp X Y)
def ahOk (X Y : T2) : Bool := tpOk X Y && hdOk (tp X Y)
def axes (A : T2) : A9 := ⟨ah ax0 (tr A ax0), ah ax0 (tr A ax1), ah ax0 (tr A ax2), ah ax1 (tr A ax0), ah ax1 (tr A ax1), ah ax1 (tr A ax2), ah ax2 (tr A ax0), ah ax2 (tr A ax1), ah ax2 (tr A ax2)⟩
def axesOk (A : T2) : Bool := (trOk A ax0 && (trOk A ax1 && trOk A ax2)) && ((ahOk ax0 (tr A ax0) && (ahOk ax0 (tr A ax1) && ahOk ax0 (tr A ax2))) && ((ahOk ax1 (tr A ax0) && (ahOk ax1 (tr A ax1) && ahOk ax1 (tr A ax2))) && (ahOk ax2 (tr A ax0) && (ahOk ax2 (tr A ax1) && ahOk ax2 (tr A ax2)))))
theorem axes_s (A B X Y Z X1 Y1 Z1 X2 Y2 Z2 : D) (p00 p01 p02 p10 p11 p12 p20 p21 p22 h00 h01 h02 h10 h11 h12 h20 h21 h22 : D)
    (hm : m_table_mirrored [A] = some (.v B)) (ha : m_axis_tables [] = some (.v (.tup [X, Y, Z])))
    (a1 : m_table_product [A, X] = some (.v X1)) (a2 : m_table_product [A, Y] = some (.v Y1)) (a3 : m_table_product [A, Z] = some (.v Z1))
    (b1 : m_table_product [X1, B] = some (.v X2)) (b2 : m_table_product [Y1, B] = some (.v Y2)) (b3 : m_table_product [Z1, B] = some (.v Z2))
    (c1 : m_table_product [X, X2] = some (.v p00)) (c2 : m_table_product [X, Y2] = some (.v p01)) (c3 : m_table_product [X, Z2] = some (.v p02))
    (c4 : m_table_product [Y, X2] = some (.v p10)) (c5 : m_table_product [Y, Y2] = some (.v p11)) (c6 : m_table_product [Y, Z2] = some (.v p12))
    (c7 : m_table_product [Z, X2] = some (.v p20)) (c8 : m_table_product [Z, Y2] = some (.v p21)) (c9 : m_table_product [Z, Z2] = some (.v p22))
    (d1 : m_half_of_diagonal [p00] = some (.v h00)) (d2 : m_half_of_diagonal [p01] = some (.v h01)) (d3 : m_half_of_diagonal [p02] = some (.v h02))
    (d4 : m_half_of_diagonal [p10] = some (.v h10)) (d5 : m_half_of_diagonal [p11] = some (.v h11)) (d6 : m_half_of_diagonal [p12] = some (.v h12))
    (d7 : m_half_of_diagonal [p20] = some (.v h20)) (d8 : m_half_of_diagonal [p21] = some (.v h21)) (d9 : m_half_of_diagonal [p22] = some (.v h22)) :
    m_axes_table [A] = some (.v (.tup [.tup [h00, h01, h02], .tup [h10, h11, h12], .tup [h20, h21, h22]])) := by
  have main : sm_axes_table [.val A, .none, .none, .none, .none, .none] = some (.ret (.val (.tup [.tup [h00, h01, h02], .tup [h10, h11, h12], .tup [h20, h21, h22]])), [.val A, .val B, .val (.tup [X, Y, Z]), .val (.lst [X2, Y2, Z2]), .none, .none]) := by
    unfold sm_axes_table
    refine seq_nxt (δ' := [.val A, .val B, .none, .none, .none, .none]) (by simp [hm]) ?_
    refine seq_nxt (δ' := [.val A, .val B, .val (.tup [X, Y, Z]), .none, .none, .none]) (by simp [ha]) ?_
    refine seq_nxt (δ' := [.val A, .val B, .val (.tup [X, Y, Z]), .own false [X2, Y2, Z2], .none, .none]) (by simp [lcD, a1, a2, a3, b1, b2, b3]) ?_
    simp [lcD, c1, c2, c3, c4, c5, c6, c7, c8, c9, d1, d2, d3, d4, d5, d6, d7, d8, d9]
  simp [m_axes_table, main]
theorem axes_ok (A : T2) (h : axesOk A = true) : m_axes_table [dT A] = some (.v (dA (axes A))) := by
  unfold axesOk trOk ahOk at h
  simp only [Bool.and_eq_true] at h
  obtain ⟨⟨⟨a1, b1⟩, ⟨a2, b2⟩, a3, b3⟩, ⟨⟨c1, d1⟩, ⟨c2, d2⟩, c3, d3⟩, ⟨⟨c4, d4⟩, ⟨c5, d5⟩, c6, d6⟩, ⟨c7, d7⟩, ⟨c8, d8⟩, c9, d9⟩ := h
  exact axes_s _ _ _ _ _ _ _ _ _ _ _ _ _ _ _ _ _ _ _ _ _ _ _ _ _ _ _ _ _ (tmir_ok A) axis_ok (tp_ok _ _ a1) (tp_ok _ _ a2) (tp_ok _ _ a3) (tp_ok _ _ b1) (tp_ok _ _ b2) (tp_ok _ _ b3)
    (tp_ok _ _ c1) (tp_ok _ _ c2) (tp_ok _ _ c3) (tp_ok _ _ c4) (tp_ok _ _ c5) (tp_ok _ _ c6) (tp_ok _ _ c7) (tp_ok _ _ c8) (tp_ok _ _ c9)
    (hd_ok _ d1) (hd_ok _ d2) (hd_ok _ d3) (hd_ok _ d4) (hd_ok _ d5) (hd_ok _ d6) (hd_ok _ d7) (hd_ok _ d8) (hd_ok _ d9)
def mx (a b : Int) : Int := if a < b then b else a
theorem power3 (a b c : Ry) : m_power_of [.tup [dR a, dR b, dR c]] = some (.v (.int (mx (mx a.k b.k) c.k))) := by
  simp [m_power_of, sm_power_of, lcD, dR_eq, maxI, mx]
theorem least_s (X Y Z : D) (a b c : Int) (h1 : m_power_of [X] = some (.v (.int a))) (h2 : m_power_of [Y] = some (.v (.int b))) (h3 : m_power_of [Z] = some (.v (.int c))) : m_least_power [.tup [X, Y, Z]] = some (.v (.int (mx (mx a b) c))) := by
  simp [m_least_power, sm_least_power, lcD, h1, h2, h3, maxI, mx]
  rfl
def apow (A : T2) : Int := mx (mx (mx (mx (axes A).a.k (axes A).b.k) (axes A).c.k) (mx (mx (axes A).d.k (axes A).e.k) (axes A).f.k)) (mx (mx (axes A).g.k (axes A).h.k) (axes A).i.k)
theorem apow_ok (A : T2) (h : axesOk A = true) : m_axes_power [dT A] = some (.v (.int (apow A))) := by
  have a := axes_ok A h
  have l := least_s _ _ _ _ _ _ (power3 (axes A).a (axes A).b (axes A).c) (power3 (axes A).d (axes A).e (axes A).f) (power3 (axes A).g (axes A).h (axes A).i)
  simp only [dA] at a
  simp [m_axes_power, sm_axes_power, a, l, apow]
end K20
end
section
set_option maxRecDepth 100000
set_option linter.all false
set_option exponentiation.threshold 5000
set_option maxHeartbeats 8000000
namespace K20
open Pd PySem
/-! a table, upright -/
theorem are_s (a b : D) (h1 : m_is_ray [a] = some (.v (.bl true))) (h2 : m_is_ray [b] = some (.v (.bl true))) : m_are_rays [.tup [a, b]] = some (.v (.bl true)) := by
  simp [m_are_rays, sm_are_rays, lcD, h1, h2]
theorem is_table_s (a b c d : D) (h1 : m_are_rays [.tup [a, b]] = some (.v (.bl true))) (h2 : m_are_rays [.tup [c, d]] = some (.v (.bl true))) : m_is_table [t2 a b c d] = some (.v (.bl true)) := by
  simp [m_is_table, sm_is_table, t2, lcD, h1, h2]
def nrm (r : Ry) : Bool := decide (r.k ≤ 400) && decide ((red r.k r.q).2 = r.k)
theorem red_same : ∀ (k : Nat) (q : Q4), (red k q).2 = k → red k q = (q, k)
  | 0, q, _ => rfl
  | k + 1, q, h => by
    unfold red at h ⊢
    split
    · rename_i hh
      rw [if_pos hh] at h
      have := (red_back k (half q)).1
      omega
    · rfl
theorem nrm_ok {r : Ry} (h : nrm r = true) : m_is_ray [dR r] = some (.v (.bl true)) := by
  unfold nrm at h
  rw [Bool.and_eq_true, decide_eq_true_eq, decide_eq_true_eq] at h
  exact is_ray_ok r.q r.k (red_same _ _ h.2) h.1
theorem is_table_ok (A : T2) (h : (nrm A.p && (nrm A.q && (nrm A.r && nrm A.s))) = true) : m_is_table [dT A] = some (.v (.bl true)) := by
  simp only [Bool.and_eq_true] at h
  exact is_table_s _ _ _ _ (are_s _ _ (nrm_ok h.1) (nrm_ok h.2.1)) (are_s _ _ (nrm_ok h.2.2.1) (nrm_ok h.2.2.2))
def sqsum (r : Ry) : Int := r.q.a * r.q.a + (r.q.b * r.q.b + (r.q.c * r.q.c + r.q.d * r.q.d))
def bits (r : Ry) : Int := (Builtin.Int.intBits (sqsum r) : Nat)
def smoOk (a b : Ry) : Bool := (okB a && okB b) && ((okB (rsize a) && okB (rsize b)) && (decide (mx a.k b.k ≤ bits a + bits b) && isRy (rsum [rsize a, rsize b]) rO))
theorem one_eq : d_ONE = dR rO := rfl
theorem smo_ok (a b : Ry) (h : smoOk a b = true) : m_sizes_make_one [.tup [dR a, dR b]] = some (.v (.bl true)) := by
  unfold smoOk at h
  simp only [Bool.and_eq_true, decide_eq_true_eq] at h
  obtain ⟨⟨oa, ob⟩, ⟨oc, od⟩, hk, hs⟩ := h
  have s1 := rsize_ok a oa
  have s2 := rsize_ok b ob
  have r := rsum_two false (rsize a) (rsize b) (okB_two oc) (okB_two od)
  simp [sq] at r
  obtain ⟨a1, a2, a3, a4⟩ := bd_mul (okB_bd oa) (by decide)
  obtain ⟨b1, b2, b3, b4⟩ := bd_mul (okB_bd ob) (by decide)
  have hk' : ¬ (bits a + bits b < mx a.k b.k) := by omega
  have main : sm_sizes_make_one [.val (.tup [dR a, dR b]), .none, .none, .none] = some (.ret (.val (.bl true)), [.val (.tup [dR a, dR b]), .val (.int (bits a + bits b)), .none, .none]) := by
    unfold sm_sizes_make_one
    refine seq_nxt (δ' := [.val (.tup [dR a, dR b]), .val (.int (bits a + bits b)), .none, .none]) ?_ ?_
    · simp [lcD, dR_eq, a1, a2, a3, a4, b1, b2, b3, b4, bits, sqsum]
    refine seq_nxt (δ' := [.val (.tup [dR a, dR b]), .val (.int (bits a + bits b)), .none, .none]) ?_ ?_
    · have hm : maxI (a.k : Int) [(a.k : Int), (b.k : Int)] = mx a.k b.k := rfl
      generalize bits a + bits b = W at *
      simp [lcD, dR_eq, hm, hk']
    · have e : shp d_ONE = true := shp_dR rO
      have e2 : eqD (dR (rsum [rsize a, rsize b])) d_ONE = true := (isRy_eq _ rO).trans hs
      simp [lcD, s1, s2, r, shp_dR, e, e2]
  simp [m_sizes_make_one, main]
theorem mp_s (a b c d x y z : D) (h1 : m_mirrored [a] = some (.v x)) (h2 : m_mirrored [b] = some (.v y)) (h3 : m_products_added [.lst [x, y], .tup [c, d]] = some (.v z)) : m_mirror_product [.tup [a, b], .tup [c, d]] = some (.v z) := by
  simp [m_mirror_product, sm_mirror_product, lcD, h1, h2, h3]
def mp (a b c d : Ry) : Ry := rpa [rmir a, rmir b] [c, d]
theorem mp_ok (a b c d : Ry) (h : paOk [rmir a, rmir b] [c, d] = true) : m_mirror_product [.tup [dR a, dR b], .tup [dR c, dR d]] = some (.v (dR (mp a b c d))) :=
  mp_s _ _ _ _ _ _ _ (mir_ok a) (mir_ok b) (pa_ok false [rmir a, rmir b] [c, d] (by simp) h)
theorem sl_s (X Y : D) (i j : Int) (x y : D) (r w : Ry) (hi : L2.atI [X, Y] i = some x) (hj : L2.atI [X, Y] j = some y) (hm : m_mirror_product [x, y] = some (.v (dR r))) (hw : (if (i == j) = true then d_ONE else d_ZERO) = dR w) (e : isRy r w = true) : m_slants [.tup [X, Y], .int i, .int j] = some (.v (.bl false)) := by
  have e1 : eqD (dR r) (dR w) = true := (isRy_eq r w).trans e
  by_cases h : (i == j) = true
  · rw [if_pos h] at hw
    have hs : shp d_ONE = true := shp_dR rO
    rw [← hw] at e1
    simp [m_slants, sm_slants, hi, hj, hm, h, shp_dR, hs, e1]
  · rw [if_neg h] at hw
    have hs : shp d_ZERO = true := shp_Z
    rw [← hw] at e1
    simp [m_slants, sm_slants, hi, hj, hm, h, shp_dR, hs, e1]
theorem ls_s (X Y : D) (h00 : m_slants [.tup [X, Y], .int 0, .int 0] = some (.v (.bl false))) (h01 : m_slants [.tup [X, Y], .int 0, .int 1] = some (.v (.bl false))) (h11 : m_slants [.tup [X, Y], .int 1, .int 1] = some (.v (.bl false))) : m_least_slant [.tup [X, Y]] = some (.v .non) := by
  simp [m_least_slant, sm_least_slant, forD, h00, h01, h11]
theorem up_s (A a b c d : D) (hf : m_frozen [A] = some (.v (t2 a b c d))) (s1 : m_sizes_make_one [.tup [a, c]] = some (.v (.bl true))) (s2 : m_sizes_make_one [.tup [b, d]] = some (.v (.bl true))) (l : m_least_slant [.tup [.tup [a, c], .tup [b, d]]] = some (.v .non)) : m_is_upright [A] = some (.v (.bl true)) := by
  have hc := columns_two a b c d
  simp only [t2] at hf hc
  simp [m_is_upright, sm_is_upright, lcD, hf, hc, s1, s2, l]
def upOk (A : T2) : Bool := (smoOk A.p A.r && smoOk A.q A.s) && ((paOk [rmir A.p, rmir A.r] [A.p, A.r] && isRy (mp A.p A.r A.p A.r) rO) && ((paOk [rmir A.p, rmir A.r] [A.q, A.s] && isRy (mp A.p A.r A.q A.s) rZ) && (paOk [rmir A.q, rmir A.s] [A.q, A.s] && isRy (mp A.q A.s A.q A.s) rO)))
theorem up_ok (A : T2) (h : upOk A = true) : m_is_upright [dT A] = some (.v (.bl true)) := by
  unfold upOk at h
  simp only [Bool.and_eq_true] at h
  obtain ⟨⟨a1, a2⟩, ⟨b1, b2⟩, ⟨c1, c2⟩, d1, d2⟩ := h
  exact up_s _ _ _ _ _ (frozen_dT A) (smo_ok _ _ a1) (smo_ok _ _ a2) (ls_s _ _ (sl_s _ _ 0 0 _ _ _ rO rfl rfl (mp_ok _ _ _ _ b1) rfl b2) (sl_s _ _ 0 1 _ _ _ rZ rfl rfl (mp_ok _ _ _ _ c1) rfl c2) (sl_s _ _ 1 1 _ _ _ rO rfl rfl (mp_ok _ _ _ _ d1) rfl d2))
def chk (A : T2) : Bool := (nrm A.p && (nrm A.q && (nrm A.r && nrm A.s))) && (upOk A && (axesOk A && apow A == 0))
theorem quarter_ok (A : T2) (h : chk A = true) : m_is_quarter [dT A] = some (.v (.bl true)) := by
  unfold chk at h
  obtain ⟨h1, h⟩ := Bool.and_eq_true_iff.mp h
  obtain ⟨h2, h⟩ := Bool.and_eq_true_iff.mp h
  obtain ⟨h3, h4⟩ := Bool.and_eq_true_iff.mp h
  have t := is_table_ok A h1
  have u := up_ok A h2
  have p := apow_ok A h3
  rw [eq_of_beq h4] at p
  simp only [dT, t2] at t u p
  simp [m_is_quarter, sm_is_quarter, dT, t2, t, u, p]
end K20
end
section
set_option linter.all false
set_option maxRecDepth 100000
set_option maxHeartbeats 0
namespace K20
open Pd PySem
def ry5 (a b c d : Int) (k : Nat) : Ry := ⟨⟨a, b, c, d⟩, k⟩
def tb (p q r s : Ry) : T2 := ⟨p, q, r, s⟩
def qsA0 : List T2 := [tb (ry5 (-1) 0 0 0 0) (ry5 0 0 0 0 0) (ry5 0 0 0 0 0) (ry5 (-1) 0 0 0 0),
  tb (ry5 (-1) 0 0 0 0) (ry5 0 0 0 0 0) (ry5 0 0 0 0 0) (ry5 0 0 (-1) 0 0),
  tb (ry5 (-1) 0 0 0 0) (ry5 0 0 0 0 0) (ry5 0 0 0 0 0) (ry5 0 0 1 0 0),
  tb (ry5 (-1) 0 0 0 0) (ry5 0 0 0 0 0) (ry5 0 0 0 0 0) (ry5 1 0 0 0 0),
  tb (ry5 (-1) 0 0 0 1) (ry5 (-1) 0 0 0 1) (ry5 (-1) 0 0 0 1) (ry5 1 0 0 0 1),
  tb (ry5 (-1) 0 0 0 1) (ry5 (-1) 0 0 0 1) (ry5 0 0 (-1) 0 1) (ry5 0 0 1 0 1),
  tb (ry5 (-1) 0 0 0 1) (ry5 (-1) 0 0 0 1) (ry5 0 0 1 0 1) (ry5 0 0 (-1) 0 1),
  tb (ry5 (-1) 0 0 0 1) (ry5 (-1) 0 0 0 1) (ry5 1 0 0 0 1) (ry5 (-1) 0 0 0 1),
  tb (ry5 (-1) 0 0 0 1) (ry5 0 0 (-1) 0 1) (ry5 (-1) 0 0 0 1) (ry5 0 0 1 0 1),
  tb (ry5 (-1) 0 0 0 1) (ry5 0 0 (-1) 0 1) (ry5 0 0 (-1) 0 1) (ry5 (-1) 0 0 0 1),
  tb (ry5 (-1) 0 0 0 1) (ry5 0 0 (-1) 0 1) (ry5 0 0 1 0 1) (ry5 1 0 0 0 1),
  tb (ry5 (-1) 0 0 0 1) (ry5 0 0 (-1) 0 1) (ry5 1 0 0 0 1) (ry5 0 0 (-1) 0 1),
  tb (ry5 (-1) 0 0 0 1) (ry5 0 0 1 0 1) (ry5 (-1) 0 0 0 1) (ry5 0 0 (-1) 0 1),
  tb (ry5 (-1) 0 0 0 1) (ry5 0 0 1 0 1) (ry5 0 0 (-1) 0 1) (ry5 1 0 0 0 1),
  tb (ry5 (-1) 0 0 0 1) (ry5 0 0 1 0 1) (ry5 0 0 1 0 1) (ry5 (-1) 0 0 0 1),
  tb (ry5 (-1) 0 0 0 1) (ry5 0 0 1 0 1) (ry5 1 0 0 0 1) (ry5 0 0 1 0 1),
  tb (ry5 (-1) 0 0 0 1) (ry5 1 0 0 0 1) (ry5 (-1) 0 0 0 1) (ry5 (-1) 0 0 0 1),
  tb (ry5 (-1) 0 0 0 1) (ry5 1 0 0 0 1) (ry5 0 0 (-1) 0 1) (ry5 0 0 (-1) 0 1),
  tb (ry5 (-1) 0 0 0 1) (ry5 1 0 0 0 1) (ry5 0 0 1 0 1) (ry5 0 0 1 0 1),
  tb (ry5 (-1) 0 0 0 1) (ry5 1 0 0 0 1) (ry5 1 0 0 0 1) (ry5 1 0 0 0 1),
  tb (ry5 0 (-1) 0 0 0) (ry5 0 0 0 0 0) (ry5 0 0 0 0 0) (ry5 0 (-1) 0 0 0),
  tb (ry5 0 (-1) 0 0 0) (ry5 0 0 0 0 0) (ry5 0 0 0 0 0) (ry5 0 0 0 (-1) 0),
  tb (ry5 0 (-1) 0 0 0) (ry5 0 0 0 0 0) (ry5 0 0 0 0 0) (ry5 0 0 0 1 0),
  tb (ry5 0 (-1) 0 0 0) (ry5 0 0 0 0 0) (ry5 0 0 0 0 0) (ry5 0 1 0 0 0)]
theorem qsA0_ok : qsA0.all chk = true := by decide +kernel
def qsA1 : List T2 := [tb (ry5 0 (-1) 0 0 1) (ry5 0 (-1) 0 0 1) (ry5 0 (-1) 0 0 1) (ry5 0 1 0 0 1),
  tb (ry5 0 (-1) 0 0 1) (ry5 0 (-1) 0 0 1) (ry5 0 0 0 (-1) 1) (ry5 0 0 0 1 1),
  tb (ry5 0 (-1) 0 0 1) (ry5 0 (-1) 0 0 1) (ry5 0 0 0 1 1) (ry5 0 0 0 (-1) 1),
  tb (ry5 0 (-1) 0 0 1) (ry5 0 (-1) 0 0 1) (ry5 0 1 0 0 1) (ry5 0 (-1) 0 0 1),
  tb (ry5 0 (-1) 0 0 1) (ry5 0 0 0 (-1) 1) (ry5 0 (-1) 0 0 1) (ry5 0 0 0 1 1),
  tb (ry5 0 (-1) 0 0 1) (ry5 0 0 0 (-1) 1) (ry5 0 0 0 (-1) 1) (ry5 0 (-1) 0 0 1),
  tb (ry5 0 (-1) 0 0 1) (ry5 0 0 0 (-1) 1) (ry5 0 0 0 1 1) (ry5 0 1 0 0 1),
  tb (ry5 0 (-1) 0 0 1) (ry5 0 0 0 (-1) 1) (ry5 0 1 0 0 1) (ry5 0 0 0 (-1) 1),
  tb (ry5 0 (-1) 0 0 1) (ry5 0 0 0 1 1) (ry5 0 (-1) 0 0 1) (ry5 0 0 0 (-1) 1),
  tb (ry5 0 (-1) 0 0 1) (ry5 0 0 0 1 1) (ry5 0 0 0 (-1) 1) (ry5 0 1 0 0 1),
  tb (ry5 0 (-1) 0 0 1) (ry5 0 0 0 1 1) (ry5 0 0 0 1 1) (ry5 0 (-1) 0 0 1),
  tb (ry5 0 (-1) 0 0 1) (ry5 0 0 0 1 1) (ry5 0 1 0 0 1) (ry5 0 0 0 1 1),
  tb (ry5 0 (-1) 0 0 1) (ry5 0 1 0 0 1) (ry5 0 (-1) 0 0 1) (ry5 0 (-1) 0 0 1),
  tb (ry5 0 (-1) 0 0 1) (ry5 0 1 0 0 1) (ry5 0 0 0 (-1) 1) (ry5 0 0 0 (-1) 1),
  tb (ry5 0 (-1) 0 0 1) (ry5 0 1 0 0 1) (ry5 0 0 0 1 1) (ry5 0 0 0 1 1),
  tb (ry5 0 (-1) 0 0 1) (ry5 0 1 0 0 1) (ry5 0 1 0 0 1) (ry5 0 1 0 0 1),
  tb (ry5 0 0 (-1) 0 0) (ry5 0 0 0 0 0) (ry5 0 0 0 0 0) (ry5 (-1) 0 0 0 0),
  tb (ry5 0 0 (-1) 0 0) (ry5 0 0 0 0 0) (ry5 0 0 0 0 0) (ry5 0 0 (-1) 0 0),
  tb (ry5 0 0 (-1) 0 0) (ry5 0 0 0 0 0) (ry5 0 0 0 0 0) (ry5 0 0 1 0 0),
  tb (ry5 0 0 (-1) 0 0) (ry5 0 0 0 0 0) (ry5 0 0 0 0 0) (ry5 1 0 0 0 0),
  tb (ry5 0 0 (-1) 0 1) (ry5 (-1) 0 0 0 1) (ry5 (-1) 0 0 0 1) (ry5 0 0 (-1) 0 1),
  tb (ry5 0 0 (-1) 0 1) (ry5 (-1) 0 0 0 1) (ry5 0 0 (-1) 0 1) (ry5 1 0 0 0 1),
  tb (ry5 0 0 (-1) 0 1) (ry5 (-1) 0 0 0 1) (ry5 0 0 1 0 1) (ry5 (-1) 0 0 0 1),
  tb (ry5 0 0 (-1) 0 1) (ry5 (-1) 0 0 0 1) (ry5 1 0 0 0 1) (ry5 0 0 1 0 1)]
theorem qsA1_ok : qsA1.all chk = true := by decide +kernel
def qsA2 : List T2 := [tb (ry5 0 0 (-1) 0 1) (ry5 0 0 (-1) 0 1) (ry5 (-1) 0 0 0 1) (ry5 1 0 0 0 1),
  tb (ry5 0 0 (-1) 0 1) (ry5 0 0 (-1) 0 1) (ry5 0 0 (-1) 0 1) (ry5 0 0 1 0 1),
  tb (ry5 0 0 (-1) 0 1) (ry5 0 0 (-1) 0 1) (ry5 0 0 1 0 1) (ry5 0 0 (-1) 0 1),
  tb (ry5 0 0 (-1) 0 1) (ry5 0 0 (-1) 0 1) (ry5 1 0 0 0 1) (ry5 (-1) 0 0 0 1),
  tb (ry5 0 0 (-1) 0 1) (ry5 0 0 1 0 1) (ry5 (-1) 0 0 0 1) (ry5 (-1) 0 0 0 1),
  tb (ry5 0 0 (-1) 0 1) (ry5 0 0 1 0 1) (ry5 0 0 (-1) 0 1) (ry5 0 0 (-1) 0 1),
  tb (ry5 0 0 (-1) 0 1) (ry5 0 0 1 0 1) (ry5 0 0 1 0 1) (ry5 0 0 1 0 1),
  tb (ry5 0 0 (-1) 0 1) (ry5 0 0 1 0 1) (ry5 1 0 0 0 1) (ry5 1 0 0 0 1),
  tb (ry5 0 0 (-1) 0 1) (ry5 1 0 0 0 1) (ry5 (-1) 0 0 0 1) (ry5 0 0 1 0 1),
  tb (ry5 0 0 (-1) 0 1) (ry5 1 0 0 0 1) (ry5 0 0 (-1) 0 1) (ry5 (-1) 0 0 0 1),
  tb (ry5 0 0 (-1) 0 1) (ry5 1 0 0 0 1) (ry5 0 0 1 0 1) (ry5 1 0 0 0 1),
  tb (ry5 0 0 (-1) 0 1) (ry5 1 0 0 0 1) (ry5 1 0 0 0 1) (ry5 0 0 (-1) 0 1),
  tb (ry5 0 0 0 (-1) 0) (ry5 0 0 0 0 0) (ry5 0 0 0 0 0) (ry5 0 (-1) 0 0 0),
  tb (ry5 0 0 0 (-1) 0) (ry5 0 0 0 0 0) (ry5 0 0 0 0 0) (ry5 0 0 0 (-1) 0),
  tb (ry5 0 0 0 (-1) 0) (ry5 0 0 0 0 0) (ry5 0 0 0 0 0) (ry5 0 0 0 1 0),
  tb (ry5 0 0 0 (-1) 0) (ry5 0 0 0 0 0) (ry5 0 0 0 0 0) (ry5 0 1 0 0 0),
  tb (ry5 0 0 0 (-1) 1) (ry5 0 (-1) 0 0 1) (ry5 0 (-1) 0 0 1) (ry5 0 0 0 (-1) 1),
  tb (ry5 0 0 0 (-1) 1) (ry5 0 (-1) 0 0 1) (ry5 0 0 0 (-1) 1) (ry5 0 1 0 0 1),
  tb (ry5 0 0 0 (-1) 1) (ry5 0 (-1) 0 0 1) (ry5 0 0 0 1 1) (ry5 0 (-1) 0 0 1),
  tb (ry5 0 0 0 (-1) 1) (ry5 0 (-1) 0 0 1) (ry5 0 1 0 0 1) (ry5 0 0 0 1 1),
  tb (ry5 0 0 0 (-1) 1) (ry5 0 0 0 (-1) 1) (ry5 0 (-1) 0 0 1) (ry5 0 1 0 0 1),
  tb (ry5 0 0 0 (-1) 1) (ry5 0 0 0 (-1) 1) (ry5 0 0 0 (-1) 1) (ry5 0 0 0 1 1),
  tb (ry5 0 0 0 (-1) 1) (ry5 0 0 0 (-1) 1) (ry5 0 0 0 1 1) (ry5 0 0 0 (-1) 1),
  tb (ry5 0 0 0 (-1) 1) (ry5 0 0 0 (-1) 1) (ry5 0 1 0 0 1) (ry5 0 (-1) 0 0 1)]
theorem qsA2_ok : qsA2.all chk = true := by decide +kernel
def qsA3 : List T2 := [tb (ry5 0 0 0 (-1) 1) (ry5 0 0 0 1 1) (ry5 0 (-1) 0 0 1) (ry5 0 (-1) 0 0 1),
  tb (ry5 0 0 0 (-1) 1) (ry5 0 0 0 1 1) (ry5 0 0 0 (-1) 1) (ry5 0 0 0 (-1) 1),
  tb (ry5 0 0 0 (-1) 1) (ry5 0 0 0 1 1) (ry5 0 0 0 1 1) (ry5 0 0 0 1 1),
  tb (ry5 0 0 0 (-1) 1) (ry5 0 0 0 1 1) (ry5 0 1 0 0 1) (ry5 0 1 0 0 1),
  tb (ry5 0 0 0 (-1) 1) (ry5 0 1 0 0 1) (ry5 0 (-1) 0 0 1) (ry5 0 0 0 1 1),
  tb (ry5 0 0 0 (-1) 1) (ry5 0 1 0 0 1) (ry5 0 0 0 (-1) 1) (ry5 0 (-1) 0 0 1),
  tb (ry5 0 0 0 (-1) 1) (ry5 0 1 0 0 1) (ry5 0 0 0 1 1) (ry5 0 1 0 0 1),
  tb (ry5 0 0 0 (-1) 1) (ry5 0 1 0 0 1) (ry5 0 1 0 0 1) (ry5 0 0 0 (-1) 1),
  tb (ry5 0 0 0 0 0) (ry5 (-1) 0 0 0 0) (ry5 (-1) 0 0 0 0) (ry5 0 0 0 0 0),
  tb (ry5 0 0 0 0 0) (ry5 (-1) 0 0 0 0) (ry5 0 0 (-1) 0 0) (ry5 0 0 0 0 0),
  tb (ry5 0 0 0 0 0) (ry5 (-1) 0 0 0 0) (ry5 0 0 1 0 0) (ry5 0 0 0 0 0),
  tb (ry5 0 0 0 0 0) (ry5 (-1) 0 0 0 0) (ry5 1 0 0 0 0) (ry5 0 0 0 0 0),
  tb (ry5 0 0 0 0 0) (ry5 0 (-1) 0 0 0) (ry5 0 (-1) 0 0 0) (ry5 0 0 0 0 0),
  tb (ry5 0 0 0 0 0) (ry5 0 (-1) 0 0 0) (ry5 0 0 0 (-1) 0) (ry5 0 0 0 0 0),
  tb (ry5 0 0 0 0 0) (ry5 0 (-1) 0 0 0) (ry5 0 0 0 1 0) (ry5 0 0 0 0 0),
  tb (ry5 0 0 0 0 0) (ry5 0 (-1) 0 0 0) (ry5 0 1 0 0 0) (ry5 0 0 0 0 0),
  tb (ry5 0 0 0 0 0) (ry5 0 0 (-1) 0 0) (ry5 (-1) 0 0 0 0) (ry5 0 0 0 0 0),
  tb (ry5 0 0 0 0 0) (ry5 0 0 (-1) 0 0) (ry5 0 0 (-1) 0 0) (ry5 0 0 0 0 0),
  tb (ry5 0 0 0 0 0) (ry5 0 0 (-1) 0 0) (ry5 0 0 1 0 0) (ry5 0 0 0 0 0),
  tb (ry5 0 0 0 0 0) (ry5 0 0 (-1) 0 0) (ry5 1 0 0 0 0) (ry5 0 0 0 0 0),
  tb (ry5 0 0 0 0 0) (ry5 0 0 0 (-1) 0) (ry5 0 (-1) 0 0 0) (ry5 0 0 0 0 0),
  tb (ry5 0 0 0 0 0) (ry5 0 0 0 (-1) 0) (ry5 0 0 0 (-1) 0) (ry5 0 0 0 0 0),
  tb (ry5 0 0 0 0 0) (ry5 0 0 0 (-1) 0) (ry5 0 0 0 1 0) (ry5 0 0 0 0 0),
  tb (ry5 0 0 0 0 0) (ry5 0 0 0 (-1) 0) (ry5 0 1 0 0 0) (ry5 0 0 0 0 0)]
theorem qsA3_ok : qsA3.all chk = true := by decide +kernel
def qsA4 : List T2 := [tb (ry5 0 0 0 0 0) (ry5 0 0 0 1 0) (ry5 0 (-1) 0 0 0) (ry5 0 0 0 0 0),
  tb (ry5 0 0 0 0 0) (ry5 0 0 0 1 0) (ry5 0 0 0 (-1) 0) (ry5 0 0 0 0 0),
  tb (ry5 0 0 0 0 0) (ry5 0 0 0 1 0) (ry5 0 0 0 1 0) (ry5 0 0 0 0 0),
  tb (ry5 0 0 0 0 0) (ry5 0 0 0 1 0) (ry5 0 1 0 0 0) (ry5 0 0 0 0 0),
  tb (ry5 0 0 0 0 0) (ry5 0 0 1 0 0) (ry5 (-1) 0 0 0 0) (ry5 0 0 0 0 0),
  tb (ry5 0 0 0 0 0) (ry5 0 0 1 0 0) (ry5 0 0 (-1) 0 0) (ry5 0 0 0 0 0),
  tb (ry5 0 0 0 0 0) (ry5 0 0 1 0 0) (ry5 0 0 1 0 0) (ry5 0 0 0 0 0),
  tb (ry5 0 0 0 0 0) (ry5 0 0 1 0 0) (ry5 1 0 0 0 0) (ry5 0 0 0 0 0),
  tb (ry5 0 0 0 0 0) (ry5 0 1 0 0 0) (ry5 0 (-1) 0 0 0) (ry5 0 0 0 0 0),
  tb (ry5 0 0 0 0 0) (ry5 0 1 0 0 0) (ry5 0 0 0 (-1) 0) (ry5 0 0 0 0 0),
  tb (ry5 0 0 0 0 0) (ry5 0 1 0 0 0) (ry5 0 0 0 1 0) (ry5 0 0 0 0 0),
  tb (ry5 0 0 0 0 0) (ry5 0 1 0 0 0) (ry5 0 1 0 0 0) (ry5 0 0 0 0 0),
  tb (ry5 0 0 0 0 0) (ry5 1 0 0 0 0) (ry5 (-1) 0 0 0 0) (ry5 0 0 0 0 0),
  tb (ry5 0 0 0 0 0) (ry5 1 0 0 0 0) (ry5 0 0 (-1) 0 0) (ry5 0 0 0 0 0),
  tb (ry5 0 0 0 0 0) (ry5 1 0 0 0 0) (ry5 0 0 1 0 0) (ry5 0 0 0 0 0),
  tb (ry5 0 0 0 0 0) (ry5 1 0 0 0 0) (ry5 1 0 0 0 0) (ry5 0 0 0 0 0),
  tb (ry5 0 0 0 1 0) (ry5 0 0 0 0 0) (ry5 0 0 0 0 0) (ry5 0 (-1) 0 0 0),
  tb (ry5 0 0 0 1 0) (ry5 0 0 0 0 0) (ry5 0 0 0 0 0) (ry5 0 0 0 (-1) 0),
  tb (ry5 0 0 0 1 0) (ry5 0 0 0 0 0) (ry5 0 0 0 0 0) (ry5 0 0 0 1 0),
  tb (ry5 0 0 0 1 0) (ry5 0 0 0 0 0) (ry5 0 0 0 0 0) (ry5 0 1 0 0 0),
  tb (ry5 0 0 0 1 1) (ry5 0 (-1) 0 0 1) (ry5 0 (-1) 0 0 1) (ry5 0 0 0 1 1),
  tb (ry5 0 0 0 1 1) (ry5 0 (-1) 0 0 1) (ry5 0 0 0 (-1) 1) (ry5 0 (-1) 0 0 1),
  tb (ry5 0 0 0 1 1) (ry5 0 (-1) 0 0 1) (ry5 0 0 0 1 1) (ry5 0 1 0 0 1),
  tb (ry5 0 0 0 1 1) (ry5 0 (-1) 0 0 1) (ry5 0 1 0 0 1) (ry5 0 0 0 (-1) 1)]
theorem qsA4_ok : qsA4.all chk = true := by decide +kernel
def qsA5 : List T2 := [tb (ry5 0 0 0 1 1) (ry5 0 0 0 (-1) 1) (ry5 0 (-1) 0 0 1) (ry5 0 (-1) 0 0 1),
  tb (ry5 0 0 0 1 1) (ry5 0 0 0 (-1) 1) (ry5 0 0 0 (-1) 1) (ry5 0 0 0 (-1) 1),
  tb (ry5 0 0 0 1 1) (ry5 0 0 0 (-1) 1) (ry5 0 0 0 1 1) (ry5 0 0 0 1 1),
  tb (ry5 0 0 0 1 1) (ry5 0 0 0 (-1) 1) (ry5 0 1 0 0 1) (ry5 0 1 0 0 1),
  tb (ry5 0 0 0 1 1) (ry5 0 0 0 1 1) (ry5 0 (-1) 0 0 1) (ry5 0 1 0 0 1),
  tb (ry5 0 0 0 1 1) (ry5 0 0 0 1 1) (ry5 0 0 0 (-1) 1) (ry5 0 0 0 1 1),
  tb (ry5 0 0 0 1 1) (ry5 0 0 0 1 1) (ry5 0 0 0 1 1) (ry5 0 0 0 (-1) 1),
  tb (ry5 0 0 0 1 1) (ry5 0 0 0 1 1) (ry5 0 1 0 0 1) (ry5 0 (-1) 0 0 1),
  tb (ry5 0 0 0 1 1) (ry5 0 1 0 0 1) (ry5 0 (-1) 0 0 1) (ry5 0 0 0 (-1) 1),
  tb (ry5 0 0 0 1 1) (ry5 0 1 0 0 1) (ry5 0 0 0 (-1) 1) (ry5 0 1 0 0 1),
  tb (ry5 0 0 0 1 1) (ry5 0 1 0 0 1) (ry5 0 0 0 1 1) (ry5 0 (-1) 0 0 1),
  tb (ry5 0 0 0 1 1) (ry5 0 1 0 0 1) (ry5 0 1 0 0 1) (ry5 0 0 0 1 1),
  tb (ry5 0 0 1 0 0) (ry5 0 0 0 0 0) (ry5 0 0 0 0 0) (ry5 (-1) 0 0 0 0),
  tb (ry5 0 0 1 0 0) (ry5 0 0 0 0 0) (ry5 0 0 0 0 0) (ry5 0 0 (-1) 0 0),
  tb (ry5 0 0 1 0 0) (ry5 0 0 0 0 0) (ry5 0 0 0 0 0) (ry5 0 0 1 0 0),
  tb (ry5 0 0 1 0 0) (ry5 0 0 0 0 0) (ry5 0 0 0 0 0) (ry5 1 0 0 0 0),
  tb (ry5 0 0 1 0 1) (ry5 (-1) 0 0 0 1) (ry5 (-1) 0 0 0 1) (ry5 0 0 1 0 1),
  tb (ry5 0 0 1 0 1) (ry5 (-1) 0 0 0 1) (ry5 0 0 (-1) 0 1) (ry5 (-1) 0 0 0 1),
  tb (ry5 0 0 1 0 1) (ry5 (-1) 0 0 0 1) (ry5 0 0 1 0 1) (ry5 1 0 0 0 1),
  tb (ry5 0 0 1 0 1) (ry5 (-1) 0 0 0 1) (ry5 1 0 0 0 1) (ry5 0 0 (-1) 0 1),
  tb (ry5 0 0 1 0 1) (ry5 0 0 (-1) 0 1) (ry5 (-1) 0 0 0 1) (ry5 (-1) 0 0 0 1),
  tb (ry5 0 0 1 0 1) (ry5 0 0 (-1) 0 1) (ry5 0 0 (-1) 0 1) (ry5 0 0 (-1) 0 1),
  tb (ry5 0 0 1 0 1) (ry5 0 0 (-1) 0 1) (ry5 0 0 1 0 1) (ry5 0 0 1 0 1),
  tb (ry5 0 0 1 0 1) (ry5 0 0 (-1) 0 1) (ry5 1 0 0 0 1) (ry5 1 0 0 0 1)]
theorem qsA5_ok : qsA5.all chk = true := by decide +kernel
def qsA6 : List T2 := [tb (ry5 0 0 1 0 1) (ry5 0 0 1 0 1) (ry5 (-1) 0 0 0 1) (ry5 1 0 0 0 1),
  tb (ry5 0 0 1 0 1) (ry5 0 0 1 0 1) (ry5 0 0 (-1) 0 1) (ry5 0 0 1 0 1),
  tb (ry5 0 0 1 0 1) (ry5 0 0 1 0 1) (ry5 0 0 1 0 1) (ry5 0 0 (-1) 0 1),
  tb (ry5 0 0 1 0 1) (ry5 0 0 1 0 1) (ry5 1 0 0 0 1) (ry5 (-1) 0 0 0 1),
  tb (ry5 0 0 1 0 1) (ry5 1 0 0 0 1) (ry5 (-1) 0 0 0 1) (ry5 0 0 (-1) 0 1),
  tb (ry5 0 0 1 0 1) (ry5 1 0 0 0 1) (ry5 0 0 (-1) 0 1) (ry5 1 0 0 0 1),
  tb (ry5 0 0 1 0 1) (ry5 1 0 0 0 1) (ry5 0 0 1 0 1) (ry5 (-1) 0 0 0 1),
  tb (ry5 0 0 1 0 1) (ry5 1 0 0 0 1) (ry5 1 0 0 0 1) (ry5 0 0 1 0 1),
  tb (ry5 0 1 0 0 0) (ry5 0 0 0 0 0) (ry5 0 0 0 0 0) (ry5 0 (-1) 0 0 0),
  tb (ry5 0 1 0 0 0) (ry5 0 0 0 0 0) (ry5 0 0 0 0 0) (ry5 0 0 0 (-1) 0),
  tb (ry5 0 1 0 0 0) (ry5 0 0 0 0 0) (ry5 0 0 0 0 0) (ry5 0 0 0 1 0),
  tb (ry5 0 1 0 0 0) (ry5 0 0 0 0 0) (ry5 0 0 0 0 0) (ry5 0 1 0 0 0),
  tb (ry5 0 1 0 0 1) (ry5 0 (-1) 0 0 1) (ry5 0 (-1) 0 0 1) (ry5 0 (-1) 0 0 1),
  tb (ry5 0 1 0 0 1) (ry5 0 (-1) 0 0 1) (ry5 0 0 0 (-1) 1) (ry5 0 0 0 (-1) 1),
  tb (ry5 0 1 0 0 1) (ry5 0 (-1) 0 0 1) (ry5 0 0 0 1 1) (ry5 0 0 0 1 1),
  tb (ry5 0 1 0 0 1) (ry5 0 (-1) 0 0 1) (ry5 0 1 0 0 1) (ry5 0 1 0 0 1),
  tb (ry5 0 1 0 0 1) (ry5 0 0 0 (-1) 1) (ry5 0 (-1) 0 0 1) (ry5 0 0 0 (-1) 1),
  tb (ry5 0 1 0 0 1) (ry5 0 0 0 (-1) 1) (ry5 0 0 0 (-1) 1) (ry5 0 1 0 0 1),
  tb (ry5 0 1 0 0 1) (ry5 0 0 0 (-1) 1) (ry5 0 0 0 1 1) (ry5 0 (-1) 0 0 1),
  tb (ry5 0 1 0 0 1) (ry5 0 0 0 (-1) 1) (ry5 0 1 0 0 1) (ry5 0 0 0 1 1),
  tb (ry5 0 1 0 0 1) (ry5 0 0 0 1 1) (ry5 0 (-1) 0 0 1) (ry5 0 0 0 1 1),
  tb (ry5 0 1 0 0 1) (ry5 0 0 0 1 1) (ry5 0 0 0 (-1) 1) (ry5 0 (-1) 0 0 1),
  tb (ry5 0 1 0 0 1) (ry5 0 0 0 1 1) (ry5 0 0 0 1 1) (ry5 0 1 0 0 1),
  tb (ry5 0 1 0 0 1) (ry5 0 0 0 1 1) (ry5 0 1 0 0 1) (ry5 0 0 0 (-1) 1)]
theorem qsA6_ok : qsA6.all chk = true := by decide +kernel
def qsA7 : List T2 := [tb (ry5 0 1 0 0 1) (ry5 0 1 0 0 1) (ry5 0 (-1) 0 0 1) (ry5 0 1 0 0 1),
  tb (ry5 0 1 0 0 1) (ry5 0 1 0 0 1) (ry5 0 0 0 (-1) 1) (ry5 0 0 0 1 1),
  tb (ry5 0 1 0 0 1) (ry5 0 1 0 0 1) (ry5 0 0 0 1 1) (ry5 0 0 0 (-1) 1),
  tb (ry5 0 1 0 0 1) (ry5 0 1 0 0 1) (ry5 0 1 0 0 1) (ry5 0 (-1) 0 0 1),
  tb (ry5 1 0 0 0 0) (ry5 0 0 0 0 0) (ry5 0 0 0 0 0) (ry5 (-1) 0 0 0 0),
  tb (ry5 1 0 0 0 0) (ry5 0 0 0 0 0) (ry5 0 0 0 0 0) (ry5 0 0 (-1) 0 0),
  tb (ry5 1 0 0 0 0) (ry5 0 0 0 0 0) (ry5 0 0 0 0 0) (ry5 0 0 1 0 0),
  tb (ry5 1 0 0 0 0) (ry5 0 0 0 0 0) (ry5 0 0 0 0 0) (ry5 1 0 0 0 0),
  tb (ry5 1 0 0 0 1) (ry5 (-1) 0 0 0 1) (ry5 (-1) 0 0 0 1) (ry5 (-1) 0 0 0 1),
  tb (ry5 1 0 0 0 1) (ry5 (-1) 0 0 0 1) (ry5 0 0 (-1) 0 1) (ry5 0 0 (-1) 0 1),
  tb (ry5 1 0 0 0 1) (ry5 (-1) 0 0 0 1) (ry5 0 0 1 0 1) (ry5 0 0 1 0 1),
  tb (ry5 1 0 0 0 1) (ry5 (-1) 0 0 0 1) (ry5 1 0 0 0 1) (ry5 1 0 0 0 1),
  tb (ry5 1 0 0 0 1) (ry5 0 0 (-1) 0 1) (ry5 (-1) 0 0 0 1) (ry5 0 0 (-1) 0 1),
  tb (ry5 1 0 0 0 1) (ry5 0 0 (-1) 0 1) (ry5 0 0 (-1) 0 1) (ry5 1 0 0 0 1),
  tb (ry5 1 0 0 0 1) (ry5 0 0 (-1) 0 1) (ry5 0 0 1 0 1) (ry5 (-1) 0 0 0 1),
  tb (ry5 1 0 0 0 1) (ry5 0 0 (-1) 0 1) (ry5 1 0 0 0 1) (ry5 0 0 1 0 1),
  tb (ry5 1 0 0 0 1) (ry5 0 0 1 0 1) (ry5 (-1) 0 0 0 1) (ry5 0 0 1 0 1),
  tb (ry5 1 0 0 0 1) (ry5 0 0 1 0 1) (ry5 0 0 (-1) 0 1) (ry5 (-1) 0 0 0 1),
  tb (ry5 1 0 0 0 1) (ry5 0 0 1 0 1) (ry5 0 0 1 0 1) (ry5 1 0 0 0 1),
  tb (ry5 1 0 0 0 1) (ry5 0 0 1 0 1) (ry5 1 0 0 0 1) (ry5 0 0 (-1) 0 1),
  tb (ry5 1 0 0 0 1) (ry5 1 0 0 0 1) (ry5 (-1) 0 0 0 1) (ry5 1 0 0 0 1),
  tb (ry5 1 0 0 0 1) (ry5 1 0 0 0 1) (ry5 0 0 (-1) 0 1) (ry5 0 0 1 0 1),
  tb (ry5 1 0 0 0 1) (ry5 1 0 0 0 1) (ry5 0 0 1 0 1) (ry5 0 0 (-1) 0 1),
  tb (ry5 1 0 0 0 1) (ry5 1 0 0 0 1) (ry5 1 0 0 0 1) (ry5 (-1) 0 0 0 1)]
theorem qsA7_ok : qsA7.all chk = true := by decide +kernel
def qsA : List T2 := qsA0 ++ (qsA1 ++ (qsA2 ++ (qsA3 ++ (qsA4 ++ (qsA5 ++ (qsA6 ++ qsA7))))))
theorem qsA_ok : ∀ A ∈ qsA, chk A = true := by
  have h : qsA.all chk = true := by
    unfold qsA
    simp only [List.all_append, qsA0_ok, qsA1_ok, qsA2_ok, qsA3_ok, qsA4_ok, qsA5_ok, qsA6_ok, qsA7_ok, Bool.and_self]
  exact List.all_eq_true.mp h
end K20
end
section
set_option maxRecDepth 100000
set_option linter.all false
set_option exponentiation.threshold 5000
set_option maxHeartbeats 4000000
namespace K20
open Pd PySem
abbrev dl (l : List Int) : List D := l.map D.int
theorem cMul_l {i j : Int} (h : b64 i = true) : cMul i j = true := by
  unfold cMul
  rw [h]
  rfl
theorem cMul_rt {i j : Int} (h : b64 j = true) : cMul i j = true := by
  unfold cMul
  rw [h]
  simp
theorem b2 : b64 2 = true := by decide
theorem b3 : b64 3 = true := by decide
theorem b192 : b64 192 = true := by decide
theorem at_nat {α : Type} (l : List α) (i : Nat) (h : i < l.length) : L2.atI l (i : Int) = some l[i] := by
  unfold L2.atI L2.ixN
  rw [if_pos (by omega), if_pos (by omega)]
  simp [h]
/-! how many -/
def own' : Nat → Int
  | 0 => 192
  | n + 1 => 576 * 2 ^ n
def few : Nat → Int
  | 0 => 0
  | n + 1 => 192 * (3 * 2 ^ n - 2)
theorem own_pos : ∀ n, 0 < own' n
  | 0 => by decide
  | n + 1 => by
    have : (0 : Int) < 2 ^ n := Int.pow_pos (by decide)
    show (0 : Int) < 576 * 2 ^ n
    omega
theorem few_step : ∀ n, few (n + 1) = few n + own' n
  | 0 => by decide
  | n + 1 => by
    show 192 * (3 * 2 ^ (n + 1) - 2) = 192 * (3 * 2 ^ n - 2) + 576 * 2 ^ n
    rw [Int.pow_succ]
    omega
theorem own_step : ∀ n, own' (n + 1) = own' n * (if n = 0 then 3 else 2)
  | 0 => by decide
  | n + 1 => by
    show (576 : Int) * 2 ^ (n + 1) = 576 * 2 ^ n * 2
    rw [Int.pow_succ, Int.mul_assoc]
theorem tables_many_ok (n : Nat) (h : n ≤ 1000) : m_tables_many [.int n] = some (.v (.int (own' n))) := by
  cases n with
  | zero => simp [m_tables_many, sm_tables_many, own']
  | succ n =>
    have z : (((n + 1 : Nat) : Int) == 0) = false := by simp; omega
    have e : ((n + 1 : Nat) : Int) - 1 = (n : Int) := by omega
    have c : cShl 576 (n : Int) = true := by
      unfold cShl
      rw [show sm 576 = true from by decide]
      simp
      omega
    simp only [m_tables_many, sm_tables_many]
    simp [z, own']
    have z2 : ((n : Int) + 1 == 0) = false := by simp; omega
    simp [z2, c]
theorem near_ok (n : Nat) (h : n ≤ 1000) : m_near_many [.int n] = some (.v (.int (3 * 2 ^ n - 2))) := by
  have c : cShl 3 (n : Int) = true := by
    unfold cShl
    rw [show sm 3 = true from by decide]
    simp
    omega
  simp [m_near_many, sm_near_many, c]
theorem at_most_ok (n : Nat) (h : n ≤ 1000) : m_tables_at_most [.int n] = some (.v (.int (few (n + 1)))) := by
  simp [m_tables_at_most, sm_tables_at_most, near_ok n h, cMul_l b192, few]
theorem grown_step (X : D) (k : Nat) (s : Sl) : ulaw_grown_b1 [.val X, .val (.int (own' k)), .val (.int (few k)), .val (.int k)] = some (.nxt, [.val X, .val (.int (own' (k + 1))), .val (.int (few (k + 1))), .val (.int k)]) := by
  have e1 := few_step k
  have e2 := own_step k
  cases k with
  | zero =>
    have e1 : few 0 + own' 0 = few 1 := e1.symm
    have e2 : own' 0 * 3 = own' 1 := e2.symm
    simp [ulaw_grown_b1, cMul_rt b3, e1, e2]
  | succ k =>
    have z : (((k + 1 : Nat) : Int) == 0) = false := by simp; omega
    rw [if_neg (by omega)] at e2
    generalize own' (k + 1 + 1) = w1 at *
    generalize own' (k + 1) = w2 at *
    generalize few (k + 1 + 1) = w3 at *
    generalize few (k + 1) = w4 at *
    subst e1 e2
    generalize hk : ((k + 1 : Nat) : Int) = kk at *
    simp [ulaw_grown_b1, cMul_rt b2, z]
theorem grown_loop (X : D) : ∀ (m k : Nat) (s : Sl), ∃ s', forD (gN 3) ulaw_grown_b1 (rangeD k m) [.val X, .val (.int (own' k)), .val (.int (few k)), s] = some (.nxt, [.val X, .val (.int (own' (k + m))), .val (.int (few (k + m))), s'])
  | 0, k, s => ⟨s, rfl⟩
  | m + 1, k, s => by
    obtain ⟨s', ih⟩ := grown_loop X m (k + 1) (.val (.int k))
    refine ⟨s', ?_⟩
    rw [show k + (m + 1) = k + 1 + m by omega, ← ih]
    have st := grown_step X k s
    have e : ((k + 1 : Nat) : Int) = (k : Int) + 1 := by omega
    simp [forD, st, e]
theorem for_r1 (i : Nat) (g : GM) (b : SM) (δ : DEnv) (T : Int) (n : Nat) (r : Option (Ctl × DEnv)) (hv : δ[i]? = some (.val (.int T))) (h : -4611686018427387904 ≤ T ∧ T < 4611686018427387904) (hn : T.toNat = n) (h1 : forD g b (rangeD 0 n) δ = r) : sFor (iR1 (aOne (eVar i))) g b δ = r := by
  subst hn
  simp [hv, h, h1]
theorem grown_ok (n : Nat) (h : n ≤ 1000) : m_ulaw_grown [.int n] = some (.v (.tup [.int (own' n), .int (few n)])) := by
  obtain ⟨s', lo⟩ := grown_loop (.int n) n 0 .none
  rw [Nat.zero_add] at lo
  have lo : forD (gN 3) ulaw_grown_b1 (rangeD 0 n) [.val (.int n), .val (.int 192), .val (.int 0), .none] = _ := lo
  have r : -4611686018427387904 ≤ (n : Int) ∧ (n : Int) < 4611686018427387904 := by omega
  have main : sm_ulaw_grown [.val (.int n), .none, .none, .none] = some (.ret (.val (.tup [.int (own' n), .int (few n)])), [.val (.int n), .val (.int (own' n)), .val (.int (few n)), s']) := by
    rw [sx_ulaw_grown]
    refine seq_nxt (δ' := [.val (.int n), .val (.int 192), .val (.int 0), .none]) (by simp) ?_
    refine seq_nxt (δ' := [.val (.int n), .val (.int (own' n)), .val (.int (few n)), s']) (for_r1 0 _ _ _ _ n _ rfl r (by omega) lo) ?_
    simp
  simp [m_ulaw_grown, main]
/-! letters and their number -/
def nval : Int → List Int → Int
  | p, [] => p
  | p, l :: ls => nval (2 * p + l) ls
theorem letters_loop (X : D) : ∀ (l : List Int) (p : Int) (s : Sl), ∃ s', forD (gN 2) number_of_letters_b1 (dl l) [.val X, .val (.int p), s] = some (.nxt, [.val X, .val (.int (nval p l)), s'])
  | [], p, s => ⟨s, rfl⟩
  | a :: l, p, s => by
    obtain ⟨s', ih⟩ := letters_loop X l (2 * p + a) (.val (.int a))
    refine ⟨s', ?_⟩
    have st : number_of_letters_b1 [.val X, .val (.int p), .val (.int a)] = some (.nxt, [.val X, .val (.int (2 * p + a)), .val (.int a)]) := by simp [number_of_letters_b1, cMul_l b2]
    simp [forD, st, ih, nval]
theorem number_of_letters_ok (l : List Int) : m_number_of_letters [.tup (dl l)] = some (.v (.int (nval 0 l))) := by
  obtain ⟨s', lo⟩ := letters_loop (.tup (dl l)) l 0 .none
  simp [m_number_of_letters, sx_number_of_letters, lo]
theorem law_loop (a b c : Sl) : ∀ (l : List Int) (p : Int) (s : Sl), ∃ s', forD (gN 4) ulaw_number_b1 (dl l) [a, b, c, .val (.int p), s] = some (.nxt, [a, b, c, .val (.int (nval p l)), s'])
  | [], p, s => ⟨s, rfl⟩
  | x :: l, p, s => by
    obtain ⟨s', ih⟩ := law_loop a b c l (2 * p + x) (.val (.int x))
    refine ⟨s', ?_⟩
    have e : p * 2 = 2 * p := Int.mul_comm _ _
    have st : ulaw_number_b1 [a, b, c, .val (.int p), .val (.int x)] = some (.nxt, [a, b, c, .val (.int (2 * p + x)), .val (.int x)]) := by simp [ulaw_number_b1, cMul_rt b2, e]
    simp [forD, st, ih, nval]
theorem nval_app : ∀ (l : List Int) (p x : Int), nval p (l ++ [x]) = 2 * nval p l + x
  | [], p, x => rfl
  | a :: l, p, x => nval_app l _ x
/-- the digits of p, the least first -/
def digs : Nat → Int → List Int
  | 0, _ => []
  | m + 1, p => p % 2 :: digs m (p / 2)
theorem digs_val : ∀ (m : Nat) (p : Int), nval (p / 2 ^ m) (digs m p).reverse = p
  | 0, p => by simp [digs, nval]
  | m + 1, p => by
    have ih := digs_val m (p / 2)
    have e : p / 2 ^ (m + 1) = p / 2 / 2 ^ m := by
      rw [Int.pow_succ, Int.mul_comm, ← Int.ediv_ediv_of_nonneg (by decide)]
    show nval _ (p % 2 :: digs m (p / 2)).reverse = p
    rw [e, List.reverse_cons, nval_app, ih]
    omega
def letters (n : Nat) (p : Int) : List Int := match n with
  | 0 => []
  | m + 1 => p / 2 ^ m :: (digs m p).reverse
theorem digs_back : ∀ (ls : List Int) (l0 : Int), (∀ x ∈ ls, x = 0 ∨ x = 1) → digs ls.length (nval l0 ls.reverse) = ls ∧ nval l0 ls.reverse / 2 ^ ls.length = l0
  | [], l0, _ => by simp [digs, nval]
  | x :: ls, l0, h => by
    obtain ⟨h1, h2⟩ := digs_back ls l0 fun y hy => h y (List.mem_cons_of_mem _ hy)
    have hx := h x List.mem_cons_self
    rw [List.reverse_cons, nval_app]
    generalize nval l0 ls.reverse = q at *
    have e1 : (2 * q + x) % 2 = x := by rcases hx with rfl | rfl <;> omega
    have e2 : (2 * q + x) / 2 = q := by rcases hx with rfl | rfl <;> omega
    refine ⟨?_, ?_⟩
    · show (2 * q + x) % 2 :: digs ls.length ((2 * q + x) / 2) = _
      rw [e1, e2, h1]
    · show (2 * q + x) / 2 ^ (ls.length + 1) = l0
      rw [Int.pow_succ, show (2 : Int) ^ ls.length * 2 = 2 * 2 ^ ls.length from Int.mul_comm _ _, ← Int.ediv_ediv_of_nonneg (by decide), e2, h2]
theorem letters_back (l0 : Int) (ls : List Int) (h : ∀ x ∈ ls, x = 0 ∨ x = 1) : letters (ls.length + 1) (nval 0 (l0 :: ls)) = l0 :: ls := by
  have e : nval 0 (l0 :: ls) = nval l0 ls := by
    show nval (2 * 0 + l0) ls = _
    rw [show 2 * 0 + l0 = l0 by omega]
  have hb := digs_back ls.reverse l0 fun x hx => h x (List.mem_reverse.mp hx)
  rw [List.reverse_reverse, List.length_reverse] at hb
  unfold letters
  rw [e]
  simp only [hb.2, hb.1, List.reverse_reverse]
theorem digs_len : ∀ (m : Nat) (p : Int), (digs m p).length = m
  | 0, _ => rfl
  | m + 1, p => by simp [digs, digs_len m]
theorem digs_01 : ∀ (m : Nat) (p : Int) (x : Int), x ∈ digs m p → x = 0 ∨ x = 1
  | 0, _, _, h => by cases h
  | m + 1, p, x, h => by
    rcases List.mem_cons.mp h with rfl | h
    · omega
    · exact digs_01 m _ x h
/-! letters by number -/
theorem lbn_loop (a b c : Sl) (p : Int) : ∀ (m : Nat) (lo : Nat) (acc : List D), acc.length + m ≤ 100000 →
    lcD (gN 3) mYes (eOp (dI fun i j => .int (Builtin.bitAnd i j)) (eOp (dIc cShr fun i j => .int (i / 2 ^ j.toNat)) (eVar 1) (eVar 3)) (eC (.int 1))) [3] (rangeD lo m) [a, .val (.int p), c, .none] acc = some (.tmp (acc ++ dl (digs m (p / 2 ^ lo))), [a, .val (.int p), c, .none])
  | 0, lo, acc, _ => by simp [lcD, digs]
  | m + 1, lo, acc, h => by
    have ih := lbn_loop a b c p m (lo + 1) (acc ++ [.int (p / 2 ^ lo % 2)]) (by simp; omega)
    have ha : acc.length < 100000 := by omega
    have e : p / 2 ^ (lo + 1) = p / 2 ^ lo / 2 := by
      rw [Int.pow_succ, ← Int.ediv_ediv_of_nonneg (Int.le_of_lt (Int.pow_pos (by decide)))]
    have e2 : ((lo + 1 : Nat) : Int) = (lo : Int) + 1 := by omega
    rw [e, e2] at ih
    have hb : ∀ x : Int, Builtin.bitAnd x 1 = x % 2 := PyProof.Rows.bitAnd_m1
    simp [lcD, ha, hb, ih, digs]
end K20
end
section
set_option maxRecDepth 100000
set_option linter.all false
set_option exponentiation.threshold 5000
set_option maxHeartbeats 4000000
namespace K20
open Pd PySem
theorem lbn_ok (n : Nat) (p : Int) (h : n ≤ 1000) : m_letters_by_number [.int n, .int p] = some (.v (.tup (dl (letters n p)))) := by
  cases n with
  | zero => simp [m_letters_by_number, sm_letters_by_number, letters]
  | succ m =>
    have z : (((m + 1 : Nat) : Int) == 0) = false := by simp; omega
    have e : ((m + 1 : Nat) : Int) - 1 = (m : Int) := by omega
    have lo := lbn_loop (.val (.int ((m + 1 : Nat) : Int))) .none .none p m 0 [] (by simp; omega)
    have e0 : p / 2 ^ 0 = p := by simp
    rw [e0] at lo
    have lo : lcD (gN 3) mYes (eOp (dI fun i j => .int (Builtin.bitAnd i j)) (eOp (dIc cShr fun i j => .int (i / 2 ^ j.toNat)) (eVar 1) (eVar 3)) (eC (.int 1))) [3] (rangeD 0 m) [.val (.int ((m + 1 : Nat) : Int)), .val (.int p), .none, .none] [] = some (.tmp (dl (digs m p)), [.val (.int ((m + 1 : Nat) : Int)), .val (.int p), .none, .none]) := lo
    generalize hw : ((m + 1 : Nat) : Int) = w at *
    have r : -4611686018427387904 ≤ w - 1 ∧ w - 1 < 4611686018427387904 := by omega
    have rn : (w - 1).toNat = m := by omega
    have r0 : (0 : Int) ≤ w - 1 := by omega
    have r1 : (1 : Int) ≤ w := by omega
    have hl : letters (m + 1) p = p / 2 ^ m :: (digs m p).reverse := rfl
    have hm : (digs m p).length = m := digs_len m p
    rw [hl]
    generalize digs m p = L at *
    have main : sm_letters_by_number [.val (.int w), .val (.int p), .none, .none] = some (.ret (.val (.tup (dl (p / 2 ^ m :: L.reverse)))), [.val (.int w), .val (.int p), .own false (dl L), .none]) := by
      unfold sm_letters_by_number
      refine seq_nxt (δ' := [.val (.int w), .val (.int p), .none, .none]) (by simp [z]) ?_
      refine seq_nxt (δ' := [.val (.int w), .val (.int p), .own false (dl L), .none]) ?_ ?_
      · simp only [sSet_ap, eLc_ap, iR1_ap, aOne_ap, eOp_ap, eVar_ap, eC_ap]
        simp [r, rn, lo]
      · have hb : 1 + L.length ≤ 100000 := by omega
        cases hr : L.reverse with
        | nil =>
          have : L = [] := by simpa using hr
          subst this
          simp [r1, rn]
        | cons a r' =>
          have hr2 : List.map D.int L.reverse = .int a :: dl r' := by rw [hr]; rfl
          have hr3 : (List.map D.int L).reverse = .int a :: dl r' := by rw [← List.map_reverse]; exact hr2
          have hl2 : r'.length + 1 = L.length := by
            have := congrArg List.length hr
            simpa using this.symm
          have hb2 : 1 + (r'.length + 1) ≤ 100000 := by omega
          simp [r1, rn, hr3, hb2]
    simp [m_letters_by_number, main]
/-! a reading of letters -/
def hd2 : List Int → Bool
  | [] => false
  | a :: _ => a == 2
def tl2 (L : List Int) : List Int := if hd2 L = true then L.drop 1 else L
def rdg (L : List Int) (X : D) : D := .tup [.bl (hd2 L), .tup (dl (tl2 L)), X]
theorem eqD_tup1 (a b : Int) : eqD (.tup [.int a]) (.tup [.int b]) = (a == b) := by
  rw [eqD_tup, eqP_cons, eqP_nil, eqD_int, Bool.and_true]
theorem eqD_tup01 (b : Int) : eqD (.tup []) (.tup [.int b]) = false := by
  rw [eqD_tup]
  show PyData.eqvAll [] (toP (.int b) :: toPs []) = false
  rw [PyData.eqvAll]
theorem shp_t1 (a : Int) : shp (.tup [.int a]) = true := by
  simp [shp, toP, toPs, SeqAt.shaped, PyData.canLay0, PyData.canLayAll0, PyData.depth, PyData.depthAll]
theorem shp_t0 : shp (.tup []) = true := by decide +kernel
theorem with_ok (L : List Int) (X : D) : m_reading_with [.tup (dl L), X] = some (.v (rdg L X)) := by
  match L with
  | [] =>
    simp [m_reading_with, sm_reading_with, rdg, hd2, tl2, HT.sIx, eqD_tup01, shp_t0, shp_t1]
  | [a] =>
    cases h : a == 2 <;> simp [m_reading_with, sm_reading_with, rdg, hd2, tl2, HT.sIx, eqD_tup1, shp_t1, h]
  | a :: b :: r =>
    have m1 : min 1 (r.length + 1 + 1) = 1 := by omega
    have ht : List.take r.length (List.map D.int r) = List.map D.int r := List.take_of_length_le (by simp)
    cases h : a == 2 <;> simp [m_reading_with, sm_reading_with, rdg, hd2, tl2, HT.sIx, eqD_tup1, shp_t1, h, m1, ht]
theorem law_reading_ok (L : List Int) (X : D) : m_ulaw_reading [.tup (dl L), X] = some (.v (rdg L X)) := with_ok L X
/-- letters that may be -/
def okL : List Int → Prop
  | [] => True
  | a :: l => (a = 0 ∨ a = 1 ∨ a = 2) ∧ ∀ x ∈ l, x = 0 ∨ x = 1
theorem back_eq {L : List Int} (h : okL L) : (if hd2 L = true then 2 :: tl2 L else tl2 L) = L := by
  cases L with
  | nil => rfl
  | cons a l =>
    cases z : hd2 (a :: l)
    · unfold tl2
      rw [z]
      rfl
    · have : a = 2 := eq_of_beq z
      subst this
      unfold tl2
      rw [z]
      rfl
theorem letters_of_ok (f : Bool) (L : List Int) (X : D) (h : okL L) (hl : L.length ≤ 1000) : m_reading_letters [sq f [.bl (hd2 L), sq f (dl (tl2 L)), X]] = some (.v (.tup (dl L))) := by
  have e := back_eq h
  have ht : (tl2 L).length ≤ 1000 := by
    unfold tl2
    split
    · rw [List.length_drop]
      omega
    · exact hl
  generalize hT : tl2 L = T at *
  cases z : hd2 L
  · rw [z] at e
    have e : T = L := e
    subst e
    cases T with
    | nil => cases f <;> simp [m_reading_letters, sm_reading_letters, sq, z]
    | cons a t =>
      have hb : t.length + 1 ≤ 100000 := by simp at ht; omega
      cases f <;> simp [m_reading_letters, sm_reading_letters, sq, hb]
  · rw [z, if_pos rfl] at e
    subst e
    cases T with
    | nil => cases f <;> simp [m_reading_letters, sm_reading_letters, sq]
    | cons a t =>
      have hb : 1 + (t.length + 1) ≤ 100000 := by simp at ht; omega
      cases f <;> simp [m_reading_letters, sm_reading_letters, sq, hb]
end K20
end
section
set_option linter.all false
set_option maxRecDepth 100000
set_option maxHeartbeats 0
namespace K20
open Pd PySem
def ryD (a b c d k : Int) : D := .tup [.int a, .int b, .int c, .int d, .int k]
def qs : List D := qsA.map dT
def fp0 : List D := [t2 (ryD 1 0 0 0 0) (ryD 0 0 0 0 0) (ryD 0 0 0 0 0) (ryD 1 0 0 0 0),
  t2 (ryD 0 0 0 0 0) (ryD 1 0 0 0 0) (ryD 1 0 0 0 0) (ryD 0 0 0 0 0),
  t2 (ryD 1 0 0 0 1) (ryD 1 0 0 0 1) (ryD 1 0 0 0 1) (ryD (-1) 0 0 0 1),
  t2 (ryD 1 0 0 0 1) (ryD 1 0 0 0 1) (ryD 0 0 1 0 1) (ryD 0 0 (-1) 0 1),
  t2 (ryD 1 0 0 0 1) (ryD 1 0 0 0 1) (ryD (-1) 0 0 0 1) (ryD 1 0 0 0 1),
  t2 (ryD 1 0 0 0 1) (ryD 1 0 0 0 1) (ryD 0 0 (-1) 0 1) (ryD 0 0 1 0 1),
  t2 (ryD 1 0 0 0 0) (ryD 0 0 0 0 0) (ryD 0 0 0 0 0) (ryD 0 0 1 0 0),
  t2 (ryD 0 0 0 0 0) (ryD 1 0 0 0 0) (ryD 0 0 1 0 0) (ryD 0 0 0 0 0),
  t2 (ryD 1 0 0 0 1) (ryD 0 0 1 0 1) (ryD 1 0 0 0 1) (ryD 0 0 (-1) 0 1),
  t2 (ryD 1 0 0 0 1) (ryD 0 0 1 0 1) (ryD 0 0 1 0 1) (ryD 1 0 0 0 1),
  t2 (ryD 1 0 0 0 1) (ryD 0 0 1 0 1) (ryD (-1) 0 0 0 1) (ryD 0 0 1 0 1),
  t2 (ryD 1 0 0 0 1) (ryD 0 0 1 0 1) (ryD 0 0 (-1) 0 1) (ryD (-1) 0 0 0 1),
  t2 (ryD 1 0 0 0 0) (ryD 0 0 0 0 0) (ryD 0 0 0 0 0) (ryD (-1) 0 0 0 0),
  t2 (ryD 0 0 0 0 0) (ryD 1 0 0 0 0) (ryD (-1) 0 0 0 0) (ryD 0 0 0 0 0),
  t2 (ryD 1 0 0 0 1) (ryD (-1) 0 0 0 1) (ryD 1 0 0 0 1) (ryD 1 0 0 0 1),
  t2 (ryD 1 0 0 0 1) (ryD (-1) 0 0 0 1) (ryD 0 0 1 0 1) (ryD 0 0 1 0 1),
  t2 (ryD 1 0 0 0 1) (ryD (-1) 0 0 0 1) (ryD (-1) 0 0 0 1) (ryD (-1) 0 0 0 1),
  t2 (ryD 1 0 0 0 1) (ryD (-1) 0 0 0 1) (ryD 0 0 (-1) 0 1) (ryD 0 0 (-1) 0 1),
  t2 (ryD 1 0 0 0 0) (ryD 0 0 0 0 0) (ryD 0 0 0 0 0) (ryD 0 0 (-1) 0 0),
  t2 (ryD 0 0 0 0 0) (ryD 1 0 0 0 0) (ryD 0 0 (-1) 0 0) (ryD 0 0 0 0 0),
  t2 (ryD 1 0 0 0 1) (ryD 0 0 (-1) 0 1) (ryD 1 0 0 0 1) (ryD 0 0 1 0 1),
  t2 (ryD 1 0 0 0 1) (ryD 0 0 (-1) 0 1) (ryD 0 0 1 0 1) (ryD (-1) 0 0 0 1),
  t2 (ryD 1 0 0 0 1) (ryD 0 0 (-1) 0 1) (ryD (-1) 0 0 0 1) (ryD 0 0 (-1) 0 1),
  t2 (ryD 1 0 0 0 1) (ryD 0 0 (-1) 0 1) (ryD 0 0 (-1) 0 1) (ryD 1 0 0 0 1)]
def fp1 : List D := [t2 (ryD 0 1 0 0 0) (ryD 0 0 0 0 0) (ryD 0 0 0 0 0) (ryD 0 1 0 0 0),
  t2 (ryD 0 0 0 0 0) (ryD 0 1 0 0 0) (ryD 0 1 0 0 0) (ryD 0 0 0 0 0),
  t2 (ryD 0 1 0 0 1) (ryD 0 1 0 0 1) (ryD 0 1 0 0 1) (ryD 0 (-1) 0 0 1),
  t2 (ryD 0 1 0 0 1) (ryD 0 1 0 0 1) (ryD 0 0 0 1 1) (ryD 0 0 0 (-1) 1),
  t2 (ryD 0 1 0 0 1) (ryD 0 1 0 0 1) (ryD 0 (-1) 0 0 1) (ryD 0 1 0 0 1),
  t2 (ryD 0 1 0 0 1) (ryD 0 1 0 0 1) (ryD 0 0 0 (-1) 1) (ryD 0 0 0 1 1),
  t2 (ryD 0 1 0 0 0) (ryD 0 0 0 0 0) (ryD 0 0 0 0 0) (ryD 0 0 0 1 0),
  t2 (ryD 0 0 0 0 0) (ryD 0 1 0 0 0) (ryD 0 0 0 1 0) (ryD 0 0 0 0 0),
  t2 (ryD 0 1 0 0 1) (ryD 0 0 0 1 1) (ryD 0 1 0 0 1) (ryD 0 0 0 (-1) 1),
  t2 (ryD 0 1 0 0 1) (ryD 0 0 0 1 1) (ryD 0 0 0 1 1) (ryD 0 1 0 0 1),
  t2 (ryD 0 1 0 0 1) (ryD 0 0 0 1 1) (ryD 0 (-1) 0 0 1) (ryD 0 0 0 1 1),
  t2 (ryD 0 1 0 0 1) (ryD 0 0 0 1 1) (ryD 0 0 0 (-1) 1) (ryD 0 (-1) 0 0 1),
  t2 (ryD 0 1 0 0 0) (ryD 0 0 0 0 0) (ryD 0 0 0 0 0) (ryD 0 (-1) 0 0 0),
  t2 (ryD 0 0 0 0 0) (ryD 0 1 0 0 0) (ryD 0 (-1) 0 0 0) (ryD 0 0 0 0 0),
  t2 (ryD 0 1 0 0 1) (ryD 0 (-1) 0 0 1) (ryD 0 1 0 0 1) (ryD 0 1 0 0 1),
  t2 (ryD 0 1 0 0 1) (ryD 0 (-1) 0 0 1) (ryD 0 0 0 1 1) (ryD 0 0 0 1 1),
  t2 (ryD 0 1 0 0 1) (ryD 0 (-1) 0 0 1) (ryD 0 (-1) 0 0 1) (ryD 0 (-1) 0 0 1),
  t2 (ryD 0 1 0 0 1) (ryD 0 (-1) 0 0 1) (ryD 0 0 0 (-1) 1) (ryD 0 0 0 (-1) 1),
  t2 (ryD 0 1 0 0 0) (ryD 0 0 0 0 0) (ryD 0 0 0 0 0) (ryD 0 0 0 (-1) 0),
  t2 (ryD 0 0 0 0 0) (ryD 0 1 0 0 0) (ryD 0 0 0 (-1) 0) (ryD 0 0 0 0 0),
  t2 (ryD 0 1 0 0 1) (ryD 0 0 0 (-1) 1) (ryD 0 1 0 0 1) (ryD 0 0 0 1 1),
  t2 (ryD 0 1 0 0 1) (ryD 0 0 0 (-1) 1) (ryD 0 0 0 1 1) (ryD 0 (-1) 0 0 1),
  t2 (ryD 0 1 0 0 1) (ryD 0 0 0 (-1) 1) (ryD 0 (-1) 0 0 1) (ryD 0 0 0 (-1) 1),
  t2 (ryD 0 1 0 0 1) (ryD 0 0 0 (-1) 1) (ryD 0 0 0 (-1) 1) (ryD 0 1 0 0 1)]
def fp2 : List D := [t2 (ryD 0 0 1 0 0) (ryD 0 0 0 0 0) (ryD 0 0 0 0 0) (ryD 0 0 1 0 0),
  t2 (ryD 0 0 0 0 0) (ryD 0 0 1 0 0) (ryD 0 0 1 0 0) (ryD 0 0 0 0 0),
  t2 (ryD 0 0 1 0 1) (ryD 0 0 1 0 1) (ryD 0 0 1 0 1) (ryD 0 0 (-1) 0 1),
  t2 (ryD 0 0 1 0 1) (ryD 0 0 1 0 1) (ryD (-1) 0 0 0 1) (ryD 1 0 0 0 1),
  t2 (ryD 0 0 1 0 1) (ryD 0 0 1 0 1) (ryD 0 0 (-1) 0 1) (ryD 0 0 1 0 1),
  t2 (ryD 0 0 1 0 1) (ryD 0 0 1 0 1) (ryD 1 0 0 0 1) (ryD (-1) 0 0 0 1),
  t2 (ryD 0 0 1 0 0) (ryD 0 0 0 0 0) (ryD 0 0 0 0 0) (ryD (-1) 0 0 0 0),
  t2 (ryD 0 0 0 0 0) (ryD 0 0 1 0 0) (ryD (-1) 0 0 0 0) (ryD 0 0 0 0 0),
  t2 (ryD 0 0 1 0 1) (ryD (-1) 0 0 0 1) (ryD 0 0 1 0 1) (ryD 1 0 0 0 1),
  t2 (ryD 0 0 1 0 1) (ryD (-1) 0 0 0 1) (ryD (-1) 0 0 0 1) (ryD 0 0 1 0 1),
  t2 (ryD 0 0 1 0 1) (ryD (-1) 0 0 0 1) (ryD 0 0 (-1) 0 1) (ryD (-1) 0 0 0 1),
  t2 (ryD 0 0 1 0 1) (ryD (-1) 0 0 0 1) (ryD 1 0 0 0 1) (ryD 0 0 (-1) 0 1),
  t2 (ryD 0 0 1 0 0) (ryD 0 0 0 0 0) (ryD 0 0 0 0 0) (ryD 0 0 (-1) 0 0),
  t2 (ryD 0 0 0 0 0) (ryD 0 0 1 0 0) (ryD 0 0 (-1) 0 0) (ryD 0 0 0 0 0),
  t2 (ryD 0 0 1 0 1) (ryD 0 0 (-1) 0 1) (ryD 0 0 1 0 1) (ryD 0 0 1 0 1),
  t2 (ryD 0 0 1 0 1) (ryD 0 0 (-1) 0 1) (ryD (-1) 0 0 0 1) (ryD (-1) 0 0 0 1),
  t2 (ryD 0 0 1 0 1) (ryD 0 0 (-1) 0 1) (ryD 0 0 (-1) 0 1) (ryD 0 0 (-1) 0 1),
  t2 (ryD 0 0 1 0 1) (ryD 0 0 (-1) 0 1) (ryD 1 0 0 0 1) (ryD 1 0 0 0 1),
  t2 (ryD 0 0 1 0 0) (ryD 0 0 0 0 0) (ryD 0 0 0 0 0) (ryD 1 0 0 0 0),
  t2 (ryD 0 0 0 0 0) (ryD 0 0 1 0 0) (ryD 1 0 0 0 0) (ryD 0 0 0 0 0),
  t2 (ryD 0 0 1 0 1) (ryD 1 0 0 0 1) (ryD 0 0 1 0 1) (ryD (-1) 0 0 0 1),
  t2 (ryD 0 0 1 0 1) (ryD 1 0 0 0 1) (ryD (-1) 0 0 0 1) (ryD 0 0 (-1) 0 1),
  t2 (ryD 0 0 1 0 1) (ryD 1 0 0 0 1) (ryD 0 0 (-1) 0 1) (ryD 1 0 0 0 1),
  t2 (ryD 0 0 1 0 1) (ryD 1 0 0 0 1) (ryD 1 0 0 0 1) (ryD 0 0 1 0 1)]
def fp3 : List D := [t2 (ryD 0 0 0 1 0) (ryD 0 0 0 0 0) (ryD 0 0 0 0 0) (ryD 0 0 0 1 0),
  t2 (ryD 0 0 0 0 0) (ryD 0 0 0 1 0) (ryD 0 0 0 1 0) (ryD 0 0 0 0 0),
  t2 (ryD 0 0 0 1 1) (ryD 0 0 0 1 1) (ryD 0 0 0 1 1) (ryD 0 0 0 (-1) 1),
  t2 (ryD 0 0 0 1 1) (ryD 0 0 0 1 1) (ryD 0 (-1) 0 0 1) (ryD 0 1 0 0 1),
  t2 (ryD 0 0 0 1 1) (ryD 0 0 0 1 1) (ryD 0 0 0 (-1) 1) (ryD 0 0 0 1 1),
  t2 (ryD 0 0 0 1 1) (ryD 0 0 0 1 1) (ryD 0 1 0 0 1) (ryD 0 (-1) 0 0 1),
  t2 (ryD 0 0 0 1 0) (ryD 0 0 0 0 0) (ryD 0 0 0 0 0) (ryD 0 (-1) 0 0 0),
  t2 (ryD 0 0 0 0 0) (ryD 0 0 0 1 0) (ryD 0 (-1) 0 0 0) (ryD 0 0 0 0 0),
  t2 (ryD 0 0 0 1 1) (ryD 0 (-1) 0 0 1) (ryD 0 0 0 1 1) (ryD 0 1 0 0 1),
  t2 (ryD 0 0 0 1 1) (ryD 0 (-1) 0 0 1) (ryD 0 (-1) 0 0 1) (ryD 0 0 0 1 1),
  t2 (ryD 0 0 0 1 1) (ryD 0 (-1) 0 0 1) (ryD 0 0 0 (-1) 1) (ryD 0 (-1) 0 0 1),
  t2 (ryD 0 0 0 1 1) (ryD 0 (-1) 0 0 1) (ryD 0 1 0 0 1) (ryD 0 0 0 (-1) 1),
  t2 (ryD 0 0 0 1 0) (ryD 0 0 0 0 0) (ryD 0 0 0 0 0) (ryD 0 0 0 (-1) 0),
  t2 (ryD 0 0 0 0 0) (ryD 0 0 0 1 0) (ryD 0 0 0 (-1) 0) (ryD 0 0 0 0 0),
  t2 (ryD 0 0 0 1 1) (ryD 0 0 0 (-1) 1) (ryD 0 0 0 1 1) (ryD 0 0 0 1 1),
  t2 (ryD 0 0 0 1 1) (ryD 0 0 0 (-1) 1) (ryD 0 (-1) 0 0 1) (ryD 0 (-1) 0 0 1),
  t2 (ryD 0 0 0 1 1) (ryD 0 0 0 (-1) 1) (ryD 0 0 0 (-1) 1) (ryD 0 0 0 (-1) 1),
  t2 (ryD 0 0 0 1 1) (ryD 0 0 0 (-1) 1) (ryD 0 1 0 0 1) (ryD 0 1 0 0 1),
  t2 (ryD 0 0 0 1 0) (ryD 0 0 0 0 0) (ryD 0 0 0 0 0) (ryD 0 1 0 0 0),
  t2 (ryD 0 0 0 0 0) (ryD 0 0 0 1 0) (ryD 0 1 0 0 0) (ryD 0 0 0 0 0),
  t2 (ryD 0 0 0 1 1) (ryD 0 1 0 0 1) (ryD 0 0 0 1 1) (ryD 0 (-1) 0 0 1),
  t2 (ryD 0 0 0 1 1) (ryD 0 1 0 0 1) (ryD 0 (-1) 0 0 1) (ryD 0 0 0 (-1) 1),
  t2 (ryD 0 0 0 1 1) (ryD 0 1 0 0 1) (ryD 0 0 0 (-1) 1) (ryD 0 1 0 0 1),
  t2 (ryD 0 0 0 1 1) (ryD 0 1 0 0 1) (ryD 0 1 0 0 1) (ryD 0 0 0 1 1)]
def fp4 : List D := [t2 (ryD (-1) 0 0 0 0) (ryD 0 0 0 0 0) (ryD 0 0 0 0 0) (ryD (-1) 0 0 0 0),
  t2 (ryD 0 0 0 0 0) (ryD (-1) 0 0 0 0) (ryD (-1) 0 0 0 0) (ryD 0 0 0 0 0),
  t2 (ryD (-1) 0 0 0 1) (ryD (-1) 0 0 0 1) (ryD (-1) 0 0 0 1) (ryD 1 0 0 0 1),
  t2 (ryD (-1) 0 0 0 1) (ryD (-1) 0 0 0 1) (ryD 0 0 (-1) 0 1) (ryD 0 0 1 0 1),
  t2 (ryD (-1) 0 0 0 1) (ryD (-1) 0 0 0 1) (ryD 1 0 0 0 1) (ryD (-1) 0 0 0 1),
  t2 (ryD (-1) 0 0 0 1) (ryD (-1) 0 0 0 1) (ryD 0 0 1 0 1) (ryD 0 0 (-1) 0 1),
  t2 (ryD (-1) 0 0 0 0) (ryD 0 0 0 0 0) (ryD 0 0 0 0 0) (ryD 0 0 (-1) 0 0),
  t2 (ryD 0 0 0 0 0) (ryD (-1) 0 0 0 0) (ryD 0 0 (-1) 0 0) (ryD 0 0 0 0 0),
  t2 (ryD (-1) 0 0 0 1) (ryD 0 0 (-1) 0 1) (ryD (-1) 0 0 0 1) (ryD 0 0 1 0 1),
  t2 (ryD (-1) 0 0 0 1) (ryD 0 0 (-1) 0 1) (ryD 0 0 (-1) 0 1) (ryD (-1) 0 0 0 1),
  t2 (ryD (-1) 0 0 0 1) (ryD 0 0 (-1) 0 1) (ryD 1 0 0 0 1) (ryD 0 0 (-1) 0 1),
  t2 (ryD (-1) 0 0 0 1) (ryD 0 0 (-1) 0 1) (ryD 0 0 1 0 1) (ryD 1 0 0 0 1),
  t2 (ryD (-1) 0 0 0 0) (ryD 0 0 0 0 0) (ryD 0 0 0 0 0) (ryD 1 0 0 0 0),
  t2 (ryD 0 0 0 0 0) (ryD (-1) 0 0 0 0) (ryD 1 0 0 0 0) (ryD 0 0 0 0 0),
  t2 (ryD (-1) 0 0 0 1) (ryD 1 0 0 0 1) (ryD (-1) 0 0 0 1) (ryD (-1) 0 0 0 1),
  t2 (ryD (-1) 0 0 0 1) (ryD 1 0 0 0 1) (ryD 0 0 (-1) 0 1) (ryD 0 0 (-1) 0 1),
  t2 (ryD (-1) 0 0 0 1) (ryD 1 0 0 0 1) (ryD 1 0 0 0 1) (ryD 1 0 0 0 1),
  t2 (ryD (-1) 0 0 0 1) (ryD 1 0 0 0 1) (ryD 0 0 1 0 1) (ryD 0 0 1 0 1),
  t2 (ryD (-1) 0 0 0 0) (ryD 0 0 0 0 0) (ryD 0 0 0 0 0) (ryD 0 0 1 0 0),
  t2 (ryD 0 0 0 0 0) (ryD (-1) 0 0 0 0) (ryD 0 0 1 0 0) (ryD 0 0 0 0 0),
  t2 (ryD (-1) 0 0 0 1) (ryD 0 0 1 0 1) (ryD (-1) 0 0 0 1) (ryD 0 0 (-1) 0 1),
  t2 (ryD (-1) 0 0 0 1) (ryD 0 0 1 0 1) (ryD 0 0 (-1) 0 1) (ryD 1 0 0 0 1),
  t2 (ryD (-1) 0 0 0 1) (ryD 0 0 1 0 1) (ryD 1 0 0 0 1) (ryD 0 0 1 0 1),
  t2 (ryD (-1) 0 0 0 1) (ryD 0 0 1 0 1) (ryD 0 0 1 0 1) (ryD (-1) 0 0 0 1)]
def fp5 : List D := [t2 (ryD 0 (-1) 0 0 0) (ryD 0 0 0 0 0) (ryD 0 0 0 0 0) (ryD 0 (-1) 0 0 0),
  t2 (ryD 0 0 0 0 0) (ryD 0 (-1) 0 0 0) (ryD 0 (-1) 0 0 0) (ryD 0 0 0 0 0),
  t2 (ryD 0 (-1) 0 0 1) (ryD 0 (-1) 0 0 1) (ryD 0 (-1) 0 0 1) (ryD 0 1 0 0 1),
  t2 (ryD 0 (-1) 0 0 1) (ryD 0 (-1) 0 0 1) (ryD 0 0 0 (-1) 1) (ryD 0 0 0 1 1),
  t2 (ryD 0 (-1) 0 0 1) (ryD 0 (-1) 0 0 1) (ryD 0 1 0 0 1) (ryD 0 (-1) 0 0 1),
  t2 (ryD 0 (-1) 0 0 1) (ryD 0 (-1) 0 0 1) (ryD 0 0 0 1 1) (ryD 0 0 0 (-1) 1),
  t2 (ryD 0 (-1) 0 0 0) (ryD 0 0 0 0 0) (ryD 0 0 0 0 0) (ryD 0 0 0 (-1) 0),
  t2 (ryD 0 0 0 0 0) (ryD 0 (-1) 0 0 0) (ryD 0 0 0 (-1) 0) (ryD 0 0 0 0 0),
  t2 (ryD 0 (-1) 0 0 1) (ryD 0 0 0 (-1) 1) (ryD 0 (-1) 0 0 1) (ryD 0 0 0 1 1),
  t2 (ryD 0 (-1) 0 0 1) (ryD 0 0 0 (-1) 1) (ryD 0 0 0 (-1) 1) (ryD 0 (-1) 0 0 1),
  t2 (ryD 0 (-1) 0 0 1) (ryD 0 0 0 (-1) 1) (ryD 0 1 0 0 1) (ryD 0 0 0 (-1) 1),
  t2 (ryD 0 (-1) 0 0 1) (ryD 0 0 0 (-1) 1) (ryD 0 0 0 1 1) (ryD 0 1 0 0 1),
  t2 (ryD 0 (-1) 0 0 0) (ryD 0 0 0 0 0) (ryD 0 0 0 0 0) (ryD 0 1 0 0 0),
  t2 (ryD 0 0 0 0 0) (ryD 0 (-1) 0 0 0) (ryD 0 1 0 0 0) (ryD 0 0 0 0 0),
  t2 (ryD 0 (-1) 0 0 1) (ryD 0 1 0 0 1) (ryD 0 (-1) 0 0 1) (ryD 0 (-1) 0 0 1),
  t2 (ryD 0 (-1) 0 0 1) (ryD 0 1 0 0 1) (ryD 0 0 0 (-1) 1) (ryD 0 0 0 (-1) 1),
  t2 (ryD 0 (-1) 0 0 1) (ryD 0 1 0 0 1) (ryD 0 1 0 0 1) (ryD 0 1 0 0 1),
  t2 (ryD 0 (-1) 0 0 1) (ryD 0 1 0 0 1) (ryD 0 0 0 1 1) (ryD 0 0 0 1 1),
  t2 (ryD 0 (-1) 0 0 0) (ryD 0 0 0 0 0) (ryD 0 0 0 0 0) (ryD 0 0 0 1 0),
  t2 (ryD 0 0 0 0 0) (ryD 0 (-1) 0 0 0) (ryD 0 0 0 1 0) (ryD 0 0 0 0 0),
  t2 (ryD 0 (-1) 0 0 1) (ryD 0 0 0 1 1) (ryD 0 (-1) 0 0 1) (ryD 0 0 0 (-1) 1),
  t2 (ryD 0 (-1) 0 0 1) (ryD 0 0 0 1 1) (ryD 0 0 0 (-1) 1) (ryD 0 1 0 0 1),
  t2 (ryD 0 (-1) 0 0 1) (ryD 0 0 0 1 1) (ryD 0 1 0 0 1) (ryD 0 0 0 1 1),
  t2 (ryD 0 (-1) 0 0 1) (ryD 0 0 0 1 1) (ryD 0 0 0 1 1) (ryD 0 (-1) 0 0 1)]
def fp6 : List D := [t2 (ryD 0 0 (-1) 0 0) (ryD 0 0 0 0 0) (ryD 0 0 0 0 0) (ryD 0 0 (-1) 0 0),
  t2 (ryD 0 0 0 0 0) (ryD 0 0 (-1) 0 0) (ryD 0 0 (-1) 0 0) (ryD 0 0 0 0 0),
  t2 (ryD 0 0 (-1) 0 1) (ryD 0 0 (-1) 0 1) (ryD 0 0 (-1) 0 1) (ryD 0 0 1 0 1),
  t2 (ryD 0 0 (-1) 0 1) (ryD 0 0 (-1) 0 1) (ryD 1 0 0 0 1) (ryD (-1) 0 0 0 1),
  t2 (ryD 0 0 (-1) 0 1) (ryD 0 0 (-1) 0 1) (ryD 0 0 1 0 1) (ryD 0 0 (-1) 0 1),
  t2 (ryD 0 0 (-1) 0 1) (ryD 0 0 (-1) 0 1) (ryD (-1) 0 0 0 1) (ryD 1 0 0 0 1),
  t2 (ryD 0 0 (-1) 0 0) (ryD 0 0 0 0 0) (ryD 0 0 0 0 0) (ryD 1 0 0 0 0),
  t2 (ryD 0 0 0 0 0) (ryD 0 0 (-1) 0 0) (ryD 1 0 0 0 0) (ryD 0 0 0 0 0),
  t2 (ryD 0 0 (-1) 0 1) (ryD 1 0 0 0 1) (ryD 0 0 (-1) 0 1) (ryD (-1) 0 0 0 1),
  t2 (ryD 0 0 (-1) 0 1) (ryD 1 0 0 0 1) (ryD 1 0 0 0 1) (ryD 0 0 (-1) 0 1),
  t2 (ryD 0 0 (-1) 0 1) (ryD 1 0 0 0 1) (ryD 0 0 1 0 1) (ryD 1 0 0 0 1),
  t2 (ryD 0 0 (-1) 0 1) (ryD 1 0 0 0 1) (ryD (-1) 0 0 0 1) (ryD 0 0 1 0 1),
  t2 (ryD 0 0 (-1) 0 0) (ryD 0 0 0 0 0) (ryD 0 0 0 0 0) (ryD 0 0 1 0 0),
  t2 (ryD 0 0 0 0 0) (ryD 0 0 (-1) 0 0) (ryD 0 0 1 0 0) (ryD 0 0 0 0 0),
  t2 (ryD 0 0 (-1) 0 1) (ryD 0 0 1 0 1) (ryD 0 0 (-1) 0 1) (ryD 0 0 (-1) 0 1),
  t2 (ryD 0 0 (-1) 0 1) (ryD 0 0 1 0 1) (ryD 1 0 0 0 1) (ryD 1 0 0 0 1),
  t2 (ryD 0 0 (-1) 0 1) (ryD 0 0 1 0 1) (ryD 0 0 1 0 1) (ryD 0 0 1 0 1),
  t2 (ryD 0 0 (-1) 0 1) (ryD 0 0 1 0 1) (ryD (-1) 0 0 0 1) (ryD (-1) 0 0 0 1),
  t2 (ryD 0 0 (-1) 0 0) (ryD 0 0 0 0 0) (ryD 0 0 0 0 0) (ryD (-1) 0 0 0 0),
  t2 (ryD 0 0 0 0 0) (ryD 0 0 (-1) 0 0) (ryD (-1) 0 0 0 0) (ryD 0 0 0 0 0),
  t2 (ryD 0 0 (-1) 0 1) (ryD (-1) 0 0 0 1) (ryD 0 0 (-1) 0 1) (ryD 1 0 0 0 1),
  t2 (ryD 0 0 (-1) 0 1) (ryD (-1) 0 0 0 1) (ryD 1 0 0 0 1) (ryD 0 0 1 0 1),
  t2 (ryD 0 0 (-1) 0 1) (ryD (-1) 0 0 0 1) (ryD 0 0 1 0 1) (ryD (-1) 0 0 0 1),
  t2 (ryD 0 0 (-1) 0 1) (ryD (-1) 0 0 0 1) (ryD (-1) 0 0 0 1) (ryD 0 0 (-1) 0 1)]
def fp7 : List D := [t2 (ryD 0 0 0 (-1) 0) (ryD 0 0 0 0 0) (ryD 0 0 0 0 0) (ryD 0 0 0 (-1) 0),
  t2 (ryD 0 0 0 0 0) (ryD 0 0 0 (-1) 0) (ryD 0 0 0 (-1) 0) (ryD 0 0 0 0 0),
  t2 (ryD 0 0 0 (-1) 1) (ryD 0 0 0 (-1) 1) (ryD 0 0 0 (-1) 1) (ryD 0 0 0 1 1),
  t2 (ryD 0 0 0 (-1) 1) (ryD 0 0 0 (-1) 1) (ryD 0 1 0 0 1) (ryD 0 (-1) 0 0 1),
  t2 (ryD 0 0 0 (-1) 1) (ryD 0 0 0 (-1) 1) (ryD 0 0 0 1 1) (ryD 0 0 0 (-1) 1),
  t2 (ryD 0 0 0 (-1) 1) (ryD 0 0 0 (-1) 1) (ryD 0 (-1) 0 0 1) (ryD 0 1 0 0 1),
  t2 (ryD 0 0 0 (-1) 0) (ryD 0 0 0 0 0) (ryD 0 0 0 0 0) (ryD 0 1 0 0 0),
  t2 (ryD 0 0 0 0 0) (ryD 0 0 0 (-1) 0) (ryD 0 1 0 0 0) (ryD 0 0 0 0 0),
  t2 (ryD 0 0 0 (-1) 1) (ryD 0 1 0 0 1) (ryD 0 0 0 (-1) 1) (ryD 0 (-1) 0 0 1),
  t2 (ryD 0 0 0 (-1) 1) (ryD 0 1 0 0 1) (ryD 0 1 0 0 1) (ryD 0 0 0 (-1) 1),
  t2 (ryD 0 0 0 (-1) 1) (ryD 0 1 0 0 1) (ryD 0 0 0 1 1) (ryD 0 1 0 0 1),
  t2 (ryD 0 0 0 (-1) 1) (ryD 0 1 0 0 1) (ryD 0 (-1) 0 0 1) (ryD 0 0 0 1 1),
  t2 (ryD 0 0 0 (-1) 0) (ryD 0 0 0 0 0) (ryD 0 0 0 0 0) (ryD 0 0 0 1 0),
  t2 (ryD 0 0 0 0 0) (ryD 0 0 0 (-1) 0) (ryD 0 0 0 1 0) (ryD 0 0 0 0 0),
  t2 (ryD 0 0 0 (-1) 1) (ryD 0 0 0 1 1) (ryD 0 0 0 (-1) 1) (ryD 0 0 0 (-1) 1),
  t2 (ryD 0 0 0 (-1) 1) (ryD 0 0 0 1 1) (ryD 0 1 0 0 1) (ryD 0 1 0 0 1),
  t2 (ryD 0 0 0 (-1) 1) (ryD 0 0 0 1 1) (ryD 0 0 0 1 1) (ryD 0 0 0 1 1),
  t2 (ryD 0 0 0 (-1) 1) (ryD 0 0 0 1 1) (ryD 0 (-1) 0 0 1) (ryD 0 (-1) 0 0 1),
  t2 (ryD 0 0 0 (-1) 0) (ryD 0 0 0 0 0) (ryD 0 0 0 0 0) (ryD 0 (-1) 0 0 0),
  t2 (ryD 0 0 0 0 0) (ryD 0 0 0 (-1) 0) (ryD 0 (-1) 0 0 0) (ryD 0 0 0 0 0),
  t2 (ryD 0 0 0 (-1) 1) (ryD 0 (-1) 0 0 1) (ryD 0 0 0 (-1) 1) (ryD 0 1 0 0 1),
  t2 (ryD 0 0 0 (-1) 1) (ryD 0 (-1) 0 0 1) (ryD 0 1 0 0 1) (ryD 0 0 0 1 1),
  t2 (ryD 0 0 0 (-1) 1) (ryD 0 (-1) 0 0 1) (ryD 0 0 0 1 1) (ryD 0 (-1) 0 0 1),
  t2 (ryD 0 0 0 (-1) 1) (ryD 0 (-1) 0 0 1) (ryD 0 (-1) 0 0 1) (ryD 0 0 0 (-1) 1)]
def fnd : Nat → List D
  | 0 => []
  | 1 => fnd 0 ++ fp0
  | 2 => fnd 1 ++ fp1
  | 3 => fnd 2 ++ fp2
  | 4 => fnd 3 ++ fp3
  | 5 => fnd 4 ++ fp4
  | 6 => fnd 5 ++ fp5
  | 7 => fnd 6 ++ fp6
  | 8 => fnd 7 ++ fp7
  | _ => []
def qf0 : DEnv := [.own false (fnd 0), .none, .none, .none, .none, .none, .none, .none, .none]
def qf1 : DEnv := [.own false (fnd 1), .val (.int 0), .val (.int 6), .val (ryD 1 0 0 0 0), .val (ryD 0 0 (-1) 0 0), .val (.int 6), .val (.tup [.int 0, .int 6, .int 6, .int 16]), .own false [(ryD 1 0 0 0 1), (ryD 0 0 (-1) 0 1), (ryD 0 0 (-1) 0 1), (ryD 1 0 0 0 1)], .none]
def qf2 : DEnv := [.own false (fnd 2), .val (.int 1), .val (.int 6), .val (ryD 0 1 0 0 0), .val (ryD 0 0 0 (-1) 0), .val (.int 6), .val (.tup [.int 1, .int 7, .int 7, .int 17]), .own false [(ryD 0 1 0 0 1), (ryD 0 0 0 (-1) 1), (ryD 0 0 0 (-1) 1), (ryD 0 1 0 0 1)], .none]
def qf3 : DEnv := [.own false (fnd 3), .val (.int 2), .val (.int 6), .val (ryD 0 0 1 0 0), .val (ryD 1 0 0 0 0), .val (.int 6), .val (.tup [.int 2, .int 8, .int 8, .int 18]), .own false [(ryD 0 0 1 0 1), (ryD 1 0 0 0 1), (ryD 1 0 0 0 1), (ryD 0 0 1 0 1)], .none]
def qf4 : DEnv := [.own false (fnd 4), .val (.int 3), .val (.int 6), .val (ryD 0 0 0 1 0), .val (ryD 0 1 0 0 0), .val (.int 6), .val (.tup [.int 3, .int 9, .int 9, .int 19]), .own false [(ryD 0 0 0 1 1), (ryD 0 1 0 0 1), (ryD 0 1 0 0 1), (ryD 0 0 0 1 1)], .none]
def qf5 : DEnv := [.own false (fnd 5), .val (.int 4), .val (.int 6), .val (ryD (-1) 0 0 0 0), .val (ryD 0 0 1 0 0), .val (.int 6), .val (.tup [.int 4, .int 10, .int 10, .int 20]), .own false [(ryD (-1) 0 0 0 1), (ryD 0 0 1 0 1), (ryD 0 0 1 0 1), (ryD (-1) 0 0 0 1)], .none]
def qf6 : DEnv := [.own false (fnd 6), .val (.int 5), .val (.int 6), .val (ryD 0 (-1) 0 0 0), .val (ryD 0 0 0 1 0), .val (.int 6), .val (.tup [.int 5, .int 11, .int 11, .int 21]), .own false [(ryD 0 (-1) 0 0 1), (ryD 0 0 0 1 1), (ryD 0 0 0 1 1), (ryD 0 (-1) 0 0 1)], .none]
def qf7 : DEnv := [.own false (fnd 7), .val (.int 6), .val (.int 6), .val (ryD 0 0 (-1) 0 0), .val (ryD (-1) 0 0 0 0), .val (.int 6), .val (.tup [.int 6, .int 12, .int 12, .int 22]), .own false [(ryD 0 0 (-1) 0 1), (ryD (-1) 0 0 0 1), (ryD (-1) 0 0 0 1), (ryD 0 0 (-1) 0 1)], .none]
def qf8 : DEnv := [.own false (fnd 8), .val (.int 7), .val (.int 6), .val (ryD 0 0 0 (-1) 0), .val (ryD 0 (-1) 0 0 0), .val (.int 6), .val (.tup [.int 7, .int 13, .int 13, .int 23]), .own false [(ryD 0 0 0 (-1) 1), (ryD 0 (-1) 0 0 1), (ryD 0 (-1) 0 0 1), (ryD 0 0 0 (-1) 1)], .none]
def qBody : SM := (sFor (iSeq (eTup (aCons (eC (.int 0)) (aCons (eC (.int 2)) (aCons (eC (.int 4)) (aOne (eC (.int 6)))))))) (gN 2) (sSeq (sPar 3 4 (aCons (eFn m_turned_ray (aCons (eC d_ONE) (aOne (eVar 1)))) (aOne (eFn m_turned_ray (aCons (eC d_ONE) (aOne (eOp dAdd (eVar 1) (eVar 2))))))))
      (sSeq (sExt 0 (eLst (aCons (eTup (aCons (eTup (aCons (eVar 3) (aOne (eC d_ZERO)))) (aOne (eTup (aCons (eC d_ZERO) (aOne (eVar 4))))))) (aOne (eTup (aCons (eTup (aCons (eC d_ZERO) (aOne (eVar 3)))) (aOne (eTup (aCons (eVar 4) (aOne (eC d_ZERO)))))))))))
      (sFor (iSeq (eTup (aCons (eC (.int 0)) (aCons (eC (.int 2)) (aCons (eC (.int 4)) (aOne (eC (.int 6)))))))) (gN 5) (sSeq (sSet 6 (eTup (aCons (eVar 1) (aCons (eOp dAdd (eVar 1) (eVar 2)) (aCons (eOp dAdd (eVar 1) (eVar 5)) (aOne (eOp dAdd (eOp dAdd (eOp dAdd (eVar 1) (eVar 2)) (eVar 5)) (eC (.int 4)))))))))
      (sSeq (sSet 7 (eLc (iSeq (eVar 6)) (gN 8) mYes (eFn m_over_root (aCons (eFn m_turned_ray (aCons (eC d_ONE) (aOne (eVar 8)))) (aOne (eC (.int 1))))) [8]))
      (sApp 0 (eTup (aCons (eTup (aCons (eOp dIx (eVar 7) (eC (.int 0))) (aOne (eOp dIx (eVar 7) (eC (.int 1)))))) (aOne (eTup (aCons (eOp dIx (eVar 7) (eC (.int 2))) (aOne (eOp dIx (eVar 7) (eC (.int 3))))))))))))))))
theorem sx_qt : sm_quarter_tables = sSeq (sSet 0 (eLst aNil)) (sSeq (sFor (iR1 (aOne (eC (.int 8)))) (gN 1) qBody) (sRet (eCall fTuple (aOne (eCall fSorted (aOne (eVar 0))))))) := rfl
theorem qb0 : qBody (qf0.set 1 (.val (.int 0))) = some (.nxt, qf1) := by kernel_rfl
theorem qb1 : qBody (qf1.set 1 (.val (.int 1))) = some (.nxt, qf2) := by kernel_rfl
theorem qb2 : qBody (qf2.set 1 (.val (.int 2))) = some (.nxt, qf3) := by kernel_rfl
theorem qb3 : qBody (qf3.set 1 (.val (.int 3))) = some (.nxt, qf4) := by kernel_rfl
theorem qb4 : qBody (qf4.set 1 (.val (.int 4))) = some (.nxt, qf5) := by kernel_rfl
theorem qb5 : qBody (qf5.set 1 (.val (.int 5))) = some (.nxt, qf6) := by kernel_rfl
theorem qb6 : qBody (qf6.set 1 (.val (.int 6))) = some (.nxt, qf7) := by kernel_rfl
theorem qb7 : qBody (qf7.set 1 (.val (.int 7))) = some (.nxt, qf8) := by kernel_rfl
theorem fOk : sortOk (fnd 8) = true := by kernel_rfl
theorem fSo : sortD (fnd 8) = qs := by kernel_rfl
def ixAt (i : Nat) : Bool := match qs[i]? with | some d => idxD d qs == some i | none => false
def ixAll : Nat → Nat → Bool
  | _, 0 => true
  | lo, n + 1 => ixAt lo && ixAll (lo + 1) n
theorem ix0 : ixAll 0 24 = true := by decide +kernel
theorem ix1 : ixAll 24 24 = true := by decide +kernel
theorem ix2 : ixAll 48 24 = true := by decide +kernel
theorem ix3 : ixAll 72 24 = true := by decide +kernel
theorem ix4 : ixAll 96 24 = true := by decide +kernel
theorem ix5 : ixAll 120 24 = true := by decide +kernel
theorem ix6 : ixAll 144 24 = true := by decide +kernel
theorem ix7 : ixAll 168 24 = true := by decide +kernel
theorem shp_qs : shp (.tup qs) = true := by decide +kernel
theorem qs_len : qs.length = 192 := by decide +kernel
end K20
end
section
set_option maxRecDepth 100000
set_option linter.all false
set_option exponentiation.threshold 5000
set_option maxHeartbeats 4000000
namespace K20
open Pd PySem
def smE : EM := eFn m_ulaw_same (aCons (eVar 2) (aOne (eVar 3)))
def same_e (m : List D → Option OR) : EM := eFn m (aCons (eVar 2) (aOne (eVar 3)))
abbrev same_g : GM := gU 2 (gsCons (gN 2) (gsCons (gN 3) gsNil))
theorem same_loop (m : List D → Option OR) (X Y : D) : ∀ (l acc : List D), (∀ d ∈ l, m [d, d] = some (.v (.bl true))) → acc.length + l.length ≤ 100000 →
    lcD same_g mYes (same_e m) [2, 3] (zipD l l) [.val X, .val Y, .none, .none] acc = some (.tmp (acc ++ l.map fun _ => D.bl true), [.val X, .val Y, .none, .none])
  | [], acc, _, _ => by simp [zipD, lcD]
  | d :: l, acc, h, hl => by
    have h1 := h d (by simp)
    have ih := same_loop m X Y l (acc ++ [.bl true]) (fun x hx => h x (by simp [hx])) (by simp at hl ⊢; omega)
    have hl2 : acc.length < 100000 := by simp at hl; omega
    simp at ih
    simp [zipD, lcD, same_e, h1, hl2]
    simpa [same_e] using ih
theorem bls_true : ∀ l : List D, blsOf (l.map fun _ => D.bl true) = some (l.map fun _ => true)
  | [] => rfl
  | d :: l => by simp [blsOf, bls_true l]
theorem same_lst (n : Nat) (l : List D) (h : ∀ d ∈ l, mr_ulaw_same n [d, d] = some (.v (.bl true))) (hl : l.length ≤ 100000) : mr_ulaw_same (n + 1) [.lst l, .lst l] = some (.v (.bl true)) := by
  have a := same_loop (mr_ulaw_same n) (.lst l) (.lst l) l [] h (by simpa using hl)
  unfold same_e at a
  have b := bls_true l
  simp [mr_ulaw_same, sm_ulaw_same, a, b]
theorem same_tup (n : Nat) (l : List D) (h : ∀ d ∈ l, mr_ulaw_same n [d, d] = some (.v (.bl true))) (hl : l.length ≤ 100000) : mr_ulaw_same (n + 1) [.tup l, .tup l] = some (.v (.bl true)) := by
  have a := same_loop (mr_ulaw_same n) (.tup l) (.tup l) l [] h (by simpa using hl)
  unfold same_e at a
  have b := bls_true l
  simp [mr_ulaw_same, sm_ulaw_same, a, b]
theorem same_int (n : Nat) (i : Int) : mr_ulaw_same (n + 1) [.int i, .int i] = some (.v (.bl true)) := by
  simp [mr_ulaw_same, sm_ulaw_same]
theorem same_bl (n : Nat) (i : Bool) : mr_ulaw_same (n + 1) [.bl i, .bl i] = some (.v (.bl true)) := by
  simp [mr_ulaw_same, sm_ulaw_same]
theorem same_non (n : Nat) : mr_ulaw_same (n + 1) [.non, .non] = some (.v (.bl true)) := rfl
theorem same_ry (n : Nat) (q : Q4) (k : Nat) : mr_ulaw_same (n + 2) [ry true q k, ry true q k] = some (.v (.bl true)) := by
  refine same_tup (n + 1) _ ?_ (by simp)
  intro d hd
  simp at hd
  rcases hd with rfl | rfl | rfl | rfl | rfl <;> exact same_int n _
end K20
end
section
set_option maxRecDepth 100000
set_option linter.all false
set_option exponentiation.threshold 5000
set_option maxHeartbeats 4000000
namespace K20
open Pd PySem
/-! the quarter tables -/
theorem forD_cons {tg : GM} {mb : SM} {d : D} {ds : List D} {δ δ1 δ2 : DEnv} {r : Option (Ctl × DEnv)} (h1 : tg d δ = some δ1) (h2 : mb δ1 = some (.nxt, δ2)) (h3 : forD tg mb ds δ2 = r) : forD tg mb (d :: ds) δ = r := by
  simp [forD, h1, h2, h3]
theorem q_start : sSet 0 (eLst aNil) [.none, .none, .none, .none, .none, .none, .none, .none, .none] = some (.nxt, qf0) := by kernel_rfl
theorem q_e0 : qf8[0]? = some (.own false (fnd 8)) := by kernel_rfl
theorem q_ln : lenOk (fnd 8).length = true := by kernel_rfl
theorem q_rng : iR1 (aOne (eC (.int 8))) qf0 = some ([.int 0, .int 1, .int 2, .int 3, .int 4, .int 5, .int 6, .int 7], qf0) := by kernel_rfl
theorem gN_ok (j : Nat) (d : D) (δ : DEnv) : gN j d δ = some (δ.set j (.val d)) := rfl
theorem qt_run : forD (gN 1) qBody [.int 0, .int 1, .int 2, .int 3, .int 4, .int 5, .int 6, .int 7] qf0 = some (.nxt, qf8) :=
  forD_cons (gN_ok _ _ _) qb0 (forD_cons (gN_ok _ _ _) qb1 (forD_cons (gN_ok _ _ _) qb2 (forD_cons (gN_ok _ _ _) qb3 (forD_cons (gN_ok _ _ _) qb4 (forD_cons (gN_ok _ _ _) qb5 (forD_cons (gN_ok _ _ _) qb6 (forD_cons (gN_ok _ _ _) qb7 (by simp only [forD]))))))))
theorem for_of {mi : IM} {tg : GM} {mb : SM} {δ δ1 δ2 : DEnv} {ds : List D} (h1 : mi δ = some (ds, δ1)) (h2 : forD tg mb ds δ1 = some (.nxt, δ2)) : sFor mi tg mb δ = some (.nxt, δ2) := by
  simp [h1, h2]
theorem q_ret (E : DEnv) (L Q : List D) (e0 : E[0]? = some (.own false L)) (ok : sortOk L = true) (ln : lenOk L.length = true) (so : sortD L = Q) : sRet (eCall fTuple (aOne (eCall fSorted (aOne (eVar 0))))) E = some (.ret (.val (.tup Q)), E) := by
  have ln2 : L.length ≤ 100000 := of_decide_eq_true ln
  simp [e0, ok, ln2, so]
theorem q_wrap (Q : List D) (E : DEnv) (main : sm_quarter_tables [.none, .none, .none, .none, .none, .none, .none, .none, .none] = some (.ret (.val (.tup Q)), E)) : m_quarter_tables [] = some (.v (.tup Q)) := by
  simp [m_quarter_tables, main]
theorem qt_ok : m_quarter_tables [] = some (.v (.tup qs)) := by
  refine q_wrap qs qf8 ?_
  rw [sx_qt]
  exact seq_nxt q_start (seq_nxt (for_of q_rng qt_run) (q_ret _ _ _ q_e0 fOk q_ln fSo))
theorem qsA_len : qsA.length = 192 := by decide +kernel
theorem ix_all : ∀ (n lo i : Nat), ixAll lo n = true → lo ≤ i → i < lo + n → ixAt i = true
  | 0, lo, i, _, h1, h2 => by omega
  | n + 1, lo, i, h, h1, h2 => by
    unfold ixAll at h
    rw [Bool.and_eq_true] at h
    by_cases e : i = lo
    · rw [e]; exact h.1
    · exact ix_all n (lo + 1) i h.2 (by omega) (by omega)
theorem ix_at (i : Nat) (h : i < 192) : ixAt i = true := by
  by_cases h1 : i < 24
  · exact ix_all 24 0 i ix0 (by omega) (by omega)
  by_cases h2 : i < 48
  · exact ix_all 24 24 i ix1 (by omega) (by omega)
  by_cases h3 : i < 72
  · exact ix_all 24 48 i ix2 (by omega) (by omega)
  by_cases h4 : i < 96
  · exact ix_all 24 72 i ix3 (by omega) (by omega)
  by_cases h5 : i < 120
  · exact ix_all 24 96 i ix4 (by omega) (by omega)
  by_cases h6 : i < 144
  · exact ix_all 24 120 i ix5 (by omega) (by omega)
  by_cases h7 : i < 168
  · exact ix_all 24 144 i ix6 (by omega) (by omega)
  · exact ix_all 24 168 i ix7 (by omega) (by omega)
theorem shp_dT (A : T2) : shp (dT A) = true := by
  simp [shp, dT, t2, dR_eq, toP, toPs, SeqAt.shaped, PyData.canLay0, PyData.canLayAll0, PyData.depth, PyData.depthAll]
/-- the rest of number i -/
structure Rst (i : Nat) (A : T2) : Prop where
  lt : i < 192
  get : qs[i]? = some (dT A)
  chk : chk A = true
  idx : idxD (dT A) qs = some i
  shp : shp (dT A) = true
theorem rst (i : Nat) (h : i < 192) : ∃ A, Rst i A := by
  have hl : i < qsA.length := by rw [qsA_len]; exact h
  have g : qs[i]? = some (dT qsA[i]) := by
    unfold qs
    rw [List.getElem?_map, List.getElem?_eq_getElem hl]
    rfl
  have ix := ix_at i h
  unfold ixAt at ix
  rw [g] at ix
  exact ⟨qsA[i], h, g, qsA_ok _ (List.getElem_mem hl), eq_of_beq ix, shp_dT _⟩
end K20
end
section
set_option maxRecDepth 100000
set_option linter.all false
set_option exponentiation.threshold 5000
set_option maxHeartbeats 4000000
namespace K20
open Pd PySem
def ltT (f : Bool) (A : T2) : D := sq f [sq f [ry f A.p.q A.p.k, ry f A.q.q A.q.k], sq f [ry f A.r.q A.r.k, ry f A.s.q A.s.k]]
theorem ltT_true (A : T2) : ltT true A = dT A := rfl
theorem frozen_lt (f : Bool) (A : T2) : m_frozen [ltT f A] = some (.v (dT A)) :=
  fz_two 7 f _ _ _ _ (fz_two 6 f _ _ _ _ (fz_dR 4 f _) (fz_dR 4 f _)) (fz_two 6 f _ _ _ _ (fz_dR 4 f _) (fz_dR 4 f _))
/-- the number of a reading -/
def num (L : List Int) (i : Nat) : Int := few L.length + 192 * nval 0 L + i
theorem num_ret (QQ M : List D) (T : D) (w v : Int) (i : Nat) (ml mq mf : List D → Option OR) (nl : ml [.tup M] = some (.v (.int v))) (c : ∀ j, cMul 192 j = true) (qt : mq [] = some (.v (.tup QQ))) (X x0 x1 Y : D) (hx : X = .tup [x0, x1, Y] ∨ X = .lst [x0, x1, Y]) (hf : mf [Y] = some (.v T)) (s1 : shp (.tup QQ) = true) (s2 : shp T = true) (ix : idxD T QQ = some i) :
  sRet (eOp dAdd (eOp dAdd (eVar 2) (eOp dMul (eC (.int 192)) (eFn ml (aOne (eVar 1))))) (eTIdx (eFn mq aNil) (eFn mf (aOne (eOp dIx (eVar 0) (eC (.int 2))))))) [.val X, .val (.tup M), .val (.int w)] = some (.ret (.val (.int (w + 192 * v + i))), [.val X, .val (.tup M), .val (.int w)]) := by
  have hX : L2.atI [x0, x1, Y] 2 = some Y := rfl
  rcases hx with rfl | rfl <;> simp [nl, qt, hf, s1, s2, ix, c, hX]
theorem num_wrap (X : D) (v : Int) (δ : DEnv) (main : sm_number_of_reading [.val X, .none, .none] = some (.ret (.val (.int v)), δ)) : m_number_of_reading [X] = some (.v (.int v)) := by
  simp [m_number_of_reading, main]
theorem num_ahead (M : List D) (n : Nat) (X : D) (ma : List D → Option OR) (hn : M.length = n) (w : Int) (h0 : n = 0 → w = 0) (am : ∀ m, n = m + 1 → ma [.int (m : Int)] = some (.v (.int w))) :
  sSet 2 (eIf (mVal (eOp (dI fun i j => .bl (decide (j < i))) (eCall fLen (aOne (eVar 1))) (eC (.int 0)))) (eFn ma (aOne (eOp (dI fun i j => .int (i - j)) (eCall fLen (aOne (eVar 1))) (eC (.int 1))))) (eC (.int 0))) [.val X, .val (.tup M), .none] = some (.nxt, [.val X, .val (.tup M), .val (.int w)]) := by
  cases n with
  | zero => simp [hn, h0 rfl]
  | succ m =>
    have am := am m rfl
    have z : (0 : Int) < ((m + 1 : Nat) : Int) := by omega
    have e : ((m + 1 : Nat) : Int) - 1 = (m : Int) := by omega
    generalize hk : ((m + 1 : Nat) : Int) = kk at *
    have hlen' : ((M.length : Nat) : Int) = kk := by rw [hn, hk]
    simp [hlen', z, e, am]
theorem number_s (X : D) (n : Nat) (L : List Int) (A : T2) (i : Nat) (x0 x1 Y : D) (hx : X = .tup [x0, x1, Y] ∨ X = .lst [x0, x1, Y]) (hn : L.length = n) (hl : n ≤ 1000) (h1 : m_reading_letters [X] = some (.v (.tup (dl L)))) (hf : m_frozen [Y] = some (.v (dT A))) (r : Rst i A) :
    m_number_of_reading [X] = some (.v (.int (few n + 192 * nval 0 L + i))) := by
  refine num_wrap X _ [.val X, .val (.tup (dl L)), .val (.int (few n))] ?_
  unfold sm_number_of_reading
  refine seq_nxt (δ' := [.val X, .val (.tup (dl L)), .none]) (by simp [h1]) ?_
  refine seq_nxt (δ' := [.val X, .val (.tup (dl L)), .val (.int (few n))]) (num_ahead (dl L) n X _ (by rw [List.length_map]; exact hn) (few n) (fun e => by subst e; rfl) (fun m e => by subst e; exact at_most_ok m (by omega))) ?_
  exact num_ret qs (dl L) (dT A) (few n) (nval 0 L) i _ _ _ (number_of_letters_ok L) (fun j => cMul_l b192) qt_ok X x0 x1 Y hx hf shp_qs r.shp r.idx
theorem number_ok (f : Bool) (L : List Int) (A : T2) (i : Nat) (h : okL L) (hl : L.length ≤ 1000) (r : Rst i A) : m_number_of_reading [sq f [.bl (hd2 L), sq f (dl (tl2 L)), ltT f A]] = some (.v (.int (num L i))) :=
by
  have hx : sq f [.bl (hd2 L), sq f (dl (tl2 L)), ltT f A] = .tup [.bl (hd2 L), sq f (dl (tl2 L)), ltT f A] ∨ sq f [.bl (hd2 L), sq f (dl (tl2 L)), ltT f A] = .lst [.bl (hd2 L), sq f (dl (tl2 L)), ltT f A] := by
    cases f
    · exact .inr rfl
    · exact .inl rfl
  have h1 := letters_of_ok f L (ltT f A) h hl
  have h2 := frozen_lt f A
  unfold num
  generalize ltT f A = Y at *
  generalize sq f (dl (tl2 L)) = x1 at *
  generalize sq f [.bl (hd2 L), x1, Y] = X at *
  exact number_s X L.length L A i (.bl (hd2 L)) x1 Y hx rfl hl h1 h2 r
/-! the law's own number -/
theorem lnum_ret (QQ M : List D) (T X0 X1 : D) (s' : Sl) (n w v a : Int) (i : Nat) (mg : List D → Option OR) (hlen : ((M.length : Nat) : Int) = n) (g : mg [.int n] = some (.v (.tup [.int a, .int w]))) (c : ∀ j, cMul 192 j = true) (s1 : shp (.tup QQ) = true) (s2 : shp T = true) (ix : idxD T QQ = some i) :
  sRet (eOp dAdd (eOp dAdd (eOp dIx (eFn mg (aOne (eCall fLen (aOne (eVar 2))))) (eC (.int 1))) (eOp dMul (eC (.int 192)) (eVar 3))) (eTIdx (eVar 1) (eOp dIx (eVar 0) (eC (.int 2))))) [.val (.tup [X0, X1, T]), .val (.tup QQ), .val (.tup M), .val (.int v), s'] = some (.ret (.val (.int (w + 192 * v + i))), [.val (.tup [X0, X1, T]), .val (.tup QQ), .val (.tup M), .val (.int v), s']) := by
  simp [hlen, g, s1, s2, ix, c]
theorem lnum_wrap (X Q : D) (v : Int) (δ : DEnv) (main : sm_ulaw_number [.val X, .val Q, .none, .none, .none] = some (.ret (.val (.int v)), δ)) : m_ulaw_number [X, Q] = some (.v (.int v)) := by
  simp [m_ulaw_number, main]
theorem set_e (i : Nat) (me : EM) (δ δ1 : DEnv) (d : D) (h : me δ = some (.val d, δ1)) : sSet i me δ = some (.nxt, δ1.set i (.val d)) := by
  simp [h]
theorem lnum_s (X0 X1 T Q : D) (n : Nat) (L : List Int) (i : Nat) (hQ : Q = .tup qs) (hn : L.length = n) (hl : n ≤ 1000) (h1 : eOp dAdd (eIf (mTru (eOp dIx (eVar 0) (eC (.int 0)))) (eTup (aOne (eC (.int 2)))) (eTup aNil)) (eOp dIx (eVar 0) (eC (.int 1))) [.val (.tup [X0, X1, T]), .val Q, .none, .none, .none] = some (.val (.tup (dl L)), [.val (.tup [X0, X1, T]), .val Q, .none, .none, .none]))
    (sh : shp T = true) (ix : idxD T qs = some i) : m_ulaw_number [.tup [X0, X1, T], Q] = some (.v (.int (few n + 192 * nval 0 L + i))) := by
  obtain ⟨s', lo⟩ := law_loop (.val (.tup [X0, X1, T])) (.val Q) (.val (.tup (dl L))) L 0 .none
  refine lnum_wrap _ _ _ [.val (.tup [X0, X1, T]), .val Q, .val (.tup (dl L)), .val (.int (nval 0 L)), s'] ?_
  rw [sx_ulaw_number]
  refine seq_nxt (δ' := [.val (.tup [X0, X1, T]), .val Q, .val (.tup (dl L)), .none, .none]) (set_e _ _ _ _ _ h1) ?_
  refine seq_nxt (δ' := [.val (.tup [X0, X1, T]), .val Q, .val (.tup (dl L)), .val (.int 0), .none]) (by simp) ?_
  refine seq_nxt (δ' := [.val (.tup [X0, X1, T]), .val Q, .val (.tup (dl L)), .val (.int (nval 0 L)), s']) (by simp [lo]) ?_
  rw [hQ]
  exact lnum_ret qs (dl L) T X0 X1 s' (n : Int) (few n) (nval 0 L) (own' n) i _ (by rw [List.length_map, hn]) (grown_ok n hl) (fun j => cMul_l b192) shp_qs sh ix
theorem lnum_ok (L : List Int) (A : T2) (i : Nat) (h : okL L) (hl : L.length ≤ 1000) (r : Rst i A) : m_ulaw_number [rdg L (dT A), .tup qs] = some (.v (.int (num L i))) := by
  refine lnum_s _ _ _ (.tup qs) L.length L i rfl rfl hl ?_ r.shp r.idx
  have e := back_eq h
  have ht : (tl2 L).length ≤ 1000 := by
    unfold tl2
    split
    · rw [List.length_drop]
      omega
    · exact hl
  generalize dT A = T
  generalize (Pd.D.tup qs) = QQ
  generalize hT : tl2 L = M at *
  cases z : hd2 L
  · rw [z] at e
    have e : M = L := e
    subst e
    cases M with
    | nil => simp
    | cons a t =>
      have hb : t.length + 1 ≤ 100000 := by simp at ht; omega
      simp [hb]
  · rw [z, if_pos rfl] at e
    subst e
    cases M with
    | nil => simp
    | cons a t =>
      have hb : 1 + (t.length + 1) ≤ 100000 := by simp at ht; omega
      simp [hb]
/-! a reading by its number -/
def sumO (len : Nat) : Nat → Int
  | 0 => 0
  | n + 1 => own' len + sumO (len + 1) n
theorem sumO_pos : ∀ (n len : Nat), 0 ≤ sumO len n
  | 0, _ => Int.le_refl _
  | n + 1, len => by
    have h1 := own_pos len
    have h2 := sumO_pos n (len + 1)
    show 0 ≤ own' len + sumO (len + 1) n
    omega
theorem few_sum : ∀ (n len : Nat), few (len + n) = few len + sumO len n
  | 0, len => by simp [sumO]
  | n + 1, len => by
    have h1 := few_step len
    have h2 := few_sum n (len + 1)
    show few (len + (n + 1)) = few len + (own' len + sumO (len + 1) n)
    rw [show len + (n + 1) = len + 1 + n by omega, h2, h1]
    omega
theorem rbn_loop (N : Sl) (m : Int) : ∀ (n len fuel : Nat), n < fuel → len + n ≤ 1000 → 0 ≤ m → m < own' (len + n) →
    sWhile reading_by_number_t1 reading_by_number_b1 fuel [N, .val (.int len), .val (.int (sumO len n + m))] = some (.nxt, [N, .val (.int ((len + n : Nat) : Int)), .val (.int m)])
  | 0, len, fuel + 1, _, hl, h0, h1 => by
    have tm := tables_many_ok len (by omega)
    have hno : ¬ (own' len ≤ m) := by
      have h1 : m < own' len := h1
      omega
    have e : sumO len 0 + m = m := by simp [sumO]
    rw [e, Nat.add_zero]
    generalize own' len = w at *
    generalize (len : Int) = l at *
    have st : reading_by_number_t1 [N, .val (.int l), .val (.int m)] = some (false, [N, .val (.int l), .val (.int m)]) := by
      simp [reading_by_number_t1, tm, hno]
    simp [sWhile, st]
  | n + 1, len, fuel + 1, hf, hl, h0, h1 => by
    have tm := tables_many_ok len (by omega)
    have ih := rbn_loop N m n (len + 1) fuel (by omega) (by omega) h0 (by rw [show len + 1 + n = len + (n + 1) by omega]; exact h1)
    have hp := sumO_pos n (len + 1)
    have hyes : own' len ≤ sumO len (n + 1) + m := by
      show own' len ≤ own' len + sumO (len + 1) n + m
      omega
    have hs : sumO len (n + 1) + m - own' len = sumO (len + 1) n + m := by
      show own' len + sumO (len + 1) n + m - own' len = _
      omega
    rw [show len + 1 + n = len + (n + 1) by omega] at ih
    generalize sumO len (n + 1) + m = S at *
    generalize sumO (len + 1) n + m = S' at *
    generalize own' len = w at *
    have e2 : ((len + 1 : Nat) : Int) = (len : Int) + 1 := by omega
    rw [e2] at ih
    generalize (len : Int) = l at *
    have st : reading_by_number_t1 [N, .val (.int l), .val (.int S)] = some (true, [N, .val (.int l), .val (.int S)]) := by
      simp [reading_by_number_t1, tm, hyes]
    have bd : reading_by_number_b1 [N, .val (.int l), .val (.int S)] = some (.nxt, [N, .val (.int (l + 1)), .val (.int S')]) := by
      simp [reading_by_number_b1, tm, hs]
    simp [sWhile, st, bd, ih]
theorem rbn_ret (QQ M : List D) (T R : D) (S m n p i : Int) (mw ml mq : List D → Option OR) (d1 : m / 192 = p) (d2 : m % 192 = i) (lb : ml [.int n, .int p] = some (.v (.tup M))) (qt : mq [] = some (.v (.tup QQ))) (hat : L2.atI QQ i = some T) (w : mw [.tup M, T] = some (.v R)) :
  sRet (eFn mw (aCons (eFn ml (aCons (eVar 1) (aOne (eOp (dIc cDiv fun i j => .int (i / j)) (eVar 2) (eC (.int 192)))))) (aOne (eOp dIx (eFn mq aNil) (eOp (dIc cMod fun i j => .int (i % j)) (eVar 2) (eC (.int 192))))))) [.val (.int S), .val (.int n), .val (.int m)] = some (.ret (.val R), [.val (.int S), .val (.int n), .val (.int m)]) := by
  simp [d1, d2, lb, qt, hat, w]
theorem rbn_wrap (N : Int) (R : D) (δ : DEnv) (main : sm_reading_by_number [.val (.int N), .none, .none] = some (.ret (.val R), δ)) : m_reading_by_number [.int N] = some (.v R) := by
  simp [m_reading_by_number, main]
theorem rbn_s (n : Nat) (m p : Int) (i : Nat) (T : D) (hn : n ≤ 400) (hm : m = 192 * p + i) (hp : 0 ≤ p) (hi : i < 192) (hm2 : m < own' n) (g : qs[i]? = some T) : m_reading_by_number [.int (few n + m)] = some (.v (rdg (letters n p) T)) := by
  have lo := rbn_loop (.val (.int (few n + m))) m n 0 1000 (by omega) (by omega) (by omega) (by rw [Nat.zero_add]; exact hm2)
  have fs := few_sum n 0
  rw [Nat.zero_add] at fs lo
  have e0 : sumO 0 n + m = few n + m := by rw [fs]; show _ = 0 + sumO 0 n + m; omega
  rw [e0] at lo
  have ql := qs_len
  have hat : L2.atI qs (i : Int) = some T := by
    rw [at_nat qs i (by omega)]
    rw [List.getElem?_eq_getElem (by omega)] at g
    exact g
  refine rbn_wrap (few n + m) _ [.val (.int (few n + m)), .val (.int n), .val (.int m)] ?_
  rw [sx_reading_by_number]
  refine seq_nxt (δ' := [.val (.int (few n + m)), .val (.int 0), .none]) (by simp) ?_
  refine seq_nxt (δ' := [.val (.int (few n + m)), .val (.int 0), .val (.int (few n + m))]) (by simp) ?_
  refine seq_nxt (δ' := [.val (.int (few n + m)), .val (.int n), .val (.int m)]) lo ?_
  exact rbn_ret qs (dl (letters n p)) T (rdg (letters n p) T) (few n + m) m n p i _ _ _ (by omega) (by omega) (lbn_ok n p (by omega)) qt_ok hat (with_ok (letters n p) T)
end K20
end
section
set_option maxRecDepth 100000
set_option linter.all false
set_option exponentiation.threshold 5000
set_option maxHeartbeats 4000000
namespace K20
open Pd PySem
def isT (o : Option OR) : Bool := match o with
  | some (.v (.bl true)) => true
  | _ => false
theorem isT_ok {o : Option OR} (h : isT o = true) : o = some (.v (.bl true)) := by
  unfold isT at h
  split at h
  · rfl
  · cases h
def lawT (A : T2) : Bool := isT (m_ulaw_is_small_table [dT A]) && isT (m_ulaw_is_quarter [dT A])
theorem lt0 : qsA0.all lawT = true := by decide +kernel
theorem lt1 : qsA1.all lawT = true := by decide +kernel
theorem lt2 : qsA2.all lawT = true := by decide +kernel
theorem lt3 : qsA3.all lawT = true := by decide +kernel
theorem lt4 : qsA4.all lawT = true := by decide +kernel
theorem lt5 : qsA5.all lawT = true := by decide +kernel
theorem lt6 : qsA6.all lawT = true := by decide +kernel
theorem lt7 : qsA7.all lawT = true := by decide +kernel
theorem law_T : ∀ A ∈ qsA, lawT A = true := by
  have h : qsA.all lawT = true := by
    unfold qsA
    simp only [List.all_append, lt0, lt1, lt2, lt3, lt4, lt5, lt6, lt7, Bool.and_self]
  exact List.all_eq_true.mp h
def ltsR (A B : T2) : Bool := isT (match dLt (dT A) (dT B) with | some (.v d) => some (.v d) | _ => none)
def sortedA : List T2 → Bool
  | a :: b :: r => ltsR a b && sortedA (b :: r)
  | _ => true
theorem sorted_qs : sortedA qsA = true := by decide +kernel
end K20
end
section
set_option maxRecDepth 100000
set_option linter.all false
set_option exponentiation.threshold 5000
set_option maxHeartbeats 4000000
namespace K20
open Pd PySem
/-! all tables right -/
theorem lc3 (m : List D → Option OR) (a b c : Sl) : ∀ (l acc : List D), acc.length + l.length ≤ 100000 → (∀ d ∈ l, m [d] = some (.v (.bl true))) →
    lcD (gN 3) mYes (eFn m (aOne (eVar 3))) [3] l [a, b, c, .none] acc = some (.tmp (acc ++ l.map fun _ => D.bl true), [a, b, c, .none])
  | [], acc, _, _ => by simp [lcD]
  | d :: l, acc, h, hm => by
    simp only [List.length_cons] at h
    have h0 := hm d List.mem_cons_self
    have ih := lc3 m a b c l (acc ++ [.bl true]) (by simp; omega) fun x hx => hm x (List.mem_cons_of_mem _ hx)
    have ha : acc.length < 100000 := by omega
    simp [lcD, h0, ha, ih]
theorem lc_lt (a : Sl) : ∀ (A : T2) (l : List T2), sortedA (A :: l) = true →
    lcD (gU 2 (gsCons (gN 1) (gsCons (gN 2) gsNil))) (mNot (mVal (eOp dLt (eVar 1) (eVar 2)))) (eC (.int 1)) [1, 2] (zipD ((A :: l).map dT) (l.map dT)) [a, .none, .none, .none] [] = some (.tmp [], [a, .none, .none, .none])
  | A, [], _ => by simp [lcD]
  | A, B :: l, h => by
    unfold sortedA at h
    rw [Bool.and_eq_true] at h
    have ih := lc_lt a B l h.2
    have h1 : dLt (dT A) (dT B) = some (.v (.bl true)) := by
      have h := h.1
      unfold ltsR at h
      split at h
      · rename_i d e
        rw [e]
        have := isT_ok h
        simp only [Option.some.injEq, OR.v.injEq] at this
        rw [this]
      · cases h
    have st : mNot (mVal (eOp dLt (eVar 1) (eVar 2))) [a, .val (dT A), .val (dT B), .none] = some (false, [a, .val (dT A), .val (dT B), .none]) := by
      simp only [mNot_ap, mVal_ap, eOp_ap, eVar_ap]
      simp [h1, -dLt]
    generalize mNot (mVal (eOp dLt (eVar 1) (eVar 2))) = T at *
    show lcD _ _ _ _ (.tw [dT A, dT B] :: zipD ((B :: l).map dT) (l.map dT)) _ _ = _
    generalize zipD ((B :: l).map dT) (l.map dT) = Z at *
    generalize dT A = x at *
    generalize dT B = y at *
    simp [lcD, st, ih]
theorem bls_true' (l : List D) : blsOf (l.map fun _ => D.bl true) = some (l.map fun _ => true) := bls_true l
theorem rr_s (Q : List D) (ms mq : List D → Option OR) (hl : Q.length = 192) (h1 : ∀ d ∈ Q, ms [d] = some (.v (.bl true))) (h2 : ∀ d ∈ Q, mq [d] = some (.v (.bl true)))
    (hz : lcD (gU 2 (gsCons (gN 1) (gsCons (gN 2) gsNil))) (mNot (mVal (eOp dLt (eVar 1) (eVar 2)))) (eC (.int 1)) [1, 2] (zipD Q (Q.drop 1)) [.val (.tup Q), .none, .none, .none] [] = some (.tmp [], [.val (.tup Q), .none, .none, .none])) :
  (sSeq (sIf (mOr (mNot (mTru (eUn (fIsi .tuple) (eVar 0)))) (mOr (mVal (eOp dNe (eCall fLen (aOne (eVar 0))) (eC (.int 192)))) (mNot (mTru (eCall fAll (aOne (eLc (iSeq (eVar 0)) (gN 3) mYes (eFn ms (aOne (eVar 3))) [3]))))))) (sRet (eC (.bl false))) sNext)
      (sSeq (sIf (mVal (eOp dNe (eLc (iZp (aCons (eVar 0) (aOne (eSl dSl (eVar 0) (oPart (eC (.int 1))) oNo)))) (gU 2 (gsCons (gN 1) (gsCons (gN 2) gsNil))) (mNot (mVal (eOp dLt (eVar 1) (eVar 2)))) (eC (.int 1)) [1, 2]) (eLst aNil))) (sRet (eC (.bl false))) sNext)
      (sRet (eCall fAll (aOne (eLc (iSeq (eVar 0)) (gN 3) mYes (eFn mq (aOne (eVar 3))) [3])))))) [.val (.tup Q), .none, .none, .none] = some (.ret (.val (.bl true)), [.val (.tup Q), .none, .none, .none]) := by
  have e1 := lc3 ms (.val (.tup Q)) .none .none Q [] (by simp; omega) h1
  have e2 := lc3 mq (.val (.tup Q)) .none .none Q [] (by simp; omega) h2
  have b := bls_true' Q
  rw [List.nil_append] at e1 e2
  generalize (Q.map fun _ => D.bl true) = B at *
  have eb : shp (.lst []) = true := by decide +kernel
  have ee : eqD (.lst []) (.lst []) = true := by decide +kernel
  have ht : List.take 191 (List.drop 1 Q) = List.drop 1 Q := List.take_of_length_le (by rw [List.length_drop]; omega)
  have hlI : ((Q.length : Nat) : Int) = 192 := by omega
  have hall : (Q.all fun _ => true) = true := by rw [List.all_eq_true]; exact fun _ _ => rfl
  rw [List.drop_one] at hz ht
  generalize mNot (mVal (eOp dLt (eVar 1) (eVar 2))) = T at *
  refine seq_nxt (δ' := [.val (.tup Q), .none, .none, .none]) ?_ (seq_nxt (δ' := [.val (.tup Q), .none, .none, .none]) ?_ ?_)
  · simp [e1, b, hlI, hall]
  · have s1 : HT.sIx 192 0 (some 1) = 1 := rfl
    have s2 : HT.sIx 192 192 none = 192 := rfl
    simp [hl, s1, s2, ht, hz, eb, ee]
  · simp [e2, b, hall]
theorem rr_wrap (Q : D) (δ : DEnv) (main : sm_ulaw_rests_right [.val Q, .none, .none, .none] = some (.ret (.val (.bl true)), δ)) : m_ulaw_rests_right [Q] = some (.v (.bl true)) := by
  simp [m_ulaw_rests_right, main]
theorem law_small (d : D) (h : d ∈ qs) : m_ulaw_is_small_table [d] = some (.v (.bl true)) ∧ m_ulaw_is_quarter [d] = some (.v (.bl true)) := by
  obtain ⟨A, hA, rfl⟩ := List.mem_map.mp h
  have := law_T A hA
  unfold lawT at this
  rw [Bool.and_eq_true] at this
  exact ⟨isT_ok this.1, isT_ok this.2⟩
theorem qs_cons : ∃ A l, qsA = A :: l := by
  cases h : qsA with
  | nil =>
    have := qsA_len
    rw [h] at this
    cases this
  | cons A l => exact ⟨A, l, rfl⟩
theorem rests_ok : m_ulaw_rests_right [.tup qs] = some (.v (.bl true)) := by
  refine rr_wrap _ [.val (.tup qs), .none, .none, .none] ?_
  refine rr_s qs m_ulaw_is_small_table m_ulaw_is_quarter qs_len (fun d hd => (law_small d hd).1) (fun d hd => (law_small d hd).2) ?_
  obtain ⟨A, l, e⟩ := qs_cons
  have so := sorted_qs
  unfold qs
  rw [e] at so ⊢
  exact lc_lt _ A l so
/-! lists in place of tuples -/
def isL (n : Nat) (d e : D) : Prop := mr_ulaw_lists n [d] = some (.v e) ∨ ∃ ds, e = .lst ds ∧ mr_ulaw_lists n [d] = some (.l ds)
theorem ll_loop (n : Nat) (X : D) : ∀ (l m acc : List D), l.length = m.length → acc.length + l.length ≤ 100000 → (∀ (i : Nat) (a b : D), l[i]? = some a → m[i]? = some b → isL n a b) →
    lcD (gN 1) mYes (eFn (mr_ulaw_lists n) (aOne (eVar 1))) [1] l [.val X, .none] acc = some (.tmp (acc ++ m), [.val X, .none])
  | [], [], acc, _, _, _ => by simp [lcD]
  | a :: l, b :: m, acc, hl, ha, h => by
    simp only [List.length_cons] at hl ha
    have h0 := h 0 a b rfl rfl
    have ih := ll_loop n X l m (acc ++ [b]) (by omega) (by simp; omega) fun i x y hx hy => h (i + 1) x y (by simpa using hx) (by simpa using hy)
    have hacc : acc.length < 100000 := by omega
    rcases h0 with h0 | ⟨ds, rfl, h0⟩
    · simp [lcD, h0, hacc, ih]
    · simp [lcD, h0, hacc, ih]
  | [], _ :: _, _, hl, _, _ => by simp at hl
  | _ :: _, [], _, hl, _, _ => by simp at hl
theorem ll_tup (n : Nat) (l m : List D) (hl : l.length = m.length) (ha : l.length ≤ 100000) (h : ∀ (i : Nat) (a b : D), l[i]? = some a → m[i]? = some b → isL n a b) : mr_ulaw_lists (n + 1) [.tup l] = some (.l m) := by
  have e := ll_loop n (.tup l) l m [] hl (by simp; omega) h
  simp [mr_ulaw_lists, sm_ulaw_lists, e]
theorem ll_int (n : Nat) (i : Int) : isL (n + 1) (.int i) (.int i) := .inl (by simp [mr_ulaw_lists, sm_ulaw_lists])
theorem ll_bl (n : Nat) (i : Bool) : isL (n + 1) (.bl i) (.bl i) := .inl (by simp [mr_ulaw_lists, sm_ulaw_lists])
theorem ll_ints (n : Nat) (l : List Int) (h : l.length ≤ 1000) : isL (n + 2) (.tup (dl l)) (.lst (dl l)) := by
  refine .inr ⟨_, rfl, ll_tup (n + 1) _ _ rfl (by simp; omega) fun i a b ha hb => ?_⟩
  rw [ha] at hb
  cases hb
  rw [List.getElem?_map] at ha
  cases hi : l[i]? with
  | none => rw [hi] at ha; cases ha
  | some x => rw [hi] at ha; cases ha; exact ll_int n x
theorem ll_ry (n : Nat) (r : Ry) : isL (n + 2) (dR r) (ry false r.q r.k) := ll_ints n [r.q.a, r.q.b, r.q.c, r.q.d, (r.k : Int)] (by simp)
theorem ll_two (n : Nat) (a b c d : D) (h1 : isL n a c) (h2 : isL n b d) : isL (n + 1) (.tup [a, b]) (.lst [c, d]) := by
  refine .inr ⟨_, rfl, ll_tup n _ _ rfl (by simp) fun i x y hx hy => ?_⟩
  rcases i with _ | _ | i <;> simp at hx hy
  · subst hx hy; exact h1
  · subst hx hy; exact h2
theorem ll_dT (n : Nat) (A : T2) : isL (n + 4) (dT A) (ltT false A) := ll_two (n + 3) _ _ _ _ (ll_two (n + 2) _ _ _ _ (ll_ry n _) (ll_ry n _)) (ll_two (n + 2) _ _ _ _ (ll_ry n _) (ll_ry n _))
theorem lists_ok (L : List Int) (A : T2) (hl : (tl2 L).length ≤ 1000) : m_ulaw_lists [rdg L (dT A)] = some (.l [.bl (hd2 L), .lst (dl (tl2 L)), ltT false A]) := by
  refine ll_tup 7 _ _ rfl (by simp) fun i x y hx hy => ?_
  rcases i with _ | _ | _ | i <;> simp at hx hy
  · subst hx hy; exact ll_bl 6 _
  · subst hx hy; exact ll_ints 5 _ hl
  · subst hx hy; exact ll_dT 3 A
end K20
end
section
set_option maxRecDepth 100000
set_option linter.all false
set_option exponentiation.threshold 5000
set_option maxHeartbeats 4000000
namespace K20
open Pd PySem
theorem tl_01 {L : List Int} (h : okL L) : ∀ x ∈ tl2 L, x = 0 ∨ x = 1 := by
  cases L with
  | nil => intro x hx; cases hx
  | cons a l =>
    unfold tl2
    cases z : hd2 (a :: l)
    · intro x hx
      have hx : x ∈ a :: l := hx
      rcases List.mem_cons.mp hx with rfl | hx
      · rcases h.1 with e | e | e
        · exact .inl e
        · exact .inr e
        · subst e; cases z
      · exact h.2 x hx
    · intro x hx
      have hx : x ∈ l := hx
      exact h.2 x hx
theorem tl_len (L : List Int) : (tl2 L).length ≤ L.length := by
  unfold tl2
  split
  · rw [List.length_drop]; omega
  · exact Nat.le_refl _
/-! a form -/
theorem lnumber_ok (i : Int) : m_ulaw_is_number [.int i] = some (.v (.bl true)) := by
  simp [m_ulaw_is_number, sm_ulaw_is_number]
abbrev fm_e : EM := eAnd (eFn m_ulaw_is_number (aOne (eVar 1))) (eOp (dIn false) (eVar 1) (eTup (aCons (eC (.int 0)) (aOne (eC (.int 1))))))
theorem fm_step (X : Sl) (x : Int) (h : x = 0 ∨ x = 1) : fm_e [X, .val (.int x)] = some (.val (.bl true), [X, .val (.int x)]) := by
  have h0 : L2.inV (L2.V.int 0) [L2.V.int 0, L2.V.int 1] = true := by decide +kernel
  have h1 : L2.inV (L2.V.int 1) [L2.V.int 0, L2.V.int 1] = true := by decide +kernel
  rcases h with rfl | rfl <;> simp [lnumber_ok, h0, h1]
theorem lc_fm (X : Sl) : ∀ (l : List Int) (acc : List D), acc.length + l.length ≤ 100000 → (∀ x ∈ l, x = 0 ∨ x = 1) →
    lcD (gN 1) mYes fm_e [1] (dl l) [X, .none] acc = some (.tmp (acc ++ l.map fun _ => D.bl true), [X, .none])
  | [], acc, _, _ => by simp [lcD]
  | x :: l, acc, h, hx => by
    simp only [List.length_cons] at h
    have st := fm_step X x (hx x List.mem_cons_self)
    have ih := lc_fm X l (acc ++ [.bl true]) (by simp; omega) fun y hy => hx y (List.mem_cons_of_mem _ hy)
    have ha : acc.length < 100000 := by omega
    generalize fm_e = E at *
    simp [lcD, st, ha, ih]
theorem bls_int : ∀ l : List Int, blsOf (l.map fun _ => D.bl true) = some (l.map fun _ => true)
  | [] => rfl
  | _ :: l => by simp [blsOf, bls_int l]
theorem form_s (f : Bool) (l : List Int) (T : D) (ms mq : List D → Option OR) (E : EM) (hl : l.length ≤ 300) (h1 : ms [T] = some (.v (.bl true))) (h2 : mq [T] = some (.v (.bl true)))
    (lc : lcD (gN 1) mYes E [1] (dl l) [.val (.tup [.bl f, .tup (dl l), T]), .none] [] = some (.tmp (l.map fun _ => D.bl true), [.val (.tup [.bl f, .tup (dl l), T]), .none])) :
  (sSeq (sIf (mOr (mNot (mTru (eUn (fIsi .tuple) (eVar 0)))) (mOr (mVal (eOp dNe (eCall fLen (aOne (eVar 0))) (eC (.int 3)))) (mOr (mNot (mTru (eUn (fIsi .bool) (eOp dIx (eVar 0) (eC (.int 0)))))) (mNot (mTru (eUn (fIsi .tuple) (eOp dIx (eVar 0) (eC (.int 1))))))))) (sRet (eC (.bl false))) sNext)
      (sSeq (sIf (mOr (mVal (eOp (dI fun i j => .bl (decide (j < i))) (eCall fLen (aOne (eOp dIx (eVar 0) (eC (.int 1))))) (eC (.int 300)))) (mNot (mTru (eCall fAll (aOne (eLc (iSeq (eOp dIx (eVar 0) (eC (.int 1)))) (gN 1) mYes E [1])))))) (sRet (eC (.bl false))) sNext)
      (sRet (eAnd (eFn ms (aOne (eOp dIx (eVar 0) (eC (.int 2))))) (eFn mq (aOne (eOp dIx (eVar 0) (eC (.int 2))))))))) [.val (.tup [.bl f, .tup (dl l), T]), .none] = some (.ret (.val (.bl true)), [.val (.tup [.bl f, .tup (dl l), T]), .none]) := by
  have b := bls_int l
  have hall : (l.all fun _ => true) = true := by rw [List.all_eq_true]; exact fun _ _ => rfl
  have hn : ¬ ((300 : Int) < (l.length : Int)) := by omega
  generalize hB : (l.map fun _ => D.bl true) = B at *
  refine seq_nxt (δ' := [.val (.tup [.bl f, .tup (dl l), T]), .none]) ?_ (seq_nxt (δ' := [.val (.tup [.bl f, .tup (dl l), T]), .none]) ?_ ?_)
  · simp
  · simp [hn, lc, b, hall]
  · simp [h1, h2]
theorem form_wrap (X : D) (δ : DEnv) (main : sm_ulaw_is_form [.val X, .none] = some (.ret (.val (.bl true)), δ)) : m_ulaw_is_form [X] = some (.v (.bl true)) := by
  simp [m_ulaw_is_form, main]
theorem mem_qs {i : Nat} {A : T2} (r : Rst i A) : dT A ∈ qs := List.mem_of_getElem? r.get
theorem form_ok (L : List Int) (A : T2) (i : Nat) (h : okL L) (hl : L.length ≤ 300) (r : Rst i A) : m_ulaw_is_form [rdg L (dT A)] = some (.v (.bl true)) := by
  have sm := law_small _ (mem_qs r)
  have tl := tl_len L
  have lc := fun X => lc_fm X (tl2 L) [] (by simp; omega) (tl_01 h)
  exact form_wrap _ _ (form_s (hd2 L) (tl2 L) (dT A) _ _ _ (by omega) sm.1 sm.2 (lc _))
/-! is_reading -/
theorem below_ok (x : Int) (h : x = 0 ∨ x = 1) : m_is_below [.int x, .int 2] = some (.v (.bl true)) := by
  have e : m_is_number [.int x] = some (.v (.bl true)) := is_number_ok x
  rcases h with rfl | rfl <;> simp [m_is_below, sm_is_below, e]
abbrev rd_e : EM := eFn m_is_below (aCons (eVar 4) (aOne (eC (.int 2))))
theorem sx_is_reading : sm_is_reading = (sSeq (sIf (mOr (mNot (mTru (eUn (fIsi .tuple) (eVar 0)))) (mVal (eOp dNe (eCall fLen (aOne (eVar 0))) (eC (.int 3))))) (sRet (eC (.bl false))) sNext)
      (sSeq (sAsg (gU 3 (gsCons (gN 1) (gsCons (gN 2) (gsCons (gN 3) gsNil)))) (eVar 0))
      (sSeq (sIf (mOr (mNot (mTru (eUn (fIsi .bool) (eVar 1)))) (mNot (mTru (eUn (fIsi .tuple) (eVar 2))))) (sRet (eC (.bl false))) sNext)
      (sRet (eAnd (eCall fAll (aOne (eLc (iSeq (eVar 2)) (gN 4) mYes rd_e [4]))) (eFn m_is_quarter (aOne (eVar 3)))))))) := rfl
theorem lc_rd (a b c d : Sl) : ∀ (l : List Int) (acc : List D), acc.length + l.length ≤ 100000 → (∀ x ∈ l, x = 0 ∨ x = 1) →
    lcD (gN 4) mYes rd_e [4] (dl l) [a, b, c, d, .none] acc = some (.tmp (acc ++ l.map fun _ => D.bl true), [a, b, c, d, .none])
  | [], acc, _, _ => by simp [lcD]
  | x :: l, acc, h, hx => by
    simp only [List.length_cons] at h
    have st := below_ok x (hx x List.mem_cons_self)
    have ih := lc_rd a b c d l (acc ++ [.bl true]) (by simp; omega) fun y hy => hx y (List.mem_cons_of_mem _ hy)
    have ha : acc.length < 100000 := by omega
    simp [lcD, st, ha, ih]
theorem reading_s (f : Bool) (l : List Int) (T : D) (mq : List D → Option OR) (E : EM) (h2 : mq [T] = some (.v (.bl true)))
    (lc : lcD (gN 4) mYes E [4] (dl l) [.val (.tup [.bl f, .tup (dl l), T]), .val (.bl f), .val (.tup (dl l)), .val T, .none] [] = some (.tmp (l.map fun _ => D.bl true), [.val (.tup [.bl f, .tup (dl l), T]), .val (.bl f), .val (.tup (dl l)), .val T, .none])) :
  (sSeq (sIf (mOr (mNot (mTru (eUn (fIsi .tuple) (eVar 0)))) (mVal (eOp dNe (eCall fLen (aOne (eVar 0))) (eC (.int 3))))) (sRet (eC (.bl false))) sNext)
      (sSeq (sAsg (gU 3 (gsCons (gN 1) (gsCons (gN 2) (gsCons (gN 3) gsNil)))) (eVar 0))
      (sSeq (sIf (mOr (mNot (mTru (eUn (fIsi .bool) (eVar 1)))) (mNot (mTru (eUn (fIsi .tuple) (eVar 2))))) (sRet (eC (.bl false))) sNext)
      (sRet (eAnd (eCall fAll (aOne (eLc (iSeq (eVar 2)) (gN 4) mYes E [4]))) (eFn mq (aOne (eVar 3)))))))) [.val (.tup [.bl f, .tup (dl l), T]), .none, .none, .none, .none] = some (.ret (.val (.bl true)), [.val (.tup [.bl f, .tup (dl l), T]), .val (.bl f), .val (.tup (dl l)), .val T, .none]) := by
  have b := bls_int l
  have hall : (l.all fun _ => true) = true := by rw [List.all_eq_true]; exact fun _ _ => rfl
  generalize hB : (l.map fun _ => D.bl true) = B at *
  refine seq_nxt (δ' := [.val (.tup [.bl f, .tup (dl l), T]), .none, .none, .none, .none]) (by simp) (seq_nxt (δ' := [.val (.tup [.bl f, .tup (dl l), T]), .val (.bl f), .val (.tup (dl l)), .val T, .none]) (by simp) (seq_nxt (δ' := [.val (.tup [.bl f, .tup (dl l), T]), .val (.bl f), .val (.tup (dl l)), .val T, .none]) (by simp) ?_))
  simp [lc, b, hall, h2]
theorem reading_wrap (X : D) (δ : DEnv) (main : sm_is_reading [.val X, .none, .none, .none, .none] = some (.ret (.val (.bl true)), δ)) : m_is_reading [X] = some (.v (.bl true)) := by
  simp [m_is_reading, main]
theorem reading_ok (L : List Int) (A : T2) (i : Nat) (h : okL L) (hl : L.length ≤ 1000) (r : Rst i A) : m_is_reading [rdg L (dT A)] = some (.v (.bl true)) := by
  have tl := tl_len L
  have lc := fun a b c d => lc_rd a b c d (tl2 L) [] (by simp; omega) (tl_01 h)
  exact reading_wrap _ _ (reading_s (hd2 L) (tl2 L) (dT A) _ _ (quarter_ok A r.chk) (lc _ _ _ _))
/-! numbers of letters -/
theorem okL_letters (m : Nat) (p : Int) (h0 : 0 ≤ p) (h1 : p < 3 * 2 ^ m) : okL (letters (m + 1) p) := by
  refine ⟨?_, fun x hx => digs_01 m p x (List.mem_reverse.mp hx)⟩
  have hp : (0 : Int) < 2 ^ m := Int.pow_pos (by decide)
  have a1 : 0 ≤ p / 2 ^ m := Int.ediv_nonneg h0 (by omega)
  have a2 : p / 2 ^ m < 3 := Int.ediv_lt_of_lt_mul hp h1
  generalize p / 2 ^ m = q at *
  omega
theorem letters_len (n : Nat) (p : Int) : (letters n p).length = n := by
  cases n with
  | zero => rfl
  | succ m => simp [letters, digs_len]
theorem letters_val (n : Nat) (p : Int) (h : n = 0 → p = 0) : nval 0 (letters n p) = p := by
  cases n with
  | zero => rw [h rfl]; rfl
  | succ m =>
    show nval (2 * 0 + p / 2 ^ m) (digs m p).reverse = p
    rw [show 2 * 0 + p / 2 ^ m = p / 2 ^ m by omega]
    exact digs_val m p
/-- of okL letters: the number and its bounds -/
theorem nval_b (L : List Int) (h : okL L) : 0 ≤ nval 0 L ∧ 192 * nval 0 L + 192 ≤ own' L.length ∧ letters L.length (nval 0 L) = L := by
  cases L with
  | nil => exact ⟨Int.le_refl _, by decide, rfl⟩
  | cons a l =>
    have hb := digs_back l.reverse a fun x hx => h.2 x (List.mem_reverse.mp hx)
    rw [List.reverse_reverse, List.length_reverse] at hb
    have e : nval 0 (a :: l) = nval a l := by
      show nval (2 * 0 + a) l = _
      rw [show 2 * 0 + a = a by omega]
    have hp : (0 : Int) < 2 ^ l.length := Int.pow_pos (by decide)
    have hd := hb.2
    have a0 : 0 ≤ a ∧ a ≤ 2 := by rcases h.1 with e | e | e <;> omega
    have a1 : nval a l < (a + 1) * 2 ^ l.length := by
      have := Int.lt_ediv_add_one_mul_self (nval a l) hp
      rw [hd] at this
      exact this
    have a2 : 0 ≤ nval a l := by
      have h3 := Int.ediv_mul_le (nval a l) (Int.ne_of_gt hp)
      rw [hd] at h3
      have h4 : 0 ≤ a * 2 ^ l.length := Int.mul_nonneg a0.1 (by omega)
      omega
    have a3 : (a + 1) * 2 ^ l.length ≤ 3 * 2 ^ l.length := Int.mul_le_mul_of_nonneg_right (by omega) (by omega)
    refine ⟨by rw [e]; exact a2, ?_, letters_back a l h.2⟩
    rw [e]
    show 192 * nval a l + 192 ≤ 576 * 2 ^ l.length
    omega
/-- what stands at a number -/
theorem at_num (n : Nat) (m : Int) (hn : n ≤ 400) (h0 : 0 ≤ m) (h1 : m < own' n) : ∃ L i A, okL L ∧ L.length = n ∧ Rst i A ∧ num L i = few n + m ∧ m_reading_by_number [.int (few n + m)] = some (.v (rdg L (dT A))) := by
  obtain ⟨A, r⟩ := rst (m % 192).toNat (by omega)
  have hi : (((m % 192).toNat : Nat) : Int) = m % 192 := by omega
  have hp : 0 ≤ m / 192 := by omega
  have rb := rbn_s n m (m / 192) (m % 192).toNat (dT A) hn (by rw [hi]; omega) hp (by omega) h1 r.get
  have hz : n = 0 → m / 192 = 0 := fun e => by
    subst e
    have : m < 192 := h1
    omega
  refine ⟨letters n (m / 192), (m % 192).toNat, A, ?_, letters_len n _, r, ?_, rb⟩
  · cases n with
    | zero => exact trivial
    | succ k =>
      have : m < 576 * 2 ^ k := h1
      exact okL_letters k _ hp (by omega)
  · unfold num
    rw [letters_len, letters_val n _ hz, hi]
    omega
theorem rbn_ok (L : List Int) (i : Nat) (A : T2) (h : okL L) (hl : L.length ≤ 400) (r : Rst i A) : m_reading_by_number [.int (num L i)] = some (.v (rdg L (dT A))) := by
  obtain ⟨b1, b2, b3⟩ := nval_b L h
  have ri := r.lt
  have rb := rbn_s L.length (192 * nval 0 L + i) (nval 0 L) i (dT A) hl rfl b1 ri (by omega) r.get
  rw [b3] at rb
  have e : num L i = few L.length + (192 * nval 0 L + i) := by unfold num; omega
  rw [e]
  exact rb
/-- the next one -/
theorem nxt_ok (L : List Int) (i : Nat) (A : T2) (h : okL L) (hl : L.length ≤ 300) (r : Rst i A) : ∃ L' i' A', okL L' ∧ L'.length ≤ L.length + 1 ∧ Rst i' A' ∧ num L' i' = num L i + 1 ∧ m_reading_by_number [.int (num L i + 1)] = some (.v (rdg L' (dT A'))) := by
  obtain ⟨b1, b2, b3⟩ := nval_b L h
  have ri := r.lt
  by_cases hm : 192 * nval 0 L + i + 1 < own' L.length
  · obtain ⟨L', i', A', c1, c2, c3, c4, c5⟩ := at_num L.length (192 * nval 0 L + i + 1) (by omega) (by omega) hm
    have e : few L.length + (192 * nval 0 L + i + 1) = num L i + 1 := by unfold num; omega
    rw [e] at c4 c5
    exact ⟨L', i', A', c1, by omega, c3, c4, c5⟩
  · have ho : 192 * nval 0 L + i + 1 = own' L.length := by omega
    obtain ⟨L', i', A', c1, c2, c3, c4, c5⟩ := at_num (L.length + 1) 0 (by omega) (by omega) (own_pos _)
    have fs := few_step L.length
    have e : few (L.length + 1) + 0 = num L i + 1 := by unfold num; omega
    rw [e] at c4 c5
    exact ⟨L', i', A', c1, by omega, c3, c4, c5⟩
end K20
end
section
set_option maxRecDepth 100000
set_option linter.all false
set_option exponentiation.threshold 5000
set_option maxHeartbeats 4000000
namespace K20
open Pd PySem
theorem eop_pw (i j : Int) (δ : DEnv) (h : cPow i j = true) : eOp (dIc cPow fun i j => .int (i ^ j.toNat)) (eC (.int i)) (eC (.int j)) δ = some (.val (.int (i ^ j.toNat)), δ) := by
  simp [h]
theorem pw10_18 : (10 : Int) ^ (18 : Int).toNat = 1000000000000000000 := (Int.natCast_pow 10 18).symm
@[simp ↓ high] theorem epw10_18 (δ : DEnv) : eOp (dIc cPow fun i j => .int (i ^ j.toNat)) (eC (.int 10)) (eC (.int 18)) δ = some (.val (.int 1000000000000000000), δ) := by
  rw [eop_pw 10 18 δ (by decide), pw10_18]
theorem ix30 : L2.ixN 3 0 = some 0 := rfl
theorem ix32 : L2.ixN 3 2 = some 2 := rfl
theorem cMul_r {i j : Int} (h : j.natAbs < 18446744073709551616) : cMul i j = true := by
  unfold cMul b64
  rw [decide_eq_true h]
  simp
theorem take_pos (x y z b : Int) (hx : 0 < x) (hb : 0 < b ∧ b < 1073741824) : m_ulaw_take [.int x, .int y, .int z] [.int b] = some (.v (.int (x % b)), [.int (x / b), .int y, .int z]) := by
  obtain ⟨b1, b2⟩ := hb
  have main : sm_ulaw_take [.own true [.int x, .int y, .int z], .val (.int b), .none, .none, .none, .none] = some (.ret (.val (.int (x % b))), [.own true [.int (x / b), .int y, .int z], .val (.int b), .val (.int (x % b)), .none, .none, .none]) := by
    unfold sm_ulaw_take
    simp [hx, b1, b2, ix30]
  simp [m_ulaw_take, main]
theorem take_zero (x y z b : Int) (hx : ¬ 0 < x) (hy : 0 ≤ y ∧ y < 2 ^ 62) (hz : 0 ≤ z ∧ z < 1000) (hb : 0 < b ∧ b < 1073741824) : ∃ r, m_ulaw_take [.int x, .int y, .int z] [.int b] = some (.v (.int (r % b)), [.int x, .int y, .int (z + 1)]) := by
  obtain ⟨b1, b2⟩ := hb
  generalize hw : z + 1 = w
  have m1 : ∀ i, cMul 48271 i = true := fun i => cMul_of (by decide)
  have m2 : ∀ i, cMul i (39373 + w) = true := fun i => cMul_r (by omega)
  generalize ho : (y + 48271 * w) * (39373 + w) % 2147483647 = o
  generalize hv : o % 40009 + 7 = v
  have m3 : ∀ i, cMul i v = true := fun i => cMul_r (by omega)
  generalize ht : (o + w + y / 1000003) * v % 2147483629 = t
  have m4 : ∀ i, cMul i 48271 = true := fun i => cMul_r (by decide)
  refine ⟨(t * 48271 + o) % 2147483587 / 64, ?_⟩
  have main : sm_ulaw_take [.own true [.int x, .int y, .int z], .val (.int b), .none, .none, .none, .none] = some (.ret (.val (.int ((t * 48271 + o) % 2147483587 / 64 % b))), [.own true [.int x, .int y, .int w], .val (.int b), .none, .val (.int o), .val (.int v), .val (.int t)]) := by
    unfold sm_ulaw_take
    refine seq_nxt (δ' := [.own true [.int x, .int y, .int z], .val (.int b), .none, .none, .none, .none]) (by simp [hx]) ?_
    refine seq_nxt (δ' := [.own true [.int x, .int y, .int w], .val (.int b), .none, .none, .none, .none]) (by simp [hw, ix32]) ?_
    refine seq_nxt (δ' := [.own true [.int x, .int y, .int w], .val (.int b), .none, .val (.int o), .none, .none]) (by simp [m1, m2, ho]) ?_
    refine seq_nxt (δ' := [.own true [.int x, .int y, .int w], .val (.int b), .none, .val (.int o), .val (.int v), .none]) (by simp [hv]) ?_
    refine seq_nxt (δ' := [.own true [.int x, .int y, .int w], .val (.int b), .none, .val (.int o), .val (.int v), .val (.int t)]) (by simp [m3, ht]) ?_
    simp [m4, b1]
  simp [m_ulaw_take, main]
/-- a lot of three numbers that takes may be made from -/
structure Tin (l : List D) (n : Int) : Prop where
  ok : ∃ x y z, l = [.int x, .int y, .int z] ∧ 0 ≤ x ∧ 0 ≤ y ∧ y < 2 ^ 62 ∧ 0 ≤ z ∧ z < n
theorem take_ok {l : List D} {n : Int} (h : Tin l n) (hn : n ≤ 1000) (b : Int) (hb : 0 < b ∧ b < 1073741824) : ∃ r l', m_ulaw_take l [.int b] = some (.v (.int r), l') ∧ 0 ≤ r ∧ r < b ∧ Tin l' (n + 1) := by
  obtain ⟨x, y, z, rfl, hx, hy, hy2, hz, hz2⟩ := h.ok
  by_cases p : 0 < x
  · exact ⟨_, _, take_pos x y z b p hb, Int.emod_nonneg _ (by omega), Int.emod_lt_of_pos _ hb.1, ⟨_, _, _, rfl, Int.ediv_nonneg hx (by omega), hy, hy2, hz, by omega⟩⟩
  · obtain ⟨r, e⟩ := take_zero x y z b p ⟨hy, hy2⟩ ⟨hz, by omega⟩ hb
    exact ⟨_, _, e, Int.emod_nonneg _ (by omega), Int.emod_lt_of_pos _ hb.1, ⟨_, _, _, rfl, hx, hy, hy2, by omega, by omega⟩⟩
theorem box_s (L : List D) (k c : Int) (hk : k < (L.length : Int)) (hg : L2.atI L k = some (.int c)) (h0 : 0 ≤ k ∧ k < 3) : ∃ l, m_ulaw_box [.lst L, .int k] = some (.l l) ∧ Tin l 1 := by
  have m1 : ∀ i, cMul i 1 = true := fun i => cMul_r (by decide)
  have m0 : ∀ i, cMul i 0 = true := fun i => cMul_r (by decide)
  have m2 : ∀ i, cMul 39373 i = true := fun i => cMul_of (by decide)
  generalize ha : (if c < 0 then -c else c) = a
  have a0 : 0 ≤ a := by rw [← ha]; split <;> omega
  have key : ∃ x : Int, 0 ≤ x ∧ a * (if decide ((1000000000000000000 : Int) ≤ a) = true then 1 else 0) = x ∧ cMul a (if decide ((1000000000000000000 : Int) ≤ a) = true then 1 else 0) = true := by
    by_cases h : (1000000000000000000 : Int) ≤ a
    · exact ⟨a, a0, by simp [h], by rw [if_pos (decide_eq_true h)]; exact m1 _⟩
    · exact ⟨0, by omega, by simp [h], by rw [if_neg (by simpa using h)]; exact m0 _⟩
  obtain ⟨x, x0, x1, x2⟩ := key
  refine ⟨[.int x, .int (c % 2305843009213693951 + 39373 * k + 9640), .int 0], ?_, ⟨_, _, _, rfl, x0, by omega, by omega, by omega, by omega⟩⟩
  have main : sm_ulaw_box [.val (.lst L), .val (.int k), .none] = some (.ret (.tmp [.int x, .int (c % 2305843009213693951 + 39373 * k + 9640), .int 0]), [.val (.lst L), .val (.int k), .val (.int c)]) := by
    unfold sm_ulaw_box
    refine seq_nxt (δ' := [.val (.lst L), .val (.int k), .val (.int c)]) (by simp [hk, hg]) ?_
    simp at x1 x2
    simp [ha, x1, x2, m2]
  simp [m_ulaw_box, main]
theorem ix10 : L2.ixN 1 0 = some 0 := rfl
theorem cells_step (X s5 : Sl) (c0 k v : Int) (hk : 0 ≤ k ∧ k < 100) : ∃ d0, ulaw_cells_b1 [X, .val (.int 1), .own false [.int c0], .val (.int k), .val (.int v), s5] = some (.nxt, [X, .val (.int 1), .own false [.int d0], .val (.int k), .val (.int v), .val (.int 0)]) := by
  have m : ∀ i, cMul i (k + 2) = true := fun i => cMul_r (by omega)
  have h : k % 1 = 0 := by omega
  exact ⟨c0 + v * (k + 2), by simp [ulaw_cells_b1, h, m, ix10]⟩
theorem cells_loop (X : Sl) : ∀ (ns : List Int) (lo c0 : Int) (s3 s4 s5 : Sl), 0 ≤ lo → lo + ns.length < 100 →
    ∃ d0 t3 t4 t5, forD (gU 2 (gsCons (gN 3) (gsCons (gN 4) gsNil))) ulaw_cells_b1 (enumD lo (ns.map D.int)) [X, .val (.int 1), .own false [.int c0], s3, s4, s5] = some (.nxt, [X, .val (.int 1), .own false [.int d0], t3, t4, t5])
  | [], lo, c0, s3, s4, s5, _, _ => ⟨c0, s3, s4, s5, rfl⟩
  | v :: ns, lo, c0, s3, s4, s5, h1, h2 => by
    simp only [List.length_cons] at h2
    obtain ⟨e0, st⟩ := cells_step X s5 c0 lo v ⟨h1, by omega⟩
    obtain ⟨d0, t3, t4, t5, ih⟩ := cells_loop X ns (lo + 1) e0 (.val (.int lo)) (.val (.int v)) (.val (.int 0)) (by omega) (by omega)
    refine ⟨d0, t3, t4, t5, ?_⟩
    simp [forD, enumD, st, ih]
theorem cells_ok (ns : List Int) (h : ns.length ≤ 63) : ∃ c0, m_ulaw_cells [.ro (ns.map D.int), .int 1] = some (.l [.int c0]) := by
  match ns, h with
  | [], _ => exact ⟨0, rfl⟩
  | a :: r, h =>
    simp only [List.length_cons] at h
    have h2 : ∀ d, HT.sIx (r.length + 1) d (some 1) = 1 := fun d => by
      show min 1 (r.length + 1) = 1
      omega
    have h63 : ∀ d, HT.sIx (r.length + 1) d (some 63) = r.length + 1 := fun d => by
      show min 63 (r.length + 1) = r.length + 1
      omega
    have hn : HT.sIx (r.length + 1) 0 none = 0 := rfl
    have ht : List.take r.length (r.map D.int) = r.map D.int := List.take_of_length_le (by simp)
    obtain ⟨d0, t3, t4, t5, lo⟩ := cells_loop (.val (.ro (.int a :: r.map D.int))) r 0 a .none .none .none (by omega) (by omega)
    refine ⟨d0, ?_⟩
    have main : sm_ulaw_cells [.val (.ro (.int a :: r.map D.int)), .val (.int 1), .none, .none, .none, .none] = some (.ret (.slot 2), [.val (.ro (.int a :: r.map D.int)), .val (.int 1), .own false [.int d0], t3, t4, t5]) := by
      rw [sx_ulaw_cells]
      refine seq_nxt (δ' := [.val (.ro (.int a :: r.map D.int)), .val (.int 1), .own false [.int a], .none, .none, .none]) (by simp [h2, hn]) ?_
      refine seq_nxt (δ' := [.val (.ro (.int a :: r.map D.int)), .val (.int 1), .own false [.int d0], t3, t4, t5]) (by simp [h2, h63, ht, lo]) ?_
      simp
    simp [m_ulaw_cells, main]
end K20
end
section
set_option maxRecDepth 100000
set_option linter.all false
set_option exponentiation.threshold 5000
set_option maxHeartbeats 4000000
namespace K20
open Pd PySem
/-! the same -/
theorem same_ints (n : Nat) (l : List Int) (h : l.length ≤ 1000) : mr_ulaw_same (n + 2) [.tup (dl l), .tup (dl l)] = some (.v (.bl true)) := by
  refine same_tup (n + 1) _ (fun d hd => ?_) (by simp; omega)
  obtain ⟨x, _, rfl⟩ := List.mem_map.mp hd
  exact same_int n x
theorem same_dR (n : Nat) (r : Ry) : mr_ulaw_same (n + 2) [dR r, dR r] = some (.v (.bl true)) := same_ry n r.q r.k
theorem same_two (n : Nat) (a b : D) (h1 : mr_ulaw_same n [a, a] = some (.v (.bl true))) (h2 : mr_ulaw_same n [b, b] = some (.v (.bl true))) : mr_ulaw_same (n + 1) [.tup [a, b], .tup [a, b]] = some (.v (.bl true)) := by
  refine same_tup n _ (fun d hd => ?_) (by simp)
  simp only [List.mem_cons, List.not_mem_nil, or_false] at hd
  rcases hd with rfl | rfl
  · exact h1
  · exact h2
theorem same_dT (n : Nat) (A : T2) : mr_ulaw_same (n + 4) [dT A, dT A] = some (.v (.bl true)) :=
  same_two (n + 3) _ _ (same_two (n + 2) _ _ (same_dR n _) (same_dR n _)) (same_two (n + 2) _ _ (same_dR n _) (same_dR n _))
theorem same_rdg (n : Nat) (L : List Int) (A : T2) (h : (tl2 L).length ≤ 1000) : mr_ulaw_same (n + 5) [rdg L (dT A), rdg L (dT A)] = some (.v (.bl true)) := by
  refine same_tup (n + 4) _ (fun d hd => ?_) (by simp)
  simp only [List.mem_cons, List.not_mem_nil, or_false] at hd
  rcases hd with rfl | rfl | rfl
  · exact same_bl (n + 3) _
  · exact same_ints (n + 2) _ h
  · exact same_dT n A
theorem same_pair (L : List Int) (A : T2) (v : Int) (h : (tl2 L).length ≤ 1000) : m_ulaw_same [.lst [.int v, rdg L (dT A)], .lst [.int v, rdg L (dT A)]] = some (.v (.bl true)) := by
  refine same_lst 7 _ (fun d hd => ?_) (by simp)
  simp only [List.mem_cons, List.not_mem_nil, or_false] at hd
  rcases hd with rfl | rfl
  · exact same_int 6 v
  · exact same_rdg 2 L A h
/-! one reading right -/
theorem one_s (mn mr mb ms mx ml mf : List D → Option OR) (R Q : D) (v : Int) (h1 : mn [R, Q] = some (.v (.int v))) (h2 : mr [R] = some (.v (.int v))) (h3 : mb [.int v] = some (.v R)) (h4 : ms [.lst [.int v, R], .lst [.int v, R]] = some (.v (.bl true))) :
  (sSeq (sSet 3 (eFn mn (aCons (eVar 0) (aOne (eVar 1)))))
      (sSeq (sIf (mNot (mTru (eFn ms (aCons (eLst (aCons (eFn mr (aOne (eIf (mTru (eVar 2)) (eFn ml (aOne (eVar 0))) (eVar 0)))) (aOne (eFn mb (aOne (eVar 3)))))) (aOne (eLst (aCons (eVar 3) (aOne (eVar 0))))))))) (sRet (eC (.bl false))) sNext)
      (sSeq (sIf (mNot (mTru (eVar 2))) (sRet (eC (.bl true))) sNext)
      (sSeq (sSet 4 (eFn mx (aOne (eVar 0))))
      (sRet (eAnd (eFn mf (aOne (eVar 4))) (eOp dEq (eFn mn (aCons (eVar 4) (aOne (eVar 1)))) (eOp dAdd (eVar 3) (eC (.int 1)))))))))) [.val R, .val Q, .val (.bl false), .none, .none] = some (.ret (.val (.bl true)), [.val R, .val Q, .val (.bl false), .val (.int v), .none]) := by
  refine seq_nxt (δ' := [.val R, .val Q, .val (.bl false), .val (.int v), .none]) (by simp [h1]) (seq_nxt (δ' := [.val R, .val Q, .val (.bl false), .val (.int v), .none]) (by simp [h2, h3, h4]) ?_)
  simp
theorem one_t (mn mr mb ms mx ml mf : List D → Option OR) (R Q R' : D) (Ls : List D) (v v' : Int) (h1 : mn [R, Q] = some (.v (.int v))) (hl : ml [R] = some (.l Ls)) (h2 : mr [.lst Ls] = some (.v (.int v))) (h3 : mb [.int v] = some (.v R)) (h4 : ms [.lst [.int v, R], .lst [.int v, R]] = some (.v (.bl true)))
    (h5 : mx [R] = some (.v R')) (h6 : mf [R'] = some (.v (.bl true))) (h7 : mn [R', Q] = some (.v (.int v'))) (h8 : v' = v + 1) :
  (sSeq (sSet 3 (eFn mn (aCons (eVar 0) (aOne (eVar 1)))))
      (sSeq (sIf (mNot (mTru (eFn ms (aCons (eLst (aCons (eFn mr (aOne (eIf (mTru (eVar 2)) (eFn ml (aOne (eVar 0))) (eVar 0)))) (aOne (eFn mb (aOne (eVar 3)))))) (aOne (eLst (aCons (eVar 3) (aOne (eVar 0))))))))) (sRet (eC (.bl false))) sNext)
      (sSeq (sIf (mNot (mTru (eVar 2))) (sRet (eC (.bl true))) sNext)
      (sSeq (sSet 4 (eFn mx (aOne (eVar 0))))
      (sRet (eAnd (eFn mf (aOne (eVar 4))) (eOp dEq (eFn mn (aCons (eVar 4) (aOne (eVar 1)))) (eOp dAdd (eVar 3) (eC (.int 1)))))))))) [.val R, .val Q, .val (.bl true), .none, .none] = some (.ret (.val (.bl true)), [.val R, .val Q, .val (.bl true), .val (.int v), .val R']) := by
  refine seq_nxt (δ' := [.val R, .val Q, .val (.bl true), .val (.int v), .none]) (by simp [h1]) (seq_nxt (δ' := [.val R, .val Q, .val (.bl true), .val (.int v), .none]) (by simp [hl, h2, h3, h4]) (seq_nxt (δ' := [.val R, .val Q, .val (.bl true), .val (.int v), .none]) (by simp) (seq_nxt (δ' := [.val R, .val Q, .val (.bl true), .val (.int v), .val R']) (by simp [h5]) ?_)))
  simp [h6, h7, h8]
theorem one_wrap (R Q S : D) (δ : DEnv) (main : sm_ulaw_one_right [.val R, .val Q, .val S, .none, .none] = some (.ret (.val (.bl true)), δ)) : m_ulaw_one_right [R, Q, S] = some (.v (.bl true)) := by
  simp [m_ulaw_one_right, main]
theorem next_s (R R' : D) (v : Int) (h2 : m_number_of_reading [R] = some (.v (.int v))) (h3 : m_reading_by_number [.int (v + 1)] = some (.v R')) : m_next_reading [R] = some (.v R') := by
  simp [m_next_reading, sm_next_reading, h2, h3]
theorem one_ok (L : List Int) (A : T2) (i : Nat) (soft : Bool) (h : okL L) (hl : L.length ≤ 250) (r : Rst i A) : m_ulaw_one_right [rdg L (dT A), .tup qs, .bl soft] = some (.v (.bl true)) := by
  have tl := tl_len L
  have h1 := lnum_ok L A i h (by omega) r
  have h2 := number_ok true L A i h (by omega) r
  have h3 := rbn_ok L i A h (by omega) r
  have h4 := same_pair L A (num L i) (by omega)
  cases soft with
  | false => exact one_wrap _ _ _ _ (one_s _ _ _ _ _ _ _ _ _ _ h1 h2 h3 h4)
  | true =>
    have hL := lists_ok L A (by omega)
    have h2' := number_ok false L A i h (by omega) r
    obtain ⟨L', i', A', c1, c2, c3, c4, c5⟩ := nxt_ok L i A h (by omega) r
    exact one_wrap _ _ _ _ (one_t _ _ _ _ _ _ _ _ _ _ _ _ _ h1 hL h2' h3 h4 (next_s _ _ _ h2 c5) (form_ok L' A' i' c1 (by omega) c3) (lnum_ok L' A' i' c1 (by omega) c3) c4)
/-! drawn letters -/
abbrev lt_e : EM := eFnM m_ulaw_take (aCons (eVar 0) (aOne (eIf (mVal (eOp dEq (eVar 3) (eC (.int 0)))) (eC (.int 3)) (eC (.int 2)))))
theorem lt_step (l l' : List D) (b c : Sl) (k r w : Int) (hw : w = if (k == 0) = true then 3 else 2) (t : m_ulaw_take l [.int w] = some (.v (.int r), l')) : lt_e [.own true l, b, c, .val (.int k)] = some (.val (.int r), [.own true l', b, c, .val (.int k)]) := by
  by_cases h : (k == 0) = true
  · rw [if_pos h] at hw
    subst hw
    simp [h, t]
  · rw [if_neg h] at hw
    subst hw
    simp [h, t]
theorem lt_loop (b c : Sl) : ∀ (m lo : Nat) (l : List D) (n : Int) (acc : List D), Tin l n → n + m ≤ 1000 → acc.length + m ≤ 100000 →
    ∃ L l', lcD (gN 3) mYes lt_e [3] (rangeD lo m) [.own true l, b, c, .none] acc = some (.tmp (acc ++ dl L), [.own true l', b, c, .none]) ∧ Tin l' (n + m) ∧ L.length = m ∧ (∀ j (x : Int), L[j]? = some x → 0 ≤ x ∧ (lo + j = 0 → x < 3) ∧ (lo + j ≠ 0 → x < 2))
  | 0, lo, l, n, acc, h, _, _ => ⟨[], l, by simp [lcD], by simpa using h, rfl, fun j x hx => by cases hx⟩
  | m + 1, lo, l, n, acc, h, hn, ha => by
    obtain ⟨r, l1, t, r0, r1, h1⟩ := take_ok h (by omega) (if ((lo : Int) == 0) = true then 3 else 2) (by split <;> omega)
    have st := lt_step l l1 b c (lo : Int) r _ rfl t
    obtain ⟨L, l', e, h2, hl, hx⟩ := lt_loop b c m (lo + 1) l1 (n + 1) (acc ++ [.int r]) h1 (by omega) (by simp; omega)
    have hacc : acc.length < 100000 := by omega
    have e2 : ((lo + 1 : Nat) : Int) = (lo : Int) + 1 := by omega
    rw [e2] at e
    refine ⟨r :: L, l', ?_, by rw [show n + ((m + 1 : Nat) : Int) = n + 1 + (m : Int) by omega]; exact h2, by simp [hl], fun j x hj => ?_⟩
    · generalize lt_e = E at *
      simp [lcD, st, hacc, e]
    · cases j with
      | zero =>
        cases hj
        refine ⟨r0, fun z => ?_, fun z => ?_⟩
        · have : ((lo : Int) == 0) = true := by simp; omega
          rw [if_pos this] at r1
          exact r1
        · have : ¬ ((lo : Int) == 0) = true := by simp; omega
          rw [if_neg this] at r1
          exact r1
      | succ j =>
        have := hx j x (by simpa using hj)
        rw [show lo + 1 + j = lo + (j + 1) by omega] at this
        exact this
theorem okL_of {L : List Int} (h : ∀ j (x : Int), L[j]? = some x → 0 ≤ x ∧ (0 + j = 0 → x < 3) ∧ (0 + j ≠ 0 → x < 2)) : okL L := by
  cases L with
  | nil => exact trivial
  | cons a l =>
    have h0 := h 0 a rfl
    refine ⟨by have := h0.2.1 rfl; omega, fun x hx => ?_⟩
    obtain ⟨j, hj⟩ := List.getElem?_of_mem hx
    have := h (j + 1) x (by simpa using hj)
    have h2 := this.2.2 (by omega)
    omega
theorem letters_wrap (l l' : List D) (k : Int) (T : List D) (δ : DEnv) (main : sm_ulaw_letters [.own true l, .val (.int k), .none, .none] = some (.ret (.val (.tup T)), .own true l' :: δ)) : m_ulaw_letters l [.int k] = some (.v (.tup T), l') := by
  simp [m_ulaw_letters, main]
theorem r1_it (δ : DEnv) (i : Nat) (T : Int) (n : Nat) (hv : δ[i]? = some (.val (.int T))) (h : -4611686018427387904 ≤ T ∧ T < 4611686018427387904) (hn : T.toNat = n) : iR1 (aOne (eVar i)) δ = some (rangeD 0 n, δ) := by
  subst hn
  simp [hv, h]
theorem drawn_letters {l : List D} {n : Int} (h : Tin l n) (hn : n ≤ 900) : ∃ L l', m_ulaw_letters l [.int 5] = some (.v (.tup (dl L)), l') ∧ okL L ∧ L.length ≤ 5 ∧ Tin l' (n + 10) := by
  obtain ⟨r, l1, t, r0, r1, h1⟩ := take_ok h (by omega) 6 (by omega)
  have hr : ((r.toNat : Nat) : Int) = r := by omega
  obtain ⟨L, l', e, h2, hl, hx⟩ := lt_loop (.val (.int 5)) (.val (.int r)) r.toNat 0 l1 (n + 1) [] h1 (by omega) (by simp; omega)
  have e : lcD (gN 3) mYes lt_e [3] (rangeD 0 r.toNat) [.own true l1, .val (.int 5), .val (.int r), .none] [] = some (.tmp (dl L), [.own true l', .val (.int 5), .val (.int r), .none]) := e
  obtain ⟨x, y, z, hxyz, q1, q2, q3, q4, q5⟩ := h2.ok
  refine ⟨L, l', letters_wrap l l' 5 (dl L) [.val (.int 5), .val (.int r), .none] ?_, okL_of hx, by omega, ⟨x, y, z, hxyz, q1, q2, q3, q4, by omega⟩⟩
  have it := r1_it [.own true l1, .val (.int 5), .val (.int r), .none] 2 r r.toNat rfl (by omega) rfl
  unfold sm_ulaw_letters
  refine seq_nxt (δ' := [.own true l1, .val (.int 5), .val (.int r), .none]) (by simp [t]) ?_
  generalize rangeD 0 r.toNat = G at *
  generalize dl L = M at *
  have e' : eLc (iR1 (aOne (eVar 2))) (gN 3) mYes lt_e [3] [.own true l1, .val (.int 5), .val (.int r), .none] = some (.tmp M, [.own true l', .val (.int 5), .val (.int r), .none]) := by
    show (iR1 (aOne (eVar 2)) _).bind _ = _
    rw [it]
    simp [e]
  generalize (eLc (iR1 (aOne (eVar 2))) (gN 3) mYes lt_e [3]) = E at *
  simp [e']
theorem of_wrap (l l' : List D) (Q : List D) (T : D) (δ : DEnv) (main : sm_ulaw_of [.own true l, .val (.lst Q)] = some (.ret (.val T), .own true l' :: δ)) : m_ulaw_of l [.lst Q] = some (.v T, l') := by
  simp [m_ulaw_of, main]
theorem of_s (l l' Q : List D) (T : D) (r w : Int) (hw : ((Q.length : Nat) : Int) = w) (t : m_ulaw_take l [.int w] = some (.v (.int r), l')) (g : L2.atI Q r = some T) : m_ulaw_of l [.lst Q] = some (.v T, l') := by
  refine of_wrap l l' Q T [.val (.lst Q)] ?_
  unfold sm_ulaw_of
  simp [hw, t, g]
theorem drawn_rest {l : List D} {n : Int} (h : Tin l n) (hn : n ≤ 900) : ∃ i A l', m_ulaw_of l [.lst qs] = some (.v (dT A), l') ∧ Rst i A ∧ Tin l' (n + 1) := by
  obtain ⟨r, l1, t, r0, r1, h1⟩ := take_ok h (by omega) 192 (by omega)
  obtain ⟨A, ra⟩ := rst r.toNat (by omega)
  have ql := qs_len
  refine ⟨r.toNat, A, l1, of_s l l1 qs (dT A) r 192 (by omega) t ?_, ra, h1⟩
  have e : r = ((r.toNat : Nat) : Int) := by omega
  have g := ra.get
  rw [List.getElem?_eq_getElem (by omega)] at g
  rw [e, at_nat qs r.toNat (by omega)]
  exact g
end K20
end
section
set_option linter.all false
set_option maxRecDepth 100000
namespace K20
open Pd PySem
def rg1 : SM := (sPar 1 2 (aCons (eFn m_quarter_tables aNil) (aOne (eFnM m_ulaw_take (aCons (eVar 0) (aOne (eC (.int 4))))))))
def rg2 : SM := (sIf (mVal (eOp dEq (eVar 2) (eC (.int 0)))) (sRet (eFn m_ulaw_rests_right (aOne (eVar 1)))) sNext)
def rg3 : SM := (sSet 3 (eFnM m_ulaw_take (aCons (eVar 0) (aOne (eC (.int 300))))))
def rg4 : SM := (sAsg (gU 2 (gsCons (gN 4) (gsCons (gN 5) gsNil))) (eFn m_ulaw_grown (aOne (eVar 3))))
def rg5 : SM := (sIf (mOr (mVal (eOp dNe (eCall fLen (aOne (eVar 1))) (eC (.int 192)))) (mNot (mTru (eFn m_ulaw_same (aCons (eLst (aCons (eFn m_tables_many (aOne (eVar 3))) (aCons (eFn m_tables_at_most (aOne (eVar 3))) (aOne (eFn m_tables_many (aOne (eC (.int 0)))))))) (aOne (eLst (aCons (eVar 4) (aCons (eOp dAdd (eVar 5) (eVar 4)) (aOne (eC (.int 192)))))))))))) (sRet (eC (.bl false))) sNext)
def rg6 : SM := (sIf (mVal (eOp dEq (eVar 2) (eC (.int 1)))) (sRet (eFn m_ulaw_one_right (aCons (eFn m_ulaw_reading (aCons (eFnM m_ulaw_letters (aCons (eVar 0) (aOne (eC (.int 5))))) (aOne (eFnM m_ulaw_of (aCons (eVar 0) (aOne (eCall fList (aOne (eVar 1))))))))) (aCons (eVar 1) (aOne (eOp dEq (eFnM m_ulaw_take (aCons (eVar 0) (aOne (eC (.int 3))))) (eC (.int 0)))))))) sNext)
def rg7 : SM := (sIf (mVal (eOp dEq (eVar 2) (eC (.int 2)))) (sSeq (sSet 6 (eIf (mVal (eOp (dI fun i j => .bl (decide (j < i))) (eFnM m_ulaw_take (aCons (eVar 0) (aOne (eC (.int 4))))) (eC (.int 0)))) (eOp dAdd (eTup (aOne (eC (.int 2)))) (eOp dMul (eTup (aOne (eC (.int 1)))) (eFnM m_ulaw_of (aCons (eVar 0) (aOne (eLst (aCons (eC (.int 0)) (aCons (eC (.int 1)) (aCons (eC (.int 2)) (aCons (eC (.int 3)) (aCons (eC (.int 60)) (aOne (eC (.int 90)))))))))))))) (eTup aNil)))
      (sRet (eFn m_ulaw_one_right (aCons (eFn m_ulaw_reading (aCons (eVar 6) (aOne (eOp dIx (eVar 1) (eC (.int 191)))))) (aCons (eVar 1) (aOne (eC (.bl false)))))))) sNext)
def rg8 : SM := (sSet 7 (eCall fTuple (aOne (eLc (iR1 (aOne (eFnM m_ulaw_take (aCons (eVar 0) (aOne (eC (.int 120))))))) (gN 8) mYes (eFnM m_ulaw_take (aCons (eVar 0) (aOne (eC (.int 2))))) [8]))))
def rg9 : SM := (sSet 4 (eFn m_ulaw_reading (aCons (eVar 7) (aOne (eFnM m_ulaw_of (aCons (eVar 0) (aOne (eCall fList (aOne (eVar 1))))))))))
def rg10 : SM := (sRet (eAnd (eFn m_ulaw_same (aCons (eLst (aCons (eFn m_is_reading (aOne (eVar 4))) (aOne (eFn m_is_quarter (aOne (eOp dIx (eVar 4) (eC (.int 2)))))))) (aOne (eLst (aCons (eC (.bl true)) (aOne (eC (.bl true)))))))) (eFn m_ulaw_one_right (aCons (eVar 4) (aCons (eVar 1) (aOne (eC (.bl false))))))))
theorem sx_right : sm_ulaw_right = sSeq rg1 ( sSeq rg2 ( sSeq rg3 ( sSeq rg4 ( sSeq rg5 ( sSeq rg6 ( sSeq rg7 ( sSeq rg8 ( sSeq rg9 ( rg10))))))))) := rfl
end K20
end
section
set_option maxRecDepth 100000
set_option linter.all false
set_option exponentiation.threshold 5000
set_option maxHeartbeats 4000000
namespace K20
open Pd PySem
theorem r1_s (mq : List D → Option OR) (mt : List D → List D → Option (OR × List D)) (l l' Q : List D) (r : Int) (qt : mq [] = some (.v (.tup Q))) (t : mt l [.int 4] = some (.v (.int r), l')) : sPar 1 2 (aCons (eFn mq aNil) (aOne (eFnM mt (aCons (eVar 0) (aOne (eC (.int 4))))))) [.own true l, .none, .none, .none, .none, .none, .none, .none, .none] = some (.nxt, [.own true l', .val (.tup Q), .val (.int r), .none, .none, .none, .none, .none, .none]) := by
  simp [qt, t]
theorem r1 (l l' Q : List D) (r : Int) (qt : m_quarter_tables [] = some (.v (.tup Q))) (t : m_ulaw_take l [.int 4] = some (.v (.int r), l')) : rg1 [.own true l, .none, .none, .none, .none, .none, .none, .none, .none] = some (.nxt, [.own true l', .val (.tup Q), .val (.int r), .none, .none, .none, .none, .none, .none]) := by
  delta rg1
  exact r1_s m_quarter_tables m_ulaw_take l l' Q r qt t
theorem r2a (l : List D) (Q : D) (h : m_ulaw_rests_right [Q] = some (.v (.bl true))) : rg2 [.own true l, .val Q, .val (.int 0), .none, .none, .none, .none, .none, .none] = some (.ret (.val (.bl true)), [.own true l, .val Q, .val (.int 0), .none, .none, .none, .none, .none, .none]) := by
  unfold rg2
  generalize m_ulaw_rests_right = mr at *
  simp [h]
theorem r2b (l : List D) (Q : D) (r : Int) (h : r ≠ 0) : rg2 [.own true l, .val Q, .val (.int r), .none, .none, .none, .none, .none, .none] = some (.nxt, [.own true l, .val Q, .val (.int r), .none, .none, .none, .none, .none, .none]) := by
  unfold rg2
  generalize m_ulaw_rests_right = mr at *
  have h : (r == 0) = false := by simpa using h
  simp [h]
theorem r3 (l l' : List D) (Q : D) (r m : Int) (t : m_ulaw_take l [.int 300] = some (.v (.int m), l')) : rg3 [.own true l, .val Q, .val (.int r), .none, .none, .none, .none, .none, .none] = some (.nxt, [.own true l', .val Q, .val (.int r), .val (.int m), .none, .none, .none, .none, .none]) := by
  unfold rg3
  simp [t]
theorem r4 (l : List D) (Q : D) (r m a f : Int) (g : m_ulaw_grown [.int m] = some (.v (.tup [.int a, .int f]))) : rg4 [.own true l, .val Q, .val (.int r), .val (.int m), .none, .none, .none, .none, .none] = some (.nxt, [.own true l, .val Q, .val (.int r), .val (.int m), .val (.int a), .val (.int f), .none, .none, .none]) := by
  unfold rg4
  simp [g]
theorem r5 (l Q : List D) (r m a f s : Int) (hl : ((Q.length : Nat) : Int) = 192) (h1 : m_tables_many [.int m] = some (.v (.int a))) (h2 : m_tables_at_most [.int m] = some (.v (.int s))) (h3 : m_tables_many [.int 0] = some (.v (.int 192))) (hs : f + a = s) (h4 : m_ulaw_same [.lst [.int a, .int s, .int 192], .lst [.int a, .int s, .int 192]] = some (.v (.bl true))) :
    rg5 [.own true l, .val (.tup Q), .val (.int r), .val (.int m), .val (.int a), .val (.int f), .none, .none, .none] = some (.nxt, [.own true l, .val (.tup Q), .val (.int r), .val (.int m), .val (.int a), .val (.int f), .none, .none, .none]) := by
  unfold rg5
  simp [hl, h1, h2, h3, hs, h4]
theorem r6a (l l1 l2 l3 Q M : List D) (T R : D) (m a f k : Int) (b : Bool) (h1 : m_ulaw_letters l [.int 5] = some (.v (.tup M), l1)) (h2 : m_ulaw_of l1 [.lst Q] = some (.v T, l2)) (h3 : m_ulaw_reading [.tup M, T] = some (.v R)) (h4 : m_ulaw_take l2 [.int 3] = some (.v (.int k), l3)) (hb : (k == 0) = b) (h5 : m_ulaw_one_right [R, .tup Q, .bl b] = some (.v (.bl true))) :
    rg6 [.own true l, .val (.tup Q), .val (.int 1), .val (.int m), .val (.int a), .val (.int f), .none, .none, .none] = some (.ret (.val (.bl true)), [.own true l3, .val (.tup Q), .val (.int 1), .val (.int m), .val (.int a), .val (.int f), .none, .none, .none]) := by
  unfold rg6
  simp [h1, h2, h3, h4, hb, h5]
theorem r6b (l Q : List D) (r m a f : Int) (h : r ≠ 1) : rg6 [.own true l, .val (.tup Q), .val (.int r), .val (.int m), .val (.int a), .val (.int f), .none, .none, .none] = some (.nxt, [.own true l, .val (.tup Q), .val (.int r), .val (.int m), .val (.int a), .val (.int f), .none, .none, .none]) := by
  unfold rg6
  have h : (r == 1) = false := by simpa using h
  simp [h]
theorem r7b (l Q : List D) (r m a f : Int) (h : r ≠ 2) : rg7 [.own true l, .val (.tup Q), .val (.int r), .val (.int m), .val (.int a), .val (.int f), .none, .none, .none] = some (.nxt, [.own true l, .val (.tup Q), .val (.int r), .val (.int m), .val (.int a), .val (.int f), .none, .none, .none]) := by
  unfold rg7
  have h : (r == 2) = false := by simpa using h
  simp [h]
theorem r7a (l l1 l2 Q M : List D) (T R : D) (m a f k c : Int) (hk : 0 < k) (h1 : m_ulaw_take l [.int 4] = some (.v (.int k), l1)) (h2 : m_ulaw_of l1 [.lst [.int 0, .int 1, .int 2, .int 3, .int 60, .int 90]] = some (.v (.int c), l2))
    (hM : ∃ d o, dMul (.tup [.int 1]) (.int c) = some o ∧ o.r = .val d ∧ dAdd (.tup [.int 2]) d = some (.t M) ∨ dMul (.tup [.int 1]) (.int c) = some o ∧ o.r = .val d ∧ dAdd (.tup [.int 2]) d = some (.v (.tup M)))
    (g : L2.atI Q 191 = some T) (h3 : m_ulaw_reading [.tup M, T] = some (.v R)) (h5 : m_ulaw_one_right [R, .tup Q, .bl false] = some (.v (.bl true))) :
    rg7 [.own true l, .val (.tup Q), .val (.int 2), .val (.int m), .val (.int a), .val (.int f), .none, .none, .none] = some (.ret (.val (.bl true)), [.own true l2, .val (.tup Q), .val (.int 2), .val (.int m), .val (.int a), .val (.int f), .val (.tup M), .none, .none]) := by
  unfold rg7
  obtain ⟨d, o, ⟨a1, a2, a3⟩ | ⟨a1, a2, a3⟩⟩ := hM
  all_goals
    cases o with
    | l ds => cases a2
    | v d' =>
      injection a2 with a2
      subst a2
      simp [hk, h1, h2, a1, a3, g, h3, h5, -dMul, -dAdd]
    | t ds =>
      injection a2 with a2
      subst a2
      simp [hk, h1, h2, a1, a3, g, h3, h5, -dMul, -dAdd]
theorem r7c (l l1 Q : List D) (T R : D) (m a f k : Int) (hk : ¬ 0 < k) (h1 : m_ulaw_take l [.int 4] = some (.v (.int k), l1))
    (g : L2.atI Q 191 = some T) (h3 : m_ulaw_reading [.tup [], T] = some (.v R)) (h5 : m_ulaw_one_right [R, .tup Q, .bl false] = some (.v (.bl true))) :
    rg7 [.own true l, .val (.tup Q), .val (.int 2), .val (.int m), .val (.int a), .val (.int f), .none, .none, .none] = some (.ret (.val (.bl true)), [.own true l1, .val (.tup Q), .val (.int 2), .val (.int m), .val (.int a), .val (.int f), .val (.tup []), .none, .none]) := by
  unfold rg7
  simp [hk, h1, g, h3, h5]
abbrev lg_e : EM := eFnM m_ulaw_take (aCons (eVar 0) (aOne (eC (.int 2))))
theorem lg_loop (s1 s2 s3 s4 s5 s6 s7 : Sl) : ∀ (m : Nat) (lo : Int) (l : List D) (n : Int) (acc : List D), Tin l n → n + m ≤ 1000 → acc.length + m ≤ 100000 →
    ∃ L l', lcD (gN 8) mYes lg_e [8] (rangeD lo m) [.own true l, s1, s2, s3, s4, s5, s6, s7, .none] acc = some (.tmp (acc ++ dl L), [.own true l', s1, s2, s3, s4, s5, s6, s7, .none]) ∧ Tin l' (n + m) ∧ L.length = m ∧ (∀ x ∈ L, x = 0 ∨ x = 1)
  | 0, lo, l, n, acc, h, _, _ => ⟨[], l, by simp [lcD], by simpa using h, rfl, fun x hx => by cases hx⟩
  | m + 1, lo, l, n, acc, h, hn, ha => by
    obtain ⟨r, l1, t, r0, r1, h1⟩ := take_ok h (by omega) 2 (by omega)
    obtain ⟨L, l', e, h2, hl, hx⟩ := lg_loop s1 s2 s3 s4 s5 s6 s7 m (lo + 1) l1 (n + 1) (acc ++ [.int r]) h1 (by omega) (by simp; omega)
    have hacc : acc.length < 100000 := by omega
    refine ⟨r :: L, l', by simp [lcD, t, hacc, e], by rw [show n + ((m + 1 : Nat) : Int) = n + 1 + (m : Int) by omega]; exact h2, by simp [hl], fun x hj => ?_⟩
    rcases List.mem_cons.mp hj with rfl | hj
    · omega
    · exact hx x hj
theorem r8 (l l1 l2 : List D) (Q : D) (r m a f k : Int) (M : List D) (n : Nat) (t : m_ulaw_take l [.int 120] = some (.v (.int k), l1)) (hk : -4611686018427387904 ≤ k ∧ k < 4611686018427387904) (hn : k.toNat = n)
    (e : lcD (gN 8) mYes lg_e [8] (rangeD 0 n) [.own true l1, .val Q, .val (.int r), .val (.int m), .val (.int a), .val (.int f), .none, .none, .none] [] = some (.tmp M, [.own true l2, .val Q, .val (.int r), .val (.int m), .val (.int a), .val (.int f), .none, .none, .none])) :
    rg8 [.own true l, .val Q, .val (.int r), .val (.int m), .val (.int a), .val (.int f), .none, .none, .none] = some (.nxt, [.own true l2, .val Q, .val (.int r), .val (.int m), .val (.int a), .val (.int f), .none, .val (.tup M), .none]) := by
  subst hn
  show sSet 7 (eCall fTuple (aOne (eLc (iR1 (aOne (eFnM m_ulaw_take (aCons (eVar 0) (aOne (eC (.int 120))))))) (gN 8) mYes lg_e [8]))) _ = _
  generalize lg_e = E at *
  simp [t, hk, e]
theorem r9 (l l1 Q M : List D) (r m a f : Int) (T R : D) (h2 : m_ulaw_of l [.lst Q] = some (.v T, l1)) (h3 : m_ulaw_reading [.tup M, T] = some (.v R)) :
    rg9 [.own true l, .val (.tup Q), .val (.int r), .val (.int m), .val (.int a), .val (.int f), .none, .val (.tup M), .none] = some (.nxt, [.own true l1, .val (.tup Q), .val (.int r), .val (.int m), .val R, .val (.int f), .none, .val (.tup M), .none]) := by
  unfold rg9
  simp [h2, h3]
theorem r10 (l Q M : List D) (r m f : Int) (x0 x1 T R : D) (hR : R = .tup [x0, x1, T]) (h1 : m_is_reading [R] = some (.v (.bl true))) (h2 : m_is_quarter [T] = some (.v (.bl true))) (h3 : m_ulaw_same [.lst [.bl true, .bl true], .lst [.bl true, .bl true]] = some (.v (.bl true))) (h4 : m_ulaw_one_right [R, .tup Q, .bl false] = some (.v (.bl true))) :
    rg10 [.own true l, .val (.tup Q), .val (.int r), .val (.int m), .val R, .val (.int f), .none, .val (.tup M), .none] = some (.ret (.val (.bl true)), [.own true l, .val (.tup Q), .val (.int r), .val (.int m), .val R, .val (.int f), .none, .val (.tup M), .none]) := by
  unfold rg10
  subst hR
  simp [h1, h2, h3, h4]
theorem seq_ret {a b : SM} {δ δ' : DEnv} {r : R} (h : a δ = some (.ret r, δ')) : sSeq a b δ = some (.ret r, δ') := by
  simp [h]
theorem right_wrap (l l' : List D) (δ : DEnv) (main : sm_ulaw_right [.own true l, .none, .none, .none, .none, .none, .none, .none, .none] = some (.ret (.val (.bl true)), .own true l' :: δ)) : m_ulaw_right l [] = some (.v (.bl true), l') := by
  simp [m_ulaw_right, main]
end K20
end
section
set_option maxRecDepth 100000
set_option linter.all false
set_option exponentiation.threshold 5000
set_option maxHeartbeats 4000000
namespace K20
open Pd PySem
theorem same_3 (a s : Int) : m_ulaw_same [.lst [.int a, .int s, .int 192], .lst [.int a, .int s, .int 192]] = some (.v (.bl true)) := by
  refine same_lst 7 _ (fun d hd => ?_) (by simp)
  simp only [List.mem_cons, List.not_mem_nil, or_false] at hd
  rcases hd with rfl | rfl | rfl <;> exact same_int 6 _
theorem same_tt : m_ulaw_same [.lst [.bl true, .bl true], .lst [.bl true, .bl true]] = some (.v (.bl true)) := by
  refine same_lst 7 _ (fun d hd => ?_) (by simp)
  simp only [List.mem_cons, List.not_mem_nil, or_false] at hd
  rcases hd with rfl | rfl <;> exact same_bl 6 _
theorem qs_lenI : ((qs.length : Nat) : Int) = 192 := by rw [qs_len]; rfl
theorem rep_ones : ∀ c : Nat, (List.replicate c [D.int 1]).flatten = dl (List.replicate c 1)
  | 0 => rfl
  | c + 1 => by
    rw [List.replicate_succ, List.flatten_cons, rep_ones c]
    rfl
theorem ones_s (c : Nat) (hc : c ≤ 100) : ∃ d o, dMul (.tup [.int 1]) (.int (c : Int)) = some o ∧ o.r = .val d ∧ dAdd (.tup [.int 2]) d = some (.t (dl (2 :: List.replicate c 1))) ∨ dMul (.tup [.int 1]) (.int (c : Int)) = some o ∧ o.r = .val d ∧ dAdd (.tup [.int 2]) d = some (.v (.tup (dl (2 :: List.replicate c 1)))) := by
  by_cases h1 : c = 1
  · subst h1
    exact ⟨.tup [.int 1], .v (.tup [.int 1]), .inl ⟨rfl, rfl, rfl⟩⟩
  · have e : dMul (.tup [.int 1]) (.int (c : Int)) = some (.t (dl (List.replicate c 1))) := by
      have hne : ¬ ((c : Int) = 1) := by omega
      have hb : (c : Int) ≤ 1000 := by omega
      have hb0 : (0 : Int) ≤ (c : Int) := by omega
      have rp := rep_ones c
      have ec : ((c : Int)).toNat = c := by omega
      simp only [dMul]
      rw [if_pos (decide_eq_true ⟨hb0, hb, by simp⟩), if_neg hne, ec, rp]
    cases c with
    | zero => exact ⟨.tup [], .t [], .inr ⟨e, rfl, rfl⟩⟩
    | succ c =>
      refine ⟨.tup (dl (List.replicate (c + 1) 1)), .t (dl (List.replicate (c + 1) 1)), .inl ⟨e, rfl, ?_⟩⟩
      have hl : lenOk ([D.int 2].length + (dl (List.replicate (c + 1) 1)).length) = true := by
        unfold lenOk
        simp
        omega
      show (if lenOk ([D.int 2].length + (dl (List.replicate (c + 1) 1)).length) = true then _ else none) = _
      rw [if_pos hl]
      rfl
theorem of_6 {l : List D} {n : Int} (h : Tin l n) (hn : n ≤ 900) : ∃ (c : Nat) (l' : List D), m_ulaw_of l [.lst [.int 0, .int 1, .int 2, .int 3, .int 60, .int 90]] = some (.v (.int (c : Int)), l') ∧ c ≤ 100 ∧ Tin l' (n + 1) := by
  obtain ⟨r, l1, t, r0, r1, h1⟩ := take_ok h (by omega) 6 (by omega)
  have hr : r = 0 ∨ r = 1 ∨ r = 2 ∨ r = 3 ∨ r = 4 ∨ r = 5 := by omega
  rcases hr with rfl | rfl | rfl | rfl | rfl | rfl
  · exact ⟨0, l1, of_s l l1 _ _ 0 6 rfl t rfl, by omega, h1⟩
  · exact ⟨1, l1, of_s l l1 _ _ 1 6 rfl t rfl, by omega, h1⟩
  · exact ⟨2, l1, of_s l l1 _ _ 2 6 rfl t rfl, by omega, h1⟩
  · exact ⟨3, l1, of_s l l1 _ _ 3 6 rfl t rfl, by omega, h1⟩
  · exact ⟨60, l1, of_s l l1 _ _ 4 6 rfl t rfl, by omega, h1⟩
  · exact ⟨90, l1, of_s l l1 _ _ 5 6 rfl t rfl, by omega, h1⟩
theorem okL_ones (c : Nat) : okL (2 :: List.replicate c 1) := ⟨.inr (.inr rfl), fun x hx => .inr (List.eq_of_mem_replicate hx)⟩
theorem okL_01 {L : List Int} (h : ∀ x ∈ L, x = 0 ∨ x = 1) : okL L := by
  cases L with
  | nil => exact trivial
  | cons a l =>
    refine ⟨?_, fun x hx => h x (List.mem_cons_of_mem _ hx)⟩
    rcases h a List.mem_cons_self with e | e
    · exact .inl e
    · exact .inr (.inl e)
theorem right_ex (l l' : List D) (main : ∃ δ, sm_ulaw_right [.own true l, .none, .none, .none, .none, .none, .none, .none, .none] = some (.ret (.val (.bl true)), .own true l' :: δ)) : m_ulaw_right l [] = some (.v (.bl true), l') := by
  obtain ⟨δ, h⟩ := main
  exact right_wrap l l' δ h
theorem right_ok {l : List D} (h : Tin l 1) : ∃ l', m_ulaw_right l [] = some (.v (.bl true), l') := by
  obtain ⟨r, l1, t1, a0, a1, h1⟩ := take_ok h (by omega) 4 (by omega)
  have p1 := r1 l l1 qs r qt_ok t1
  by_cases z0 : r = 0
  · subst z0
    refine ⟨l1, right_wrap l l1 [.val (.tup qs), .val (.int 0), .none, .none, .none, .none, .none, .none] ?_⟩
    rw [sx_right]
    exact seq_nxt p1 (seq_ret (r2a l1 (.tup qs) rests_ok))
  have p2 := r2b l1 (.tup qs) r z0
  obtain ⟨m, l2, t2, b0, b1, h2⟩ := take_ok h1 (by omega) 300 (by omega)
  have p3 := r3 l1 l2 (.tup qs) r m t2
  have em : ((m.toNat : Nat) : Int) = m := by omega
  have g := grown_ok m.toNat (by omega)
  have tm := tables_many_ok m.toNat (by omega)
  have am := at_most_ok m.toNat (by omega)
  rw [em] at g tm am
  have p4 := r4 l2 (.tup qs) r m _ _ g
  have fs := few_step m.toNat
  have p5 := r5 l2 qs r m (own' m.toNat) (few m.toNat) (few (m.toNat + 1)) qs_lenI tm am (tables_many_ok 0 (by omega)) fs.symm (same_3 _ _)
  by_cases z1 : r = 1
  · subst z1
    obtain ⟨L, l3, t3, c1, c2, h3⟩ := drawn_letters h2 (by omega)
    obtain ⟨i, A, l4, t4, ra, h4⟩ := drawn_rest h3 (by omega)
    obtain ⟨k, l5, t5, d0, d1, h5⟩ := take_ok h4 (by omega) 3 (by omega)
    have p6 := r6a l2 l3 l4 l5 qs (dl L) (dT A) (rdg L (dT A)) m (own' m.toNat) (few m.toNat) k _ t3 t4 (law_reading_ok L (dT A)) t5 rfl (one_ok L A i (k == 0) c1 (by omega) ra)
    refine ⟨l5, right_ex l l5 ?_⟩
    rw [sx_right]
    exact ⟨_, seq_nxt p1 (seq_nxt p2 (seq_nxt p3 (seq_nxt p4 (seq_nxt p5 (seq_ret p6)))))⟩
  have p6 := r6b l2 qs r m (own' m.toNat) (few m.toNat) z1
  by_cases z2 : r = 2
  · subst z2
    obtain ⟨k, l3, t3, d0, d1, h3⟩ := take_ok h2 (by omega) 4 (by omega)
    obtain ⟨A, ra⟩ := rst 191 (by omega)
    have g191 : L2.atI qs 191 = some (dT A) := by
      have ql := qs_len
      have gg := ra.get
      rw [List.getElem?_eq_getElem (by omega)] at gg
      exact (at_nat qs 191 (by omega)).trans gg
    by_cases hk : 0 < k
    · obtain ⟨c, l4, t4, hc, h4⟩ := of_6 h3 (by omega)
      have p7 := r7a l2 l3 l4 qs (dl (2 :: List.replicate c 1)) (dT A) (rdg (2 :: List.replicate c 1) (dT A)) m (own' m.toNat) (few m.toNat) k c hk t3 t4 (ones_s c hc) g191 (law_reading_ok _ (dT A)) (one_ok _ A 191 false (okL_ones c) (by simp; omega) ra)
      refine ⟨l4, right_ex l l4 ?_⟩
      rw [sx_right]
      exact ⟨_, seq_nxt p1 (seq_nxt p2 (seq_nxt p3 (seq_nxt p4 (seq_nxt p5 (seq_nxt p6 (seq_ret p7))))))⟩
    · have p7 := r7c l2 l3 qs (dT A) (rdg [] (dT A)) m (own' m.toNat) (few m.toNat) k hk t3 g191 (law_reading_ok [] (dT A)) (one_ok [] A 191 false trivial (by simp) ra)
      refine ⟨l3, right_ex l l3 ?_⟩
      rw [sx_right]
      exact ⟨_, seq_nxt p1 (seq_nxt p2 (seq_nxt p3 (seq_nxt p4 (seq_nxt p5 (seq_nxt p6 (seq_ret p7))))))⟩
  have p7 := r7b l2 qs r m (own' m.toNat) (few m.toNat) z2
  obtain ⟨k, l3, t3, d0, d1, h3⟩ := take_ok h2 (by omega) 120 (by omega)
  obtain ⟨L, l4, e8, h4, hL, h01⟩ := lg_loop (.val (.tup qs)) (.val (.int r)) (.val (.int m)) (.val (.int (own' m.toNat))) (.val (.int (few m.toNat))) .none .none k.toNat 0 l3 _ [] h3 (by omega) (by simp; omega)
  have p8 := r8 l2 l3 l4 (.tup qs) r m (own' m.toNat) (few m.toNat) k (dl L) k.toNat t3 (by omega) rfl e8
  obtain ⟨i, A, l5, t5, ra, h5⟩ := drawn_rest h4 (by omega)
  have p9 := r9 l4 l5 qs (dl L) r m (own' m.toNat) (few m.toNat) (dT A) (rdg L (dT A)) t5 (law_reading_ok L (dT A))
  have oL := okL_01 h01
  have p10 := r10 l5 qs (dl L) r m (few m.toNat) _ _ (dT A) (rdg L (dT A)) rfl (reading_ok L A i oL (by omega) ra) (quarter_ok A ra.chk) same_tt (one_ok L A i false oL (by omega) ra)
  refine ⟨l5, right_ex l l5 ?_⟩
  rw [sx_right]
  exact ⟨_, seq_nxt p1 (seq_nxt p2 (seq_nxt p3 (seq_nxt p4 (seq_nxt p5 (seq_nxt p6 (seq_nxt p7 (seq_nxt p8 (seq_nxt p9 p10))))))))⟩
end K20
end
section
set_option maxRecDepth 100000
set_option linter.all false
set_option exponentiation.threshold 5000
set_option maxHeartbeats 4000000
namespace K20
open Pd PySem
theorem hand_s (mu mr mt ma mb ms : List D → Option OR) (U : D) (h1 : mu [.int 2] = some (.v U)) (h2 : mr [.tup [.bl false, .tup [.int 0], U]] = some (.v (.int 367))) (h3 : mt [.int 1] = some (.v (.int 576))) (h4 : ma [.int 1] = some (.v (.int 768)))
    (h5 : mt [.int 3] = some (.v (.int 2304))) (h6 : ma [.int 2] = some (.v (.int 1920))) (h7 : mb [.int 367] = some (.v (.tup [.bl false, .tup [.int 0], U])))
    (h8 : ms [.lst [.int 367, .int 576, .int 768, .int 2304, .int 1920, .tup [.bl false, .tup [.int 0], U]], .lst [.int 367, .int 576, .int 768, .int 2304, .int 1920, .tup [.bl false, .tup [.int 0], U]]] = some (.v (.bl true))) :
    ∃ δ, (sSeq (sSet 0 (eFn mu (aOne (eC (.int 2)))))
      (sSeq (sSet 1 (eLst (aCons (eFn mr (aOne (eTup (aCons (eC (.bl false)) (aCons (eTup (aOne (eC (.int 0)))) (aOne (eVar 0))))))) (aCons (eFn mt (aOne (eC (.int 1)))) (aCons (eFn ma (aOne (eC (.int 1)))) (aCons (eFn mt (aOne (eC (.int 3)))) (aCons (eFn ma (aOne (eC (.int 2)))) (aOne (eFn mb (aOne (eC (.int 367))))))))))))
      (sRet (eFn ms (aCons (eVar 1) (aOne (eLst (aCons (eC (.int 367)) (aCons (eC (.int 576)) (aCons (eC (.int 768)) (aCons (eC (.int 2304)) (aCons (eC (.int 1920)) (aOne (eTup (aCons (eC (.bl false)) (aCons (eTup (aOne (eC (.int 0)))) (aOne (eVar 0)))))))))))))))))) [.none, .none] = some (.ret (.val (.bl true)), δ) := by
  simp [h1, h2, h3, h4, h5, h6, h7, h8]
theorem hand_wrap (main : ∃ δ, sm_ulaw_by_hand_right [.none, .none] = some (.ret (.val (.bl true)), δ)) : m_ulaw_by_hand_right [] = some (.v (.bl true)) := by
  obtain ⟨δ, h⟩ := main
  simp [m_ulaw_by_hand_right, h]
def unit4 : D := (dT ⟨⟨⟨1, 0, 0, 0⟩, 0⟩, ⟨⟨0, 0, 0, 0⟩, 0⟩, ⟨⟨0, 0, 0, 0⟩, 0⟩, ⟨⟨1, 0, 0, 0⟩, 0⟩⟩)
theorem unit_ok : m_ulaw_unit [.int 2] = some (.v unit4) := by kernel_rfl
theorem unit_at : qs[175]? = some unit4 := by kernel_rfl
theorem law_e (mh : List D → Option OR) (mr : List D → List D → Option (OR × List D)) (mb mc : List D → Option OR) (X l l' : List D) (c : Int) (h1 : mh [] = some (.v (.bl true))) (h2 : mc [.ro X, .int 1] = some (.l [.int c])) (h3 : mb [.lst [.int c], .int 0] = some (.l l)) (h4 : mr l [] = some (.v (.bl true), l')) :
    ∃ δ, sRet (eAnd (eFn mh aNil) (eFnM mr (aOne (eFn mb (aCons (eFn mc (aCons (eVar 0) (aOne (eC (.int 1))))) (aOne (eC (.int 0)))))))) [.val (.ro X)] = some (.ret (.val (.bl true)), δ) := by
  simp [h1, h2, h3, h4]
theorem law_wrap (X : List D) (main : ∃ δ, sm_law [.val (.ro X)] = some (.ret (.val (.bl true)), δ)) : m_law [.ro X] = some (.v (.bl true)) := by
  obtain ⟨δ, h⟩ := main
  simp [m_law, h]
theorem hm1 : m_tables_many [.int 1] = some (.v (.int 576)) := by
  have h := tables_many_ok 1 (by omega)
  have e : own' 1 = 576 := by decide
  rw [e] at h
  exact h
theorem hm3 : m_tables_many [.int 3] = some (.v (.int 2304)) := by
  have h := tables_many_ok 3 (by omega)
  have e : own' 3 = 2304 := by decide
  rw [e] at h
  exact h
theorem ha1 : m_tables_at_most [.int 1] = some (.v (.int 768)) := by
  have h := at_most_ok 1 (by omega)
  have e : few (1 + 1) = 768 := by decide
  rw [e] at h
  exact h
theorem ha2 : m_tables_at_most [.int 2] = some (.v (.int 1920)) := by
  have h := at_most_ok 2 (by omega)
  have e : few (2 + 1) = 1920 := by decide
  rw [e] at h
  exact h
theorem n0 : num [0] 175 = 367 := by decide
theorem ok0 : okL [0] := ⟨.inl rfl, fun x hx => by cases hx⟩
theorem hn {A : T2} (r : Rst 175 A) : m_number_of_reading [rdg [0] (dT A)] = some (.v (.int 367)) := by
  have n1 := number_ok true [0] A 175 ok0 (by decide) r
  rw [n0] at n1
  exact n1
theorem hr {A : T2} (r : Rst 175 A) : m_reading_by_number [.int 367] = some (.v (rdg [0] (dT A))) := by
  have n1 := rbn_ok [0] 175 A ok0 (by decide) r
  rw [n0] at n1
  exact n1
theorem hs (A : T2) : m_ulaw_same [.lst [.int 367, .int 576, .int 768, .int 2304, .int 1920, rdg [0] (dT A)], .lst [.int 367, .int 576, .int 768, .int 2304, .int 1920, rdg [0] (dT A)]] = some (.v (.bl true)) := by
  have s1 := same_rdg 2 [0] A (by decide)
  generalize rdg [0] (dT A) = X at s1 ⊢
  refine same_lst 7 _ (fun d hd => ?_) (by simp)
  simp only [List.mem_cons, List.not_mem_nil, or_false] at hd
  rcases hd with rfl | rfl | rfl | rfl | rfl | rfl <;> first | exact same_int 6 _ | exact s1
theorem r0 (X : D) : rdg [0] X = .tup [.bl false, .tup [.int 0], X] := rfl
theorem hand_x (A : T2) (hu : m_ulaw_unit [.int 2] = some (.v (dT A))) (r : Rst 175 A) : m_ulaw_by_hand_right [] = some (.v (.bl true)) := by
  have a1 := hn r
  have a2 := hr r
  have a3 := hs A
  rw [r0] at a1 a2 a3
  exact hand_wrap (hand_s m_ulaw_unit m_number_of_reading m_tables_many m_tables_at_most m_reading_by_number m_ulaw_same (dT A) hu a1 hm1 ha1 hm3 ha2 a2 a3)
theorem by_hand : m_ulaw_by_hand_right [] = some (.v (.bl true)) := by
  obtain ⟨A, r⟩ := rst 175 (by omega)
  have e : dT A = unit4 := Option.some.inj (r.get.symm.trans unit_at)
  have hu := unit_ok
  rw [← e] at hu
  exact hand_x A hu r
theorem law_true (ns : List Int) (h : ns.length ≤ 63) : m_law [.ro (ns.map D.int)] = some (.v (.bl true)) := by
  obtain ⟨c, hc⟩ := cells_ok ns h
  obtain ⟨l, hb, ht⟩ := box_s [.int c] 0 c (by simp) rfl (by omega)
  obtain ⟨l', hr⟩ := right_ok ht
  exact law_wrap _ (law_e _ _ _ _ (ns.map D.int) l l' c by_hand hc hb hr)
end K20
end
section
set_option Elab.async false
set_option linter.all false
set_option maxRecDepth 100000
set_option maxHeartbeats 4000000
namespace K20
open PySem PySem.Spec PyProof.Rows L2 Evl Pd
def fnl : List He.DefD := ([dd "is_number" s_is_number, dd "is_below" s_is_below, dd "frozen" s_frozen, dd "root_divides" s_root_divides, dd "times_root" s_times_root, dd "is_ray" s_is_ray, dd "ray_of" s_ray_of, dd "rays_added" s_rays_added, dd "ray_sum" s_ray_sum, dd "ray_product" s_ray_product, dd "turned_ray" s_turned_ray, dd "mirrored" s_mirrored, dd "size_of" s_size_of, dd "over_root" s_over_root, dd "are_rays" s_are_rays, dd "columns_of" s_columns_of, dd "products_added" s_products_added, dd "mirror_product" s_mirror_product, dd "sizes_make_one" s_sizes_make_one, dd "is_table" s_is_table] : List He.DefD) ++ ([dd "table_product" s_table_product, dd "table_mirrored" s_table_mirrored, dd "slants" s_slants, dd "least_slant" s_least_slant, dd "is_upright" s_is_upright, dd "power_of" s_power_of, dd "least_power" s_least_power, dd "quarter_tables" s_quarter_tables, dd "axis_tables" s_axis_tables, dd "half_of_diagonal" s_half_of_diagonal, dd "axes_table" s_axes_table, dd "axes_power" s_axes_power, dd "is_quarter" s_is_quarter, dd "is_reading" s_is_reading, dd "reading_letters" s_reading_letters, dd "reading_with" s_reading_with, dd "tables_many" s_tables_many, dd "near_many" s_near_many, dd "tables_at_most" s_tables_at_most, dd "letters_by_number" s_letters_by_number] : List He.DefD) ++ ([dd "number_of_letters" s_number_of_letters, dd "reading_by_number" s_reading_by_number, dd "number_of_reading" s_number_of_reading, dd "next_reading" s_next_reading, dd "_law_box" s_ulaw_box, dd "_law_take" s_ulaw_take, dd "_law_cells" s_ulaw_cells, dd "_law_of" s_ulaw_of, dd "_law_lists" s_ulaw_lists, dd "_law_same" s_ulaw_same, dd "_law_is_number" s_ulaw_is_number, dd "_law_is_ray" s_ulaw_is_ray, dd "_law_place_state" s_ulaw_place_state, dd "_law_unit" s_ulaw_unit, dd "_law_eighth_of" s_ulaw_eighth_of, dd "_law_is_quarter" s_ulaw_is_quarter, dd "_law_reading" s_ulaw_reading, dd "_law_is_small_table" s_ulaw_is_small_table, dd "_law_is_form" s_ulaw_is_form, dd "_law_letters" s_ulaw_letters] : List He.DefD) ++ ([dd "_law_grown" s_ulaw_grown, dd "_law_number" s_ulaw_number, dd "_law_rests_right" s_ulaw_rests_right, dd "_law_one_right" s_ulaw_one_right, dd "_law_by_hand_right" s_ulaw_by_hand_right, dd "_law_right" s_ulaw_right, dd "law" s_law] : List He.DefD)
def fal : List He.Fa := ([He.Fa.glo "is_number", He.Fa.glo "is_below", He.Fa.glo "frozen", He.Fa.glo "root_divides", He.Fa.glo "times_root", He.Fa.glo "is_ray", He.Fa.glo "ray_of", He.Fa.glo "rays_added", He.Fa.glo "ray_sum", He.Fa.glo "ray_product", He.Fa.glo "turned_ray", He.Fa.glo "mirrored", He.Fa.glo "size_of", He.Fa.glo "over_root", He.Fa.glo "are_rays", He.Fa.glo "columns_of", He.Fa.glo "products_added", He.Fa.glo "mirror_product", He.Fa.glo "sizes_make_one", He.Fa.glo "is_table"] : List He.Fa) ++ ([He.Fa.glo "table_product", He.Fa.glo "table_mirrored", He.Fa.glo "slants", He.Fa.glo "least_slant", He.Fa.glo "is_upright", He.Fa.glo "power_of", He.Fa.glo "least_power", He.Fa.glo "quarter_tables", He.Fa.glo "axis_tables", He.Fa.glo "half_of_diagonal", He.Fa.glo "axes_table", He.Fa.glo "axes_power", He.Fa.glo "is_quarter", He.Fa.glo "is_reading", He.Fa.glo "reading_letters", He.Fa.glo "reading_with", He.Fa.glo "tables_many", He.Fa.glo "near_many", He.Fa.glo "tables_at_most", He.Fa.glo "letters_by_number"] : List He.Fa) ++ ([He.Fa.glo "number_of_letters", He.Fa.glo "reading_by_number", He.Fa.glo "number_of_reading", He.Fa.glo "next_reading", He.Fa.glo "_law_box", He.Fa.glo "_law_take", He.Fa.glo "_law_cells", He.Fa.glo "_law_of", He.Fa.glo "_law_lists", He.Fa.glo "_law_same", He.Fa.glo "_law_is_number", He.Fa.glo "_law_is_ray", He.Fa.glo "_law_place_state", He.Fa.glo "_law_unit", He.Fa.glo "_law_eighth_of", He.Fa.glo "_law_is_quarter", He.Fa.glo "_law_reading", He.Fa.glo "_law_is_small_table", He.Fa.glo "_law_is_form", He.Fa.glo "_law_letters"] : List He.Fa) ++ ([He.Fa.glo "_law_grown", He.Fa.glo "_law_number", He.Fa.glo "_law_rests_right", He.Fa.glo "_law_one_right", He.Fa.glo "_law_by_hand_right", He.Fa.glo "_law_right", He.Fa.glo "law", He.Fa.free "abs", He.Fa.free "all", He.Fa.free "bool", He.Fa.free "enumerate", He.Fa.free "int", He.Fa.free "isinstance", He.Fa.free "len", He.Fa.free "list", He.Fa.free "max", He.Fa.free "range", He.Fa.free "sorted", He.Fa.free "str", He.Fa.free "sum"] : List He.Fa) ++ ([He.Fa.free "tuple", He.Fa.free "zip", He.Fa.glo "ONE", He.Fa.glo "ZERO"] : List He.Fa)
def tbl (K : PySem.W.Frag) : Bool := tcB K "ONE" ([1, 0, 0, 0, 0].map He.Dv.int) && tcB K "ZERO" ([0, 0, 0, 0, 0].map He.Dv.int)
abbrev RR : PySem.W.OpenRow := PySem.W.OpenLaw.row PySem.Challenge.rw_eighthturns_k20_whole_readings_by_number
abbrev hk : PySem.W.Hook := hookP 4 fal fnl tbl
def ob (s : PySem.W.SharedT) : He.AlD × Bool := obsPG 4 fal fnl tbl (HandSHeadRun.getT s)
theorem ob_eq (s : PySem.W.SharedT) : ob s = hk.obs s.abs := obsPG_eq (HandSHeadRun.getT_eq s)
def loose : List Str := (["is_number", "is_below", "frozen", "ZERO", "ONE", "root_divides", "times_root", "is_ray", "ray_of", "rays_added", "ray_sum", "ray_product", "turned_ray", "mirrored", "size_of", "over_root", "are_rays", "columns_of", "products_added", "mirror_product", "sizes_make_one", "is_table", "table_product", "table_mirrored", "is_upright", "slants", "least_slant", "power_of", "least_power", "quarter_tables"] : List Str) ++ (["is_quarter", "is_reading", "reading_letters", "reading_with", "axis_tables", "axes_table", "half_of_diagonal", "axes_power", "tables_many", "tables_at_most", "near_many", "letters_by_number", "number_of_letters", "reading_by_number", "number_of_reading", "next_reading", "_law_box", "_law_take", "_law_cells", "_law_of", "_law_lists", "_law_same", "_law_is_number", "_law_is_ray", "_law_place_state", "_law_unit", "_law_eighth_of", "_law_is_quarter", "_law_reading", "_law_is_small_table"] : List Str) ++ (["_law_is_form", "_law_letters", "_law_grown", "_law_number", "_law_rests_right", "_law_one_right", "_law_by_hand_right", "_law_right"] : List Str)
set_option maxHeartbeats 0 in
theorem run (w : World) : HandSHeadRun.RunEq RR (PySem.W.view RR.prog [76]) hk ob 4000 loose w := by
  intro os
  kernel_rfl
theorem binds_all {K : PySem.W.Frag} {x qual : Str} {st : Stmt} {f : Addr} {fd : FuncData} {ps : List Str} (F : FunD K x qual (defArgs st) (defBody st) (defScope st) [] [] f fd)
    (h : ∀ (kV doc pm : Value) (an : Option Addr) (cdv ct : Value) (us : List Value), us.length = ps.length → bindArgs (PySem.W.fnOf x qual (defArgs st) (defBody st) (defScope st) .none kV doc pm an cdv ct) ⟨us, []⟩ = pure (ps.zip us)) : Binds K fd ps [] := F.bindsN h
theorem facts {P : Program} {w : World} {K : PySem.W.Frag} {h : Heap} {mg : Str → Option Value} {f : Addr} (X : K.In h) (G : h.Ns mainGlobals mg) (hfa : mg ("law" : Str) = some (.ref f)) (c : He.SaysD fal fnl K) (t : tbl K = true) :
    ∃ fd : FuncData, (∀ (s : Shared) (v : Value), BindsTo s fd ⟨[v], []⟩ [("script", v)]) ∧ ∀ base : Heap, K.In base → base.Ns mainGlobals mg → FnOk P w K mg base CX0 16 f fd ["script"] (spP K m_law) := by
  obtain ⟨fd_is_number, F_is_number⟩ := c.def_ 0 (d := dd "is_number" s_is_number) rfl
  obtain ⟨fd_is_below, F_is_below⟩ := c.def_ 1 (d := dd "is_below" s_is_below) rfl
  obtain ⟨fd_frozen, F_frozen⟩ := c.def_ 2 (d := dd "frozen" s_frozen) rfl
  obtain ⟨fd_root_divides, F_root_divides⟩ := c.def_ 3 (d := dd "root_divides" s_root_divides) rfl
  obtain ⟨fd_times_root, F_times_root⟩ := c.def_ 4 (d := dd "times_root" s_times_root) rfl
  obtain ⟨fd_is_ray, F_is_ray⟩ := c.def_ 5 (d := dd "is_ray" s_is_ray) rfl
  obtain ⟨fd_ray_of, F_ray_of⟩ := c.def_ 6 (d := dd "ray_of" s_ray_of) rfl
  obtain ⟨fd_rays_added, F_rays_added⟩ := c.def_ 7 (d := dd "rays_added" s_rays_added) rfl
  obtain ⟨fd_ray_sum, F_ray_sum⟩ := c.def_ 8 (d := dd "ray_sum" s_ray_sum) rfl
  obtain ⟨fd_ray_product, F_ray_product⟩ := c.def_ 9 (d := dd "ray_product" s_ray_product) rfl
  obtain ⟨fd_turned_ray, F_turned_ray⟩ := c.def_ 10 (d := dd "turned_ray" s_turned_ray) rfl
  obtain ⟨fd_mirrored, F_mirrored⟩ := c.def_ 11 (d := dd "mirrored" s_mirrored) rfl
  obtain ⟨fd_size_of, F_size_of⟩ := c.def_ 12 (d := dd "size_of" s_size_of) rfl
  obtain ⟨fd_over_root, F_over_root⟩ := c.def_ 13 (d := dd "over_root" s_over_root) rfl
  obtain ⟨fd_are_rays, F_are_rays⟩ := c.def_ 14 (d := dd "are_rays" s_are_rays) rfl
  obtain ⟨fd_columns_of, F_columns_of⟩ := c.def_ 15 (d := dd "columns_of" s_columns_of) rfl
  obtain ⟨fd_products_added, F_products_added⟩ := c.def_ 16 (d := dd "products_added" s_products_added) rfl
  obtain ⟨fd_mirror_product, F_mirror_product⟩ := c.def_ 17 (d := dd "mirror_product" s_mirror_product) rfl
  obtain ⟨fd_sizes_make_one, F_sizes_make_one⟩ := c.def_ 18 (d := dd "sizes_make_one" s_sizes_make_one) rfl
  obtain ⟨fd_is_table, F_is_table⟩ := c.def_ 19 (d := dd "is_table" s_is_table) rfl
  obtain ⟨fd_table_product, F_table_product⟩ := c.def_ 20 (d := dd "table_product" s_table_product) rfl
  obtain ⟨fd_table_mirrored, F_table_mirrored⟩ := c.def_ 21 (d := dd "table_mirrored" s_table_mirrored) rfl
  obtain ⟨fd_slants, F_slants⟩ := c.def_ 22 (d := dd "slants" s_slants) rfl
  obtain ⟨fd_least_slant, F_least_slant⟩ := c.def_ 23 (d := dd "least_slant" s_least_slant) rfl
  obtain ⟨fd_is_upright, F_is_upright⟩ := c.def_ 24 (d := dd "is_upright" s_is_upright) rfl
  obtain ⟨fd_power_of, F_power_of⟩ := c.def_ 25 (d := dd "power_of" s_power_of) rfl
  obtain ⟨fd_least_power, F_least_power⟩ := c.def_ 26 (d := dd "least_power" s_least_power) rfl
  obtain ⟨fd_quarter_tables, F_quarter_tables⟩ := c.def_ 27 (d := dd "quarter_tables" s_quarter_tables) rfl
  obtain ⟨fd_axis_tables, F_axis_tables⟩ := c.def_ 28 (d := dd "axis_tables" s_axis_tables) rfl
  obtain ⟨fd_half_of_diagonal, F_half_of_diagonal⟩ := c.def_ 29 (d := dd "half_of_diagonal" s_half_of_diagonal) rfl
  obtain ⟨fd_axes_table, F_axes_table⟩ := c.def_ 30 (d := dd "axes_table" s_axes_table) rfl
  obtain ⟨fd_axes_power, F_axes_power⟩ := c.def_ 31 (d := dd "axes_power" s_axes_power) rfl
  obtain ⟨fd_is_quarter, F_is_quarter⟩ := c.def_ 32 (d := dd "is_quarter" s_is_quarter) rfl
  obtain ⟨fd_is_reading, F_is_reading⟩ := c.def_ 33 (d := dd "is_reading" s_is_reading) rfl
  obtain ⟨fd_reading_letters, F_reading_letters⟩ := c.def_ 34 (d := dd "reading_letters" s_reading_letters) rfl
  obtain ⟨fd_reading_with, F_reading_with⟩ := c.def_ 35 (d := dd "reading_with" s_reading_with) rfl
  obtain ⟨fd_tables_many, F_tables_many⟩ := c.def_ 36 (d := dd "tables_many" s_tables_many) rfl
  obtain ⟨fd_near_many, F_near_many⟩ := c.def_ 37 (d := dd "near_many" s_near_many) rfl
  obtain ⟨fd_tables_at_most, F_tables_at_most⟩ := c.def_ 38 (d := dd "tables_at_most" s_tables_at_most) rfl
  obtain ⟨fd_letters_by_number, F_letters_by_number⟩ := c.def_ 39 (d := dd "letters_by_number" s_letters_by_number) rfl
  obtain ⟨fd_number_of_letters, F_number_of_letters⟩ := c.def_ 40 (d := dd "number_of_letters" s_number_of_letters) rfl
  obtain ⟨fd_reading_by_number, F_reading_by_number⟩ := c.def_ 41 (d := dd "reading_by_number" s_reading_by_number) rfl
  obtain ⟨fd_number_of_reading, F_number_of_reading⟩ := c.def_ 42 (d := dd "number_of_reading" s_number_of_reading) rfl
  obtain ⟨fd_next_reading, F_next_reading⟩ := c.def_ 43 (d := dd "next_reading" s_next_reading) rfl
  obtain ⟨fd_ulaw_box, F_ulaw_box⟩ := c.def_ 44 (d := dd "_law_box" s_ulaw_box) rfl
  obtain ⟨fd_ulaw_take, F_ulaw_take⟩ := c.def_ 45 (d := dd "_law_take" s_ulaw_take) rfl
  obtain ⟨fd_ulaw_cells, F_ulaw_cells⟩ := c.def_ 46 (d := dd "_law_cells" s_ulaw_cells) rfl
  obtain ⟨fd_ulaw_of, F_ulaw_of⟩ := c.def_ 47 (d := dd "_law_of" s_ulaw_of) rfl
  obtain ⟨fd_ulaw_lists, F_ulaw_lists⟩ := c.def_ 48 (d := dd "_law_lists" s_ulaw_lists) rfl
  obtain ⟨fd_ulaw_same, F_ulaw_same⟩ := c.def_ 49 (d := dd "_law_same" s_ulaw_same) rfl
  obtain ⟨fd_ulaw_is_number, F_ulaw_is_number⟩ := c.def_ 50 (d := dd "_law_is_number" s_ulaw_is_number) rfl
  obtain ⟨fd_ulaw_is_ray, F_ulaw_is_ray⟩ := c.def_ 51 (d := dd "_law_is_ray" s_ulaw_is_ray) rfl
  obtain ⟨fd_ulaw_place_state, F_ulaw_place_state⟩ := c.def_ 52 (d := dd "_law_place_state" s_ulaw_place_state) rfl
  obtain ⟨fd_ulaw_unit, F_ulaw_unit⟩ := c.def_ 53 (d := dd "_law_unit" s_ulaw_unit) rfl
  obtain ⟨fd_ulaw_eighth_of, F_ulaw_eighth_of⟩ := c.def_ 54 (d := dd "_law_eighth_of" s_ulaw_eighth_of) rfl
  obtain ⟨fd_ulaw_is_quarter, F_ulaw_is_quarter⟩ := c.def_ 55 (d := dd "_law_is_quarter" s_ulaw_is_quarter) rfl
  obtain ⟨fd_ulaw_reading, F_ulaw_reading⟩ := c.def_ 56 (d := dd "_law_reading" s_ulaw_reading) rfl
  obtain ⟨fd_ulaw_is_small_table, F_ulaw_is_small_table⟩ := c.def_ 57 (d := dd "_law_is_small_table" s_ulaw_is_small_table) rfl
  obtain ⟨fd_ulaw_is_form, F_ulaw_is_form⟩ := c.def_ 58 (d := dd "_law_is_form" s_ulaw_is_form) rfl
  obtain ⟨fd_ulaw_letters, F_ulaw_letters⟩ := c.def_ 59 (d := dd "_law_letters" s_ulaw_letters) rfl
  obtain ⟨fd_ulaw_grown, F_ulaw_grown⟩ := c.def_ 60 (d := dd "_law_grown" s_ulaw_grown) rfl
  obtain ⟨fd_ulaw_number, F_ulaw_number⟩ := c.def_ 61 (d := dd "_law_number" s_ulaw_number) rfl
  obtain ⟨fd_ulaw_rests_right, F_ulaw_rests_right⟩ := c.def_ 62 (d := dd "_law_rests_right" s_ulaw_rests_right) rfl
  obtain ⟨fd_ulaw_one_right, F_ulaw_one_right⟩ := c.def_ 63 (d := dd "_law_one_right" s_ulaw_one_right) rfl
  obtain ⟨fd_ulaw_by_hand_right, F_ulaw_by_hand_right⟩ := c.def_ 64 (d := dd "_law_by_hand_right" s_ulaw_by_hand_right) rfl
  obtain ⟨fd_ulaw_right, F_ulaw_right⟩ := c.def_ 65 (d := dd "_law_right" s_ulaw_right) rfl
  obtain ⟨fd_law, F_law⟩ := c.def_ 66 (d := dd "law" s_law) rfl
  have e := hfa.symm.trans (He.glo_ok X G (c.fact 66 (f := .glo "law") rfl))
  cases e
  have b := FunD.bindsA (ps := ["script"]) F_law fun _ _ _ _ _ _ us hl => match us, hl with | [_], _ => rfl
  refine ⟨fd_law, fun s v => b s [v] rfl, fun base _ _ => ok_law (T := {
    a_is_number := He.ga K "is_number", f_is_number := fd_is_number, F_is_number := fun_of F_is_number, g_is_number := He.glo_ok X G (c.fact 0 (f := .glo "is_number") rfl), b_is_number := FunD.bindsN F_is_number fun _ _ _ _ _ _ us hl => match us, hl with | [_], _ => rfl,
    a_is_below := He.ga K "is_below", f_is_below := fd_is_below, F_is_below := fun_of F_is_below, g_is_below := He.glo_ok X G (c.fact 1 (f := .glo "is_below") rfl), b_is_below := FunD.bindsN F_is_below fun _ _ _ _ _ _ us hl => match us, hl with | [_, _], _ => rfl,
    a_frozen := He.ga K "frozen", f_frozen := fd_frozen, F_frozen := fun_of F_frozen, g_frozen := He.glo_ok X G (c.fact 2 (f := .glo "frozen") rfl), b_frozen := FunD.bindsN F_frozen fun _ _ _ _ _ _ us hl => match us, hl with | [_], _ => rfl,
    a_root_divides := He.ga K "root_divides", f_root_divides := fd_root_divides, F_root_divides := fun_of F_root_divides, g_root_divides := He.glo_ok X G (c.fact 3 (f := .glo "root_divides") rfl), b_root_divides := FunD.bindsN F_root_divides fun _ _ _ _ _ _ us hl => match us, hl with | [_], _ => rfl,
    a_times_root := He.ga K "times_root", f_times_root := fd_times_root, F_times_root := fun_of F_times_root, g_times_root := He.glo_ok X G (c.fact 4 (f := .glo "times_root") rfl), b_times_root := FunD.bindsN F_times_root fun _ _ _ _ _ _ us hl => match us, hl with | [_, _], _ => rfl,
    a_is_ray := He.ga K "is_ray", f_is_ray := fd_is_ray, F_is_ray := fun_of F_is_ray, g_is_ray := He.glo_ok X G (c.fact 5 (f := .glo "is_ray") rfl), b_is_ray := FunD.bindsN F_is_ray fun _ _ _ _ _ _ us hl => match us, hl with | [_], _ => rfl,
    a_ray_of := He.ga K "ray_of", f_ray_of := fd_ray_of, F_ray_of := fun_of F_ray_of, g_ray_of := He.glo_ok X G (c.fact 6 (f := .glo "ray_of") rfl), b_ray_of := FunD.bindsN F_ray_of fun _ _ _ _ _ _ us hl => match us, hl with | [_, _], _ => rfl,
    a_rays_added := He.ga K "rays_added", f_rays_added := fd_rays_added, F_rays_added := fun_of F_rays_added, g_rays_added := He.glo_ok X G (c.fact 7 (f := .glo "rays_added") rfl), b_rays_added := FunD.bindsN F_rays_added fun _ _ _ _ _ _ us hl => match us, hl with | [_], _ => rfl,
    a_ray_sum := He.ga K "ray_sum", f_ray_sum := fd_ray_sum, F_ray_sum := fun_of F_ray_sum, g_ray_sum := He.glo_ok X G (c.fact 8 (f := .glo "ray_sum") rfl), b_ray_sum := FunD.bindsN F_ray_sum fun _ _ _ _ _ _ us hl => match us, hl with | [_, _], _ => rfl,
    a_ray_product := He.ga K "ray_product", f_ray_product := fd_ray_product, F_ray_product := fun_of F_ray_product, g_ray_product := He.glo_ok X G (c.fact 9 (f := .glo "ray_product") rfl), b_ray_product := FunD.bindsN F_ray_product fun _ _ _ _ _ _ us hl => match us, hl with | [_, _], _ => rfl,
    a_turned_ray := He.ga K "turned_ray", f_turned_ray := fd_turned_ray, F_turned_ray := fun_of F_turned_ray, g_turned_ray := He.glo_ok X G (c.fact 10 (f := .glo "turned_ray") rfl), b_turned_ray := FunD.bindsN F_turned_ray fun _ _ _ _ _ _ us hl => match us, hl with | [_, _], _ => rfl,
    a_mirrored := He.ga K "mirrored", f_mirrored := fd_mirrored, F_mirrored := fun_of F_mirrored, g_mirrored := He.glo_ok X G (c.fact 11 (f := .glo "mirrored") rfl), b_mirrored := FunD.bindsN F_mirrored fun _ _ _ _ _ _ us hl => match us, hl with | [_], _ => rfl,
    a_size_of := He.ga K "size_of", f_size_of := fd_size_of, F_size_of := fun_of F_size_of, g_size_of := He.glo_ok X G (c.fact 12 (f := .glo "size_of") rfl), b_size_of := FunD.bindsN F_size_of fun _ _ _ _ _ _ us hl => match us, hl with | [_], _ => rfl,
    a_over_root := He.ga K "over_root", f_over_root := fd_over_root, F_over_root := fun_of F_over_root, g_over_root := He.glo_ok X G (c.fact 13 (f := .glo "over_root") rfl), b_over_root := FunD.bindsN F_over_root fun _ _ _ _ _ _ us hl => match us, hl with | [_, _], _ => rfl,
    a_are_rays := He.ga K "are_rays", f_are_rays := fd_are_rays, F_are_rays := fun_of F_are_rays, g_are_rays := He.glo_ok X G (c.fact 14 (f := .glo "are_rays") rfl), b_are_rays := FunD.bindsN F_are_rays fun _ _ _ _ _ _ us hl => match us, hl with | [_], _ => rfl,
    a_columns_of := He.ga K "columns_of", f_columns_of := fd_columns_of, F_columns_of := fun_of F_columns_of, g_columns_of := He.glo_ok X G (c.fact 15 (f := .glo "columns_of") rfl), b_columns_of := FunD.bindsN F_columns_of fun _ _ _ _ _ _ us hl => match us, hl with | [_], _ => rfl,
    a_products_added := He.ga K "products_added", f_products_added := fd_products_added, F_products_added := fun_of F_products_added, g_products_added := He.glo_ok X G (c.fact 16 (f := .glo "products_added") rfl), b_products_added := FunD.bindsN F_products_added fun _ _ _ _ _ _ us hl => match us, hl with | [_, _], _ => rfl,
    a_mirror_product := He.ga K "mirror_product", f_mirror_product := fd_mirror_product, F_mirror_product := fun_of F_mirror_product, g_mirror_product := He.glo_ok X G (c.fact 17 (f := .glo "mirror_product") rfl), b_mirror_product := FunD.bindsN F_mirror_product fun _ _ _ _ _ _ us hl => match us, hl with | [_, _], _ => rfl,
    a_sizes_make_one := He.ga K "sizes_make_one", f_sizes_make_one := fd_sizes_make_one, F_sizes_make_one := fun_of F_sizes_make_one, g_sizes_make_one := He.glo_ok X G (c.fact 18 (f := .glo "sizes_make_one") rfl), b_sizes_make_one := FunD.bindsN F_sizes_make_one fun _ _ _ _ _ _ us hl => match us, hl with | [_], _ => rfl,
    a_is_table := He.ga K "is_table", f_is_table := fd_is_table, F_is_table := fun_of F_is_table, g_is_table := He.glo_ok X G (c.fact 19 (f := .glo "is_table") rfl), b_is_table := FunD.bindsN F_is_table fun _ _ _ _ _ _ us hl => match us, hl with | [_], _ => rfl,
    a_table_product := He.ga K "table_product", f_table_product := fd_table_product, F_table_product := fun_of F_table_product, g_table_product := He.glo_ok X G (c.fact 20 (f := .glo "table_product") rfl), b_table_product := FunD.bindsN F_table_product fun _ _ _ _ _ _ us hl => match us, hl with | [_, _], _ => rfl,
    a_table_mirrored := He.ga K "table_mirrored", f_table_mirrored := fd_table_mirrored, F_table_mirrored := fun_of F_table_mirrored, g_table_mirrored := He.glo_ok X G (c.fact 21 (f := .glo "table_mirrored") rfl), b_table_mirrored := FunD.bindsN F_table_mirrored fun _ _ _ _ _ _ us hl => match us, hl with | [_], _ => rfl,
    a_slants := He.ga K "slants", f_slants := fd_slants, F_slants := fun_of F_slants, g_slants := He.glo_ok X G (c.fact 22 (f := .glo "slants") rfl), b_slants := FunD.bindsN F_slants fun _ _ _ _ _ _ us hl => match us, hl with | [_, _, _], _ => rfl,
    a_least_slant := He.ga K "least_slant", f_least_slant := fd_least_slant, F_least_slant := fun_of F_least_slant, g_least_slant := He.glo_ok X G (c.fact 23 (f := .glo "least_slant") rfl), b_least_slant := FunD.bindsN F_least_slant fun _ _ _ _ _ _ us hl => match us, hl with | [_], _ => rfl,
    a_is_upright := He.ga K "is_upright", f_is_upright := fd_is_upright, F_is_upright := fun_of F_is_upright, g_is_upright := He.glo_ok X G (c.fact 24 (f := .glo "is_upright") rfl), b_is_upright := FunD.bindsN F_is_upright fun _ _ _ _ _ _ us hl => match us, hl with | [_], _ => rfl,
    a_power_of := He.ga K "power_of", f_power_of := fd_power_of, F_power_of := fun_of F_power_of, g_power_of := He.glo_ok X G (c.fact 25 (f := .glo "power_of") rfl), b_power_of := FunD.bindsN F_power_of fun _ _ _ _ _ _ us hl => match us, hl with | [_], _ => rfl,
    a_least_power := He.ga K "least_power", f_least_power := fd_least_power, F_least_power := fun_of F_least_power, g_least_power := He.glo_ok X G (c.fact 26 (f := .glo "least_power") rfl), b_least_power := FunD.bindsN F_least_power fun _ _ _ _ _ _ us hl => match us, hl with | [_], _ => rfl,
    a_quarter_tables := He.ga K "quarter_tables", f_quarter_tables := fd_quarter_tables, F_quarter_tables := fun_of F_quarter_tables, g_quarter_tables := He.glo_ok X G (c.fact 27 (f := .glo "quarter_tables") rfl), b_quarter_tables := FunD.bindsN F_quarter_tables fun _ _ _ _ _ _ us hl => match us, hl with | [], _ => rfl,
    a_axis_tables := He.ga K "axis_tables", f_axis_tables := fd_axis_tables, F_axis_tables := fun_of F_axis_tables, g_axis_tables := He.glo_ok X G (c.fact 28 (f := .glo "axis_tables") rfl), b_axis_tables := FunD.bindsN F_axis_tables fun _ _ _ _ _ _ us hl => match us, hl with | [], _ => rfl,
    a_half_of_diagonal := He.ga K "half_of_diagonal", f_half_of_diagonal := fd_half_of_diagonal, F_half_of_diagonal := fun_of F_half_of_diagonal, g_half_of_diagonal := He.glo_ok X G (c.fact 29 (f := .glo "half_of_diagonal") rfl), b_half_of_diagonal := FunD.bindsN F_half_of_diagonal fun _ _ _ _ _ _ us hl => match us, hl with | [_], _ => rfl,
    a_axes_table := He.ga K "axes_table", f_axes_table := fd_axes_table, F_axes_table := fun_of F_axes_table, g_axes_table := He.glo_ok X G (c.fact 30 (f := .glo "axes_table") rfl), b_axes_table := FunD.bindsN F_axes_table fun _ _ _ _ _ _ us hl => match us, hl with | [_], _ => rfl,
    a_axes_power := He.ga K "axes_power", f_axes_power := fd_axes_power, F_axes_power := fun_of F_axes_power, g_axes_power := He.glo_ok X G (c.fact 31 (f := .glo "axes_power") rfl), b_axes_power := FunD.bindsN F_axes_power fun _ _ _ _ _ _ us hl => match us, hl with | [_], _ => rfl,
    a_is_quarter := He.ga K "is_quarter", f_is_quarter := fd_is_quarter, F_is_quarter := fun_of F_is_quarter, g_is_quarter := He.glo_ok X G (c.fact 32 (f := .glo "is_quarter") rfl), b_is_quarter := FunD.bindsN F_is_quarter fun _ _ _ _ _ _ us hl => match us, hl with | [_], _ => rfl,
    a_is_reading := He.ga K "is_reading", f_is_reading := fd_is_reading, F_is_reading := fun_of F_is_reading, g_is_reading := He.glo_ok X G (c.fact 33 (f := .glo "is_reading") rfl), b_is_reading := FunD.bindsN F_is_reading fun _ _ _ _ _ _ us hl => match us, hl with | [_], _ => rfl,
    a_reading_letters := He.ga K "reading_letters", f_reading_letters := fd_reading_letters, F_reading_letters := fun_of F_reading_letters, g_reading_letters := He.glo_ok X G (c.fact 34 (f := .glo "reading_letters") rfl), b_reading_letters := FunD.bindsN F_reading_letters fun _ _ _ _ _ _ us hl => match us, hl with | [_], _ => rfl,
    a_reading_with := He.ga K "reading_with", f_reading_with := fd_reading_with, F_reading_with := fun_of F_reading_with, g_reading_with := He.glo_ok X G (c.fact 35 (f := .glo "reading_with") rfl), b_reading_with := FunD.bindsN F_reading_with fun _ _ _ _ _ _ us hl => match us, hl with | [_, _], _ => rfl,
    a_tables_many := He.ga K "tables_many", f_tables_many := fd_tables_many, F_tables_many := fun_of F_tables_many, g_tables_many := He.glo_ok X G (c.fact 36 (f := .glo "tables_many") rfl), b_tables_many := FunD.bindsN F_tables_many fun _ _ _ _ _ _ us hl => match us, hl with | [_], _ => rfl,
    a_near_many := He.ga K "near_many", f_near_many := fd_near_many, F_near_many := fun_of F_near_many, g_near_many := He.glo_ok X G (c.fact 37 (f := .glo "near_many") rfl), b_near_many := FunD.bindsN F_near_many fun _ _ _ _ _ _ us hl => match us, hl with | [_], _ => rfl,
    a_tables_at_most := He.ga K "tables_at_most", f_tables_at_most := fd_tables_at_most, F_tables_at_most := fun_of F_tables_at_most, g_tables_at_most := He.glo_ok X G (c.fact 38 (f := .glo "tables_at_most") rfl), b_tables_at_most := FunD.bindsN F_tables_at_most fun _ _ _ _ _ _ us hl => match us, hl with | [_], _ => rfl,
    a_letters_by_number := He.ga K "letters_by_number", f_letters_by_number := fd_letters_by_number, F_letters_by_number := fun_of F_letters_by_number, g_letters_by_number := He.glo_ok X G (c.fact 39 (f := .glo "letters_by_number") rfl), b_letters_by_number := FunD.bindsN F_letters_by_number fun _ _ _ _ _ _ us hl => match us, hl with | [_, _], _ => rfl,
    a_number_of_letters := He.ga K "number_of_letters", f_number_of_letters := fd_number_of_letters, F_number_of_letters := fun_of F_number_of_letters, g_number_of_letters := He.glo_ok X G (c.fact 40 (f := .glo "number_of_letters") rfl), b_number_of_letters := FunD.bindsN F_number_of_letters fun _ _ _ _ _ _ us hl => match us, hl with | [_], _ => rfl,
    a_reading_by_number := He.ga K "reading_by_number", f_reading_by_number := fd_reading_by_number, F_reading_by_number := fun_of F_reading_by_number, g_reading_by_number := He.glo_ok X G (c.fact 41 (f := .glo "reading_by_number") rfl), b_reading_by_number := FunD.bindsN F_reading_by_number fun _ _ _ _ _ _ us hl => match us, hl with | [_], _ => rfl,
    a_number_of_reading := He.ga K "number_of_reading", f_number_of_reading := fd_number_of_reading, F_number_of_reading := fun_of F_number_of_reading, g_number_of_reading := He.glo_ok X G (c.fact 42 (f := .glo "number_of_reading") rfl), b_number_of_reading := FunD.bindsN F_number_of_reading fun _ _ _ _ _ _ us hl => match us, hl with | [_], _ => rfl,
    a_next_reading := He.ga K "next_reading", f_next_reading := fd_next_reading, F_next_reading := fun_of F_next_reading, g_next_reading := He.glo_ok X G (c.fact 43 (f := .glo "next_reading") rfl), b_next_reading := FunD.bindsN F_next_reading fun _ _ _ _ _ _ us hl => match us, hl with | [_], _ => rfl,
    a_ulaw_box := He.ga K "_law_box", f_ulaw_box := fd_ulaw_box, F_ulaw_box := fun_of F_ulaw_box, g_ulaw_box := He.glo_ok X G (c.fact 44 (f := .glo "_law_box") rfl), b_ulaw_box := FunD.bindsN F_ulaw_box fun _ _ _ _ _ _ us hl => match us, hl with | [_, _], _ => rfl,
    a_ulaw_take := He.ga K "_law_take", f_ulaw_take := fd_ulaw_take, F_ulaw_take := fun_of F_ulaw_take, g_ulaw_take := He.glo_ok X G (c.fact 45 (f := .glo "_law_take") rfl), b_ulaw_take := FunD.bindsN F_ulaw_take fun _ _ _ _ _ _ us hl => match us, hl with | [_, _], _ => rfl,
    a_ulaw_cells := He.ga K "_law_cells", f_ulaw_cells := fd_ulaw_cells, F_ulaw_cells := fun_of F_ulaw_cells, g_ulaw_cells := He.glo_ok X G (c.fact 46 (f := .glo "_law_cells") rfl), b_ulaw_cells := FunD.bindsN F_ulaw_cells fun _ _ _ _ _ _ us hl => match us, hl with | [_, _], _ => rfl,
    a_ulaw_of := He.ga K "_law_of", f_ulaw_of := fd_ulaw_of, F_ulaw_of := fun_of F_ulaw_of, g_ulaw_of := He.glo_ok X G (c.fact 47 (f := .glo "_law_of") rfl), b_ulaw_of := FunD.bindsN F_ulaw_of fun _ _ _ _ _ _ us hl => match us, hl with | [_, _], _ => rfl,
    a_ulaw_lists := He.ga K "_law_lists", f_ulaw_lists := fd_ulaw_lists, F_ulaw_lists := fun_of F_ulaw_lists, g_ulaw_lists := He.glo_ok X G (c.fact 48 (f := .glo "_law_lists") rfl), b_ulaw_lists := FunD.bindsN F_ulaw_lists fun _ _ _ _ _ _ us hl => match us, hl with | [_], _ => rfl,
    a_ulaw_same := He.ga K "_law_same", f_ulaw_same := fd_ulaw_same, F_ulaw_same := fun_of F_ulaw_same, g_ulaw_same := He.glo_ok X G (c.fact 49 (f := .glo "_law_same") rfl), b_ulaw_same := FunD.bindsN F_ulaw_same fun _ _ _ _ _ _ us hl => match us, hl with | [_, _], _ => rfl,
    a_ulaw_is_number := He.ga K "_law_is_number", f_ulaw_is_number := fd_ulaw_is_number, F_ulaw_is_number := fun_of F_ulaw_is_number, g_ulaw_is_number := He.glo_ok X G (c.fact 50 (f := .glo "_law_is_number") rfl), b_ulaw_is_number := FunD.bindsN F_ulaw_is_number fun _ _ _ _ _ _ us hl => match us, hl with | [_], _ => rfl,
    a_ulaw_is_ray := He.ga K "_law_is_ray", f_ulaw_is_ray := fd_ulaw_is_ray, F_ulaw_is_ray := fun_of F_ulaw_is_ray, g_ulaw_is_ray := He.glo_ok X G (c.fact 51 (f := .glo "_law_is_ray") rfl), b_ulaw_is_ray := FunD.bindsN F_ulaw_is_ray fun _ _ _ _ _ _ us hl => match us, hl with | [_], _ => rfl,
    a_ulaw_place_state := He.ga K "_law_place_state", f_ulaw_place_state := fd_ulaw_place_state, F_ulaw_place_state := fun_of F_ulaw_place_state, g_ulaw_place_state := He.glo_ok X G (c.fact 52 (f := .glo "_law_place_state") rfl), b_ulaw_place_state := FunD.bindsN F_ulaw_place_state fun _ _ _ _ _ _ us hl => match us, hl with | [_, _], _ => rfl,
    a_ulaw_unit := He.ga K "_law_unit", f_ulaw_unit := fd_ulaw_unit, F_ulaw_unit := fun_of F_ulaw_unit, g_ulaw_unit := He.glo_ok X G (c.fact 53 (f := .glo "_law_unit") rfl), b_ulaw_unit := FunD.bindsN F_ulaw_unit fun _ _ _ _ _ _ us hl => match us, hl with | [_], _ => rfl,
    a_ulaw_eighth_of := He.ga K "_law_eighth_of", f_ulaw_eighth_of := fd_ulaw_eighth_of, F_ulaw_eighth_of := fun_of F_ulaw_eighth_of, g_ulaw_eighth_of := He.glo_ok X G (c.fact 54 (f := .glo "_law_eighth_of") rfl), b_ulaw_eighth_of := FunD.bindsN F_ulaw_eighth_of fun _ _ _ _ _ _ us hl => match us, hl with | [_], _ => rfl,
    a_ulaw_is_quarter := He.ga K "_law_is_quarter", f_ulaw_is_quarter := fd_ulaw_is_quarter, F_ulaw_is_quarter := fun_of F_ulaw_is_quarter, g_ulaw_is_quarter := He.glo_ok X G (c.fact 55 (f := .glo "_law_is_quarter") rfl), b_ulaw_is_quarter := FunD.bindsN F_ulaw_is_quarter fun _ _ _ _ _ _ us hl => match us, hl with | [_], _ => rfl,
    a_ulaw_reading := He.ga K "_law_reading", f_ulaw_reading := fd_ulaw_reading, F_ulaw_reading := fun_of F_ulaw_reading, g_ulaw_reading := He.glo_ok X G (c.fact 56 (f := .glo "_law_reading") rfl), b_ulaw_reading := FunD.bindsN F_ulaw_reading fun _ _ _ _ _ _ us hl => match us, hl with | [_, _], _ => rfl,
    a_ulaw_is_small_table := He.ga K "_law_is_small_table", f_ulaw_is_small_table := fd_ulaw_is_small_table, F_ulaw_is_small_table := fun_of F_ulaw_is_small_table, g_ulaw_is_small_table := He.glo_ok X G (c.fact 57 (f := .glo "_law_is_small_table") rfl), b_ulaw_is_small_table := FunD.bindsN F_ulaw_is_small_table fun _ _ _ _ _ _ us hl => match us, hl with | [_], _ => rfl,
    a_ulaw_is_form := He.ga K "_law_is_form", f_ulaw_is_form := fd_ulaw_is_form, F_ulaw_is_form := fun_of F_ulaw_is_form, g_ulaw_is_form := He.glo_ok X G (c.fact 58 (f := .glo "_law_is_form") rfl), b_ulaw_is_form := FunD.bindsN F_ulaw_is_form fun _ _ _ _ _ _ us hl => match us, hl with | [_], _ => rfl,
    a_ulaw_letters := He.ga K "_law_letters", f_ulaw_letters := fd_ulaw_letters, F_ulaw_letters := fun_of F_ulaw_letters, g_ulaw_letters := He.glo_ok X G (c.fact 59 (f := .glo "_law_letters") rfl), b_ulaw_letters := FunD.bindsN F_ulaw_letters fun _ _ _ _ _ _ us hl => match us, hl with | [_, _], _ => rfl,
    a_ulaw_grown := He.ga K "_law_grown", f_ulaw_grown := fd_ulaw_grown, F_ulaw_grown := fun_of F_ulaw_grown, g_ulaw_grown := He.glo_ok X G (c.fact 60 (f := .glo "_law_grown") rfl), b_ulaw_grown := FunD.bindsN F_ulaw_grown fun _ _ _ _ _ _ us hl => match us, hl with | [_], _ => rfl,
    a_ulaw_number := He.ga K "_law_number", f_ulaw_number := fd_ulaw_number, F_ulaw_number := fun_of F_ulaw_number, g_ulaw_number := He.glo_ok X G (c.fact 61 (f := .glo "_law_number") rfl), b_ulaw_number := FunD.bindsN F_ulaw_number fun _ _ _ _ _ _ us hl => match us, hl with | [_, _], _ => rfl,
    a_ulaw_rests_right := He.ga K "_law_rests_right", f_ulaw_rests_right := fd_ulaw_rests_right, F_ulaw_rests_right := fun_of F_ulaw_rests_right, g_ulaw_rests_right := He.glo_ok X G (c.fact 62 (f := .glo "_law_rests_right") rfl), b_ulaw_rests_right := FunD.bindsN F_ulaw_rests_right fun _ _ _ _ _ _ us hl => match us, hl with | [_], _ => rfl,
    a_ulaw_one_right := He.ga K "_law_one_right", f_ulaw_one_right := fd_ulaw_one_right, F_ulaw_one_right := fun_of F_ulaw_one_right, g_ulaw_one_right := He.glo_ok X G (c.fact 63 (f := .glo "_law_one_right") rfl), b_ulaw_one_right := FunD.bindsN F_ulaw_one_right fun _ _ _ _ _ _ us hl => match us, hl with | [_, _, _], _ => rfl,
    a_ulaw_by_hand_right := He.ga K "_law_by_hand_right", f_ulaw_by_hand_right := fd_ulaw_by_hand_right, F_ulaw_by_hand_right := fun_of F_ulaw_by_hand_right, g_ulaw_by_hand_right := He.glo_ok X G (c.fact 64 (f := .glo "_law_by_hand_right") rfl), b_ulaw_by_hand_right := FunD.bindsN F_ulaw_by_hand_right fun _ _ _ _ _ _ us hl => match us, hl with | [], _ => rfl,
    a_ulaw_right := He.ga K "_law_right", f_ulaw_right := fd_ulaw_right, F_ulaw_right := fun_of F_ulaw_right, g_ulaw_right := He.glo_ok X G (c.fact 65 (f := .glo "_law_right") rfl), b_ulaw_right := FunD.bindsN F_ulaw_right fun _ _ _ _ _ _ us hl => match us, hl with | [_], _ => rfl,
    a_law := He.ga K "law", f_law := fd_law, F_law := fun_of F_law, g_law := He.glo_ok X G (c.fact 66 (f := .glo "law") rfl), b_law := FunD.bindsN F_law fun _ _ _ _ _ _ us hl => match us, hl with | [_], _ => rfl,
    m_abs := He.free_ok X G (c.fact 67 (f := .free "abs") rfl),
    m_all := He.free_ok X G (c.fact 68 (f := .free "all") rfl),
    m_bool := He.free_ok X G (c.fact 69 (f := .free "bool") rfl),
    m_enumerate := He.free_ok X G (c.fact 70 (f := .free "enumerate") rfl),
    m_int := He.free_ok X G (c.fact 71 (f := .free "int") rfl),
    m_isinstance := He.free_ok X G (c.fact 72 (f := .free "isinstance") rfl),
    m_len := He.free_ok X G (c.fact 73 (f := .free "len") rfl),
    m_list := He.free_ok X G (c.fact 74 (f := .free "list") rfl),
    m_max := He.free_ok X G (c.fact 75 (f := .free "max") rfl),
    m_range := He.free_ok X G (c.fact 76 (f := .free "range") rfl),
    m_sorted := He.free_ok X G (c.fact 77 (f := .free "sorted") rfl),
    m_str := He.free_ok X G (c.fact 78 (f := .free "str") rfl),
    m_sum := He.free_ok X G (c.fact 79 (f := .free "sum") rfl),
    m_tuple := He.free_ok X G (c.fact 80 (f := .free "tuple") rfl),
    m_zip := He.free_ok X G (c.fact 81 (f := .free "zip") rfl),
    a_ONE := He.ga K "ONE", g_ONE := He.glo_ok X G (c.fact 82 (f := .glo "ONE") rfl), r_ONE := const_rep (ns := [1, 0, 0, 0, 0]) rfl (He.ba t).1,
    a_ZERO := He.ga K "ZERO", g_ZERO := He.glo_ok X G (c.fact 83 (f := .glo "ZERO") rfl), r_ZERO := const_rep (ns := [0, 0, 0, 0, 0]) rfl (He.ba t).2 })⟩
end K20
open PySem PySem.W PySem.Calls PyProof.Rows
set_option maxHeartbeats 0 in
theorem PySem.Challenge.cw_eighthturns_k20_whole_readings_by_number_holds : PySem.Challenge.rw_eighthturns_k20_whole_readings_by_number.Holds := by
  w_on; o_law
  refine HandSHeadRun.head_any (r := OpenLaw.row PySem.Challenge.rw_eighthturns_k20_whole_readings_by_number) (q := view (OpenLaw.row PySem.Challenge.rw_eighthturns_k20_whole_readings_by_number).prog [76]) (H := K20.hk) (ob := K20.ob) (M := 4000) (loose := K20.loose) (d := HandSHeadRun.topDef (OpenLaw.row PySem.Challenge.rw_eighthturns_k20_whole_readings_by_number).prog 76) (kwd := []) K20.ob_eq
    (by kernel_rfl) (fun s => by kernel_rfl) K20.run (by kernel_rfl) (by kernel_rfl) (by kernel_rfl) (by rfl) (by first | assumption | decide +kernel) (by decide +kernel) ⟨rfl, rfl, rfl, rfl, rfl, by decide +kernel⟩ ?hw ?hc
  case hw => w_witness2
  case hc =>
    refine L2.walk_ofE (l := PySem.Challenge.rw_eighthturns_k20_whole_readings_by_number) (n := 63) (k := 16) (x := "script") (CX := L2.CX0) rfl (by decide) (by kernel_rfl) ⟨rfl, by decide, by decide⟩ ?F (fun _ _ _ _ z => z)
    intro w mg fa h Y G hmg0
    obtain ⟨K, KX, c, t⟩ := Y
    have hmg : mg ("law" : PySem.Str) = some (.ref fa) := by
      have e : (HandSHeadRun.topDef (OpenLaw.row PySem.Challenge.rw_eighthturns_k20_whole_readings_by_number).prog 76).name = ("law" : PySem.Str) := by kernel_rfl
      rw [← e]
      exact hmg0
    obtain ⟨fd, hb, hF⟩ := K20.facts (P := (PySem.Challenge.rw_eighthturns_k20_whole_readings_by_number).prog) (w := w) KX G hmg c t
    exact ⟨K, fd, Pd.spP K K20.m_law, KX, hb, fun H a ns hl _ hS => Pd.law_spec (K20.law_true ns hl) hS, hF⟩
end
