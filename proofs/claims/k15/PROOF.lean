import PyProof.Rows.All
import Wide.All
import OpenK.AllK
import Wide.FinOn
import HandS.ForMost
import HandS.ForExc
import HandS.TupAny
import HandS.IsInst
import HandS.Zip
import HandS.Strs
import HandS.Rev
import HandS.TupSets
import HandS.SortOrd
import HandS.DictComp
import KE.GoesMore
import KE.GoesEnum
import HandS.Sort
import HandS.SortKw
import KE.DatumOrd
import PySem.Challenge.RW_meetonce_k15_lot_held
set_option Elab.async false
set_option linter.all false
set_option maxRecDepth 100000
/-! Fx: defs as pure functions over data, tied to the program by one lemma a construct. First: tuples whose object is known (it has no dict, so that a method may be called on it). -/
namespace Fx
open PySem PySem.Spec PyProof.Rows L2

/-- a tuple whose object is known -/
def KTup (H : Hp) (a : Addr) (vs : List V) : Prop := ∃ o : Obj, H a = some (.frz o (.tup vs)) ∧ o.dict = none
theorem KTup.sq {K : PySem.W.Frag} {H : Hp} {a : Addr} {vs : List V} (h : KTup H a vs) : SqT K H a vs := by
  obtain ⟨o, h, _⟩ := h
  exact .inl (.inr ⟨o, h⟩)
theorem KTup.mono {H H' : Hp} {a : Addr} {vs : List V} (e : Same H H') (h : KTup H a vs) : KTup H' a vs := by
  obtain ⟨o, h, d⟩ := h
  exact ⟨o, e _ _ h, d⟩
section
variable {X : Cx} {e : Expr} {es : List Expr} {te : TE} {t : TA} {pos : Pos}
abbrev QNew (Q : VK) (H : Hp) (vs : List V) : Prop := ∀ (p : Addr) (o : Obj), H p = none → o.dict = none → Q (.ref p) (upd H p (.frz o (.tup vs)))
def tTupF (t : TA) : TE := fun σ H Q => t σ H fun xs H1 => xs.length ≤ sizeLine ∧ QNew Q H1 xs
theorem pe_tupF {x1} (h : PA X es t) : PE X (.Tuple es x1 pos) (tTupF t) := by
  refine ⟨fun pins s σ H Q I hq => ?_⟩
  refine wpAny_Tuple_spliced (thn (h.run pos pins s σ H _ I hq) fun us s1 ⟨xs, H1, I1, r, z, q⟩ => ⟨by rw [← r.length]; exact z, ?_⟩)
  have hf : H1 s1.heap.objs.size = none := I1.hok.fresh (Nat.le_refl _)
  refine ⟨.ref s1.heap.objs.size, _, I1.laid (t' := s1.toks) (o := .frz { cls := .type "tuple", data := .seq us.toArray } (.tup xs)) (fun b u e => Heap.get?_push_of_some _ e) (Nat.le_refl _) ?_, rfl, q _ _ hf rfl⟩
  exact ⟨Heap.get?_push_size _ rfl, z, us, r, ⟨_, Heap.get?_push_size _ rfl, rfl, _, rfl⟩⟩
theorem newTup {pins : List (Addr × Obj)} {σ : L2.St} {H : Hp} {s : Shared} {xs : List V} {us : List Value} (I : L2.Inv X pins σ H s) (r : Vals xs us) (hz : xs.length ≤ sizeLine) :
    L2.Inv X pins σ (upd H s.heap.objs.size (.frz { cls := .type "tuple", data := .seq us.toArray } (.tup xs))) { s with heap := s.heap.push { cls := .type "tuple", data := .seq us.toArray } } :=
  I.laid (t' := s.toks) (fun b ob q => Heap.get?_push_of_some _ q) (Nat.le_refl _) ⟨Heap.get?_push_size _ rfl, hz, us, r, IsTup.new _ _⟩
def rCatF (K : PySem.W.Frag) : R2 := fun x y H Q => ∃ a b xs ys, x = .ref a ∧ y = .ref b ∧ SqT K H a xs ∧ SqT K H b ys ∧ xs.length + ys.length ≤ sizeLine ∧
  (xs = [] → Q (.ref b) H) ∧ (xs ≠ [] → ys = [] → Q (.ref a) H) ∧ (xs ≠ [] → ys ≠ [] → QNew Q H (xs ++ ys))
theorem op_catF : OpR X (binaryOp .Add) (rCatF X.K) := by
  intro pins s σ H x y v u Q I rx ry h
  obtain ⟨a, b, xs, ys, rfl, rfl, ha, hb, hz, q0, q1, q2⟩ := h
  cases rx
  cases ry
  obtain ⟨its, r1, p1, _⟩ := I.tuple ha
  obtain ⟨its2, r2, p2, _⟩ := I.tuple hb
  by_cases hx : xs = []
  · subst hx
    cases r1
    exact cat_tup0 p1 p2 ⟨.ref b, H, I, rfl, q0 rfl⟩
  · refine HT.cat_tup p1 p2 (fun z => hx (r1.nil_iff.mp z)) (fun z => ⟨.ref a, H, I, rfl, q1 hx (r2.nil_iff.mp z)⟩) (fun z => ?_) (by rw [← r1.length, ← r2.length]; exact hz)
    exact ⟨.ref s.heap.objs.size, _, newTup I (r1.append r2) (by rw [List.length_append]; exact hz), rfl, q2 hx (fun w => z (r2.nil_iff.mpr w)) _ _ (I.hok.fresh (Nat.le_refl _)) rfl⟩
def rSlF (K : PySem.W.Frag) : V → Option Int → Option Int → Hp → VK → Prop := fun x lo hi H Q => ∃ a xs, x = .ref a ∧ SqT K H a xs ∧
  (HT.sIx xs.length 0 lo = 0 ∧ HT.sIx xs.length xs.length hi = xs.length → Q (.ref a) H) ∧ (¬ (HT.sIx xs.length 0 lo = 0 ∧ HT.sIx xs.length xs.length hi = xs.length) → QNew Q H (cutV xs lo hi))
theorem sl_tupF : SlR X (rSlF X.K) := by
  intro pins s σ H x v vl vu lo hi sl Q I rx hs pl pu h
  obtain ⟨a, xs, rfl, hx, q1, q2⟩ := h
  cases rx
  obtain ⟨its, r, ht, hz⟩ := I.tuple hx
  have hlen : its.toArray.size = xs.length := by rw [List.size_toArray]; exact r.length.symm
  by_cases hw : HT.sIx xs.length 0 lo = 0 ∧ HT.sIx xs.length xs.length hi = xs.length
  · refine ⟨"tuple", _, PyProof.Rows.slot_tuple_getitem.lookup, ht.typeIs, ?_⟩
    exact getItem_tuple_whole ht hs pl pu (by rw [hlen]; exact hw) ⟨.ref a, H, I, rfl, q1 hw⟩
  · refine ⟨"tuple", _, PyProof.Rows.slot_tuple_getitem.lookup, ht.typeIs, ?_⟩
    refine HT.getItem_tuple_cut ht hs pl pu (by rw [hlen]; exact hw) ?_ (by rw [hlen]; exact hz)
    rw [hlen]
    exact ⟨.ref s.heap.objs.size, _, newTup I ((r.drop (HT.sIx xs.length 0 lo)).take (HT.sIx xs.length xs.length hi - HT.sIx xs.length 0 lo)) (Nat.le_trans (cutV_length xs lo hi) hz), rfl, q2 hw _ _ (I.hok.fresh (Nat.le_refl _)) rfl⟩
theorem call_tuple_ofF : CallR X (.type "tuple") (fun xs H Q => ∃ p ys, xs = [.ref p] ∧ ((SqL X.K H p ys ∧ QNew Q H ys) ∨ (SqT X.K H p ys ∧ Q (.ref p) H))) := by
  intro pins s σ H xs us Q I r h
  obtain ⟨p, ys, rfl, h⟩ := h
  obtain ⟨u, rfl, rx⟩ := vals1 r
  cases rx
  have hn := line63
  rcases h with ⟨hq, q⟩ | ⟨hq, q⟩
  · obtain ⟨its, r', pl, hz⟩ := I.list hq
    have hlen := r'.length
    refine call_tuple_list pl.isList (fun h' kp => ?_) (by simp only [List.size_toArray] <;> omega)
    have I1 : L2.Inv X pins σ H { s with heap := h' } := I.kept (t' := s.toks) kp
    exact ⟨.ref h'.objs.size, _, newTup I1 r' hz, rfl, q _ _ (I1.hok.fresh (Nat.le_refl _)) rfl⟩
  · obtain ⟨its, r', pl, hz⟩ := I.tuple hq
    exact call_tuple_same pl ⟨.ref p, H, I, rfl, q⟩
/-- a.index(y), a list or a known tuple of ints -/
def tIdx (K : PySem.W.Frag) (to ta : TE) : TE := fun σ H Q => to σ H fun x H1 => (∃ (a : Addr) (ns : List Int), x = .ref a ∧ (SqL K H1 a (ns.map V.int) ∨ KTup H1 a (ns.map V.int))) ∧ ta σ H1 fun y H2 => ∃ (a : Addr) (ns : List Int) (i : Int) (j : Nat), x = .ref a ∧ y = .int i ∧ (SqL K H2 a (ns.map V.int) ∨ KTup H2 a (ns.map V.int)) ∧ ns[j]? = some i ∧ (∀ m, m < j → ns[m]? ≠ some i) ∧ Q (.int (j : Nat)) H2
end
end Fx

set_option Elab.async false
set_option linter.all false
set_option maxRecDepth 100000
namespace Fx
open PySem PySem.Spec PyProof.Rows L2

/-! ### data -/
inductive D where
  | non | bl (b : Bool) | int (i : Int) | str (x : Str)
  | lst (xs : List D) | tup (xs : List D)
  /-- a tuple that may be a dict's key -/
  | ktp (xs : List D)
  /-- the script, or another list of ints that is locked -/
  | scr (ns : List Int)
  | obj (c : Str) (ks : List Str) (xs : List D)
  | dct (ks : List (List Key)) (xs : List D)
  /-- a set of tuples of ints, by its members -/
  | set (ks : List (List Int))
  /-- a range that is kept -/
  | rng (lo hi : Int)

structure Kt where
  K : PySem.W.Frag
  cls : Str → Option Addr
  P : Program
  w : World

mutual
/-- v stands for d in the heap H -/
inductive Rp (T : Kt) (H : Hp) : V → D → Prop
  | non : Rp T H .non .non
  | bl (b : Bool) : Rp T H (.bl b) (.bl b)
  | int (i : Int) : Rp T H (.int i) (.int i)
  | str (x : Str) : Rp T H (.str x) (.str x)
  | lst {a : Addr} {vs : List V} {ds : List D} : H a = some (.lst vs) → RpL T H vs ds → Rp T H (.ref a) (.lst ds)
  | tup {a : Addr} {vs : List V} {ds : List D} : KTup H a vs → RpL T H vs ds → Rp T H (.ref a) (.tup ds)
  | ktp {a : Addr} {vs : List V} {ds : List D} : H a = some (.tup vs) → RpL T H vs ds → Rp T H (.ref a) (.ktp ds)
  | scr {a : Addr} {ns : List Int} : SqL T.K H a (ns.map V.int) → Rp T H (.ref a) (.scr ns)
  | obj {a C dx : Addr} {fs : List (Str × V)} {c : Str} {ks : List Str} {ds : List D} : T.cls c = some C → H a = some (.ins C dx fs) → fs.map Prod.fst = ks → RpL T H (fs.map Prod.snd) ds → Rp T H (.ref a) (.obj c ks ds)
  | dct {a : Addr} {kvs : List (List Key × V)} {ks : List (List Key)} {ds : List D} : H a = some (.dT kvs) → kvs.map Prod.fst = ks → RpL T H (kvs.map Prod.snd) ds → Rp T H (.ref a) (.dct ks ds)
  | set {a : Addr} {L : List (Addr × List Int)} {ks : List (List Int)} : H a = some (SetTO T.P T.w a L) → (∀ p ∈ L, SqT T.K H p.1 (p.2.map V.int)) → (∀ k, k ∈ L.map Prod.snd ↔ k ∈ ks) → L.length ≤ ks.length → Rp T H (.ref a) (.set ks)
  | rng {a : Addr} {lo hi : Int} : H a = some (.rng lo hi) → Rp T H (.ref a) (.rng lo hi)
inductive RpL (T : Kt) (H : Hp) : List V → List D → Prop
  | nil : RpL T H [] []
  | cons {v : V} {vs : List V} {d : D} {ds : List D} : Rp T H v d → RpL T H vs ds → RpL T H (v :: vs) (d :: ds)
end

theorem sqT_mono {K : PySem.W.Frag} {H H' : Hp} {a : Addr} {xs : List V} (e : Same H H') (h : SqT K H a xs) : SqT K H' a xs := by
  rcases h with (h | ⟨o, h⟩) | h
  · exact .inl (.inl (e _ _ h))
  · exact .inl (.inr ⟨o, e _ _ h⟩)
  · exact .inr h

mutual
theorem Rp.mono {T : Kt} {H H' : Hp} (e : Same H H') : ∀ (d : D) (v : V), Rp T H v d → Rp T H' v d
  | .non, _, h => by cases h; exact .non
  | .bl b, _, h => by cases h; exact .bl b
  | .int i, _, h => by cases h; exact .int i
  | .str x, _, h => by cases h; exact .str x
  | .lst ds, _, h => by
    cases h with
    | lst hs ha => exact .lst (e _ _ hs) (RpL.mono e ds _ ha)
  | .tup ds, _, h => by
    cases h with
    | tup hs ha => exact .tup (hs.mono e) (RpL.mono e ds _ ha)
  | .ktp ds, _, h => by
    cases h with
    | ktp hs ha => exact .ktp (e _ _ hs) (RpL.mono e ds _ ha)
  | .scr ns, _, h => by
    cases h with
    | scr hs => exact .scr (e.seq hs)
  | .obj c ks ds, _, h => by
    cases h with
    | obj hc hs hk ha => exact .obj hc (e _ _ hs) hk (RpL.mono e ds _ ha)
  | .dct ks ds, _, h => by
    cases h with
    | dct hs hk ha => exact .dct (e _ _ hs) hk (RpL.mono e ds _ ha)
  | .set ks, _, h => by
    cases h with
    | set hs hp hk hl => exact .set (e _ _ hs) (fun p hq => sqT_mono e (hp p hq)) hk hl
  | .rng lo hi, _, h => by
    cases h with
    | rng hs => exact .rng (e _ _ hs)
theorem RpL.mono {T : Kt} {H H' : Hp} (e : Same H H') : ∀ (ds : List D) (vs : List V), RpL T H vs ds → RpL T H' vs ds
  | [], _, h => by cases h; exact .nil
  | d :: ds, _, h => by
    cases h with
    | cons h1 h2 => exact .cons (Rp.mono e d _ h1) (RpL.mono e ds _ h2)
end
theorem RpL.length {T : Kt} {H : Hp} : ∀ {vs : List V} {ds : List D}, RpL T H vs ds → vs.length = ds.length
  | _, _, .nil => rfl
  | _, _, .cons _ t => by rw [List.length_cons, List.length_cons, t.length]
theorem RpL.get {T : Kt} {H : Hp} : ∀ {vs : List V} {ds : List D} {i : Nat} {d : D}, RpL T H vs ds → ds[i]? = some d → ∃ v, vs[i]? = some v ∧ Rp T H v d
  | _, _, _, _, .nil, e => by simp at e
  | _, _, 0, _, .cons r _, e => by simp at e; subst e; exact ⟨_, rfl, r⟩
  | _, _, i + 1, _, .cons _ t, e => by
    obtain ⟨v, h1, h2⟩ := RpL.get (i := i) t (by simpa using e)
    exact ⟨v, by simpa using h1, h2⟩
theorem RpL.app {T : Kt} {H : Hp} : ∀ {vs ws : List V} {ds es : List D}, RpL T H vs ds → RpL T H ws es → RpL T H (vs ++ ws) (ds ++ es)
  | _, _, _, _, .nil, s => s
  | _, _, _, _, .cons r t, s => .cons r (RpL.app t s)
theorem RpL.take {T : Kt} {H : Hp} : ∀ {vs : List V} {ds : List D} (n : Nat), RpL T H vs ds → RpL T H (vs.take n) (ds.take n)
  | _, _, 0, _ => .nil
  | _, _, _ + 1, .nil => .nil
  | _, _, n + 1, .cons r t => .cons r (RpL.take n t)
theorem RpL.drop {T : Kt} {H : Hp} : ∀ {vs : List V} {ds : List D} (n : Nat), RpL T H vs ds → RpL T H (vs.drop n) (ds.drop n)
  | _, _, 0, r => r
  | _, _, _ + 1, .nil => .nil
  | _, _, n + 1, .cons _ t => RpL.drop n t
theorem RpL.set {T : Kt} {H : Hp} {v : V} {d : D} (r : Rp T H v d) : ∀ {vs : List V} {ds : List D} (i : Nat), RpL T H vs ds → RpL T H (vs.set i v) (ds.set i d)
  | _, _, _, .nil => .nil
  | _, _, 0, .cons _ t => .cons r t
  | _, _, i + 1, .cons q t => .cons q (RpL.set r i t)
theorem RpL.rep {T : Kt} {H : Hp} {vs : List V} {ds : List D} (h : RpL T H vs ds) : ∀ k : Nat, RpL T H (List.replicate k vs).flatten (List.replicate k ds).flatten
  | 0 => .nil
  | k + 1 => by
    rw [List.replicate_succ, List.replicate_succ, List.flatten_cons, List.flatten_cons]
    exact h.app (RpL.rep h k)
theorem RpL.ints {T : Kt} {H : Hp} : ∀ {vs : List V} {ns : List Int}, RpL T H vs (ns.map D.int) → vs = ns.map V.int
  | [], [], _ => rfl
  | [], _ :: _, h => by cases h
  | _ :: _, [], h => by cases h
  | _ :: _, _ :: _, h => by
    cases h with
    | cons h1 h2 => cases h1; rw [RpL.ints h2]; rfl
theorem RpL.bls {T : Kt} {H : Hp} : ∀ {vs : List V} {ns : List Bool}, RpL T H vs (ns.map D.bl) → vs = ns.map V.bl
  | [], [], _ => rfl
  | [], _ :: _, h => by cases h
  | _ :: _, [], h => by cases h
  | _ :: _, _ :: _, h => by
    cases h with
    | cons h1 h2 => cases h1; rw [RpL.bls h2]; rfl
theorem RpL.ofInts {T : Kt} {H : Hp} : ∀ (ns : List Int), RpL T H (ns.map V.int) (ns.map D.int)
  | [] => .nil
  | n :: ns => .cons (.int n) (RpL.ofInts ns)

/-! ### the three heaps: F what may be kept, B what stands through the def, H all -/
structure W3 where
  F : Hp
  B : Hp
  H : Hp
  fb : Same F B
  bh : Same B H
inductive Lv where | f | b | h
def W3.at (w : W3) : Lv → Hp
  | .f => w.F
  | .b => w.B
  | .h => w.H
theorem W3.atH (w : W3) : ∀ l : Lv, Same (w.at l) w.H
  | .f => w.fb.trans w.bh
  | .b => w.bh
  | .h => .refl _
structure Le (w w' : W3) : Prop where
  F : Same w.F w'.F
  B : Same w.B w'.B
  H : Same w.H w'.H
  kF : ∀ a, Mut (w.H a) → w.F a = none → w'.F a = none
  kB : ∀ a, Mut (w.H a) → w.B a = none → w'.B a = none
theorem Le.refl (w : W3) : Le w w := ⟨.refl _, .refl _, .refl _, fun _ _ h => h, fun _ _ h => h⟩
theorem mut_same {H H' : Hp} {a : Addr} (e : Same H H') (m : Mut (H a)) : Mut (H' a) := by
  cases h : H a with
  | none => rw [h] at m; exact m.elim
  | some o => rw [e a o h]; rw [h] at m; exact m
theorem Le.trans {w w1 w2 : W3} (a : Le w w1) (b : Le w1 w2) : Le w w2 :=
  ⟨a.F.trans b.F, a.B.trans b.B, a.H.trans b.H, fun x m h => b.kF x (mut_same a.H m) (a.kF x m h), fun x m h => b.kB x (mut_same a.H m) (a.kB x m h)⟩
theorem Le.at {w w' : W3} (e : Le w w') : ∀ l : Lv, Same (w.at l) (w'.at l)
  | .f => e.F
  | .b => e.B
  | .h => e.H
theorem same_upd2 {H H' : Hp} {p : Addr} {o : HO} (e : Same H H') (h : H p = none) : Same H (upd H' p o) := fun b u q => by
  rw [upd_ne (ne_of_none q h)]
  exact e b u q
theorem same_updB {H H' : Hp} {p : Addr} {o : HO} (e : Same H H') : Same (upd H p o) (upd H' p o) := fun b u q => by
  by_cases hb : b = p
  · subst hb; rw [upd_same] at q ⊢; exact q
  · rw [upd_ne hb] at q ⊢; exact e b u q
theorem none_back {H H' : Hp} {a : Addr} (e : Same H H') (h : H' a = none) : H a = none := e.free h
/-- a new object, laid at level f, b or h -/
def W3.new (w : W3) (l : Lv) (p : Addr) (o : HO) (hp : w.H p = none) : W3 :=
  match l with
  | .f => ⟨upd w.F p o, upd w.B p o, upd w.H p o, same_updB w.fb, same_updB w.bh⟩
  | .b => ⟨w.F, upd w.B p o, upd w.H p o, same_upd2 w.fb (none_back (w.fb.trans w.bh) hp), same_updB w.bh⟩
  | .h => ⟨w.F, w.B, upd w.H p o, w.fb, same_upd2 w.bh (none_back w.bh hp)⟩
theorem W3.new_H (w : W3) (l : Lv) (p : Addr) (o : HO) (hp : w.H p = none) : (w.new l p o hp).H = upd w.H p o := by cases l <;> rfl
theorem same_new {H : Hp} {p : Addr} {o : HO} (h : H p = none) : Same H (upd H p o) := same_upd2 (.refl _) h
theorem W3.new_le (w : W3) (l : Lv) (p : Addr) (o : HO) (hp : w.H p = none) : Le w (w.new l p o hp) := by
  have hb := none_back w.bh hp
  have hf := none_back w.fb hb
  have ne : ∀ a, Mut (w.H a) → a ≠ p := fun a m e => by subst e; rw [hp] at m; exact m
  cases l with
  | f => exact ⟨same_new hf, same_new hb, same_new hp, fun a m h => by rw [show (w.new .f p o hp).F = upd w.F p o from rfl, upd_ne (ne a m)]; exact h, fun a m h => by rw [show (w.new .f p o hp).B = upd w.B p o from rfl, upd_ne (ne a m)]; exact h⟩
  | b => exact ⟨.refl _, same_new hb, same_new hp, fun a m h => h, fun a m h => by rw [show (w.new .b p o hp).B = upd w.B p o from rfl, upd_ne (ne a m)]; exact h⟩
  | h => exact ⟨.refl _, .refl _, same_new hp, fun a m h => h, fun a m h => h⟩
theorem W3.new_at (w : W3) (l : Lv) (p : Addr) (o : HO) (hp : w.H p = none) : ((w.new l p o hp).at l) p = some o := by cases l <;> exact upd_same

/-! ### results -/
inductive Res where
  | at (l : Lv) (d : D)
  | own (ds : List D)
  /-- a look at an own list -/
  | pk (ds : List D)
  /-- an own list of own lists -/
  | own2 (dss : List (List D))
  /-- an own dict whose keys are tuples -/
  | ownT (kvs : List (List Key × D))
  /-- another name of the j-th list of the own2 in slot i -/
  | ali (i j : Nat)
  /-- an own instance -/
  | ownI (c : Str) (ks : List Str) (ds : List D)
  /-- an own set of tuples of ints -/
  | ownS (ks : List (List Int))
def Res.d : Res → D
  | .at _ d => d
  | .own ds => .lst ds
  | .pk ds => .lst ds
  | .own2 dss => .lst (dss.map .lst)
  | .ownT kvs => .dct (kvs.map Prod.fst) (kvs.map Prod.snd)
  | .ali _ _ => .non
  | .ownI c ks ds => .obj c ks ds
  | .ownS ks => .set ks
def Res.lv : Res → Lv
  | .at l _ => l
  | _ => .h
/-- the items' level -/
def Res.il : Res → Lv
  | .at l _ => l
  | .own _ => .f
  | .pk _ => .f
  | _ => .h
/-- the lists of an own2 -/
inductive O2 (T : Kt) (w : W3) : List Addr → List (List D) → Prop
  | nil : O2 T w [] []
  | cons {x : Addr} {as : List Addr} {vs : List V} {ds : List D} {dss : List (List D)} : w.H x = some (.lst vs) → RpL T w.F vs ds → w.F x = none → w.B x = none → O2 T w as dss → O2 T w (x :: as) (ds :: dss)
def ResOk (T : Kt) (w : W3) (v : V) : Res → Prop
  | .at l d => Rp T (w.at l) v d
  | .own ds => ∃ a vs, v = .ref a ∧ w.H a = some (.lst vs) ∧ RpL T w.F vs ds ∧ w.F a = none ∧ w.B a = none
  | .pk ds => ∃ a vs, v = .ref a ∧ w.H a = some (.lst vs) ∧ RpL T w.F vs ds
  | .own2 dss => ∃ a as, v = .ref a ∧ w.H a = some (.lst (as.map V.ref)) ∧ O2 T w as dss ∧ (a :: as).Nodup ∧ w.F a = none ∧ w.B a = none
  | .ownT kvs => ∃ a kvv, v = .ref a ∧ w.H a = some (.dT kvv) ∧ kvv.map Prod.fst = kvs.map Prod.fst ∧ RpL T w.F (kvv.map Prod.snd) (kvs.map Prod.snd) ∧ w.F a = none ∧ w.B a = none
  | .ali _ _ => False
  | .ownI c ks ds => ∃ a C dx fs, v = .ref a ∧ T.cls c = some C ∧ w.H a = some (.ins C dx fs) ∧ fs.map Prod.fst = ks ∧ RpL T w.F (fs.map Prod.snd) ds ∧ w.F a = none ∧ w.B a = none
  | .ownS ks => ∃ a L, v = .ref a ∧ w.H a = some (SetTO T.P T.w a L) ∧ (∀ p ∈ L, SqT T.K w.F p.1 (p.2.map V.int)) ∧ (∀ k, k ∈ L.map Prod.snd ↔ k ∈ ks) ∧ L.length ≤ ks.length ∧ w.F a = none ∧ w.B a = none
theorem O2.rp {T : Kt} {w : W3} : ∀ {as : List Addr} {dss : List (List D)}, O2 T w as dss → RpL T w.H (as.map V.ref) (dss.map D.lst)
  | _, _, .nil => .nil
  | _, _, .cons h1 h2 _ _ t => .cons (.lst h1 (RpL.mono (w.atH .f) _ _ h2)) t.rp
theorem O2.mono {T : Kt} {w w' : W3} (e : Le w w') : ∀ {as : List Addr} {dss : List (List D)}, O2 T w as dss → O2 T w' as dss
  | _, _, .nil => .nil
  | _, _, .cons h1 h2 h3 h4 t => .cons (e.H _ _ h1) (RpL.mono e.F _ _ h2) (e.kF _ (by rw [h1]; exact True.intro) h3) (e.kB _ (by rw [h1]; exact True.intro) h4) (t.mono e)
theorem O2.mem {T : Kt} {w : W3} {x : Addr} : ∀ {as : List Addr} {dss : List (List D)}, O2 T w as dss → x ∈ as → ∃ vs, w.H x = some (.lst vs) ∧ w.F x = none ∧ w.B x = none
  | _, _, .nil, h => by cases h
  | _, _, .cons h1 _ h3 h4 t, h => by
    rcases List.mem_cons.mp h with rfl | h
    · exact ⟨_, h1, h3, h4⟩
    · exact t.mem h
theorem O2.get {T : Kt} {w : W3} : ∀ {as : List Addr} {dss : List (List D)} {k : Nat} {v : V} {ds : List D}, O2 T w as dss → (as.map V.ref)[k]? = some v → dss[k]? = some ds → ∃ x vs, v = .ref x ∧ w.H x = some (.lst vs) ∧ RpL T w.F vs ds
  | _, _, _, _, _, .nil, h, _ => by simp at h
  | _, _, 0, _, _, .cons h1 h2 _ _ _, h, h' => by
    simp at h h'
    subst h; subst h'
    exact ⟨_, _, rfl, h1, h2⟩
  | _, _, k + 1, _, _, .cons _ _ _ _ t, h, h' => t.get (k := k) (by simpa using h) (by simpa using h')
theorem ResOk.rp {T : Kt} {w : W3} {v : V} : ∀ {r : Res}, ResOk T w v r → Rp T (w.at r.lv) v r.d
  | .at _ _, h => h
  | .own ds, ⟨a, vs, e, h, hs, _⟩ => by
    subst e
    exact .lst h (RpL.mono (w.atH .f) ds _ hs)
  | .pk ds, ⟨a, vs, e, h, hs⟩ => by
    subst e
    exact .lst h (RpL.mono (w.atH .f) ds _ hs)
  | .own2 dss, ⟨a, as, e, h, ho, _⟩ => by
    subst e
    exact .lst h ho.rp
  | .ownT kvs, ⟨a, kvv, e, h, hk, hs, _⟩ => by
    subst e
    exact .dct h hk (RpL.mono (w.atH .f) _ _ hs)
  | .ali _ _, h => h.elim
  | .ownI c ks ds, ⟨a, C, dx, fs, e, hc, h, hk, hs, _⟩ => by
    subst e
    exact .obj hc h hk (RpL.mono (w.atH .f) _ _ hs)
  | .ownS ks, ⟨a, L, e, h, hp, hk, hl, _⟩ => by
    subst e
    exact .set h (fun p hq => sqT_mono (w.atH .f) (hp p hq)) hk hl
theorem ResOk.rpH {T : Kt} {w : W3} {v : V} {r : Res} (h : ResOk T w v r) : Rp T w.H v r.d := Rp.mono (w.atH r.lv) _ _ h.rp
theorem ResOk.mono {T : Kt} {w w' : W3} {v : V} (e : Le w w') : ∀ {r : Res}, ResOk T w v r → ResOk T w' v r
  | .at l d, h => Rp.mono (e.at l) d v h
  | .own ds, ⟨a, vs, e1, h, hs, hf, hb⟩ => ⟨a, vs, e1, e.H _ _ h, RpL.mono e.F ds _ hs, e.kF a (by rw [h]; exact True.intro) hf, e.kB a (by rw [h]; exact True.intro) hb⟩
  | .pk ds, ⟨a, vs, e1, h, hs⟩ => ⟨a, vs, e1, e.H _ _ h, RpL.mono e.F ds _ hs⟩
  | .own2 dss, ⟨a, as, e1, h, ho, hn, hf, hb⟩ => ⟨a, as, e1, e.H _ _ h, ho.mono e, hn, e.kF a (by rw [h]; exact True.intro) hf, e.kB a (by rw [h]; exact True.intro) hb⟩
  | .ownT kvs, ⟨a, kvv, e1, h, hk, hs, hf, hb⟩ => ⟨a, kvv, e1, e.H _ _ h, hk, RpL.mono e.F _ _ hs, e.kF a (by rw [h]; exact True.intro) hf, e.kB a (by rw [h]; exact True.intro) hb⟩
  | .ali _ _, h => h.elim
  | .ownI c ks ds, ⟨a, C, dx, fs, e1, hc, h, hk, hs, hf, hb⟩ => ⟨a, C, dx, fs, e1, hc, e.H _ _ h, hk, RpL.mono e.F _ _ hs, e.kF a (by rw [h]; exact True.intro) hf, e.kB a (by rw [h]; exact True.intro) hb⟩
  | .ownS ks, ⟨a, L, e1, h, hp, hk, hl, hf, hb⟩ => ⟨a, L, e1, e.H _ _ h, fun p hq => sqT_mono e.F (hp p hq), hk, hl, e.kF a (by rw [h]; exact True.intro) hf, e.kB a (by rw [h]; exact True.intro) hb⟩
/-- an own result is new -/
def Frs (w : W3) (v : V) : Res → Prop
  | .own _ => ∀ a, v = .ref a → w.H a = none
  | .ownT _ => ∀ a, v = .ref a → w.H a = none
  | .ownI _ _ _ => ∀ a, v = .ref a → w.H a = none
  | .ownS _ => ∀ a, v = .ref a → w.H a = none
  | _ => True
theorem Frs.back {w w' : W3} {v : V} (e : Same w.H w'.H) : ∀ {r : Res}, Frs w' v r → Frs w v r
  | .at _ _, _ => True.intro
  | .own _, h => fun a q => none_back e (h a q)
  | .ownT _, h => fun a q => none_back e (h a q)
  | .ownI _ _ _, h => fun a q => none_back e (h a q)
  | .ownS _, h => fun a q => none_back e (h a q)
  | .pk _, _ => True.intro
  | .own2 _, _ => True.intro
  | .ali _ _, _ => True.intro
def atomic : D → Bool
  | .non => true
  | .bl _ => true
  | .int _ => true
  | .str _ => true
  | _ => false
theorem Rp.any {T : Kt} {H H' : Hp} {v : V} : ∀ {d : D}, atomic d = true → Rp T H v d → Rp T H' v d
  | .non, _, h => by cases h; exact .non
  | .bl b, _, h => by cases h; exact .bl b
  | .int b, _, h => by cases h; exact .int b
  | .str b, _, h => by cases h; exact .str b
  | .lst _, h, _ => by cases h
  | .tup _, h, _ => by cases h
  | .ktp _, h, _ => by cases h
  | .scr _, h, _ => by cases h
  | .obj _ _ _, h, _ => by cases h
  | .dct _ _, h, _ => by cases h
  | .set _, h, _ => by cases h
  | .rng _ _, h, _ => by cases h
/-- level l, or f for what stands in no heap -/
def Res.mk (l : Lv) (d : D) : Res := .at (if atomic d then .f else l) d
theorem ResOk.mk {T : Kt} {w : W3} {v : V} {l : Lv} {d : D} (h : Rp T (w.at l) v d) : ResOk T w v (Res.mk l d) := by
  show Rp T (w.at (if atomic d then .f else l)) v d
  by_cases e : atomic d = true
  · rw [if_pos e]; exact Rp.any e h
  · rw [if_neg e]; exact h
theorem mk_d {l : Lv} {d : D} : (Res.mk l d).d = d := rfl

/-! ### the slots -/
abbrev Ro := List (Option Res)
structure Bas where
  F : Hp
  H : Hp
  /-- the instance that an __init__ makes -/
  slf : Option Addr
structure Bs (b : Bas) (w : W3) : Prop where
  F : Same b.F w.F
  H : Same b.H w.B
  k : ∀ a, Mut (b.H a) → b.F a = none → w.F a = none
/-- what may stand in a slot -/
def slotR : Res → Option Res
  | .at .h _ => none
  | .pk _ => none
  | r => some r
/-- what may be stored there -/
def slotA : Res → Option Res
  | .at .h _ => none
  | .at l d => some (.at l d)
  | .own ds => some (.own ds)
  | .ownT kvs => some (.ownT kvs)
  | .ownS ks => some (.ownS ks)
  | _ => none
def isAli : Res → Bool
  | .ali _ _ => true
  | _ => false
def refsOf (vs : List V) : List Addr := vs.filterMap fun v => match v with
  | .ref a => some a
  | _ => none
theorem refsOf_map (as : List Addr) : refsOf (as.map V.ref) = as := by
  induction as with
  | nil => rfl
  | cons a as ih => show a :: refsOf (as.map V.ref) = _; rw [ih]
def itemsAt (H : Hp) (a : Addr) : List Addr := match H a with
  | some (.lst vs) => refsOf vs
  | _ => []
/-- the objects that a slot owns -/
def foot (H : Hp) : V → Res → List Addr
  | .ref a, .own _ => [a]
  | .ref a, .ownT _ => [a]
  | .ref a, .ownI _ _ _ => [a]
  | .ref a, .ownS _ => [a]
  | .ref a, .own2 _ => a :: itemsAt H a
  | _, _ => []
structure En (T : Kt) (b : Bas) (w : W3) (σ : L2.St) (ρ : Ro) : Prop where
  bs : Bs b w
  at_ : ∀ (i : Nat) (r : Res), ρ[i]? = some (some r) → ∃ v, σ[i]? = some (some v) ∧ (isAli r = false → ResOk T w v r)
  dis : ∀ (i j : Nat) (r q : Res) (v u : V), i ≠ j → ρ[i]? = some (some r) → ρ[j]? = some (some q) → σ[i]? = some (some v) → σ[j]? = some (some u) → ∀ x, x ∈ foot w.H v r → x ∉ foot w.H u q
  len : ρ.length = σ.length
  ok : ∀ (i : Nat) (r : Res), ρ[i]? = some (some r) → slotR r = some r
  al : ∀ (k i j : Nat) (dss : List (List D)) (v : V) (a : Addr), ρ[k]? = some (some (.ali i j)) → ρ[i]? = some (some (.own2 dss)) → σ[k]? = some (some v) → σ[i]? = some (some (.ref a)) → ∃ vs, w.H a = some (.lst vs) ∧ vs[j]? = some v
  sf : ∀ (c : Str) (ks : List Str) (ds : List D), ρ[0]? = some (some (.ownI c ks ds)) → ∃ a, b.slf = some a ∧ σ[0]? = some (some (.ref a))
/-- the object that a foot begins with -/
theorem foot_in {T : Kt} {w : W3} {v : V} {x : Addr} : ∀ {r : Res}, ResOk T w v r → x ∈ foot w.H v r → Mut (w.H x) ∧ w.F x = none ∧ w.B x = none
  | .own ds, ⟨a, vs, e, h, _, hf, hb⟩, hx => by
    subst e
    have hx : x ∈ [a] := hx
    rw [List.mem_singleton] at hx
    subst hx
    exact ⟨by rw [h]; exact True.intro, hf, hb⟩
  | .ownT kvs, ⟨a, kvv, e, h, _, _, hf, hb⟩, hx => by
    subst e
    have hx : x ∈ [a] := hx
    rw [List.mem_singleton] at hx
    subst hx
    exact ⟨by rw [h]; exact True.intro, hf, hb⟩
  | .ownI c ks ds, ⟨a, C, dx, fs, e, _, h, _, _, hf, hb⟩, hx => by
    subst e
    have hx : x ∈ [a] := hx
    rw [List.mem_singleton] at hx
    subst hx
    exact ⟨by rw [h]; exact True.intro, hf, hb⟩
  | .ownS ks, ⟨a, L, e, h, _, _, _, hf, hb⟩, hx => by
    subst e
    have hx : x ∈ [a] := hx
    rw [List.mem_singleton] at hx
    subst hx
    exact ⟨by rw [h]; exact True.intro, hf, hb⟩
  | .own2 dss, ⟨a, as, e, h, ho, hn, hf, hb⟩, hx => by
    subst e
    have hx : x ∈ a :: itemsAt w.H a := hx
    rcases List.mem_cons.mp hx with rfl | hx
    · exact ⟨by rw [h]; exact True.intro, hf, hb⟩
    · unfold itemsAt at hx
      rw [h] at hx
      have hx : x ∈ refsOf (as.map V.ref) := hx
      rw [refsOf_map] at hx
      obtain ⟨vs, h1, h2, h3⟩ := ho.mem hx
      exact ⟨by rw [h1]; exact True.intro, h2, h3⟩
  | .at _ _, _, hx => by cases v <;> cases hx
  | .pk _, _, hx => by cases v <;> cases hx
  | .ali _ _, _, hx => by cases v <;> cases hx
theorem foot_eq {T : Kt} {w w' : W3} {v : V} (e : Same w.H w'.H) : ∀ {r : Res}, (isAli r = false → ResOk T w v r) → foot w'.H v r = foot w.H v r
  | .own2 dss, h => by
    obtain ⟨a, as, e1, h1, _⟩ := h rfl
    subst e1
    show a :: itemsAt w'.H a = a :: itemsAt w.H a
    unfold itemsAt
    rw [h1, e _ _ h1]
  | .own _, _ => by cases v <;> rfl
  | .ownT _, _ => by cases v <;> rfl
  | .ownI _ _ _, _ => by cases v <;> rfl
  | .ownS _, _ => by cases v <;> rfl
  | .at _ _, _ => by cases v <;> rfl
  | .pk _, _ => by cases v <;> rfl
  | .ali _ _, _ => by cases v <;> rfl
theorem Bs.mono {b : Bas} {w w' : W3} (e : Le w w') (h : Bs b w) : Bs b w' :=
  ⟨h.F.trans e.F, h.H.trans e.B, fun a m q => e.kF a (mut_same (h.H.trans w.bh) m) (h.k a m q)⟩
theorem En.mono {T : Kt} {b : Bas} {w w' : W3} {σ : L2.St} {ρ : Ro} (e : Le w w') (h : En T b w σ ρ) : En T b w' σ ρ := by
  refine ⟨h.bs.mono e, fun i r q => ?_, fun i j r q v u hij h1 h2 h3 h4 x hx => ?_, h.len, h.ok, fun k i j dss v a h1 h2 h3 h4 => ?_, h.sf⟩
  · obtain ⟨v, h1, h2⟩ := h.at_ i r q
    exact ⟨v, h1, fun z => (h2 z).mono e⟩
  · obtain ⟨v', h5, h6⟩ := h.at_ i r h1
    obtain ⟨u', h7, h8⟩ := h.at_ j q h2
    rw [h3] at h5
    cases h5
    rw [h4] at h7
    cases h7
    rw [foot_eq e.H h6] at hx
    rw [foot_eq e.H h8]
    exact h.dis i j r q v u hij h1 h2 h3 h4 x hx
  · obtain ⟨vs, h5, h6⟩ := h.al k i j dss v a h1 h2 h3 h4
    exact ⟨vs, e.H _ _ h5, h6⟩

/-! ### readings -/
def tE (T : Kt) (b : Bas) (φ : Ro → Option Res) : TE := fun σ H Q => ∃ w ρ r, w.H = H ∧ En T b w σ ρ ∧ φ ρ = some r ∧ ∀ v w', Le w w' → ResOk T w' v r → Frs w v r → Q v w'.H
def tT (T : Kt) (b : Bas) (φ : Ro → Option Bool) : TT := fun σ H Q => ∃ w ρ k, w.H = H ∧ En T b w σ ρ ∧ φ ρ = some k ∧ ∀ w', Le w w' → Q k w'.H
abbrev ArgsOk (T : Kt) (w : W3) : List V → List Res → Prop := Paired fun v r => ResOk T w v r
def tA (T : Kt) (b : Bas) (φ : Ro → Option (List Res)) : TA := fun σ H Q => ∃ w ρ rs, w.H = H ∧ En T b w σ ρ ∧ φ ρ = some rs ∧ ∀ vs w', Le w w' → ArgsOk T w' vs rs → Q vs w'.H
inductive Out where
  | nx (ρ : Ro) | rt (r : Res) | bk (ρ : Ro) | ct (ρ : Ro)
/-- what was at F and B is there -/
structure Gr (w w' : W3) : Prop where
  F : Same w.F w'.F
  B : Same w.B w'.B
theorem Gr.refl (w : W3) : Gr w w := ⟨.refl _, .refl _⟩
theorem Gr.trans {w w1 w2 : W3} (a : Gr w w1) (b : Gr w1 w2) : Gr w w2 := ⟨a.F.trans b.F, a.B.trans b.B⟩
theorem Le.gr {w w' : W3} (l : Le w w') : Gr w w' := ⟨l.F, l.B⟩
def Cont (T : Kt) (b : Bas) (w0 : W3) (D : Ends) : Out → Prop
  | .nx ρ => ∀ σ w, Gr w0 w → En T b w σ ρ → D.nx σ w.H
  | .bk ρ => ∀ σ w, Gr w0 w → En T b w σ ρ → D.bk σ w.H
  | .ct ρ => ∀ σ w, Gr w0 w → En T b w σ ρ → D.ct σ w.H
  | .rt r => ∀ v w, Bs b w → ResOk T w v r → (∀ ds, r = .own ds → ∀ a, v = .ref a → b.H a = none) → D.rt v w.H
theorem Cont.mono {T : Kt} {b : Bas} {w0 w1 : W3} {D : Ends} {o : Out} (g : Gr w0 w1) (k : Cont T b w0 D o) : Cont T b w1 D o := by
  cases o with
  | nx ρ => exact fun σ w h => k σ w (g.trans h)
  | bk ρ => exact fun σ w h => k σ w (g.trans h)
  | ct ρ => exact fun σ w h => k σ w (g.trans h)
  | rt r => exact k
def tS (T : Kt) (b : Bas) (Φ : Ro → Option Out) : TS := fun D σ H => ∃ w ρ o, w.H = H ∧ En T b w σ ρ ∧ Φ ρ = some o ∧ Cont T b w D o

theorem peImp {X : Cx} {e : Expr} {t t' : TE} (h : PE X e t) (i : ∀ σ H Q, t' σ H Q → t σ H Q) : PE X e t' := ⟨fun pins s σ H Q I q => h.run pins s σ H Q I (i σ H Q q)⟩
theorem ptImp {X : Cx} {e : Expr} {t t' : TT} (h : PT X e t) (i : ∀ σ H Q, t' σ H Q → t σ H Q) : PT X e t' := ⟨fun pins s σ H Q I q => h.run pins s σ H Q I (i σ H Q q)⟩
theorem pwImp {X : Cx} {e : Expr} {t t' : TT} (h : PW X e t) (i : ∀ σ H Q, t' σ H Q → t σ H Q) : PW X e t' := ⟨fun wh pins s σ H Q I q => h.run wh pins s σ H Q I (i σ H Q q)⟩
theorem paImp {X : Cx} {e : List Expr} {t t' : TA} (h : PA X e t) (i : ∀ σ H Q, t' σ H Q → t σ H Q) : PA X e t' := ⟨fun pos pins s σ H Q I q => h.run pos pins s σ H Q I (i σ H Q q)⟩
theorem psImp {X : Cx} {e : Stmt} {t t' : TS} (h : PS X e t) (i : ∀ D σ H, t' D σ H → t D σ H) : PS X e t' := ⟨fun pins s σ H D I q => h.run pins s σ H D I (i D σ H q)⟩
theorem pssImp {X : Cx} {e : List Stmt} {t t' : TS} (h : PSs X e t) (i : ∀ D σ H, t' D σ H → t D σ H) : PSs X e t' := ⟨fun pins s σ H D I q => h.run pins s σ H D I (i D σ H q)⟩
end Fx

set_option Elab.async false
set_option linter.all false
set_option maxRecDepth 100000
namespace Fx
open PySem PySem.Spec PyProof.Rows L2

/-! ### levels -/
def Lv.sup : Lv → Lv → Lv
  | .f, l => l
  | .b, .f => .b
  | .b, l => l
  | .h, _ => .h
theorem W3.sup1 (w : W3) : ∀ l k : Lv, Same (w.at l) (w.at (l.sup k))
  | .f, .f => .refl _
  | .f, .b => w.fb
  | .f, .h => w.fb.trans w.bh
  | .b, .f => .refl _
  | .b, .b => .refl _
  | .b, .h => w.bh
  | .h, _ => .refl _
theorem W3.sup2 (w : W3) : ∀ l k : Lv, Same (w.at k) (w.at (l.sup k))
  | .f, _ => .refl _
  | .b, .f => w.fb
  | .b, .b => .refl _
  | .b, .h => .refl _
  | .h, .f => w.fb.trans w.bh
  | .h, .b => w.bh
  | .h, .h => .refl _
def supAll : List Res → Lv
  | [] => .f
  | r :: rs => r.lv.sup (supAll rs)
theorem args_at {T : Kt} {w : W3} : ∀ {vs : List V} {rs : List Res}, ArgsOk T w vs rs → RpL T (w.at (supAll rs)) vs (rs.map Res.d)
  | _, _, .nil => .nil
  | _, _, .cons h t => .cons (Rp.mono (w.sup1 _ _) _ _ h.rp) (RpL.mono (w.sup2 _ _) _ _ (args_at t))
theorem RpL.anyL {T : Kt} {H H' : Hp} : ∀ {ds : List D} {vs : List V}, ds.all atomic = true → RpL T H vs ds → RpL T H' vs ds
  | [], _, _, h => by cases h; exact .nil
  | d :: ds, _, e, h => by
    simp only [List.all_cons, Bool.and_eq_true] at e
    cases h with
    | cons h1 h2 => exact .cons (Rp.any e.1 h1) (RpL.anyL e.2 h2)
/-- a new list of items at level l -/
def mkL (l : Lv) (ds : List D) : Res := match l with
  | .f => .own ds
  | _ => if ds.all atomic then .own ds else .at l (.lst ds)
theorem mkL_f (ds : List D) : mkL .f ds = .own ds := rfl
theorem mkL_atomic (l : Lv) (ds : List D) (h : ds.all atomic = true) : mkL l ds = .own ds := by
  cases l with
  | f => rfl
  | b => exact if_pos h
  | h => exact if_pos h
theorem mkL_d (l : Lv) (ds : List D) : (mkL l ds).d = .lst ds := by
  cases l with
  | f => rfl
  | b => show (if ds.all atomic then Res.own ds else .at .b (.lst ds)).d = _; split <;> rfl
  | h => show (if ds.all atomic then Res.own ds else .at .h (.lst ds)).d = _; split <;> rfl

/-! ### ends: the value found, the value new -/
section
variable {T : Kt} {w : W3} {v : V} {l : Lv} {d : D} {Q : VK} {rr : Res} {vs : List V} {ds : List D}
abbrev Kq (T : Kt) (w : W3) (rr : Res) (Q : VK) : Prop := ∀ v w', Le w w' → ResOk T w' v rr → Frs w v rr → Q v w'.H
theorem fin_at (k : Kq T w (.mk l d) Q) (h : Rp T (w.at l) v d) : Q v w.H := k v w (.refl w) (.mk h) True.intro
theorem fin_atl (k : Kq T w (.at l d) Q) (h : Rp T (w.at l) v d) : Q v w.H := k v w (.refl w) h True.intro
theorem fin_int {i : Int} (k : Kq T w (.at .f (.int i)) Q) : Q (.int i) w.H := k _ w (.refl w) (.int i) True.intro
theorem fin_bl {i : Bool} (k : Kq T w (.at .f (.bl i)) Q) : Q (.bl i) w.H := k _ w (.refl w) (.bl i) True.intro
theorem fin_str {i : Str} (k : Kq T w (.at .f (.str i)) Q) : Q (.str i) w.H := k _ w (.refl w) (.str i) True.intro
theorem fin_non (k : Kq T w (.at .f .non) Q) : Q .non w.H := k _ w (.refl w) .non True.intro
theorem fin_tup (k : Kq T w (.at l (.tup ds)) Q) (h : RpL T (w.at l) vs ds) : QNew Q w.H vs := fun p o hp ho => by
  have q := k (.ref p) (w.new l p _ hp) (w.new_le l p _ hp) (show ResOk T _ _ (.at l (.tup ds)) from .tup ⟨o, w.new_at l p _ hp, ho⟩ (RpL.mono ((w.new_le l p _ hp).at l) ds vs h)) True.intro
  rw [W3.new_H] at q
  exact q
theorem fin_ktp (k : Kq T w (.at l (.ktp ds)) Q) (h : RpL T (w.at l) vs ds) : ∀ p, w.H p = none → Q (.ref p) (upd w.H p (.tup vs)) := fun p hp => by
  have q := k (.ref p) (w.new l p (.tup vs) hp) (w.new_le l p _ hp) (show ResOk T _ _ (.at l (.ktp ds)) from .ktp (w.new_at l p _ hp) (RpL.mono ((w.new_le l p _ hp).at l) ds vs h)) True.intro
  rw [W3.new_H] at q
  exact q
theorem fin_own (k : Kq T w (.own ds) Q) (h : RpL T w.F vs ds) : ∀ p, w.H p = none → Q (.ref p) (upd w.H p (.lst vs)) := fun p hp => by
  have hb := none_back w.bh hp
  have hf := none_back w.fb hb
  have q := k (.ref p) (w.new .h p (.lst vs) hp) (w.new_le .h p _ hp) ⟨p, vs, rfl, upd_same, h, hf, hb⟩ (fun a e => by cases e; exact hp)
  exact q
theorem fin_lst (k : Kq T w (.at l (.lst ds)) Q) (h : RpL T (w.at l) vs ds) : ∀ p, w.H p = none → Q (.ref p) (upd w.H p (.lst vs)) := fun p hp => by
  have q := k (.ref p) (w.new l p (.lst vs) hp) (w.new_le l p _ hp) (show ResOk T _ _ (.at l (.lst ds)) from .lst (w.new_at l p _ hp) (RpL.mono ((w.new_le l p _ hp).at l) ds vs h)) True.intro
  rw [W3.new_H] at q
  exact q
theorem fin_mkL (k : Kq T w (mkL l ds) Q) (h : RpL T (w.at l) vs ds) : ∀ p, w.H p = none → Q (.ref p) (upd w.H p (.lst vs)) := by
  cases l with
  | f => exact fin_own k h
  | b =>
    by_cases e : ds.all atomic = true
    · rw [show mkL .b ds = .own ds from if_pos e] at k
      exact fin_own k (RpL.anyL e h)
    · rw [show mkL .b ds = .at .b (.lst ds) from if_neg e] at k
      exact fin_lst k h
  | h =>
    by_cases e : ds.all atomic = true
    · rw [show mkL .h ds = .own ds from if_pos e] at k
      exact fin_own k (RpL.anyL e h)
    · rw [show mkL .h ds = .at .h (.lst ds) from if_neg e] at k
      exact fin_lst k h
/-- the items of a result that is a list -/
theorem ResOk.items {r : Res} (h : ResOk T w v r) {xs : List D} (e : r.d = .lst xs) : ∃ a vs, v = .ref a ∧ w.H a = some (.lst vs) ∧ RpL T (w.at r.il) vs xs := by
  cases r with
  | «at» l d =>
    cases (show d = .lst xs from e)
    cases (show Rp T (w.at l) v (.lst xs) from h) with
    | @lst a vs _ h1 h2 => exact ⟨a, vs, rfl, w.atH l _ _ h1, h2⟩
  | own ds =>
    cases (show D.lst ds = .lst xs from e)
    obtain ⟨a, vs, e1, h1, h2, _⟩ := h
    exact ⟨a, vs, e1, h1, h2⟩
  | pk ds =>
    cases (show D.lst ds = .lst xs from e)
    obtain ⟨a, vs, e1, h1, h2⟩ := h
    exact ⟨a, vs, e1, h1, h2⟩
  | own2 dss =>
    cases (show D.lst (dss.map .lst) = .lst xs from e)
    obtain ⟨a, as, e1, h1, h2, _⟩ := h
    exact ⟨a, _, e1, h1, h2.rp⟩
  | ownT kvs => cases (show D.dct _ _ = .lst xs from e)
  | ali i j => exact h.elim
  | ownI _ _ _ => cases (show D.obj _ _ _ = .lst xs from e)
  | ownS _ => cases (show D.set _ = .lst xs from e)
theorem ResOk.titems {r : Res} (h : ResOk T w v r) {xs : List D} (e : r.d = .tup xs) : ∃ a vs, v = .ref a ∧ KTup w.H a vs ∧ RpL T (w.at r.lv) vs xs ∧ Rp T (w.at r.lv) v (.tup xs) := by
  have hr := h.rp
  rw [e] at hr
  cases hr with
  | @tup a vs _ h1 h2 => exact ⟨a, vs, rfl, h1.mono (w.atH _), h2, .tup h1 h2⟩
theorem ResOk.kitems {r : Res} (h : ResOk T w v r) {xs : List D} (e : r.d = .ktp xs) : ∃ a vs, v = .ref a ∧ w.H a = some (.tup vs) ∧ RpL T (w.at r.lv) vs xs ∧ Rp T (w.at r.lv) v (.ktp xs) := by
  have hr := h.rp
  rw [e] at hr
  cases hr with
  | @ktp a vs _ h1 h2 => exact ⟨a, vs, rfl, w.atH _ _ _ h1, h2, .ktp h1 h2⟩
theorem ResOk.isInt {r : Res} (h : ResOk T w v r) {i : Int} (e : r.d = .int i) : v = .int i := by
  have hr := h.rp
  rw [e] at hr
  cases hr
  rfl
theorem ResOk.isBl {r : Res} (h : ResOk T w v r) {i : Bool} (e : r.d = .bl i) : v = .bl i := by
  have hr := h.rp
  rw [e] at hr
  cases hr
  rfl
theorem ResOk.isStr {r : Res} (h : ResOk T w v r) {i : Str} (e : r.d = .str i) : v = .str i := by
  have hr := h.rp
  rw [e] at hr
  cases hr
  rfl
theorem ResOk.isScr {r : Res} (h : ResOk T w v r) {ns : List Int} (e : r.d = .scr ns) : ∃ a, v = .ref a ∧ SqL T.K w.H a (ns.map V.int) := by
  have hr := h.rpH
  rw [e] at hr
  cases hr with
  | @scr a _ h1 => exact ⟨a, rfl, h1⟩
end

/-! ### two-place operations -/
def GOp (T : Kt) (r : R2) (g : Res → Res → Option Res) : Prop :=
  ∀ (w : W3) (x y : V) (rx ry rr : Res) (Q : VK), ResOk T w x rx → ResOk T w y ry → g rx ry = some rr → Kq T w rr Q → r x y w.H Q
def f2 (g : Res → Res → Option Res) (a b : Ro → Option Res) : Ro → Option Res := fun ρ => (a ρ).bind fun x => (b ρ).bind fun y => g x y
theorem f2_ok {T : Kt} {b : Bas} {r : R2} {g : Res → Res → Option Res} (hg : GOp T r g) {φ ψ : Ro → Option Res} (σ : L2.St) (H : Hp) (Q : VK) (h : tE T b (f2 g φ ψ) σ H Q) : tOp r (tE T b φ) (tE T b ψ) σ H Q := by
  obtain ⟨w, ρ, rr, e, en, hφ, k⟩ := h
  unfold f2 at hφ
  cases h1 : φ ρ with
  | none => rw [h1] at hφ; cases hφ
  | some x =>
    cases h2 : ψ ρ with
    | none => rw [h1, h2] at hφ; cases hφ
    | some y =>
      rw [h1, h2] at hφ
      have hφ : g x y = some rr := hφ
      refine ⟨w, ρ, x, e, en, h1, fun vx w1 l1 o1 _ => ?_⟩
      refine ⟨w1, ρ, y, rfl, en.mono l1, h2, fun vy w2 l2 o2 _ => ?_⟩
      exact hg w2 vx vy x y rr Q (o1.mono l2) o2 hφ fun v w3 l3 o3 f3 => k v w3 ((l1.trans l2).trans l3) o3 (f3.back (l1.trans l2).H)

def addR (x y : Res) : Option Res := match x.d, y.d with
  | .int i, .int j => some (.at .f (.int (i + j)))
  | .lst a, .lst c => if a.length + c.length ≤ 100000 then some (mkL (x.il.sup y.il) (a ++ c)) else none
  | .tup a, .tup c => if a.length + c.length ≤ 100000 then some (.at (x.lv.sup y.lv) (.tup (a ++ c))) else none
  | .str a, .str c => if a.length + c.length ≤ 100000 then some (.at .f (.str (a ++ c))) else none
  | _, _ => none
theorem sz {n : Nat} (h : n ≤ 100000) : n ≤ sizeLine := Nat.le_trans h (by decide)
theorem szl {n : Nat} (h : n < 100000) : n < sizeLine := Nat.lt_of_lt_of_le h (by decide)
def rStrAdd : R2 := fun x y H Q => ∃ i j, x = .str i ∧ y = .str j ∧ i.length + j.length ≤ sizeLine ∧ Q (.str (i ++ j)) H
def rAddU (K : PySem.W.Frag) : R2 := fun x y H Q => rI0 (fun i j => .int (i + j)) x y H Q ∨ (rCat x y H Q ∨ (rCatF K x y H Q ∨ rStrAdd x y H Q))
theorem op_addU {X : Cx} : OpR X (binaryOp .Add) (rAddU X.K) := op_add.or (op_cat.or (op_catF.or op_add_str))
theorem RpL.nil_l {T : Kt} {H : Hp} {vs : List V} (h : RpL T H vs []) : vs = [] := by cases h; rfl
theorem RpL.nil_r {T : Kt} {H : Hp} {ds : List D} (h : RpL T H [] ds) : ds = [] := by cases h; rfl
theorem g_add {T : Kt} : GOp T (rAddU T.K) addR := by
  intro w x y rx ry rr Q hx hy hg k
  unfold addR at hg
  split at hg
  · rename_i i j e1 e2
    cases hg
    exact .inl ⟨i, j, hx.isInt e1, hy.isInt e2, fin_int k⟩
  · rename_i a c e1 e2
    by_cases hz : a.length + c.length ≤ 100000
    · rw [if_pos hz] at hg
      cases hg
      obtain ⟨p, vs, rfl, h1, h2⟩ := hx.items e1
      obtain ⟨q, us, rfl, h3, h4⟩ := hy.items e2
      exact .inr (.inl ⟨p, q, vs, us, rfl, rfl, h1, h3, by rw [h2.length, h4.length]; exact sz hz, fin_mkL k (RpL.app (RpL.mono (w.sup1 _ _) _ _ h2) (RpL.mono (w.sup2 _ _) _ _ h4))⟩)
    · rw [if_neg hz] at hg; cases hg
  · rename_i a c e1 e2
    by_cases hz : a.length + c.length ≤ 100000
    · rw [if_pos hz] at hg
      cases hg
      obtain ⟨p, vs, rfl, h1, h2, hp⟩ := hx.titems e1
      obtain ⟨q, us, rfl, h3, h4, hq⟩ := hy.titems e2
      refine .inr (.inr (.inl ⟨p, q, vs, us, rfl, rfl, h1.sq, h3.sq, by rw [h2.length, h4.length]; exact sz hz, fun e => ?_, fun _ e => ?_, fun _ _ => fin_tup k (RpL.app (RpL.mono (w.sup1 _ _) _ _ h2) (RpL.mono (w.sup2 _ _) _ _ h4))⟩))
      · subst e
        have e2' := h2.nil_r
        subst e2'
        exact fin_atl k (Rp.mono (w.sup2 _ _) _ _ hq)
      · subst e
        have e2' := h4.nil_r
        subst e2'
        rw [List.append_nil] at k
        exact fin_atl k (Rp.mono (w.sup1 _ _) _ _ hp)
    · rw [if_neg hz] at hg; cases hg
  · rename_i a c e1 e2
    by_cases hz : a.length + c.length ≤ 100000
    · rw [if_pos hz] at hg
      cases hg
      exact .inr (.inr (.inr ⟨a, c, hx.isStr e1, hy.isStr e2, sz hz, fin_str k⟩))
    · rw [if_neg hz] at hg; cases hg
  · cases hg
def subR (x y : Res) : Option Res := match x.d, y.d with
  | .int i, .int j => some (.at .f (.int (i - j)))
  | _, _ => none
theorem g_sub {T : Kt} : GOp T (rI0 fun i j => .int (i - j)) subR := by
  intro w x y rx ry rr Q hx hy hg k
  unfold subR at hg
  split at hg
  · rename_i i j e1 e2
    cases hg
    exact ⟨i, j, hx.isInt e1, hy.isInt e2, fin_int k⟩
  · cases hg
def mulR (x y : Res) : Option Res := match x.d, y.d with
  | .int i, .int j => if (-(2 ^ 64) < i ∧ i < 2 ^ 64) ∨ (-(2 ^ 64) < j ∧ j < 2 ^ 64) then some (.at .f (.int (i * j))) else none
  | .lst a, .int j => if (-1000000 ≤ j ∧ j ≤ 1000000) ∧ a.length * j.toNat ≤ 100000 then some (mkL x.il (List.replicate j.toNat a).flatten) else none
  | _, _ => none
def rMulU : R2 := fun x y H Q => rI CMul (fun i j => .int (i * j)) x y H Q ∨ rRep x y H Q
theorem op_mulU {X : Cx} : OpR X (binaryOp .Mult) rMulU := op_mul.or op_rep
theorem g_mul {T : Kt} : GOp T rMulU mulR := by
  intro w x y rx ry rr Q hx hy hg k
  unfold mulR at hg
  split at hg
  · rename_i i j e1 e2
    by_cases hz : (-(2 ^ 64) < i ∧ i < 2 ^ 64) ∨ (-(2 ^ 64) < j ∧ j < 2 ^ 64)
    · rw [if_pos hz] at hg
      cases hg
      exact .inl ⟨i, j, hx.isInt e1, hy.isInt e2, hz, fin_int k⟩
    · rw [if_neg hz] at hg; cases hg
  · rename_i a j e1 e2
    by_cases hz : (-1000000 ≤ j ∧ j ≤ 1000000) ∧ a.length * j.toNat ≤ 100000
    · rw [if_pos hz] at hg
      cases hg
      obtain ⟨p, vs, rfl, h1, h2⟩ := hx.items e1
      exact .inr ⟨p, j, vs, rfl, hy.isInt e2, h1, by omega, by omega, by rw [h2.length]; exact sz hz.2, fin_mkL k (h2.rep _)⟩
    · rw [if_neg hz] at hg; cases hg
  · cases hg
def fdivR (x y : Res) : Option Res := match x.d, y.d with
  | .int i, .int j => if 0 < j ∧ j < 1073741824 then some (.at .f (.int (i / j))) else none
  | _, _ => none
theorem g_fdiv {T : Kt} : GOp T (rI CDiv fun i j => .int (i / j)) fdivR := by
  intro w x y rx ry rr Q hx hy hg k
  unfold fdivR at hg
  split at hg
  · rename_i i j e1 e2
    by_cases hz : 0 < j ∧ j < 1073741824
    · rw [if_pos hz] at hg
      cases hg
      exact ⟨i, j, hx.isInt e1, hy.isInt e2, hz, fin_int k⟩
    · rw [if_neg hz] at hg; cases hg
  · cases hg
def modR (x y : Res) : Option Res := match x.d, y.d with
  | .int i, .int j => if 0 < j then some (.at .f (.int (i % j))) else none
  | _, _ => none
theorem g_mod {T : Kt} : GOp T (rI (fun _ j => 0 < j) fun i j => .int (i % j)) modR := by
  intro w x y rx ry rr Q hx hy hg k
  unfold modR at hg
  split at hg
  · rename_i i j e1 e2
    by_cases hz : 0 < j
    · rw [if_pos hz] at hg
      cases hg
      exact ⟨i, j, hx.isInt e1, hy.isInt e2, hz, fin_int k⟩
    · rw [if_neg hz] at hg; cases hg
  · cases hg
def powR (x y : Res) : Option Res := match x.d, y.d with
  | .int i, .int j => if 0 ≤ j ∧ j ≤ 1000000 ∧ i.natAbs < 2 ^ 64 then some (.at .f (.int (i ^ j.toNat))) else none
  | _, _ => none
theorem g_pow {T : Kt} : GOp T (rI CPow fun i j => .int (i ^ j.toNat)) powR := by
  intro w x y rx ry rr Q hx hy hg k
  unfold powR at hg
  split at hg
  · rename_i i j e1 e2
    by_cases hz : 0 ≤ j ∧ j ≤ 1000000 ∧ i.natAbs < 2 ^ 64
    · rw [if_pos hz] at hg
      cases hg
      exact ⟨i, j, hx.isInt e1, hy.isInt e2, hz, fin_int k⟩
    · rw [if_neg hz] at hg; cases hg
  · cases hg
/-- a comparison of ints -/
def cmpR (p : Int → Int → Bool) (x y : Res) : Option Res := match x.d, y.d with
  | .int i, .int j => some (.at .f (.bl (p i j)))
  | _, _ => none
theorem g_cmp {T : Kt} {p : Int → Int → Bool} : GOp T (rI0 fun i j => .bl (p i j)) (cmpR p) := by
  intro w x y rx ry rr Q hx hy hg k
  unfold cmpR at hg
  split at hg
  · rename_i i j e1 e2
    cases hg
    exact ⟨i, j, hx.isInt e1, hy.isInt e2, fin_bl k⟩
  · cases hg
abbrev ltP : Int → Int → Bool := fun i j => decide (i < j)
abbrev leP : Int → Int → Bool := fun i j => decide (i ≤ j)
abbrev gtP : Int → Int → Bool := fun i j => decide (j < i)
abbrev geP : Int → Int → Bool := fun i j => decide (j ≤ i)

/-! ### == of data -/
mutual
def toP : D → Option PyData
  | .non => some .none
  | .bl b => some (.bool b)
  | .int i => some (.int i)
  | .str x => some (.str x)
  | .lst xs => (toPL xs).map .list
  | .tup xs => (toPL xs).map .tuple
  | .ktp xs => (toPL xs).map .tuple
  | .scr ns => some (.list (ns.map .int))
  | .obj _ _ _ => none
  | .dct _ _ => none
  | .set _ => none
  | .rng _ _ => none
def toPL : List D → Option (List PyData)
  | [] => some []
  | x :: xs => (toP x).bind fun p => (toPL xs).map fun ps => p :: ps
end
theorem dp_ints {K : PySem.W.Frag} {H : Hp} : ∀ ns : List Int, DpAll K H (ns.map V.int) (ns.map PyData.int)
  | [] => .nil
  | n :: ns => .cons (.int n) (dp_ints ns)
mutual
theorem rp_dp {T : Kt} {H : Hp} : ∀ (d : D) (v : V) (p : PyData), Rp T H v d → toP d = some p → Dp T.K H v p
  | .non, _, _, h, e => by cases h; cases e; exact .non
  | .bl b, _, _, h, e => by cases h; cases e; exact .bl b
  | .int b, _, _, h, e => by cases h; cases e; exact .int b
  | .str b, _, _, h, e => by cases h; cases e; exact .str b
  | .lst ds, _, p, h, e => by
    cases h with
    | lst h1 h2 =>
      cases h3 : toPL ds with
      | none => rw [toP, h3] at e; cases e
      | some ps => rw [toP, h3] at e; cases e; exact .lst (.of h1) (rp_dpL ds _ ps h2 h3)
  | .tup ds, _, p, h, e => by
    cases h with
    | tup h1 h2 =>
      cases h3 : toPL ds with
      | none => rw [toP, h3] at e; cases e
      | some ps => rw [toP, h3] at e; cases e; exact .tup h1.sq (rp_dpL ds _ ps h2 h3)
  | .ktp ds, _, p, h, e => by
    cases h with
    | ktp h1 h2 =>
      cases h3 : toPL ds with
      | none => rw [toP, h3] at e; cases e
      | some ps => rw [toP, h3] at e; cases e; exact .tup (.of h1) (rp_dpL ds _ ps h2 h3)
  | .scr ns, _, p, h, e => by
    cases h with
    | scr h1 => cases e; exact .lst h1 (dp_ints ns)
  | .obj _ _ _, _, _, _, e => by cases e
  | .dct _ _, _, _, _, e => by cases e
  | .set _, _, _, _, e => by cases e
  | .rng _ _, _, _, _, e => by cases e
theorem rp_dpL {T : Kt} {H : Hp} : ∀ (ds : List D) (vs : List V) (ps : List PyData), RpL T H vs ds → toPL ds = some ps → DpAll T.K H vs ps
  | [], _, _, h, e => by cases h; cases e; exact .nil
  | d :: ds, _, ps, h, e => by
    cases h with
    | cons h1 h2 =>
      cases h3 : toP d with
      | none => rw [toPL, h3] at e; cases e
      | some p =>
        cases h4 : toPL ds with
        | none => rw [toPL, h3, h4] at e; cases e
        | some qs => rw [toPL, h3, h4] at e; cases e; exact .cons (rp_dp d _ p h1 h3) (rp_dpL ds _ qs h2 h4)
end
def eqD (x y : D) : Option Bool := match toP x, toP y with
  | some p, some q => if SeqAt.shaped p && SeqAt.shaped q then some (PyData.eqv p q) else none
  | _, _ => none
def eqR (x y : Res) : Option Res := (eqD x.d y.d).map fun b => .at .f (.bl b)
def neR (x y : Res) : Option Res := (eqD x.d y.d).map fun b => .at .f (.bl !b)
theorem eqD_dp {T : Kt} {w : W3} {x y : V} {rx ry : Res} {b : Bool} (hx : ResOk T w x rx) (hy : ResOk T w y ry) (h : eqD rx.d ry.d = some b) :
    ∃ p q, Dp T.K w.H x p ∧ Dp T.K w.H y q ∧ SeqAt.shaped p = true ∧ SeqAt.shaped q = true ∧ b = PyData.eqv p q := by
  unfold eqD at h
  split at h
  · rename_i p q e1 e2
    split at h
    · rename_i hs
      cases h
      simp only [Bool.and_eq_true] at hs
      exact ⟨p, q, rp_dp _ _ _ hx.rpH e1, rp_dp _ _ _ hy.rpH e2, hs.1, hs.2, rfl⟩
    · cases h
  · cases h
theorem g_eq {T : Kt} : GOp T (rEqD T.K) eqR := by
  intro w x y rx ry rr Q hx hy hg k
  unfold eqR at hg
  cases h : eqD rx.d ry.d with
  | none => rw [h] at hg; cases hg
  | some b =>
    rw [h] at hg
    cases hg
    obtain ⟨p, q, h1, h2, h3, h4, rfl⟩ := eqD_dp hx hy h
    exact ⟨p, q, h1, h2, h3, h4, fin_bl k⟩
theorem g_ne {T : Kt} : GOp T (rNeD T.K) neR := by
  intro w x y rx ry rr Q hx hy hg k
  unfold neR at hg
  cases h : eqD rx.d ry.d with
  | none => rw [h] at hg; cases hg
  | some b =>
    rw [h] at hg
    cases hg
    obtain ⟨p, q, h1, h2, h3, h4, rfl⟩ := eqD_dp hx hy h
    exact ⟨p, q, h1, h2, h3, h4, fin_bl k⟩
theorem eqD_int (i j : Int) : eqD (.int i) (.int j) = some (i == j) := rfl

/-! ### is None -/
def D.isNon : D → Bool
  | .non => true
  | _ => false
def isNR (x y : Res) : Option Res := match y.d with
  | .non => some (.at .f (.bl x.d.isNon))
  | _ => none
def notNR (x y : Res) : Option Res := match y.d with
  | .non => some (.at .f (.bl !x.d.isNon))
  | _ => none
theorem isNon_of {T : Kt} {H : Hp} {v : V} {d : D} (h : Rp T H v d) : decide (v = .non) = d.isNon := by
  cases h <;> first | rfl | exact decide_eq_false (fun q => nomatch q) | exact decide_eq_true rfl
theorem isN_v {T : Kt} {w : W3} {v : V} {r : Res} (h : ResOk T w v r) (e : r.d = .non) : v = .non := by
  have hr := h.rp
  rw [e] at hr
  cases hr
  rfl
theorem g_isN {T : Kt} : GOp T (fun x y H Q => y = .non ∧ Q (.bl (decide (x = .non))) H) isNR := by
  intro w x y rx ry rr Q hx hy hg k
  unfold isNR at hg
  split at hg
  · rename_i e
    cases hg
    refine ⟨isN_v hy e, ?_⟩
    rw [isNon_of hx.rp]
    exact fin_bl k
  · cases hg
theorem g_notN {T : Kt} : GOp T (fun x y H Q => y = .non ∧ Q (.bl (!decide (x = .non))) H) notNR := by
  intro w x y rx ry rr Q hx hy hg k
  unfold notNR at hg
  split at hg
  · rename_i e
    cases hg
    refine ⟨isN_v hy e, ?_⟩
    rw [isNon_of hx.rp]
    exact fin_bl k
  · cases hg

/-! ### in, not in: an int among ints -/
def ints? : List D → Option (List Int)
  | [] => some []
  | .int i :: xs => (ints? xs).map fun ns => i :: ns
  | _ => none
theorem ints_map (ns : List Int) : ints? (ns.map D.int) = some ns := by
  induction ns with
  | nil => rfl
  | cons n ns ih => rw [List.map_cons, ints?, ih]; rfl
theorem ints_of : ∀ {ds : List D} {ns : List Int}, ints? ds = some ns → ds = ns.map D.int
  | [], ns, h => by cases h; rfl
  | .int i :: xs, ns, h => by
    cases h1 : ints? xs with
    | none => rw [ints?, h1] at h; cases h
    | some ms => rw [ints?, h1] at h; cases h; rw [ints_of h1]; rfl
  | .non :: _, _, h => by cases h
  | .bl _ :: _, _, h => by cases h
  | .str _ :: _, _, h => by cases h
  | .lst _ :: _, _, h => by cases h
  | .tup _ :: _, _, h => by cases h
  | .ktp _ :: _, _, h => by cases h
  | .scr _ :: _, _, h => by cases h
  | .obj _ _ _ :: _, _, h => by cases h
  | .dct _ _ :: _, _, h => by cases h
  | .set _ :: _, _, h => by cases h
  | .rng _ _ :: _, _, h => by cases h
def D.seq? : D → Option (List D)
  | .lst xs => some xs
  | .tup xs => some xs
  | .ktp xs => some xs
  | _ => none
def inB (x y : D) : Option Bool := match x with
  | .int i => (y.seq?.bind ints?).map fun ns => decide (i ∈ ns)
  | _ => none
def inR (x y : Res) : Option Res := (inB x.d y.d).map fun b => .at .f (.bl b)
def ninR (x y : Res) : Option Res := (inB x.d y.d).map fun b => .at .f (.bl !b)
theorem inV_int (i : Int) (ns : List Int) : inV (.int i) (ns.map V.int) = decide (i ∈ ns) := by
  unfold inV
  rw [List.any_map, Bool.eq_iff_iff, List.any_eq_true, decide_eq_true_eq]
  constructor
  · rintro ⟨x, hx, e⟩
    have e : (x == i) = true := e
    rw [← beq_iff_eq.mp e]; exact hx
  · intro h
    exact ⟨i, h, (beq_self_eq_true i : (i == i) = true)⟩
theorem flat_ints (ns : List Int) : (ns.map V.int).all flatV = true := by
  rw [List.all_map]
  exact List.all_eq_true.mpr fun _ _ => rfl
theorem seq_of {T : Kt} {w : W3} {v : V} {r : Res} {ns : List Int} (h : ResOk T w v r) (e : r.d.seq?.bind ints? = some ns) : ∃ p, v = .ref p ∧ (SqL T.K w.H p (ns.map V.int) ∨ SqT T.K w.H p (ns.map V.int)) := by
  have hr := h.rpH
  cases hd : r.d with
  | lst xs =>
    rw [hd] at e hr
    have e : ints? xs = some ns := e
    cases ints_of e
    cases hr with
    | lst h1 h2 => rw [h2.ints] at h1; exact ⟨_, rfl, .inl (.of h1)⟩
  | tup xs =>
    rw [hd] at e hr
    have e : ints? xs = some ns := e
    cases ints_of e
    cases hr with
    | tup h1 h2 => rw [h2.ints] at h1; exact ⟨_, rfl, .inr h1.sq⟩
  | ktp xs =>
    rw [hd] at e hr
    have e : ints? xs = some ns := e
    cases ints_of e
    cases hr with
    | ktp h1 h2 => rw [h2.ints] at h1; exact ⟨_, rfl, .inr (.of h1)⟩
  | non => rw [hd] at e; cases e
  | bl _ => rw [hd] at e; cases e
  | int _ => rw [hd] at e; cases e
  | str _ => rw [hd] at e; cases e
  | scr _ => rw [hd] at e; cases e
  | obj _ _ _ => rw [hd] at e; cases e
  | dct _ _ => rw [hd] at e; cases e
  | set _ => rw [hd] at e; cases e
  | rng _ _ => rw [hd] at e; cases e
theorem inB_of {T : Kt} {w : W3} {x y : V} {rx ry : Res} {b : Bool} (hx : ResOk T w x rx) (hy : ResOk T w y ry) (h : inB rx.d ry.d = some b) :
    ∃ (p : Addr) (ns : List Int), y = .ref p ∧ (SqL T.K w.H p (ns.map V.int) ∨ SqT T.K w.H p (ns.map V.int)) ∧ flatV x = true ∧ inV x (ns.map V.int) = b := by
  unfold inB at h
  split at h
  · rename_i i e
    cases h1 : ry.d.seq?.bind ints? with
    | none => rw [h1] at h; cases h
    | some ns =>
      rw [h1] at h
      cases h
      obtain ⟨p, rfl, hp⟩ := seq_of hy h1
      cases hx.isInt e
      refine ⟨p, ns, rfl, hp, rfl, inV_int i ns⟩
  · cases h
theorem g_in {T : Kt} : GOp T (rIn T.K false) inR := by
  intro w x y rx ry rr Q hx hy hg k
  unfold inR at hg
  cases h : inB rx.d ry.d with
  | none => rw [h] at hg; cases hg
  | some b =>
    rw [h] at hg
    cases hg
    obtain ⟨p, ns, e1, e2, e3, e4⟩ := inB_of hx hy h
    exact ⟨p, _, e1, e2, e3, flat_ints ns, by rw [e4]; exact fin_bl k⟩
theorem g_nin {T : Kt} : GOp T (rIn T.K true) ninR := by
  intro w x y rx ry rr Q hx hy hg k
  unfold ninR at hg
  cases h : inB rx.d ry.d with
  | none => rw [h] at hg; cases hg
  | some b =>
    rw [h] at hg
    cases hg
    obtain ⟨p, ns, e1, e2, e3, e4⟩ := inB_of hx hy h
    exact ⟨p, _, e1, e2, e3, flat_ints ns, by rw [e4]; exact fin_bl k⟩

/-! ### xs[i] -/
def ixR (x y : Res) : Option Res := match x.d, y.d with
  | .lst ds, .int i => (atI ds i).map (Res.mk x.il)
  | .tup ds, .int i => (atI ds i).map (Res.mk x.lv)
  | .ktp ds, .int i => (atI ds i).map (Res.mk x.lv)
  | .scr ns, .int i => (atI ns i).map fun n => .at .f (.int n)
  | _, _ => none
def rIx2 (K : PySem.W.Frag) : R2 := fun x y H Q => rIxL K x y H Q ∨ rIxT K x y H Q
theorem ix_u {X : Cx} : IxR X (rIx2 X.K) := ix_list.or ix_tup
theorem atI_rel {T : Kt} {H : Hp} {vs : List V} {ds : List D} {i : Int} {d : D} (h : RpL T H vs ds) (e : atI ds i = some d) : ∃ v, atI vs i = some v ∧ Rp T H v d := by
  unfold atI at e ⊢
  rw [h.length]
  cases h1 : ixN ds.length i with
  | none => rw [h1] at e; cases e
  | some j =>
    rw [h1] at e
    exact h.get (show ds[j]? = some d from e)
theorem atI_map {α β : Type} (f : α → β) (xs : List α) (i : Int) : atI (xs.map f) i = (atI xs i).map f := by
  unfold atI
  rw [List.length_map]
  cases ixN xs.length i with
  | none => rfl
  | some j => exact List.getElem?_map
theorem g_ix {T : Kt} : GOp T (rIx2 T.K) ixR := by
  intro w x y rx ry rr Q hx hy hg k
  unfold ixR at hg
  split at hg
  · rename_i ds i e1 e2
    cases h : atI ds i with
    | none => rw [h] at hg; cases hg
    | some d =>
      rw [h] at hg
      cases hg
      obtain ⟨a, vs, rfl, h1, h2⟩ := hx.items e1
      obtain ⟨v, h3, h4⟩ := atI_rel h2 h
      exact .inl ⟨a, vs, i, v, rfl, hy.isInt e2, .of h1, h3, fin_at k h4⟩
  · rename_i ds i e1 e2
    cases h : atI ds i with
    | none => rw [h] at hg; cases hg
    | some d =>
      rw [h] at hg
      cases hg
      obtain ⟨a, vs, rfl, h1, h2, _⟩ := hx.titems e1
      obtain ⟨v, h3, h4⟩ := atI_rel h2 h
      exact .inr ⟨a, vs, i, v, rfl, hy.isInt e2, h1.sq, h3, fin_at k h4⟩
  · rename_i ds i e1 e2
    cases h : atI ds i with
    | none => rw [h] at hg; cases hg
    | some d =>
      rw [h] at hg
      cases hg
      obtain ⟨a, vs, rfl, h1, h2, _⟩ := hx.kitems e1
      obtain ⟨v, h3, h4⟩ := atI_rel h2 h
      exact .inr ⟨a, vs, i, v, rfl, hy.isInt e2, .of h1, h3, fin_at k h4⟩
  · rename_i ns i e1 e2
    cases h : atI ns i with
    | none => rw [h] at hg; cases hg
    | some n =>
      rw [h] at hg
      cases hg
      obtain ⟨a, rfl, h1⟩ := hx.isScr e1
      exact .inl ⟨a, _, i, .int n, rfl, hy.isInt e2, h1, by rw [atI_map, h]; rfl, fin_int k⟩
  · cases hg
end Fx

set_option Elab.async false
set_option linter.all false
set_option maxRecDepth 100000
namespace Fx
open PySem PySem.Spec PyProof.Rows L2

theorem ArgsOk.mono {T : Kt} {w w' : W3} (e : Le w w') : ∀ {vs : List V} {rs : List Res}, ArgsOk T w vs rs → ArgsOk T w' vs rs
  | _, _, .nil => .nil
  | _, _, .cons h t => .cons (h.mono e) (ArgsOk.mono e t)

/-! ### names, constants -/
def fVar (i : Nat) : Ro → Option Res := fun ρ => match ρ[i]? with
  | some (some (.at l d)) => some (Res.mk l d)
  | some (some (.own ds)) => some (.pk ds)
  | some (some (.own2 dss)) => some (.at .h (.lst (dss.map .lst)))
  | some (some (.ownT kvs)) => some (.at .h (.dct (kvs.map Prod.fst) (kvs.map Prod.snd)))
  | some (some (.ownI c ks ds)) => some (.at .h (.obj c ks ds))
  | some (some (.ownS ks)) => some (.at .h (.set ks))
  | some (some (.ali j k)) => match ρ[j]? with
    | some (some (.own2 dss)) => (dss[k]?).map .pk
    | _ => none
  | _ => none
def fC (d : D) : Ro → Option Res := fun _ => some (.at .f d)
section
variable {X : Cx} {c : Str → Option Addr} {b : Bas}
abbrev xT (X : Cx) (c : Str → Option Addr) : Kt := ⟨X.K, c, X.prog, X.w⟩
theorem xv (i : Nat) {x : Str} {pos : Pos} (hN : X.N[i]? = some x := by rfl) (hv : Vis X.env.scope x := by first | exact Or.inl rfl | exact Or.inr (Or.inl rfl) | exact Or.inr (Or.inr rfl)) (hd : (x == ("__debug__" : Str)) = false := by decide)
    (hcd : (x == ("__classdict__" : Str)) = false := by decide) : PE X (.Name x pos) (tE (xT X c) b (fVar i)) := by
  refine peImp (pe_var (i := i) hN hv hd hcd) fun σ H Q h => ?_
  obtain ⟨w, ρ, r, rfl, en, hφ, k⟩ := h
  unfold fVar at hφ
  split at hφ
  · rename_i l d e
    cases hφ
    obtain ⟨v, e1, e2⟩ := en.at_ i _ e
    exact ⟨v, e1, fin_at k (show Rp _ (w.at l) v d from e2 rfl)⟩
  · rename_i ds e
    cases hφ
    obtain ⟨v, e1, e5⟩ := en.at_ i _ e
    obtain ⟨a, vs, e2, e3, e4, _⟩ := e5 rfl
    exact ⟨v, e1, k v w (.refl w) ⟨a, vs, e2, e3, e4⟩ True.intro⟩
  · rename_i dss e
    cases hφ
    obtain ⟨v, e1, e5⟩ := en.at_ i _ e
    exact ⟨v, e1, fin_atl k (e5 rfl).rpH⟩
  · rename_i kvs e
    cases hφ
    obtain ⟨v, e1, e5⟩ := en.at_ i _ e
    exact ⟨v, e1, fin_atl k (e5 rfl).rpH⟩
  · rename_i c ks ds e
    cases hφ
    obtain ⟨v, e1, e5⟩ := en.at_ i _ e
    exact ⟨v, e1, fin_atl k (e5 rfl).rpH⟩
  · rename_i ks e
    cases hφ
    obtain ⟨v, e1, e5⟩ := en.at_ i _ e
    exact ⟨v, e1, fin_atl k (e5 rfl).rpH⟩
  · rename_i j m e
    split at hφ
    · rename_i dss e2
      cases h3 : dss[m]? with
      | none => rw [h3] at hφ; cases hφ
      | some ds =>
        rw [h3] at hφ
        cases hφ
        obtain ⟨v, e1, _⟩ := en.at_ i _ e
        obtain ⟨u, e4, e5⟩ := en.at_ j _ e2
        obtain ⟨a, as, rfl, h4, h5, _⟩ := e5 rfl
        obtain ⟨vs, h6, h7⟩ := en.al i j m dss v a e e2 e1 e4
        rw [h4] at h6
        cases h6
        obtain ⟨x, us, rfl, h8, h9⟩ := h5.get h7 h3
        exact ⟨_, e1, k _ w (.refl w) ⟨x, us, rfl, h8, h9⟩ True.intro⟩
    · cases hφ
  · cases hφ
theorem xint {i j pos} : PE X (.Constant (.int i) j pos) (tE (xT X c) b (fC (.int i))) := peImp pe_int fun σ H Q h => by
  obtain ⟨w, ρ, r, rfl, en, hφ, k⟩ := h
  cases hφ
  exact fin_int k
theorem xbl {i j pos} : PE X (.Constant (.bool i) j pos) (tE (xT X c) b (fC (.bl i))) := peImp pe_bl fun σ H Q h => by
  obtain ⟨w, ρ, r, rfl, en, hφ, k⟩ := h
  cases hφ
  exact fin_bl k
theorem xnon {j pos} : PE X (.Constant .none j pos) (tE (xT X c) b (fC .non)) := peImp pe_non fun σ H Q h => by
  obtain ⟨w, ρ, r, rfl, en, hφ, k⟩ := h
  cases hφ
  exact fin_non k
theorem xstr {x j pos} : PE X (.Constant (.str x) j pos) (tE (xT X c) b (fC (.str x))) := peImp pe_str fun σ H Q h => by
  obtain ⟨w, ρ, r, rfl, en, hφ, k⟩ := h
  cases hφ
  exact fin_str k

/-! ### freezing a new list -/
def W3.frz (w : W3) (a : Addr) (vs : List V) (h : w.H a = some (.lst vs)) : W3 :=
  ⟨upd w.F a (.lst vs), upd w.B a (.lst vs), w.H, same_updB w.fb, fun p o q => by
    by_cases hp : p = a
    · subst hp; rw [upd_same] at q; cases q; exact h
    · rw [upd_ne hp] at q; exact w.bh p o q⟩
def asF : Res → Option Res
  | .at l d => some (.at l d)
  | .own ds => some (.at .f (.lst ds))
  | _ => none
def fFz (φ : Ro → Option Res) : Ro → Option Res := fun ρ => (φ ρ).bind asF
theorem frz_le {w w' : W3} {a : Addr} {vs : List V} (e : Le w w') (h : w'.H a = some (.lst vs)) (hf : w'.F a = none) (hb : w'.B a = none) (hn : w.H a = none) : Le w (w'.frz a vs h) :=
  ⟨e.F.trans (same_new hf), e.B.trans (same_new hb), e.H, fun p m q => by
    have hp : p ≠ a := fun z => by subst z; rw [hn] at m; exact m
    show upd w'.F a (.lst vs) p = none
    rw [upd_ne hp]; exact e.kF p m q, fun p m q => by
    have hp : p ≠ a := fun z => by subst z; rw [hn] at m; exact m
    show upd w'.B a (.lst vs) p = none
    rw [upd_ne hp]; exact e.kB p m q⟩
theorem fFz_ok {T : Kt} {φ : Ro → Option Res} (σ : L2.St) (H : Hp) (Q : VK) (h : tE T b (fFz φ) σ H Q) : tE T b φ σ H Q := by
  obtain ⟨w, ρ, rr, rfl, en, hφ, k⟩ := h
  unfold fFz at hφ
  cases h1 : φ ρ with
  | none => rw [h1] at hφ; cases hφ
  | some r =>
    rw [h1] at hφ
    have hφ : asF r = some rr := hφ
    refine ⟨w, ρ, r, rfl, en, h1, fun v w' l o f => ?_⟩
    cases r with
    | «at» l' d => cases hφ; exact k v w' l o True.intro
    | pk ds => cases hφ
    | own2 _ => cases hφ
    | ownT _ => cases hφ
    | ali _ _ => cases hφ
    | ownI _ _ _ => cases hφ
    | ownS _ => cases hφ
    | own ds =>
      cases hφ
      obtain ⟨a, vs, rfl, h2, h3, h4, h5⟩ := o
      exact k (.ref a) (w'.frz a vs h2) (frz_le l h2 h4 h5 (f a rfl)) (show Rp T (upd w'.F a (.lst vs)) _ _ from .lst upd_same (RpL.mono (same_new h4) ds vs h3)) True.intro
theorem xfz {e : Expr} {φ : Ro → Option Res} {T : Kt} (h : PE X e (tE T b φ)) : PE X e (tE T b (fFz φ)) := peImp h fFz_ok

/-! ### operators -/
theorem xop {op : Operator} {r : R2} {g : Res → Res → Option Res} {p q : Expr} {pos : Pos} {φ ψ : Ro → Option Res} {T : Kt} (ho : OpR X (binaryOp op) r) (hg : GOp T r g) (hp : PE X p (tE T b φ)) (hq : PE X q (tE T b ψ)) :
    PE X (.BinOp p op q pos) (tE T b (f2 g φ ψ)) := peImp (pe_op ho hp hq) (f2_ok hg)
theorem xcmp {op : CmpOp} {r : R2} {g : Res → Res → Option Res} {p q : Expr} {pos : Pos} {φ ψ : Ro → Option Res} {T : Kt} (ho : OpR X (compareOp op) r) (hg : GOp T r g) (hp : PE X p (tE T b φ)) (hq : PE X q (tE T b ψ)) (hm : behindInMarks op q = false) :
    PE X (.Compare p [op] [q] pos) (tE T b (f2 g φ ψ)) := peImp (pe_cmpR ho hp hq hm) (f2_ok hg)
theorem xix {p q : Expr} {pos : Pos} {φ ψ : Ro → Option Res} (hp : PE X p (tE (xT X c) b φ)) (hq : PE X q (tE (xT X c) b ψ)) (hs : PlainIx q := by exact fun _ _ => rfl) :
    PE X (.Subscript p q pos) (tE (xT X c) b (f2 ixR φ ψ)) := peImp (pe_ix ix_u hp hq hs) (f2_ok g_ix)
def GUn (T : Kt) (r : V → Hp → VK → Prop) (g : Res → Option Res) : Prop := ∀ (w : W3) (x : V) (rx rr : Res) (Q : VK), ResOk T w x rx → g rx = some rr → Kq T w rr Q → r x w.H Q
def f1 (g : Res → Option Res) (a : Ro → Option Res) : Ro → Option Res := fun ρ => (a ρ).bind g
theorem f1_ok {T : Kt} {r : V → Hp → VK → Prop} {g : Res → Option Res} (hg : GUn T r g) {φ : Ro → Option Res} (σ : L2.St) (H : Hp) (Q : VK) (h : tE T b (f1 g φ) σ H Q) : tUn r (tE T b φ) σ H Q := by
  obtain ⟨w, ρ, rr, e, en, hφ, k⟩ := h
  unfold f1 at hφ
  cases h1 : φ ρ with
  | none => rw [h1] at hφ; cases hφ
  | some x =>
    rw [h1] at hφ
    exact ⟨w, ρ, x, e, en, h1, fun vx w1 l1 o1 _ => hg w1 vx x rr Q o1 hφ fun v w3 l3 o3 f3 => k v w3 (l1.trans l3) o3 (f3.back l1.H)⟩
def negR (x : Res) : Option Res := match x.d with
  | .int i => some (.at .f (.int (-i)))
  | _ => none
theorem g_neg {T : Kt} : GUn T (rU fun i => .int (-i)) negR := by
  intro w x rx rr Q hx hg k
  unfold negR at hg
  split at hg
  · rename_i i e
    cases hg
    exact ⟨i, hx.isInt e, fin_int k⟩
  · cases hg
theorem xneg {p : Expr} {pos : Pos} {φ : Ro → Option Res} {T : Kt} (hp : PE X p (tE T b φ)) : PE X (.UnaryOp .USub p pos) (tE T b (f1 negR φ)) := peImp (pe_un un_neg hp) (f1_ok g_neg)

/-! ### argument lists, displays -/
def fNil : Ro → Option (List Res) := fun _ => some []
def fCons (a : Ro → Option Res) (r : Ro → Option (List Res)) : Ro → Option (List Res) := fun ρ => (a ρ).bind fun x => (r ρ).bind fun xs => some (x :: xs)
theorem xnil {T : Kt} : PA X [] (tA T b fNil) := paImp pa_nil fun σ H Q h => by
  obtain ⟨w, ρ, rr, rfl, en, hφ, k⟩ := h
  cases hφ
  exact k [] w (.refl w) .nil
theorem xcons {e : Expr} {es : List Expr} {φ : Ro → Option Res} {ψ : Ro → Option (List Res)} {T : Kt} (ha : PE X e (tE T b φ)) (hr : PA X es (tA T b ψ)) (hs : starEach (e :: es) X.env = (false, eval e X.env) :: starEach es X.env := by rfl) :
    PA X (e :: es) (tA T b (fCons φ ψ)) := paImp (pa_cons ha hr hs) fun σ H Q h => by
  obtain ⟨w, ρ, rr, rfl, en, hφ, k⟩ := h
  unfold fCons at hφ
  cases h1 : φ ρ with
  | none => rw [h1] at hφ; cases hφ
  | some x =>
    cases h2 : ψ ρ with
    | none => rw [h1, h2] at hφ; cases hφ
    | some xs =>
      rw [h1, h2] at hφ
      cases hφ
      exact ⟨w, ρ, x, rfl, en, h1, fun v w1 l1 o1 _ => ⟨w1, ρ, xs, rfl, en.mono l1, h2, fun vs w2 l2 o2 => k _ w2 (l1.trans l2) (.cons (o1.mono l2) o2)⟩⟩
def tupR (rs : List Res) : Option Res := if rs.length ≤ 100000 then some (.at (supAll rs) (.tup (rs.map Res.d))) else none
def ktpR (rs : List Res) : Option Res := if rs.length ≤ 100000 then some (.at (supAll rs) (.ktp (rs.map Res.d))) else none
def lstR (rs : List Res) : Option Res := if rs.length ≤ 100000 then some (mkL (supAll rs) (rs.map Res.d)) else none
def fA (g : List Res → Option Res) (φ : Ro → Option (List Res)) : Ro → Option Res := fun ρ => (φ ρ).bind g
theorem fA_ok {T : Kt} {g : List Res → Option Res} {φ : Ro → Option (List Res)} {σ : L2.St} {H : Hp} {Q : VK} (h : tE T b (fA g φ) σ H Q) {R : List V → Hp → Prop}
    (hr : ∀ (w : W3) (vs : List V) (rs : List Res) (rr : Res), ArgsOk T w vs rs → g rs = some rr → Kq T w rr Q → R vs w.H) : tA T b φ σ H R := by
  obtain ⟨w, ρ, rr, rfl, en, hφ, k⟩ := h
  unfold fA at hφ
  cases h1 : φ ρ with
  | none => rw [h1] at hφ; cases hφ
  | some rs =>
    rw [h1] at hφ
    exact ⟨w, ρ, rs, rfl, en, h1, fun vs w1 l1 o1 => hr w1 vs rs rr o1 hφ fun v w3 l3 o3 f3 => k v w3 (l1.trans l3) o3 (f3.back l1.H)⟩
theorem xtup {es : List Expr} {φ : Ro → Option (List Res)} {x1} {pos : Pos} {T : Kt} (h : PA X es (tA T b φ)) : PE X (.Tuple es x1 pos) (tE T b (fA tupR φ)) := peImp (pe_tupF h) fun σ H Q h => fA_ok h fun w vs rs rr o hg k => by
  unfold tupR at hg
  by_cases hz : rs.length ≤ 100000
  · rw [if_pos hz] at hg
    cases hg
    exact ⟨by rw [Paired.length o]; exact sz hz, fin_tup k (args_at o)⟩
  · rw [if_neg hz] at hg; cases hg
theorem xktp {es : List Expr} {φ : Ro → Option (List Res)} {x1} {pos : Pos} {T : Kt} (h : PA X es (tA T b φ)) : PE X (.Tuple es x1 pos) (tE T b (fA ktpR φ)) := peImp (pe_tup h) fun σ H Q h => fA_ok h fun w vs rs rr o hg k => by
  unfold ktpR at hg
  by_cases hz : rs.length ≤ 100000
  · rw [if_pos hz] at hg
    cases hg
    exact ⟨by rw [Paired.length o]; exact sz hz, fin_ktp k (args_at o)⟩
  · rw [if_neg hz] at hg; cases hg
theorem xlst {es : List Expr} {φ : Ro → Option (List Res)} {pos : Pos} {T : Kt} (h : PA X es (tA T b φ)) : PE X (.List es pos) (tE T b (fA lstR φ)) := peImp (pe_lst h) fun σ H Q h => fA_ok h fun w vs rs rr o hg k => by
  unfold lstR at hg
  by_cases hz : rs.length ≤ 100000
  · rw [if_pos hz] at hg
    cases hg
    exact ⟨by rw [Paired.length o]; exact sz hz, fin_mkL k (args_at o)⟩
  · rw [if_neg hz] at hg; cases hg

/-! ### slices -/
def cut (xs : List D) (lo hi : Option Int) : List D := (xs.drop (HT.sIx xs.length 0 lo)).take (HT.sIx xs.length xs.length hi - HT.sIx xs.length 0 lo)
theorem cut_rel {T : Kt} {H : Hp} {vs : List V} {ds : List D} (h : RpL T H vs ds) (lo hi : Option Int) : RpL T H (cutV vs lo hi) (cut ds lo hi) := by
  unfold cutV cut
  rw [h.length]
  exact (h.drop _).take _
def slR (lo hi : Option Int) (x : Res) : Option Res := match x.d with
  | .lst ds => some (mkL x.il (cut ds lo hi))
  | .tup ds => some (.at x.lv (.tup (cut ds lo hi)))
  | _ => none
def tO (T : Kt) (b : Bas) (φ : Ro → Option (Option Int)) : TO := fun σ H Q => ∃ w ρ o, w.H = H ∧ En T b w σ ρ ∧ φ ρ = some o ∧ ∀ w', Le w w' → Q o w'.H
def fNo : Ro → Option (Option Int) := fun _ => some none
def intOf : Res → Option Int := fun r => match r.d with
  | .int i => some i
  | _ => none
def fSm (φ : Ro → Option Res) : Ro → Option (Option Int) := fun ρ => (φ ρ).bind fun r => (intOf r).map some
structure xPO (X : Cx) (e : Option Expr) (T : Kt) (b : Bas) (φ : Ro → Option (Option Int)) : Prop where
  po : PO X e (tO T b φ)
theorem poImp {e : Option Expr} {t t' : TO} (h : PO X e t) (i : ∀ σ H Q, t' σ H Q → t σ H Q) : PO X e t' := ⟨fun pins s σ H Q I q => h.run pins s σ H Q I (i σ H Q q)⟩
theorem xno {T : Kt} : PO X none (tO T b fNo) := poImp po_none fun σ H Q h => by
  obtain ⟨w, ρ, o, rfl, en, hφ, k⟩ := h
  cases hφ
  exact k w (.refl w)
theorem xsm {e : Expr} {φ : Ro → Option Res} {T : Kt} (h : PE X e (tE T b φ)) : PO X (some e) (tO T b (fSm φ)) := poImp (po_some h) fun σ H Q h => by
  obtain ⟨w, ρ, o, rfl, en, hφ, k⟩ := h
  unfold fSm at hφ
  cases h1 : φ ρ with
  | none => rw [h1] at hφ; cases hφ
  | some r =>
    rw [h1] at hφ
    have hφ : (intOf r).map some = some o := hφ
    cases h2 : intOf r with
    | none => rw [h2] at hφ; cases hφ
    | some i =>
      rw [h2] at hφ
      cases hφ
      refine ⟨w, ρ, r, rfl, en, h1, fun v w' l o _ => ⟨i, o.isInt ?_, k w' l⟩⟩
      unfold intOf at h2
      split at h2
      · rename_i e1; cases h2; exact e1
      · cases h2
def fSl (φ : Ro → Option Res) (lo hi : Ro → Option (Option Int)) : Ro → Option Res := fun ρ => (φ ρ).bind fun x => (lo ρ).bind fun l => (hi ρ).bind fun h => slR l h x
def rSlU (K : PySem.W.Frag) : V → Option Int → Option Int → Hp → VK → Prop := fun x lo hi H Q => rSlL K x lo hi H Q ∨ rSlF K x lo hi H Q
theorem sl_u : SlR X (rSlU X.K) := sl_list.or sl_tupF
theorem cut_whole {xs : List D} {lo hi : Option Int} (h : HT.sIx xs.length 0 lo = 0 ∧ HT.sIx xs.length xs.length hi = xs.length) : cut xs lo hi = xs := by
  unfold cut
  rw [h.1, h.2, List.drop_zero, Nat.sub_zero, List.take_length]
theorem xsl {e : Expr} {lo hi : Option Expr} {φ : Ro → Option Res} {φl φh : Ro → Option (Option Int)} {pos p2 : Pos} (he : PE X e (tE (xT X c) b φ)) (hl : PO X lo (tO (xT X c) b φl)) (hu : PO X hi (tO (xT X c) b φh)) :
    PE X (.Subscript e (.Slice lo hi none p2) pos) (tE (xT X c) b (fSl φ φl φh)) := peImp (pe_slice sl_u he hl hu) fun σ H Q h => by
  obtain ⟨w, ρ, rr, rfl, en, hφ, k⟩ := h
  unfold fSl at hφ
  cases h1 : φ ρ with
  | none => rw [h1] at hφ; cases hφ
  | some x =>
    cases h2 : φl ρ with
    | none => rw [h1, h2] at hφ; cases hφ
    | some l =>
      cases h3 : φh ρ with
      | none => rw [h1, h2, h3] at hφ; cases hφ
      | some u =>
        rw [h1, h2, h3] at hφ
        have hφ : slR l u x = some rr := hφ
        refine ⟨w, ρ, x, rfl, en, h1, fun v w1 l1 o1 _ => ⟨w1, ρ, l, rfl, en.mono l1, h2, fun w2 l2 => ⟨w2, ρ, u, rfl, (en.mono l1).mono l2, h3, fun w3 l3 => ?_⟩⟩⟩
        have o3 := (o1.mono l2).mono l3
        have k3 : Kq (xT X c) w3 rr Q := fun v w4 l4 o4 f4 => k v w4 (((l1.trans l2).trans l3).trans l4) o4 (f4.back ((l1.trans l2).trans l3).H)
        unfold slR at hφ
        split at hφ
        · rename_i ds e1
          cases hφ
          obtain ⟨a, vs, rfl, h4, h5⟩ := o3.items e1
          exact .inl ⟨a, vs, rfl, .of h4, fin_mkL k3 (cut_rel h5 l u)⟩
        · rename_i ds e1
          cases hφ
          obtain ⟨a, vs, rfl, h4, h5, h6⟩ := o3.titems e1
          refine .inr ⟨a, vs, rfl, h4.sq, fun hw => ?_, fun _ => fin_tup k3 (cut_rel h5 l u)⟩
          rw [h5.length] at hw
          rw [cut_whole hw] at k3
          exact fin_atl k3 h6
        · cases hφ

/-! ### tests -/
def truD : D → Option Bool
  | .non => some false
  | .bl k => some k
  | .int i => some (i != 0)
  | .lst xs => some (!xs.isEmpty)
  | .tup xs => some (!xs.isEmpty)
  | .ktp xs => some (!xs.isEmpty)
  | _ => none
def fTru (φ : Ro → Option Res) : Ro → Option Bool := fun ρ => (φ ρ).bind fun r => truD r.d
theorem isE {T : Kt} {H : Hp} {vs : List V} {ds : List D} (h : RpL T H vs ds) : (!vs.isEmpty) = !ds.isEmpty := by cases h <;> rfl
theorem tru_of {T : Kt} {w : W3} {v : V} {r : Res} {k : Bool} (h : ResOk T w v r) (e : truD r.d = some k) : TruV T.K v w.H k := by
  have hr := h.rpH
  cases hd : r.d with
  | non => rw [hd] at e hr; cases e; cases hr; rfl
  | bl _ => rw [hd] at e hr; cases e; cases hr; rfl
  | int _ => rw [hd] at e hr; cases e; cases hr; rfl
  | lst ds =>
    rw [hd] at e hr
    cases e
    cases hr with
    | lst h1 h2 => exact .inl ⟨_, .of h1, (isE h2).symm⟩
  | tup ds =>
    rw [hd] at e hr
    cases e
    cases hr with
    | tup h1 h2 => exact .inr (.inl ⟨_, h1.sq, (isE h2).symm⟩)
  | ktp ds =>
    rw [hd] at e hr
    cases e
    cases hr with
    | ktp h1 h2 => exact .inr (.inl ⟨_, .of h1, (isE h2).symm⟩)
  | str _ => rw [hd] at e; cases e
  | scr _ => rw [hd] at e; cases e
  | obj _ _ _ => rw [hd] at e; cases e
  | dct _ _ => rw [hd] at e; cases e
  | set _ => rw [hd] at e; cases e
  | rng _ _ => rw [hd] at e; cases e
theorem xtru {e : Expr} {φ : Ro → Option Res} (he : PE X e (tE (xT X c) b φ)) (hs : ∀ whole, isTrue e X.env whole = (do let v ← whole; standAt e.pos; holding [v] (truthy v)) := by intro _; rfl) :
    PT X e (tT (xT X c) b (fTru φ)) := ptImp (pt_truth he hs) fun σ H Q h => by
  obtain ⟨w, ρ, kk, rfl, en, hφ, k⟩ := h
  unfold fTru at hφ
  cases h1 : φ ρ with
  | none => rw [h1] at hφ; cases hφ
  | some r =>
    rw [h1] at hφ
    exact ⟨w, ρ, r, rfl, en, h1, fun v w' l o _ => ⟨kk, tru_of o hφ, k w' l⟩⟩
def blD : D → Option Bool
  | .bl k => some k
  | _ => none
def fTst (φ : Ro → Option Res) : Ro → Option Bool := fun ρ => (φ ρ).bind fun r => blD r.d
theorem bl_of {d : D} {k : Bool} (e : blD d = some k) : d = .bl k := by
  cases d <;> first | (cases e; rfl) | cases e
theorem tst_ok {T : Kt} {t : TE} {φ : Ro → Option Res} (ht : ∀ σ H Q, tE T b φ σ H Q → t σ H Q) (σ : L2.St) (H : Hp) (Q : Bool → Hp → Prop) (h : tT T b (fTst φ) σ H Q) : t σ H fun x H' => ∃ k, x = .bl k ∧ Q k H' := by
  refine ht σ H _ ?_
  obtain ⟨w, ρ, kk, rfl, en, hφ, k⟩ := h
  unfold fTst at hφ
  cases h1 : φ ρ with
  | none => rw [h1] at hφ; cases hφ
  | some r =>
    rw [h1] at hφ
    exact ⟨w, ρ, r, rfl, en, h1, fun v w' l o _ => ⟨kk, o.isBl (bl_of hφ), k w' l⟩⟩
theorem xtc {op : CmpOp} {r : R2} {g : Res → Res → Option Res} {p q : Expr} {pos : Pos} {φ ψ : Ro → Option Res} {T : Kt} (ho : OpR X (compareOp op) r) (hg : GOp T r g) (hp : PE X p (tE T b φ)) (hq : PE X q (tE T b ψ)) (hm : behindInMarks op q = false) :
    PT X (.Compare p [op] [q] pos) (tT T b (fTst (f2 g φ ψ))) := ptImp (pt_cmpR ho hp hq hm) fun σ H Q h => tst_ok (f2_ok hg) σ H Q h
/-- p op q op' s -/
def fCh (g g' : Res → Res → Option Res) (φ ψ χ : Ro → Option Res) : Ro → Option Res := fun ρ => (φ ρ).bind fun x => (ψ ρ).bind fun y => (g x y).bind fun z => match z with
  | .at .f (.bl true) => (χ ρ).bind fun u => g' y u
  | .at .f (.bl false) => some (.at .f (.bl false))
  | _ => none
theorem ch_ok {T : Kt} {r r' : R2} {g g' : Res → Res → Option Res} (hg : GOp T r g) (hg' : GOp T r' g') {φ ψ χ : Ro → Option Res} (σ : L2.St) (H : Hp) (Q : VK) (h : tE T b (fCh g g' φ ψ χ) σ H Q) :
    tChain r r' (tE T b φ) (tE T b ψ) (tE T b χ) σ H Q := by
  obtain ⟨w, ρ, rr, rfl, en, hφ, k⟩ := h
  unfold fCh at hφ
  cases h1 : φ ρ with
  | none => rw [h1] at hφ; cases hφ
  | some x =>
    cases h2 : ψ ρ with
    | none => rw [h1, h2] at hφ; cases hφ
    | some y =>
      rw [h1, h2] at hφ
      cases h3 : g x y with
      | none =>
        have hφ : ((g x y).bind _) = some rr := hφ
        rw [h3] at hφ; cases hφ
      | some z =>
        have hφ : ((g x y).bind _) = some rr := hφ
        rw [h3] at hφ
        refine ⟨w, ρ, x, rfl, en, h1, fun vx w1 l1 o1 _ => ⟨w1, ρ, y, rfl, en.mono l1, h2, fun vy w2 l2 o2 _ => ?_⟩⟩
        refine hg w2 vx vy x y z _ (o1.mono l2) o2 h3 fun v w3 l3 o3 f3 => ?_
        have l := (l1.trans l2).trans l3
        rw [Option.bind_some] at hφ
        split at hφ
        · cases (show Rp T w3.F v (.bl true) from o3)
          refine ⟨true, rfl, ?_⟩
          rw [if_pos rfl]
          cases h4 : χ ρ with
          | none => rw [h4] at hφ; cases hφ
          | some u =>
            rw [h4] at hφ
            refine ⟨w3, ρ, u, rfl, en.mono l, h4, fun vu w4 l4 o4 _ => ?_⟩
            exact hg' w4 vy vu y u rr Q ((o2.mono l3).mono l4) o4 hφ fun v' w5 l5 o5 f5 => k v' w5 ((l.trans l4).trans l5) o5 (f5.back (l.trans l4).H)
        · cases (show Rp T w3.F v (.bl false) from o3)
          refine ⟨false, rfl, ?_⟩
          rw [if_neg (by decide)]
          cases hφ
          exact k _ w3 l (.bl false) True.intro
        · cases hφ
theorem xchain {op op' : CmpOp} {r r' : R2} {g g' : Res → Res → Option Res} {p q s : Expr} {pos : Pos} {φ ψ χ : Ro → Option Res} {T : Kt} (ho : OpR X (compareOp op) r) (ho' : OpR X (compareOp op') r') (hg : GOp T r g) (hg' : GOp T r' g')
    (hp : PE X p (tE T b φ)) (hq : PE X q (tE T b ψ)) (hs : PE X s (tE T b χ)) (hm : lastMarks [op, op'] [q, s] = false := by with_unfolding_all rfl) : PE X (.Compare p [op, op'] [q, s] pos) (tE T b (fCh g g' φ ψ χ)) :=
  peImp (pe_chain ho ho' hp hq hs hm) (ch_ok hg hg')
theorem xtchain {op op' : CmpOp} {r r' : R2} {g g' : Res → Res → Option Res} {p q s : Expr} {pos : Pos} {φ ψ χ : Ro → Option Res} {T : Kt} (ho : OpR X (compareOp op) r) (ho' : OpR X (compareOp op') r') (hg : GOp T r g) (hg' : GOp T r' g')
    (hp : PE X p (tE T b φ)) (hq : PE X q (tE T b ψ)) (hs : PE X s (tE T b χ)) (hm : lastMarks [op, op'] [q, s] = false := by with_unfolding_all rfl) : PT X (.Compare p [op, op'] [q, s] pos) (tT T b (fTst (fCh g g' φ ψ χ))) :=
  ptImp (pt_chain ho ho' hp hq hs hm) fun σ H Q h => tst_ok (ch_ok hg hg') σ H Q h

/-! ### and, or, not -/
def fAnd (a c : Ro → Option Bool) : Ro → Option Bool := fun ρ => (a ρ).bind fun x => if x then c ρ else some false
def fOr (a c : Ro → Option Bool) : Ro → Option Bool := fun ρ => (a ρ).bind fun x => if x then some true else c ρ
def fNot (a : Ro → Option Bool) : Ro → Option Bool := fun ρ => (a ρ).map fun x => !x
variable {rest : List Expr} {p q s : Expr} {pos : Pos} {α β : Ro → Option Bool} {T : Kt}
theorem tand {σ : L2.St} {H : Hp} {Q : Bool → Hp → Prop} (h : tT T b (fAnd α β) σ H Q) : tAnd (tT T b α) (tT T b β) σ H Q := by
  obtain ⟨w, ρ, kk, rfl, en, hφ, k⟩ := h
  unfold fAnd at hφ
  cases h1 : α ρ with
  | none => rw [h1] at hφ; cases hφ
  | some x =>
    rw [h1] at hφ
    refine ⟨w, ρ, x, rfl, en, h1, fun w1 l1 => ?_⟩
    cases x with
    | true =>
      rw [if_pos rfl]
      exact ⟨w1, ρ, kk, rfl, en.mono l1, hφ, fun w2 l2 => k w2 (l1.trans l2)⟩
    | false =>
      rw [if_neg (by decide)]
      cases hφ
      exact k w1 l1
theorem tor {σ : L2.St} {H : Hp} {Q : Bool → Hp → Prop} (h : tT T b (fOr α β) σ H Q) : tOr (tT T b α) (tT T b β) σ H Q := by
  obtain ⟨w, ρ, kk, rfl, en, hφ, k⟩ := h
  unfold fOr at hφ
  cases h1 : α ρ with
  | none => rw [h1] at hφ; cases hφ
  | some x =>
    rw [h1] at hφ
    refine ⟨w, ρ, x, rfl, en, h1, fun w1 l1 => ?_⟩
    cases x with
    | false =>
      rw [if_neg (by decide)]
      exact ⟨w1, ρ, kk, rfl, en.mono l1, hφ, fun w2 l2 => k w2 (l1.trans l2)⟩
    | true =>
      rw [if_pos rfl]
      cases hφ
      exact k w1 l1
theorem xand (ha : PT X p (tT T b α)) (hb : PW X (.BoolOp .And (q :: rest) pos) (tT T b β)) : PW X (.BoolOp .And (p :: q :: rest) pos) (tT T b (fAnd α β)) := pwImp (pw_and ha hb) fun _ _ _ h => tand h
theorem xor (ha : PT X p (tT T b α)) (hb : PW X (.BoolOp .Or (q :: rest) pos) (tT T b β)) : PW X (.BoolOp .Or (p :: q :: rest) pos) (tT T b (fOr α β)) := pwImp (pw_or ha hb) fun _ _ _ h => tor h
theorem xnot (ha : PT X p (tT T b α)) : PT X (.UnaryOp .Not p pos) (tT T b (fNot α)) := ptImp (pt_not ha) fun σ H Q h => by
  obtain ⟨w, ρ, kk, rfl, en, hφ, k⟩ := h
  unfold fNot at hφ
  cases h1 : α ρ with
  | none => rw [h1] at hφ; cases hφ
  | some x => rw [h1] at hφ; cases hφ; exact ⟨w, ρ, x, rfl, en, h1, k⟩
/-- as values: all of them True or False -/
def fAndV (a c : Ro → Option Res) : Ro → Option Res := fun ρ => (a ρ).bind fun x => match x.d with
  | .bl true => c ρ
  | .bl false => some (.at .f (.bl false))
  | _ => none
def fOrV (a c : Ro → Option Res) : Ro → Option Res := fun ρ => (a ρ).bind fun x => match x.d with
  | .bl false => c ρ
  | .bl true => some (.at .f (.bl true))
  | _ => none
def notR (x : Res) : Option Res := match x.d with
  | .bl k => some (.at .f (.bl !k))
  | _ => none
variable {φ ψ : Ro → Option Res}
theorem xandV (ha : PE X p (tE T b φ)) (hb : PE X (.BoolOp .And (q :: rest) pos) (tE T b ψ)) : PE X (.BoolOp .And (p :: q :: rest) pos) (tE T b (fAndV φ ψ)) := peImp (pe_and ha hb) fun σ H Q h => by
  obtain ⟨w, ρ, rr, rfl, en, hφ, k⟩ := h
  unfold fAndV at hφ
  cases h1 : φ ρ with
  | none => rw [h1] at hφ; cases hφ
  | some x =>
    rw [h1] at hφ
    refine ⟨w, ρ, x, rfl, en, h1, fun v w1 l1 o1 _ => ?_⟩
    have hφ : (match x.d with | .bl true => ψ ρ | .bl false => some (.at .f (.bl false)) | _ => none) = some rr := hφ
    split at hφ
    · rename_i e
      refine ⟨true, o1.isBl e, ?_⟩
      rw [if_pos rfl]
      exact ⟨w1, ρ, rr, rfl, en.mono l1, hφ, fun v w2 l2 o2 f2 => k v w2 (l1.trans l2) o2 (f2.back l1.H)⟩
    · rename_i e
      refine ⟨false, o1.isBl e, ?_⟩
      rw [if_neg (by decide)]
      cases hφ
      exact k _ w1 l1 (.bl false) True.intro
    · cases hφ
theorem xorV (ha : PE X p (tE T b φ)) (hb : PE X (.BoolOp .Or (q :: rest) pos) (tE T b ψ)) : PE X (.BoolOp .Or (p :: q :: rest) pos) (tE T b (fOrV φ ψ)) := peImp (pe_or ha hb) fun σ H Q h => by
  obtain ⟨w, ρ, rr, rfl, en, hφ, k⟩ := h
  unfold fOrV at hφ
  cases h1 : φ ρ with
  | none => rw [h1] at hφ; cases hφ
  | some x =>
    rw [h1] at hφ
    refine ⟨w, ρ, x, rfl, en, h1, fun v w1 l1 o1 _ => ?_⟩
    have hφ : (match x.d with | .bl false => ψ ρ | .bl true => some (.at .f (.bl true)) | _ => none) = some rr := hφ
    split at hφ
    · rename_i e
      refine ⟨false, o1.isBl e, ?_⟩
      rw [if_neg (by decide)]
      exact ⟨w1, ρ, rr, rfl, en.mono l1, hφ, fun v w2 l2 o2 f2 => k v w2 (l1.trans l2) o2 (f2.back l1.H)⟩
    · rename_i e
      refine ⟨true, o1.isBl e, ?_⟩
      rw [if_pos rfl]
      cases hφ
      exact k _ w1 l1 (.bl true) True.intro
    · cases hφ
theorem xnotV (ha : PE X p (tE T b φ)) : PE X (.UnaryOp .Not p pos) (tE T b (f1 notR φ)) := peImp (pe_not ha) fun σ H Q h => by
  obtain ⟨w, ρ, rr, rfl, en, hφ, k⟩ := h
  unfold f1 at hφ
  cases h1 : φ ρ with
  | none => rw [h1] at hφ; cases hφ
  | some x =>
    rw [h1] at hφ
    refine ⟨w, ρ, x, rfl, en, h1, fun v w1 l1 o1 _ => ?_⟩
    have hφ : notR x = some rr := hφ
    unfold notR at hφ
    split at hφ
    · rename_i kk e
      cases hφ
      exact ⟨kk, o1.isBl e, k _ w1 l1 (.bl _) True.intro⟩
    · cases hφ
/-- p if t else q -/
def fIf (t : Ro → Option Bool) (a c : Ro → Option Res) : Ro → Option Res := fun ρ => (t ρ).bind fun k => if k then a ρ else c ρ
theorem xif {t : Expr} (ht : PT X t (tT T b α)) (ha : PE X p (tE T b φ)) (hb : PE X q (tE T b ψ)) : PE X (.IfExp t p q pos) (tE T b (fIf α φ ψ)) := peImp (pe_ifExp ht ha hb) fun σ H Q h => by
  obtain ⟨w, ρ, rr, rfl, en, hφ, k⟩ := h
  unfold fIf at hφ
  cases h1 : α ρ with
  | none => rw [h1] at hφ; cases hφ
  | some x =>
    rw [h1] at hφ
    refine ⟨w, ρ, x, rfl, en, h1, fun w1 l1 => ?_⟩
    cases x with
    | true => rw [if_pos rfl]; exact ⟨w1, ρ, rr, rfl, en.mono l1, hφ, fun v w2 l2 o2 f2 => k v w2 (l1.trans l2) o2 (f2.back l1.H)⟩
    | false => rw [if_neg (by decide)]; exact ⟨w1, ρ, rr, rfl, en.mono l1, hφ, fun v w2 l2 o2 f2 => k v w2 (l1.trans l2) o2 (f2.back l1.H)⟩
end
end Fx

set_option Elab.async false
set_option linter.all false
set_option maxRecDepth 100000
namespace Fx
open PySem PySem.Spec PyProof.Rows L2

/-! ### built-ins -/
def GCall (T : Kt) (r : List V → Hp → VK → Prop) (g : List Res → Option Res) : Prop :=
  ∀ (w : W3) (vs : List V) (rs : List Res) (rr : Res) (Q : VK), ArgsOk T w vs rs → g rs = some rr → Kq T w rr Q → r vs w.H Q
section
variable {X : Cx} {c : Str → Option Addr} {b : Bas} {T : Kt} {x : Str} {p pos : Pos} {e : Expr} {es : List Expr} {φ : Ro → Option (List Res)} {r : List V → Hp → VK → Prop} {g : List Res → Option Res} {id : String}
theorem xcb (hc : CallR X (.builtin id) r) (hG : GCall T r g) (hg : Gl X x) (hm : X.mg x = none) (hv : bootBuiltins x = some (.builtin id)) (ha : PA X (e :: es) (tA T b φ)) (hn : x ≠ "__name__" := by decide) (hdb : (x == ("__debug__" : Str)) = false := by decide)
    (he : starEach (e :: es) X.env = (false, eval e X.env) :: starEach es X.env := by rfl) (hpl : (backTo pos (starEach es X.env)).any (·.1) = false := by rfl) : PE X (.Call (.Name x p) (e :: es) [] pos) (tE T b (fA g φ)) :=
  peImp (pe_callB hc hg hm hv ha hn hdb he hpl) fun σ H Q h => fA_ok h fun w vs rs rr o hg k => hG w vs rs rr Q o hg k
theorem xct (hc : CallR X (.type id) r) (hG : GCall T r g) (hg : Gl X x) (hm : X.mg x = none) (hv : bootBuiltins x = some (.type id)) (ha : PA X (e :: es) (tA T b φ)) (hn : x ≠ "__name__" := by decide) (hdb : (x == ("__debug__" : Str)) = false := by decide)
    (he : starEach (e :: es) X.env = (false, eval e X.env) :: starEach es X.env := by rfl) (hpl : (backTo pos (starEach es X.env)).any (·.1) = false := by rfl) : PE X (.Call (.Name x p) (e :: es) [] pos) (tE T b (fA g φ)) :=
  peImp (pe_callTy hc hg hm hv ha hn hdb he hpl) fun σ H Q h => fA_ok h fun w vs rs rr o hg k => hG w vs rs rr Q o hg k
end
theorem args1 {T : Kt} {w : W3} {vs : List V} {r : Res} (h : ArgsOk T w vs [r]) : ∃ v, vs = [v] ∧ ResOk T w v r := by
  cases h with
  | cons a t => cases t; exact ⟨_, rfl, a⟩
theorem args2 {T : Kt} {w : W3} {vs : List V} {r q : Res} (h : ArgsOk T w vs [r, q]) : ∃ v u, vs = [v, u] ∧ ResOk T w v r ∧ ResOk T w u q := by
  cases h with
  | cons a t =>
    obtain ⟨u, rfl, h2⟩ := args1 t
    exact ⟨_, u, rfl, a, h2⟩
def lenR : List Res → Option Res
  | [r] => match r.d with
    | .lst ds => some (.at .f (.int ds.length))
    | .tup ds => some (.at .f (.int ds.length))
    | .ktp ds => some (.at .f (.int ds.length))
    | .scr ns => some (.at .f (.int ns.length))
    | .str s => if s.length ≤ 100000 then some (.at .f (.int s.length)) else none
    | _ => none
  | _ => none
theorem g_len {T : Kt} : GCall T (fun xs H Q => ∃ x n, xs = [x] ∧ LenV T.K x H n ∧ Q (.int n) H) lenR := by
  intro w vs rs rr Q ha hg k
  unfold lenR at hg
  split at hg
  · rename_i r
    obtain ⟨v, rfl, h⟩ := args1 ha
    split at hg
    · rename_i ds e
      cases hg
      obtain ⟨a, us, rfl, h1, h2⟩ := h.items e
      exact ⟨_, _, rfl, .inl ⟨us, .of h1, h2.length.symm⟩, fin_int k⟩
    · rename_i ds e
      cases hg
      obtain ⟨a, us, rfl, h1, h2, _⟩ := h.titems e
      exact ⟨_, _, rfl, .inr ⟨us, h1.sq, h2.length.symm⟩, fin_int k⟩
    · rename_i ds e
      cases hg
      obtain ⟨a, us, rfl, h1, h2, _⟩ := h.kitems e
      exact ⟨_, _, rfl, .inr ⟨us, .of h1, h2.length.symm⟩, fin_int k⟩
    · rename_i ns e
      cases hg
      obtain ⟨a, rfl, h1⟩ := h.isScr e
      exact ⟨_, _, rfl, .inl ⟨_, h1, (List.length_map ..).symm⟩, fin_int k⟩
    · rename_i s e
      by_cases hz : s.length ≤ 100000
      · rw [if_pos hz] at hg
        cases hg
        cases h.isStr e
        exact ⟨_, _, rfl, ⟨sz hz, rfl⟩, fin_int k⟩
      · rw [if_neg hz] at hg; cases hg
    · cases hg
  · cases hg
def intR : List Res → Option Res
  | [r] => match r.d with
    | .int i => some (.at .f (.int i))
    | .bl k => some (.at .f (.int (if k then 1 else 0)))
    | _ => none
  | _ => none
theorem g_int {T : Kt} : GCall T (fun xs H Q => (∃ i, xs = [.int i] ∧ Q (.int i) H) ∨ ∃ k, xs = [.bl k] ∧ Q (.int (if k then 1 else 0)) H) intR := by
  intro w vs rs rr Q ha hg k
  unfold intR at hg
  split at hg
  · rename_i r
    obtain ⟨v, rfl, h⟩ := args1 ha
    split at hg
    · rename_i i e
      cases hg
      cases h.isInt e
      exact .inl ⟨i, rfl, fin_int k⟩
    · rename_i i e
      cases hg
      cases h.isBl e
      exact .inr ⟨i, rfl, fin_int k⟩
    · cases hg
  · cases hg
def tupOfR : List Res → Option Res
  | [r] => match r.d with
    | .lst ds => some (.at r.il (.tup ds))
    | .tup ds => some (.at r.lv (.tup ds))
    | .ktp ds => some (.at r.lv (.ktp ds))
    | .scr ns => some (.at .f (.tup (ns.map .int)))
    | _ => none
  | _ => none
theorem g_tupOf {T : Kt} : GCall T (fun xs H Q => ∃ p ys, xs = [.ref p] ∧ ((SqL T.K H p ys ∧ QNew Q H ys) ∨ (SqT T.K H p ys ∧ Q (.ref p) H))) tupOfR := by
  intro w vs rs rr Q ha hg k
  unfold tupOfR at hg
  split at hg
  · rename_i r
    obtain ⟨v, rfl, h⟩ := args1 ha
    split at hg
    · rename_i ds e
      cases hg
      obtain ⟨a, us, rfl, h1, h2⟩ := h.items e
      exact ⟨a, us, rfl, .inl ⟨.of h1, fin_tup k h2⟩⟩
    · rename_i ds e
      cases hg
      obtain ⟨a, us, rfl, h1, h2, h3⟩ := h.titems e
      exact ⟨a, us, rfl, .inr ⟨h1.sq, fin_atl k h3⟩⟩
    · rename_i ds e
      cases hg
      obtain ⟨a, us, rfl, h1, h2, h3⟩ := h.kitems e
      exact ⟨a, us, rfl, .inr ⟨.of h1, fin_atl k h3⟩⟩
    · rename_i ns e
      cases hg
      obtain ⟨a, rfl, h1⟩ := h.isScr e
      exact ⟨a, _, rfl, .inl ⟨h1, fin_tup k (RpL.ofInts ns)⟩⟩
    · cases hg
  · cases hg
def listOfR : List Res → Option Res
  | [r] => match r.d with
    | .lst ds => some (mkL r.il ds)
    | .tup ds => some (mkL r.lv ds)
    | .ktp ds => some (mkL r.lv ds)
    | .scr ns => some (.own (ns.map .int))
    | _ => none
  | _ => none
theorem g_listOf {T : Kt} : GCall T (fun xs H Q => ∃ p ys, xs = [.ref p] ∧ (SqL T.K H p ys ∨ SqT T.K H p ys) ∧ ∀ l, H l = none → Q (.ref l) (upd H l (.lst ys))) listOfR := by
  intro w vs rs rr Q ha hg k
  unfold listOfR at hg
  split at hg
  · rename_i r
    obtain ⟨v, rfl, h⟩ := args1 ha
    split at hg
    · rename_i ds e
      cases hg
      obtain ⟨a, us, rfl, h1, h2⟩ := h.items e
      exact ⟨a, us, rfl, .inl (.of h1), fin_mkL k h2⟩
    · rename_i ds e
      cases hg
      obtain ⟨a, us, rfl, h1, h2, h3⟩ := h.titems e
      exact ⟨a, us, rfl, .inr h1.sq, fin_mkL k h2⟩
    · rename_i ds e
      cases hg
      obtain ⟨a, us, rfl, h1, h2, h3⟩ := h.kitems e
      exact ⟨a, us, rfl, .inr (.of h1), fin_mkL k h2⟩
    · rename_i ns e
      cases hg
      obtain ⟨a, rfl, h1⟩ := h.isScr e
      exact ⟨a, _, rfl, .inl h1, fin_own k (RpL.ofInts ns)⟩
    · cases hg
  · cases hg
/-- a list of ints -/
def intsOf (r : Res) : Option (List Int) := match r.d with
  | .lst ds => ints? ds
  | .scr ns => some ns
  | _ => none
theorem ResOk.ints {T : Kt} {w : W3} {v : V} {r : Res} {ns : List Int} (h : ResOk T w v r) (e : intsOf r = some ns) : ∃ a, v = .ref a ∧ SqL T.K w.H a (ns.map V.int) := by
  unfold intsOf at e
  split at e
  · rename_i ds e1
    cases ints_of e
    obtain ⟨a, us, rfl, h1, h2⟩ := h.items e1
    rw [h2.ints] at h1
    exact ⟨a, rfl, .of h1⟩
  · rename_i ms e1
    cases e
    exact h.isScr e1
  · cases e
def sumR : List Res → Option Res
  | [r] => (intsOf r).map fun ns => .at .f (.int ns.sum)
  | _ => none
theorem g_sum {T : Kt} : GCall T (rSum T.K) sumR := by
  intro w vs rs rr Q ha hg k
  unfold sumR at hg
  split at hg
  · rename_i r
    obtain ⟨v, rfl, h⟩ := args1 ha
    cases h1 : intsOf r with
    | none => rw [h1] at hg; cases hg
    | some ns =>
      rw [h1] at hg
      cases hg
      obtain ⟨a, rfl, h2⟩ := h.ints h1
      exact ⟨a, ns, rfl, h2, fin_int k⟩
  · cases hg
def minR : List Res → Option Res
  | [r] => (intsOf r).bind fun ns => ns.min?.map fun n => .at .f (.int n)
  | _ => none
def maxR : List Res → Option Res
  | [r] => (intsOf r).bind fun ns => ns.max?.map fun n => .at .f (.int n)
  | _ => none
theorem g_min {T : Kt} : GCall T (rMin T.K) minR := by
  intro w vs rs rr Q ha hg k
  unfold minR at hg
  split at hg
  · rename_i r
    obtain ⟨v, rfl, h⟩ := args1 ha
    cases h1 : intsOf r with
    | none => rw [h1] at hg; cases hg
    | some ns =>
      rw [h1] at hg
      have hg : (ns.min?.map fun n => Res.at .f (.int n)) = some rr := hg
      cases h3 : ns.min? with
      | none => rw [h3] at hg; cases hg
      | some n =>
        rw [h3] at hg
        cases hg
        obtain ⟨a, rfl, h2⟩ := h.ints h1
        have hn := List.min?_eq_some_iff.mp h3
        refine ⟨a, ns, rfl, h2, List.length_pos_of_mem hn.1, fun m hm hle => ?_⟩
        have e : m = n := Int.le_antisymm (hle n hn.1) (hn.2 m hm)
        subst e
        exact fin_int k
  · cases hg
theorem g_max {T : Kt} : GCall T (rMax T.K) maxR := by
  intro w vs rs rr Q ha hg k
  unfold maxR at hg
  split at hg
  · rename_i r
    obtain ⟨v, rfl, h⟩ := args1 ha
    cases h1 : intsOf r with
    | none => rw [h1] at hg; cases hg
    | some ns =>
      rw [h1] at hg
      have hg : (ns.max?.map fun n => Res.at .f (.int n)) = some rr := hg
      cases h3 : ns.max? with
      | none => rw [h3] at hg; cases hg
      | some n =>
        rw [h3] at hg
        cases hg
        obtain ⟨a, rfl, h2⟩ := h.ints h1
        have hn := List.max?_eq_some_iff.mp h3
        refine ⟨a, ns, rfl, h2, List.length_pos_of_mem hn.1, fun m hm hle => ?_⟩
        have e : m = n := Int.le_antisymm (hn.2 m hm) (hle n hn.1)
        subst e
        exact fin_int k
  · cases hg
def insI (x : Int) : List Int → List Int
  | [] => [x]
  | y :: ys => if x ≤ y then x :: y :: ys else y :: insI x ys
def isort : List Int → List Int
  | [] => []
  | x :: xs => insI x (isort xs)
theorem insI_perm (x : Int) : ∀ ys : List Int, (insI x ys).Perm (x :: ys)
  | [] => .refl _
  | y :: ys => by
    unfold insI
    split
    · exact .refl _
    · exact ((insI_perm x ys).cons y).trans (.swap x y ys)
theorem isort_perm : ∀ xs : List Int, (isort xs).Perm xs
  | [] => .refl _
  | x :: xs => (insI_perm x _).trans ((isort_perm xs).cons x)
theorem insI_sorted (x : Int) : ∀ ys : List Int, ys.Pairwise (· ≤ ·) → (insI x ys).Pairwise (· ≤ ·)
  | [], _ => List.pairwise_singleton _ _
  | y :: ys, h => by
    unfold insI
    split
    · rename_i hxy
      refine List.pairwise_cons.mpr ⟨fun z hz => ?_, h⟩
      rcases List.mem_cons.mp hz with rfl | hz
      · exact hxy
      · exact Int.le_trans hxy ((List.pairwise_cons.mp h).1 z hz)
    · rename_i hxy
      refine List.pairwise_cons.mpr ⟨fun z hz => ?_, insI_sorted x ys (List.pairwise_cons.mp h).2⟩
      rcases List.mem_cons.mp ((insI_perm x ys).mem_iff.mp hz) with rfl | hz
      · omega
      · exact (List.pairwise_cons.mp h).1 z hz
theorem isort_sorted : ∀ xs : List Int, (isort xs).Pairwise (· ≤ ·)
  | [] => .nil
  | x :: xs => insI_sorted x _ (isort_sorted xs)
theorem sorted_eq {a b : List Int} (hp : a.Perm b) (ha : a.Pairwise (· ≤ ·)) (hb : b.Pairwise (· ≤ ·)) : a = b :=
  hp.eq_of_pairwise (fun x y _ _ h1 h2 => Int.le_antisymm h1 h2) ha hb
def sortedR : List Res → Option Res
  | [r] => (intsOf r).bind fun ns => if ns.length < 64 then some (.own ((isort ns).map .int)) else none
  | _ => none
theorem g_sorted {T : Kt} : GCall T (rSorted T.K) sortedR := by
  intro w vs rs rr Q ha hg k
  unfold sortedR at hg
  split at hg
  · rename_i r
    obtain ⟨v, rfl, h⟩ := args1 ha
    cases h1 : intsOf r with
    | none => rw [h1] at hg; cases hg
    | some ns =>
      rw [h1] at hg
      have hg : (if ns.length < 64 then some (Res.own ((isort ns).map .int)) else none) = some rr := hg
      by_cases hz : ns.length < 64
      · rw [if_pos hz] at hg
        cases hg
        obtain ⟨a, rfl, h2⟩ := h.ints h1
        refine ⟨a, ns, rfl, h2, hz, fun ns' p hp hs hn => ?_⟩
        have e : ns' = isort ns := sorted_eq (hp.trans (isort_perm ns).symm) hs (isort_sorted ns)
        subst e
        exact fin_own k (RpL.ofInts _) p hn
      · rw [if_neg hz] at hg; cases hg
  · cases hg
def bls? : List D → Option (List Bool)
  | [] => some []
  | .bl i :: xs => (bls? xs).map fun ns => i :: ns
  | _ => none
theorem bls_map (ns : List Bool) : bls? (ns.map D.bl) = some ns := by
  induction ns with
  | nil => rfl
  | cons n ns ih => rw [List.map_cons, bls?, ih]; rfl
theorem bls_of : ∀ {ds : List D} {ns : List Bool}, bls? ds = some ns → ds = ns.map D.bl
  | [], ns, h => by cases h; rfl
  | .bl i :: xs, ns, h => by
    cases h1 : bls? xs with
    | none => rw [bls?, h1] at h; cases h
    | some ms => rw [bls?, h1] at h; cases h; rw [bls_of h1]; rfl
  | .non :: _, _, h => by cases h
  | .int _ :: _, _, h => by cases h
  | .str _ :: _, _, h => by cases h
  | .lst _ :: _, _, h => by cases h
  | .tup _ :: _, _, h => by cases h
  | .ktp _ :: _, _, h => by cases h
  | .scr _ :: _, _, h => by cases h
  | .obj _ _ _ :: _, _, h => by cases h
  | .dct _ _ :: _, _, h => by cases h
  | .set _ :: _, _, h => by cases h
  | .rng _ _ :: _, _, h => by cases h
def blsOf (r : Res) : Option (List Bool) := match r.d with
  | .lst ds => bls? ds
  | _ => none
theorem ResOk.bls {T : Kt} {w : W3} {v : V} {r : Res} {ns : List Bool} (h : ResOk T w v r) (e : blsOf r = some ns) : ∃ a, v = .ref a ∧ SqL T.K w.H a (ns.map V.bl) := by
  unfold blsOf at e
  split at e
  · rename_i ds e1
    cases bls_of e
    obtain ⟨a, us, rfl, h1, h2⟩ := h.items e1
    rw [h2.bls] at h1
    exact ⟨a, rfl, .of h1⟩
  · cases e
def allR : List Res → Option Res
  | [r] => (blsOf r).map fun ns => .at .f (.bl (ns.all id))
  | _ => none
def anyR : List Res → Option Res
  | [r] => (blsOf r).map fun ns => .at .f (.bl (ns.any id))
  | _ => none
theorem g_all {T : Kt} : GCall T (rAll T.K) allR := by
  intro w vs rs rr Q ha hg k
  unfold allR at hg
  split at hg
  · rename_i r
    obtain ⟨v, rfl, h⟩ := args1 ha
    cases h1 : blsOf r with
    | none => rw [h1] at hg; cases hg
    | some ns =>
      rw [h1] at hg
      cases hg
      obtain ⟨a, rfl, h2⟩ := h.bls h1
      exact ⟨a, ns, rfl, h2, fin_bl k⟩
  · cases hg
theorem g_any {T : Kt} : GCall T (rAny T.K) anyR := by
  intro w vs rs rr Q ha hg k
  unfold anyR at hg
  split at hg
  · rename_i r
    obtain ⟨v, rfl, h⟩ := args1 ha
    cases h1 : blsOf r with
    | none => rw [h1] at hg; cases hg
    | some ns =>
      rw [h1] at hg
      cases hg
      obtain ⟨a, rfl, h2⟩ := h.bls h1
      exact ⟨a, ns, rfl, h2, fin_bl k⟩
  · cases hg

/-! ### isinstance(x, T), T a built-in type -/
def tyN : D → Option String
  | .non => some "NoneType"
  | .bl _ => some "bool"
  | .int _ => some "int"
  | .str _ => some "str"
  | .lst _ => some "list"
  | .tup _ => some "tuple"
  | .ktp _ => some "tuple"
  | .dct _ _ => some "dict"
  | _ => none
def isiD (d : D) (t : String) : Option Bool := (tyN d).bind fun s => kitB s t
theorem ty_of {T : Kt} {H : Hp} {v : V} {d : D} {s : String} (h : Rp T H v d) (e : tyN d = some s) : TyX T.K H v (.type s) := by
  cases h with
  | non => cases e; exact .base .non
  | bl b => cases e; exact .base (.bl b)
  | int b => cases e; exact .base (.int b)
  | str b => cases e; exact .base (.str b)
  | lst h1 h2 => cases e; exact .base (.lst h1)
  | tup h1 h2 => cases e; obtain ⟨o, h1, _⟩ := h1; exact .fTuple h1
  | ktp h1 h2 => cases e; exact .base (.tup h1)
  | scr h1 => cases e
  | obj _ _ _ _ => cases e
  | dct h1 _ _ => cases e; exact .base (.dT h1)
  | set _ _ _ _ => cases e
  | rng _ => cases e
def fIsi (t : String) (φ : Ro → Option Res) : Ro → Option Res := fun ρ => (φ ρ).bind fun r => (isiD r.d t).map fun k => .at .f (.bl k)
theorem xisi {X : Cx} {c : Str → Option Addr} {b : Bas} {y : Str} {t : String} {e : Expr} {φ : Ro → Option Res} {p p2 pos : Pos} (hg : Gl X "isinstance") (hm : X.mg "isinstance" = none) (hgy : Gl X y) (hmy : X.mg y = none) (hy : bootBuiltins y = some (.type t))
    (he : PE X e (tE (xT X c) b φ)) (hny : y ≠ "__name__" := by decide) (hdy : (y == ("__debug__" : Str)) = false := by decide)
    (hs : starEach [e, .Name y p2] X.env = (false, eval e X.env) :: starEach [.Name y p2] X.env := by rfl) (hs2 : starEach [.Name y p2] X.env = (false, eval (.Name y p2) X.env) :: starEach [] X.env := by rfl)
    (hpl : (backTo pos (starEach [.Name y p2] X.env)).any (·.1) = false := by rfl) :
    PE X (.Call (.Name "isinstance" p) [e, .Name y p2] [] pos) (tE (xT X c) b (fIsi t φ)) :=
  peImp (pe_callB call_isi hg hm (by decide +kernel) (pa_cons he (pa_cons (pe_bltn (v := .ty t) hgy hmy hy rfl hny hdy) pa_nil hs2) hs) (by decide) (by decide) hs hpl) fun σ H Q h => by
    obtain ⟨w, ρ, rr, rfl, en, hφ, k⟩ := h
    unfold fIsi at hφ
    cases h1 : φ ρ with
    | none => rw [h1] at hφ; cases hφ
    | some r =>
      rw [h1] at hφ
      have hφ : ((isiD r.d t).map fun k => Res.at .f (.bl k)) = some rr := hφ
      cases h2 : isiD r.d t with
      | none => rw [h2] at hφ; cases hφ
      | some kk =>
        rw [h2] at hφ
        cases hφ
        refine ⟨w, ρ, r, rfl, en, h1, fun v w1 l1 o1 _ => ?_⟩
        unfold isiD at h2
        cases h3 : tyN r.d with
        | none => rw [h3] at h2; cases h2
        | some s =>
          rw [h3] at h2
          exact ⟨v, .ty t, .type s, .type t, kk, rfl, .ty t, ty_of o1.rpH h3, kit_ty h2, k _ w1 l1 (.bl kk) True.intro⟩

/-! ### a def's promise -/
inductive ArgM (T : Kt) (F H : Hp) : List Bool → List V → List D → Prop
  | nil : ArgM T F H [] [] []
  | cons {m : Bool} {ms : List Bool} {v : V} {vs : List V} {d : D} {ds : List D} : Rp T (if m then F else H) v d → ArgM T F H ms vs ds → ArgM T F H (m :: ms) (v :: vs) (d :: ds)
def RetOk (T : Kt) (F' H H' : Hp) (v : V) : Res → Prop
  | .at .f d => Rp T F' v d
  | .own ds => ∃ a vs, v = .ref a ∧ H' a = some (.lst vs) ∧ RpL T F' vs ds ∧ F' a = none ∧ H a = none
  | _ => False
def spP (T : Kt) (ms : List Bool) (φ : List D → Option Res) : Sp := fun vs H Q _ => ∃ F ds r, Same F H ∧ ArgM T F H ms vs ds ∧ φ ds = some r ∧
  ∀ v F' H', Same F F' → Same H H' → Same F' H' → (∀ a, Mut (H a) → F a = none → F' a = none) → RetOk T F' H H' v r → Q v H'
theorem ArgM.len {T : Kt} {F H : Hp} : ∀ {ms : List Bool} {vs : List V} {ds : List D}, ArgM T F H ms vs ds → vs.length = ms.length ∧ ds.length = ms.length
  | _, _, _, .nil => ⟨rfl, rfl⟩
  | _, _, _, .cons _ t => by
    obtain ⟨h1, h2⟩ := t.len
    exact ⟨by rw [List.length_cons, List.length_cons, h1], by rw [List.length_cons, List.length_cons, h2]⟩
def ro1 : List Bool → List D → Ro
  | m :: ms, d :: ds => some (.at (if m then .f else .b) d) :: ro1 ms ds
  | _, _ => []
def ro0 (n : Nat) (ms : List Bool) (ds : List D) : Ro := ro1 ms ds ++ List.replicate (n - ms.length) none
def endR : Out → Option Res
  | .rt (.at .f d) => some (.at .f d)
  | .rt (.own ds) => some (.own ds)
  | .nx _ => some (.at .f .non)
  | _ => none
def runD (n : Nat) (ms : List Bool) (Φ : Ro → Option Out) (ds : List D) : Option Res := (Φ (ro0 n ms ds)).bind endR
theorem ro1_len {T : Kt} {F H : Hp} {ms : List Bool} {vs : List V} {ds : List D} (h : ArgM T F H ms vs ds) : (ro1 ms ds).length = vs.length := by
  induction h with
  | nil => rfl
  | cons _ _ ih => rw [ro1, List.length_cons, List.length_cons, ih]
theorem ro1_at {T : Kt} {w : W3} {ms : List Bool} {vs : List V} {ds : List D} (h : ArgM T w.F w.B ms vs ds) : ∀ (i : Nat) (r : Res), (ro1 ms ds)[i]? = some (some r) → (∃ l d, r = .at l d) ∧ ∃ v, vs[i]? = some v ∧ ResOk T w v r := by
  induction h with
  | nil => intro i r e; simp [ro1] at e
  | @cons m ms v vs d ds h1 h2 ih =>
    intro i r e
    cases i with
    | zero =>
      rw [ro1] at e
      simp only [List.getElem?_cons_zero, Option.some.injEq] at e
      subst e
      refine ⟨⟨_, _, rfl⟩, v, by simp, ?_⟩
      cases m with
      | true => exact h1
      | false => exact h1
    | succ i =>
      rw [ro1] at e
      obtain ⟨h3, u, h4, h5⟩ := ih i r (by simpa using e)
      exact ⟨h3, u, by simpa using h4, h5⟩
/-- the slots at a def's entry -/
theorem en_start {T : Kt} {F H : Hp} (hF : Same F H) {N : List Str} {ms : List Bool} {vs : List V} {ds : List D} (h : ArgM T F H ms vs ds) : En T ⟨F, H, none⟩ ⟨F, H, H, hF, .refl H⟩ (L2.start N vs) (ro0 N.length ms ds) := by
  have hl := h.len
  have h1 := ro1_len h
  have hat := ro1_at (w := ⟨F, H, H, hF, .refl H⟩) h
  have no : ∀ (i : Nat) (r : Res), (ro0 N.length ms ds)[i]? = some (some r) → (ro1 ms ds)[i]? = some (some r) := fun i r e => by
    unfold ro0 at e
    by_cases hi : i < (ro1 ms ds).length
    · rw [List.getElem?_append_left hi] at e; exact e
    · rw [List.getElem?_append_right (by omega)] at e
      rw [List.getElem?_replicate] at e
      split at e <;> cases e
  have hok : ∀ (i : Nat) (r : Res), (ro1 ms ds)[i]? = some (some r) → slotR r = some r := by
    clear hl h1 hat no
    induction h with
    | nil => intro i r e; simp [ro1] at e
    | @cons m ms v vs d ds h1 h2 ih =>
      intro i r e
      cases i with
      | zero =>
        rw [ro1] at e
        simp only [List.getElem?_cons_zero, Option.some.injEq] at e
        subst e
        cases m <;> rfl
      | succ i =>
        rw [ro1] at e
        exact ih i r (by simpa using e)
  refine ⟨⟨.refl _, .refl _, fun _ _ q => q⟩, fun i r e => ?_, fun i j r q v u _ e1 _ _ _ x hx => ?_, ?_, fun i r e => hok i r (no i r e), fun k i j dss v a e1 _ _ _ => ?_, fun c ks ds e1 => ?_⟩
  · obtain ⟨_, v, h2, h3⟩ := hat i r (no i r e)
    refine ⟨v, ?_, fun _ => h3⟩
    unfold L2.start
    have hi : i < vs.length := (List.getElem?_eq_some_iff.mp h2).1
    rw [List.getElem?_append_left (by rw [List.length_map]; exact hi), List.getElem?_map, h2]
    rfl
  · obtain ⟨⟨l, d, e⟩, _⟩ := hat i _ (no i _ e1)
    subst e
    cases v <;> cases hx
  · unfold ro0 L2.start
    rw [List.length_append, List.length_append, List.length_replicate, List.length_replicate, List.length_map, h1, hl.1]
  · obtain ⟨⟨l, d, e⟩, _⟩ := hat k _ (no k _ e1)
    cases e
  · obtain ⟨⟨l, d, e⟩, _⟩ := hat 0 _ (no 0 _ e1)
    cases e
section
variable {P : Program} {w : World} {K : PySem.W.Frag} {mg : Str → Option Value} {base : Heap}
theorem fun_ok {x qual : Str} {st : Stmt} {f : Addr} {fd : FuncData} {N ps : List Str} {k : Nat} {c : Str → Option Addr} {ms : List Bool} {Φ : Ro → Option Out} (F : Fun K x qual st f fd) (S : FnScope N ps (defScope st)) (hl : ms.length = ps.length)
    (hbody : ∀ (b : Bas) (cdv : Value) (A : Around) (outer : List Env) (s : Shared) (H : Hp) (E : XK), Room k (A.deeper (envOfC qual (defScope st) s.heap.objs.size f cdv)) →
      PSs (cxOf CX0 P w K mg base N qual (defScope st) f cdv A outer s H E).nox (defBody st) (tS ⟨K, c, P, w⟩ b Φ)) :
    FnOk P w K mg base CX0 (k + 1) f fd ps (spP ⟨K, c, P, w⟩ ms (runD N.length ms Φ)) := by
  refine F.ok S (fun vs H Q E h => ?_) (fun cdv A outer s H vs Q E hr h => ?_)
  · obtain ⟨F', ds, r, _, ha, _⟩ := h
    rw [ha.len.1, hl]
  · obtain ⟨F', ds, r, hF, ha, hφ, kk⟩ := h
    refine ⟨_, hbody ⟨F', H, none⟩ cdv A outer s H E hr, ?_⟩
    unfold runD at hφ
    cases h1 : Φ (ro0 N.length ms ds) with
    | none => rw [h1] at hφ; cases hφ
    | some o =>
      rw [h1] at hφ
      have hφ : endR o = some r := hφ
      refine ⟨⟨F', H, H, hF, .refl H⟩, _, o, rfl, en_start hF ha, h1, ?_⟩
      cases o with
      | nx ρ =>
        cases hφ
        intro σ w' _ en
        exact kk .non w'.F w'.H en.bs.F (en.bs.H.trans w'.bh) (w'.fb.trans w'.bh) en.bs.k (Rp.non)
      | rt r' =>
        intro v w' bs o fr
        cases r' with
        | «at» l d =>
          cases l with
          | f => cases hφ; exact kk v w'.F w'.H bs.F (bs.H.trans w'.bh) (w'.fb.trans w'.bh) bs.k o
          | b => cases hφ
          | h => cases hφ
        | own ds =>
          cases hφ
          obtain ⟨a, us, e1, h2, h3, h4, _⟩ := o
          exact kk v w'.F w'.H bs.F (bs.H.trans w'.bh) (w'.fb.trans w'.bh) bs.k ⟨a, us, e1, h2, h3, h4, fr ds rfl a e1⟩
        | pk ds => cases hφ
        | own2 _ => cases hφ
        | ownT _ => cases hφ
        | ali _ _ => cases hφ
        | ownI _ _ _ => cases hφ
        | ownS _ => cases hφ
      | bk ρ => cases hφ
      | ct ρ => cases hφ
end
end Fx

set_option Elab.async false
set_option linter.all false
set_option maxRecDepth 100000
namespace Fx
open PySem PySem.Spec PyProof.Rows L2

/-! ### a call of a def -/
def isF : Lv → Bool
  | .f => true
  | _ => false
def fits : List Bool → List Res → Bool
  | [], [] => true
  | m :: ms, r :: rs => (!m || isF r.lv) && fits ms rs
  | _, _ => false
def callR (ms : List Bool) (φ : List D → Option Res) (rs : List Res) : Option Res := if fits ms rs then φ (rs.map Res.d) else none
theorem fits_ok {T : Kt} {w : W3} : ∀ {ms : List Bool} {rs : List Res} {vs : List V}, fits ms rs = true → ArgsOk T w vs rs → ArgM T w.F w.H ms vs (rs.map Res.d)
  | [], [], _, _, h => by cases h; exact .nil
  | [], _ :: _, _, e, _ => by cases e
  | _ :: _, [], _, e, _ => by cases e
  | m :: ms, r :: rs, _, e, h => by
    cases h with
    | cons h1 h2 =>
      unfold fits at e
      simp only [Bool.and_eq_true, Bool.or_eq_true, Bool.not_eq_true'] at e
      refine .cons ?_ (fits_ok e.2 h2)
      cases m with
      | false => exact h1.rpH
      | true =>
        have e1 : isF r.lv = true := by
          rcases e.1 with q | q
          · cases q
          · exact q
        have h3 := h1.rp
        cases hl : r.lv with
        | f => rw [hl] at h3; exact h3
        | b => rw [hl] at e1; cases e1
        | h => rw [hl] at e1; cases e1
/-- one heap over another -/
def uni (A B : Hp) : Hp := fun a => match A a with
  | some o => some o
  | none => B a
theorem uni_l (A B : Hp) : Same A (uni A B) := fun a o h => by unfold uni; rw [h]
theorem uni_none {A B : Hp} {a : Addr} (h1 : A a = none) (h2 : B a = none) : uni A B a = none := by unfold uni; rw [h1]; exact h2
/-- behind a call -/
def W3.aft (w : W3) (F' H' : Hp) (hH : Same w.H H') (hF : Same F' H') : W3 := ⟨F', uni F' w.B, H', uni_l _ _, fun a o h => by
  unfold uni at h
  cases h1 : F' a with
  | some o' => rw [h1] at h; cases h; exact hF a _ h1
  | none => rw [h1] at h; exact hH a o (w.bh a o h)⟩
theorem W3.aft_le (w : W3) {F' H' : Hp} (h1 : Same w.F F') (hH : Same w.H H') (hF : Same F' H') (k : ∀ a, Mut (w.H a) → w.F a = none → F' a = none) : Le w (w.aft F' H' hH hF) :=
  ⟨h1, fun a o h => by
    show uni F' w.B a = some o
    unfold uni
    cases h2 : F' a with
    | some o' =>
      have e1 := hF a o' h2
      have e2 := hH a o (w.bh a o h)
      rw [e1] at e2
      exact e2
    | none => exact h, hH, k, fun a m h => uni_none (k a m (none_back w.fb h)) h⟩
section
variable {X : Cx} {c : Str → Option Addr} {b : Bas} {k : Nat} {f : Addr} {fd : FuncData} {ps : List Str} {ms : List Bool} {φd : List D → Option Res} {x : Str} {p pos : Pos} {e : Expr} {es : List Expr} {φ : Ro → Option (List Res)}
theorem call_go {w : W3} {vs : List V} {rs : List Res} {rr : Res} {Q : VK} {E : XK} (o : ArgsOk (xT X c) w vs rs) (hg : callR ms φd rs = some rr) (kk : Kq (xT X c) w rr Q) : spP (xT X c) ms φd (vs ++ []) w.H Q E := by
  rw [List.append_nil]
  unfold callR at hg
  by_cases hf : fits ms rs = true
  · rw [if_pos hf] at hg
    refine ⟨w.F, _, rr, w.fb.trans w.bh, fits_ok hf o, hg, fun v F' H' h1 h2 h3 h4 h5 => ?_⟩
    refine kk v (w.aft F' H' h2 h3) (w.aft_le h1 h2 h3 h4) ?_ ?_
    · cases rr with
      | «at» l d =>
        cases l with
        | f => exact h5
        | b => exact h5.elim
        | h => exact h5.elim
      | own ds =>
        obtain ⟨a, us, e1, h6, h7, h8, h9⟩ := h5
        exact ⟨a, us, e1, h6, h7, h8, uni_none h8 (none_back w.bh h9)⟩
      | pk ds => exact h5.elim
      | own2 _ => exact h5.elim
      | ownT _ => exact h5.elim
      | ali _ _ => exact h5.elim
      | ownI _ _ _ => exact h5.elim
      | ownS _ => exact h5.elim
    · cases rr with
      | «at» l d => exact True.intro
      | own ds =>
        obtain ⟨a, us, e1, h6, h7, h8, h9⟩ := h5
        intro a' e2
        rw [e1] at e2
        cases e2
        exact h9
      | pk ds => exact True.intro
      | own2 _ => exact True.intro
      | ownT _ => exact h5.elim
      | ali _ _ => exact True.intro
      | ownI _ _ _ => exact h5.elim
      | ownS _ => exact h5.elim
  · rw [if_neg hf] at hg; cases hg
theorem xcall (F : FnOk X.prog X.w X.K X.mg X.base CX0 k f fd ps (spP (xT X c) ms φd)) (hr : Room k X.A) (hg : Gl X x) (hm : X.mg x = some (.ref f)) (hk : PySem.W.keepIn X.K (.ref f) = true) (hb : Binds X.K fd ps [])
    (ha : PA X (e :: es) (tA (xT X c) b φ)) (hdb : (x == ("__debug__" : Str)) = false := by decide) (he : starEach (e :: es) X.env = (false, eval e X.env) :: starEach es X.env := by rfl) (hpl : (backTo pos (starEach es X.env)).any (·.1) = false := by rfl) :
    PE X (.Call (.Name x p) (e :: es) [] pos) (tE (xT X c) b (fA (callR ms φd) φ)) :=
  peImp (pe_call F hr hg hm hk hb .nil pass0 ha hdb he hpl) fun σ H Q h => fA_ok h fun w vs rs rr o hg kk => call_go o hg kk
end

/-! ### statements -/
theorem slotA_eq {r q : Res} (h : slotA r = some q) : r = q ∧ slotR r = some r := by
  cases r with
  | «at» l d => cases l <;> cases h <;> exact ⟨rfl, rfl⟩
  | own ds => cases h; exact ⟨rfl, rfl⟩
  | ownT ds => cases h; exact ⟨rfl, rfl⟩
  | ownI _ _ _ => cases h
  | ownS _ => cases h; exact ⟨rfl, rfl⟩
  | pk ds => cases h
  | own2 ds => cases h
  | ali _ _ => cases h
theorem foot_none {H : Hp} {v : V} {l : Lv} {d : D} : foot H v (.at l d) = [] := by cases v <;> rfl
theorem foot_new {T : Kt} {w0 w : W3} {v : V} {r q : Res} {H : Hp} {x : Addr} (hq : slotA r = some q) (f : Frs w0 v r) (hx : x ∈ foot H v r) : w0.H x = none := by
  cases r with
  | «at» l d => rw [foot_none] at hx; cases hx
  | own ds =>
    cases v with
    | ref a =>
      have hx : x ∈ [a] := hx
      rw [List.mem_singleton] at hx
      subst hx
      exact f _ rfl
    | _ => cases hx
  | ownT ds =>
    cases v with
    | ref a =>
      have hx : x ∈ [a] := hx
      rw [List.mem_singleton] at hx
      subst hx
      exact f _ rfl
    | _ => cases hx
  | ownI _ _ _ => cases hq
  | ownS ks =>
    cases v with
    | ref a =>
      have hx : x ∈ [a] := hx
      rw [List.mem_singleton] at hx
      subst hx
      exact f _ rfl
    | _ => cases hx
  | pk ds => cases hq
  | own2 ds => cases hq
  | ali _ _ => cases hq
theorem set_get {α : Type} {xs : List (Option α)} {i j : Nat} {x : α} {q : Option α} (e : (xs.set i (some x))[j]? = some q) : (j = i ∧ q = some x ∧ i < xs.length) ∨ (j ≠ i ∧ xs[j]? = some q) := by
  by_cases hj : j = i
  · subst hj
    by_cases hlt : j < xs.length
    · rw [List.getElem?_set_self hlt] at e
      cases e
      exact .inl ⟨rfl, rfl, hlt⟩
    · rw [List.getElem?_eq_none (by rw [List.length_set]; omega)] at e; cases e
  · rw [List.getElem?_set_ne (fun z => hj z.symm)] at e
    exact .inr ⟨hj, e⟩
theorem En.set {T : Kt} {b : Bas} {w0 w : W3} {σ : L2.St} {ρ : Ro} {v : V} {r q : Res} (i : Nat) (h0 : En T b w0 σ ρ) (l : Le w0 w) (o : ResOk T w v r) (f : Frs w0 v r) (ok : slotA r = some q) : En T b w (σ.set i (some v)) (ρ.set i (some r)) := by
  have hr := (slotA_eq ok).2
  have h := h0.mono l
  -- what the old slots own was there already
  have there : ∀ (j : Nat) (p : Res) (u : V) (x : Addr), ρ[j]? = some (some p) → σ[j]? = some (some u) → x ∈ foot w.H u p → x ∈ foot w.H v r → False := fun j p u x e1 e2 h1 h2 => by
    obtain ⟨u', h3, h4⟩ := h0.at_ j p e1
    rw [e2] at h3
    cases h3
    rw [foot_eq l.H h4] at h1
    have h5 : isAli p = false := by cases p <;> first | rfl | (cases u <;> cases h1)
    have h6 := foot_in (h4 h5) h1
    have h7 := foot_new (T := T) (w := w) ok f h2
    rw [h7] at h6
    exact h6.1
  have atS : ∀ {j : Nat} {u : V}, (σ.set i (some v))[j]? = some (some u) → j ≠ i → σ[j]? = some (some u) := fun {j u} e hj => by
    rw [List.getElem?_set_ne (fun z => hj z.symm)] at e; exact e
  have atI : ∀ {u : V}, (σ.set i (some v))[i]? = some (some u) → u = v := fun {u} e => by
    rcases set_get e with ⟨_, z, _⟩ | ⟨z, _⟩
    · exact Option.some.inj z
    · exact absurd rfl z
  refine ⟨h.bs, fun j q e => ?_, fun j k p q u1 u2 hjk e1 e2 e3 e4 x h1 h2 => ?_, by rw [List.length_set, List.length_set, h.len], fun j q e => ?_, fun k m n dss u a e1 e2 e3 e4 => ?_, fun c ks ds e => ?_⟩
  · rcases set_get e with ⟨rfl, hq, hlt⟩ | ⟨hj, e⟩
    · cases hq
      exact ⟨v, List.getElem?_set_self (by rw [← h.len]; exact hlt), fun _ => o⟩
    · obtain ⟨u, h1, h2⟩ := h.at_ j q e
      exact ⟨u, by rw [List.getElem?_set_ne (fun z => hj z.symm)]; exact h1, h2⟩
  · rcases set_get e1 with ⟨hj, hq, _⟩ | ⟨hj, n1⟩
    · rcases set_get e2 with ⟨hk, _, _⟩ | ⟨hk, n2⟩
      · exact hjk (hj.trans hk.symm)
      · subst hj
        cases hq
        cases atI e3
        exact there k q u2 x n2 (atS e4 hk) h2 h1
    · rcases set_get e2 with ⟨hk, hq, _⟩ | ⟨hk, n2⟩
      · subst hk
        cases hq
        cases atI e4
        exact there j p u1 x n1 (atS e3 hj) h1 h2
      · exact h.dis j k p q u1 u2 hjk n1 n2 (atS e3 hj) (atS e4 hk) x h1 h2
  · rcases set_get e with ⟨_, hq, _⟩ | ⟨_, e⟩
    · cases hq; exact hr
    · exact h.ok j q e
  · rcases set_get e1 with ⟨_, hq, _⟩ | ⟨hk, n1⟩
    · cases hq; cases ok
    · rcases set_get e2 with ⟨_, hq, _⟩ | ⟨hm, n2⟩
      · cases hq; cases ok
      · exact h.al k m n dss u a n1 n2 (atS e3 hk) (atS e4 hm)
  · rcases set_get e with ⟨_, hq, _⟩ | ⟨hk, n1⟩
    · cases hq; cases ok
    · obtain ⟨a, h1, h2⟩ := h.sf c ks ds n1
      exact ⟨a, h1, by rw [List.getElem?_set_ne (fun z => hk z.symm)]; exact h2⟩
def sAsg (i : Nat) (φ : Ro → Option Res) : Ro → Option Out := fun ρ => (φ ρ).bind fun r => (slotA r).map fun r => .nx (ρ.set i (some r))
def sRet (φ : Ro → Option Res) : Ro → Option Out := fun ρ => (φ ρ).map .rt
def sSeq (Φ Ψ : Ro → Option Out) : Ro → Option Out := fun ρ => (Φ ρ).bind fun o => match o with
  | .nx ρ' => Ψ ρ'
  | o => some o
def sNx : Ro → Option Out := fun ρ => some (.nx ρ)
def sBk : Ro → Option Out := fun ρ => some (.bk ρ)
def sCt : Ro → Option Out := fun ρ => some (.ct ρ)
def sIf (c : Ro → Option Bool) (Φ Ψ : Ro → Option Out) : Ro → Option Out := fun ρ => (c ρ).bind fun k => if k then Φ ρ else Ψ ρ
def sDrop (φ : Ro → Option Res) : Ro → Option Out := fun ρ => (φ ρ).map fun _ => .nx ρ
section
variable {X : Cx} {b : Bas} {T : Kt} {e : Expr} {pos : Pos} {φ : Ro → Option Res} {Φ Ψ : Ro → Option Out}
theorem xset {i : Nat} {x : Str} {pos' : Pos} (hN : X.N.Nodup) (hi : X.N[i]? = some x) (hx : Loc X.env.scope x) (he : PE X e (tE T b φ)) (hs : swapsWith e (some (.Name x pos')) pos.line X.env = pure false := by rfl)
    (hf : X.fn x = true ∨ X.env.scope.names.lookup x = some .local := by first | exact .inl rfl | exact .inr rfl | assumption) : PS X (.Assign [.Name x pos'] e pos) (tS T b (sAsg i φ)) :=
  psImp (ps_set (i := i) hN hi hx he hs hf) fun D σ H h => by
    obtain ⟨w, ρ, o, rfl, en, hφ, k⟩ := h
    unfold sAsg at hφ
    cases h1 : φ ρ with
    | none => rw [h1] at hφ; cases hφ
    | some r =>
      rw [h1] at hφ
      have hφ : ((slotA r).map fun r => Out.nx (ρ.set i (some r))) = some o := hφ
      cases h2 : slotA r with
      | none => rw [h2] at hφ; cases hφ
      | some q =>
        rw [h2] at hφ
        cases hφ
        cases (slotA_eq h2).1
        exact ⟨w, ρ, r, rfl, en, h1, fun v w' l o f => k (σ.set i (some v)) w' l.gr (En.set i en l o f h2)⟩
theorem rt_of {w : W3} {ρ : Ro} {σ : L2.St} {D : Ends} {r : Res} (en : En T b w σ ρ) (k : Cont T b w D (.rt r)) : Kq T w r D.rt := fun v w' l o f => k v w' (en.bs.mono l) o fun ds e a ev => by
  cases e
  exact none_back (en.bs.H.trans w.bh) (f a ev)
theorem xret (he : PE X e (tE T b φ)) : PS X (.Return (some e) pos) (tS T b (sRet φ)) := psImp (ps_ret he) fun D σ H h => by
  obtain ⟨w, ρ, o, rfl, en, hφ, k⟩ := h
  unfold sRet at hφ
  cases h1 : φ ρ with
  | none => rw [h1] at hφ; cases hφ
  | some r =>
    rw [h1] at hφ
    cases hφ
    exact ⟨w, ρ, r, rfl, en, h1, rt_of en k⟩
/-- return of a name: an own list goes out as it is -/
def sRetV (i : Nat) : Ro → Option Out := fun ρ => match ρ[i]? with
  | some (some (.own ds)) => some (.rt (.own ds))
  | some (some (.at l d)) => some (.rt (Res.mk l d))
  | _ => none
theorem xretv {i : Nat} {x : Str} {p : Pos} (hv : PE X (.Name x p) (tVar i)) : PS X (.Return (some (.Name x p)) pos) (tS T b (sRetV i)) := psImp (ps_ret hv) fun D σ H h => by
  obtain ⟨w, ρ, o, rfl, en, hφ, k⟩ := h
  unfold sRetV at hφ
  split at hφ
  · rename_i ds e1
    cases hφ
    obtain ⟨v, h1, h2⟩ := en.at_ i _ e1
    obtain ⟨a, vs, rfl, h3, h4, h5, h6⟩ := h2 rfl
    refine ⟨_, h1, k _ w en.bs ⟨a, vs, rfl, h3, h4, h5, h6⟩ fun ds' e2 a' e3 => ?_⟩
    cases e3
    exact none_back en.bs.H h6
  · rename_i l d e1
    cases hφ
    obtain ⟨v, h1, h2⟩ := en.at_ i _ e1
    exact ⟨_, h1, k _ w en.bs (ResOk.mk (show Rp T (w.at l) v d from h2 rfl)) fun ds' e2 => by unfold Res.mk at e2; cases e2⟩
  · cases hφ
def sRetN : Ro → Option Out := fun _ => some (.rt (.at .f .non))
theorem xretn : PS X (.Return none pos) (tS T b sRetN) := psImp ps_retN fun D σ H h => by
  obtain ⟨w, ρ, o, rfl, en, hφ, k⟩ := h
  cases hφ
  exact k .non w en.bs .non fun _ e => by cases e
theorem xnx : PSs X [] (tS T b sNx) := pssImp pss_nil fun D σ H h => by
  obtain ⟨w, ρ, o, rfl, en, hφ, k⟩ := h
  cases hφ
  exact k σ w (.refl w) en
theorem xseq {st : Stmt} {rest : List Stmt} (h1 : PS X st (tS T b Φ)) (h2 : PSs X rest (tS T b Ψ)) : PSs X (st :: rest) (tS T b (sSeq Φ Ψ)) := pssImp (pss_cons h1 h2) fun D σ H h => by
  obtain ⟨w, ρ, o, rfl, en, hφ, k⟩ := h
  unfold sSeq at hφ
  cases h1 : Φ ρ with
  | none => rw [h1] at hφ; cases hφ
  | some o1 =>
    rw [h1] at hφ
    refine ⟨w, ρ, o1, rfl, en, h1, ?_⟩
    cases o1 with
    | nx ρ' => exact fun σ' w' g en' => ⟨w', ρ', o, rfl, en', hφ, k.mono g⟩
    | rt r => cases hφ; exact k
    | bk r => cases hφ; exact k
    | ct r => cases hφ; exact k
theorem xone {st : Stmt} (h1 : PS X st (tS T b Φ)) : PSs X [st] (tS T b Φ) := pss_one h1
theorem xbk : PS X (.Break pos) (tS T b sBk) := psImp ps_break fun D σ H h => by
  obtain ⟨w, ρ, o, rfl, en, hφ, k⟩ := h
  cases hφ
  exact k σ w (.refl w) en
theorem xctn : PS X (.Continue pos) (tS T b sCt) := psImp ps_continue fun D σ H h => by
  obtain ⟨w, ρ, o, rfl, en, hφ, k⟩ := h
  cases hφ
  exact k σ w (.refl w) en
theorem xpass : PS X (.Pass pos) (tS T b sNx) := psImp ps_pass fun D σ H h => by
  obtain ⟨w, ρ, o, rfl, en, hφ, k⟩ := h
  cases hφ
  exact k σ w (.refl w) en
theorem xifs {t : Expr} {p q : List Stmt} {α : Ro → Option Bool} (ht : PT X t (tT T b α)) (hp : PSs X p (tS T b Φ)) (hq : PSs X q (tS T b Ψ)) : PS X (.If t p q pos) (tS T b (sIf α Φ Ψ)) := psImp (ps_if ht hp hq) fun D σ H h => by
  obtain ⟨w, ρ, o, rfl, en, hφ, k⟩ := h
  unfold sIf at hφ
  cases h1 : α ρ with
  | none => rw [h1] at hφ; cases hφ
  | some kk =>
    rw [h1] at hφ
    refine ⟨w, ρ, kk, rfl, en, h1, fun w1 l1 => ?_⟩
    cases kk with
    | true => rw [if_pos rfl]; exact ⟨w1, ρ, o, rfl, en.mono l1, hφ, k.mono l1.gr⟩
    | false => rw [if_neg (by decide)]; exact ⟨w1, ρ, o, rfl, en.mono l1, hφ, k.mono l1.gr⟩
theorem xdrop (he : PE X e (tE T b φ)) (hs : swapsWith e none pos.line X.env = pure false := by rfl) : PS X (.Expr e pos) (tS T b (sDrop φ)) := psImp (ps_expr he hs) fun D σ H h => by
  obtain ⟨w, ρ, o, rfl, en, hφ, k⟩ := h
  unfold sDrop at hφ
  cases h1 : φ ρ with
  | none => rw [h1] at hφ; cases hφ
  | some r =>
    rw [h1] at hφ
    cases hφ
    exact ⟨w, ρ, r, rfl, en, h1, fun v w' l _ _ => k σ w' l.gr (en.mono l)⟩
theorem xdoc {x j pos'} : PS X (.Expr (.Constant (.str x) j pos) pos') (tS T b sNx) := psImp ps_doc fun D σ H h => by
  obtain ⟨w, ρ, o, rfl, en, hφ, k⟩ := h
  cases hφ
  exact k σ w (.refl w) en

/-! ### own lists -/
/-- what a slot's own object is when it is frozen -/
def frzR : Res → Option D
  | .own ds => some (.lst ds)
  | .own2 dss => some (.lst (dss.map .lst))
  | .ownT kvs => some (.dct (kvs.map Prod.fst) (kvs.map Prod.snd))
  | .ownI c ks ds => some (.obj c ks ds)
  | _ => none
/-- the object of slot i is frozen ahead of the statement -/
def frzSlot (i : Nat) (ρ : Ro) : Ro := match ρ[i]? with
  | some (some r) => match frzR r with
    | some d => ρ.set i (some (.at .f d))
    | none => ρ
  | _ => ρ
def sFrz (i : Nat) (Φ : Ro → Option Out) : Ro → Option Out := fun ρ => Φ (frzSlot i ρ)
/-- the addresses S are known to F and B from now on -/
def W3.frs (w : W3) (S : List Addr) : W3 := ⟨fun p => if p ∈ S then w.H p else w.F p, fun p => if p ∈ S then w.H p else w.B p, w.H,
  fun p o h => by
    by_cases hp : p ∈ S
    · simp only [if_pos hp] at h ⊢; exact h
    · simp only [if_neg hp] at h ⊢; exact w.fb p o h,
  fun p o h => by
    by_cases hp : p ∈ S
    · simp only [if_pos hp] at h; exact h
    · simp only [if_neg hp] at h; exact w.bh p o h⟩
theorem W3.frs_F {w : W3} {S : List Addr} {p : Addr} (h : p ∈ S) : (w.frs S).F p = w.H p := if_pos h
theorem W3.frs_nF {w : W3} {S : List Addr} {p : Addr} (h : p ∉ S) : (w.frs S).F p = w.F p := if_neg h
theorem W3.frs_nB {w : W3} {S : List Addr} {p : Addr} (h : p ∉ S) : (w.frs S).B p = w.B p := if_neg h
theorem W3.frs_sF {w : W3} {S : List Addr} (h : ∀ p ∈ S, w.F p = none) : Same w.F (w.frs S).F := fun p o e => by
  by_cases hp : p ∈ S
  · rw [h p hp] at e; cases e
  · rw [frs_nF hp]; exact e
theorem W3.frs_sB {w : W3} {S : List Addr} (h : ∀ p ∈ S, w.B p = none) : Same w.B (w.frs S).B := fun p o e => by
  by_cases hp : p ∈ S
  · rw [h p hp] at e; cases e
  · rw [frs_nB hp]; exact e
theorem O2.frs {w : W3} {S : List Addr} (hs : Same w.F (w.frs S).F) : ∀ {as : List Addr} {dss : List (List D)}, (∀ x ∈ as, x ∈ S) → O2 T w as dss → RpL T (w.frs S).F (as.map V.ref) (dss.map D.lst)
  | _, _, _, .nil => .nil
  | _, _, h, .cons h1 h2 h3 h4 t => .cons (.lst (by rw [W3.frs_F (h _ List.mem_cons_self)]; exact h1) (RpL.mono hs _ _ h2)) (O2.frs hs (fun x hx => h x (List.mem_cons_of_mem _ hx)) t)
theorem frz_rp {w : W3} {v : V} {r : Res} {d : D} (h : ResOk T w v r) (e : frzR r = some d) : Rp T (w.frs (foot w.H v r)).F v d := by
  have hs : Same w.F (w.frs (foot w.H v r)).F := W3.frs_sF fun p hp => (foot_in h hp).2.1
  cases r with
  | own ds =>
    cases e
    obtain ⟨a, vs, rfl, h1, h2, _⟩ := h
    exact .lst ((W3.frs_F (S := [a]) (List.mem_cons_self)).trans h1) (RpL.mono hs _ _ h2)
  | own2 dss =>
    cases e
    obtain ⟨a, as, rfl, h1, h2, _⟩ := h
    have hf : foot w.H (.ref a) (.own2 dss) = a :: as := by
      show a :: itemsAt w.H a = _
      unfold itemsAt
      rw [h1]
      show a :: refsOf (as.map V.ref) = _
      rw [refsOf_map]
    rw [hf] at hs ⊢
    exact .lst (by rw [W3.frs_F List.mem_cons_self]; exact h1) (O2.frs hs (fun x hx => List.mem_cons_of_mem _ hx) h2)
  | ownT kvs =>
    cases e
    obtain ⟨a, kvv, rfl, h1, h2, h3, _⟩ := h
    exact .dct ((W3.frs_F (S := [a]) (List.mem_cons_self)).trans h1) h2 (RpL.mono hs _ _ h3)
  | ownI c ks ds =>
    cases e
    obtain ⟨a, C, dx, fs, rfl, hc, h1, h2, h3, _⟩ := h
    exact .obj hc ((W3.frs_F (S := [a]) (List.mem_cons_self)).trans h1) h2 (RpL.mono hs _ _ h3)
  | ownS _ => cases e
  | «at» l d => cases e
  | pk ds => cases e
  | ali _ _ => cases e
theorem O2.frsOut {w : W3} {S : List Addr} (hs : Same w.F (w.frs S).F) : ∀ {as : List Addr} {dss : List (List D)}, (∀ x ∈ as, x ∉ S) → O2 T w as dss → O2 T (w.frs S) as dss
  | _, _, _, .nil => .nil
  | _, _, h, .cons h1 h2 h3 h4 t => .cons h1 (RpL.mono hs _ _ h2) (by rw [W3.frs_nF (h _ List.mem_cons_self)]; exact h3) (by rw [W3.frs_nB (h _ List.mem_cons_self)]; exact h4) (O2.frsOut hs (fun x hx => h x (List.mem_cons_of_mem _ hx)) t)
/-- what is apart from the frozen addresses stays as it is -/
theorem ResOk.frsOut {w : W3} {S : List Addr} {v : V} {r : Res} (hF : Same w.F (w.frs S).F) (hB : Same w.B (w.frs S).B) (h : ResOk T w v r) (ha : ∀ x ∈ foot w.H v r, x ∉ S) : ResOk T (w.frs S) v r := by
  cases r with
  | «at» l d =>
    cases l with
    | f => exact Rp.mono hF d v h
    | b => exact Rp.mono hB d v h
    | h => exact h
  | own ds =>
    obtain ⟨a, vs, rfl, h1, h2, h3, h4⟩ := h
    have n := ha a (show a ∈ [a] from List.mem_cons_self)
    exact ⟨a, vs, rfl, h1, RpL.mono hF _ _ h2, by rw [W3.frs_nF n]; exact h3, by rw [W3.frs_nB n]; exact h4⟩
  | pk ds =>
    obtain ⟨a, vs, rfl, h1, h2⟩ := h
    exact ⟨a, vs, rfl, h1, RpL.mono hF _ _ h2⟩
  | own2 dss =>
    obtain ⟨a, as, rfl, h1, h2, h3, h4, h5⟩ := h
    have hf : foot w.H (.ref a) (.own2 dss) = a :: as := by
      show a :: itemsAt w.H a = _
      unfold itemsAt
      rw [h1]
      show a :: refsOf (as.map V.ref) = _
      rw [refsOf_map]
    rw [hf] at ha
    have n := ha a List.mem_cons_self
    exact ⟨a, as, rfl, h1, O2.frsOut hF (fun x hx => ha x (List.mem_cons_of_mem _ hx)) h2, h3, by rw [W3.frs_nF n]; exact h4, by rw [W3.frs_nB n]; exact h5⟩
  | ownT kvs =>
    obtain ⟨a, kvv, rfl, h1, h2, h3, h4, h5⟩ := h
    have n := ha a (show a ∈ [a] from List.mem_cons_self)
    exact ⟨a, kvv, rfl, h1, h2, RpL.mono hF _ _ h3, by rw [W3.frs_nF n]; exact h4, by rw [W3.frs_nB n]; exact h5⟩
  | ownI c ks ds =>
    obtain ⟨a, C, dx, fs, rfl, hc, h1, h2, h3, h4, h5⟩ := h
    have n := ha a (show a ∈ [a] from List.mem_cons_self)
    exact ⟨a, C, dx, fs, rfl, hc, h1, h2, RpL.mono hF _ _ h3, by rw [W3.frs_nF n]; exact h4, by rw [W3.frs_nB n]; exact h5⟩
  | ownS ks =>
    obtain ⟨a, L, rfl, h1, hp, hk, hl, h4, h5⟩ := h
    have n := ha a (show a ∈ [a] from List.mem_cons_self)
    exact ⟨a, L, rfl, h1, fun p hq => sqT_mono hF (hp p hq), hk, hl, by rw [W3.frs_nF n]; exact h4, by rw [W3.frs_nB n]; exact h5⟩
  | ali _ _ => exact h.elim
theorem en_frz {w : W3} {σ : L2.St} {ρ : Ro} (i : Nat) (en : En T b w σ ρ) : ∃ w', w'.H = w.H ∧ Gr w w' ∧ En T b w' σ (frzSlot i ρ) := by
  unfold frzSlot
  split
  · rename_i r e
    cases hz : frzR r with
    | none => exact ⟨w, rfl, .refl w, en⟩
    | some d =>
      have na : isAli r = false := by cases r <;> first | rfl | cases hz
      obtain ⟨v, h1, h2⟩ := en.at_ i _ e
      have h2 := h2 na
      have hi : i < ρ.length := (List.getElem?_eq_some_iff.mp e).1
      have hfi := fun x hx => foot_in (x := x) h2 hx
      have sF : Same w.F (w.frs (foot w.H v r)).F := W3.frs_sF fun p hp => (hfi p hp).2.1
      have sB : Same w.B (w.frs (foot w.H v r)).B := W3.frs_sB fun p hp => (hfi p hp).2.2
      have fH : (w.frs (foot w.H v r)).H = w.H := rfl
      refine ⟨w.frs (foot w.H v r), rfl, ⟨sF, sB⟩, ⟨⟨en.bs.F.trans sF, en.bs.H.trans sB, fun p m q => ?_⟩, fun j q ej => ?_, fun j k p q u1 u2 hjk e1 e2 e3 e4 x h3 h4 => ?_, by rw [List.length_set]; exact en.len, fun j q ej => ?_, fun k m n dss u a e1 e2 e3 e4 => ?_, fun c ks ds e1 => ?_⟩⟩
      · have hp : p ∉ foot w.H v r := fun z => by
          have := none_back en.bs.H (hfi p z).2.2
          rw [this] at m
          exact m
        rw [W3.frs_nF hp]; exact en.bs.k p m q
      · rcases set_get ej with ⟨rfl, hq, _⟩ | ⟨hj, ej⟩
        · cases hq
          exact ⟨v, h1, fun _ => frz_rp h2 hz⟩
        · obtain ⟨u, h7, h8⟩ := en.at_ j q ej
          exact ⟨u, h7, fun z => (h8 z).frsOut sF sB fun x hx hx2 => en.dis j i q r u v hj ej e h7 h1 x hx hx2⟩
      · rcases set_get e1 with ⟨_, hq, _⟩ | ⟨_, n1⟩
        · cases hq
          rw [foot_none] at h3
          cases h3
        · rcases set_get e2 with ⟨_, hq, _⟩ | ⟨_, n2⟩
          · cases hq
            rw [foot_none] at h4
            cases h4
          · exact en.dis j k p q u1 u2 hjk n1 n2 e3 e4 x h3 h4
      · rcases set_get ej with ⟨_, hq, _⟩ | ⟨_, ej⟩
        · cases hq; rfl
        · exact en.ok j q ej
      · rcases set_get e1 with ⟨_, hq, _⟩ | ⟨_, n1⟩
        · cases hq
        · rcases set_get e2 with ⟨_, hq, _⟩ | ⟨_, n2⟩
          · cases hq
          · exact en.al k m n dss u a n1 n2 e3 e4
      · rcases set_get e1 with ⟨_, hq, _⟩ | ⟨_, n1⟩
        · cases hq
        · exact en.sf c ks ds n1
  · exact ⟨w, rfl, .refl w, en⟩
theorem xfrz {st : Stmt} (i : Nat) (h : PS X st (tS T b Φ)) : PS X st (tS T b (sFrz i Φ)) := psImp h fun D σ H h => by
  obtain ⟨w, ρ, o, rfl, en, hφ, k⟩ := h
  obtain ⟨w', e, g, en'⟩ := en_frz i en
  exact ⟨w', _, o, e, en', hφ, k.mono g⟩
/-- an object that slot i owns is written: ob at x -/
def W3.wr (w : W3) (x : Addr) (ob : HO) (hb : w.B x = none) : W3 := ⟨w.F, w.B, upd w.H x ob, w.fb, same_upd2 w.bh hb⟩
theorem O2.wrOut {w : W3} {x : Addr} {ob : HO} {hb : w.B x = none} : ∀ {as : List Addr} {dss : List (List D)}, x ∉ as → O2 T w as dss → O2 T (w.wr x ob hb) as dss
  | _, _, _, .nil => .nil
  | _, _, h, .cons h1 h2 h3 h4 t => .cons (by show upd w.H x ob _ = _; rw [upd_ne (fun z => h (by rw [z]; exact List.mem_cons_self))]; exact h1) h2 h3 h4 (O2.wrOut (fun z => h (List.mem_cons_of_mem _ z)) t)
theorem foot_own2 {w : W3} {a : Addr} {as : List Addr} {dss : List (List D)} (h1 : w.H a = some (.lst (as.map V.ref))) : foot w.H (.ref a) (.own2 dss) = a :: as := by
  show a :: itemsAt w.H a = _
  unfold itemsAt
  rw [h1]
  show a :: refsOf (as.map V.ref) = _
  rw [refsOf_map]
theorem ResOk.wrOut {w : W3} {x : Addr} {ob : HO} {hb : w.B x = none} {v : V} {r : Res} (h : ResOk T w v r) (hs : slotR r = some r) (ha : x ∉ foot w.H v r) : ResOk T (w.wr x ob hb) v r ∧ foot (w.wr x ob hb).H v r = foot w.H v r := by
  cases r with
  | «at» l d =>
    refine ⟨?_, by rw [foot_none, foot_none]⟩
    cases l with
    | f => exact h
    | b => exact h
    | h => cases hs
  | own ds =>
    obtain ⟨a, vs, rfl, h1, h2, h3, h4⟩ := h
    have n : a ≠ x := fun z => ha (by rw [← z]; exact (show a ∈ [a] from List.mem_cons_self))
    exact ⟨⟨a, vs, rfl, by show upd w.H x ob a = _; rw [upd_ne n]; exact h1, h2, h3, h4⟩, rfl⟩
  | pk ds => cases hs
  | own2 dss =>
    obtain ⟨a, as, rfl, h1, h2, h3, h4, h5⟩ := h
    rw [foot_own2 h1] at ha ⊢
    have n : a ≠ x := fun z => ha (by rw [← z]; exact List.mem_cons_self)
    have h1' : (w.wr x ob hb).H a = some (.lst (as.map V.ref)) := by show upd w.H x ob a = _; rw [upd_ne n]; exact h1
    exact ⟨⟨a, as, rfl, h1', O2.wrOut (fun z => ha (List.mem_cons_of_mem _ z)) h2, h3, h4, h5⟩, foot_own2 h1'⟩
  | ownT kvs =>
    obtain ⟨a, kvv, rfl, h1, h2, h3, h4, h5⟩ := h
    have n : a ≠ x := fun z => ha (by rw [← z]; exact (show a ∈ [a] from List.mem_cons_self))
    exact ⟨⟨a, kvv, rfl, by show upd w.H x ob a = _; rw [upd_ne n]; exact h1, h2, h3, h4, h5⟩, rfl⟩
  | ownI c ks ds =>
    obtain ⟨a, C, dx, fs, rfl, hc, h1, h2, h3, h4, h5⟩ := h
    have n : a ≠ x := fun z => ha (by rw [← z]; exact (show a ∈ [a] from List.mem_cons_self))
    exact ⟨⟨a, C, dx, fs, rfl, hc, by show upd w.H x ob a = _; rw [upd_ne n]; exact h1, h2, h3, h4, h5⟩, rfl⟩
  | ownS ks =>
    obtain ⟨a, L, rfl, h1, hp, hk, hl, h4, h5⟩ := h
    have n : a ≠ x := fun z => ha (by rw [← z]; exact (show a ∈ [a] from List.mem_cons_self))
    exact ⟨⟨a, L, rfl, by show upd w.H x ob a = _; rw [upd_ne n]; exact h1, hp, hk, hl, h4, h5⟩, rfl⟩
  | ali _ _ => exact h.elim
/-- slot i's object is written at x, which it owns; r' tells what it is then; an own2's outer list stays -/
theorem En.wr {w : W3} {σ : L2.St} {ρ : Ro} {i : Nat} {r r' : Res} {v : V} {x : Addr} {ob : HO} (en : En T b w σ ρ) (e : ρ[i]? = some (some r)) (h1 : σ[i]? = some (some v)) (na : isAli r = false) (na' : isAli r' = false) (hs' : slotR r' = some r') (hx : x ∈ foot w.H v r) (hb : w.B x = none) (hr : ResOk T (w.wr x ob hb) v r')
    (hf : ∀ y, y ∈ foot (w.wr x ob hb).H v r' → y ∈ foot w.H v r) (h2 : ∀ dss, r' = .own2 dss → (∃ dss', r = .own2 dss') ∧ ∀ a, v = .ref a → a ≠ x) (h3 : ∀ c ks ds, r' = .ownI c ks ds → ∃ c' ks' ds', r = .ownI c' ks' ds') : En T b (w.wr x ob hb) σ (ρ.set i (some r')) := by
  have hi : i < ρ.length := (List.getElem?_eq_some_iff.mp e).1
  have out : ∀ (j : Nat) (q : Res) (u : V), j ≠ i → ρ[j]? = some (some q) → σ[j]? = some (some u) → isAli q = false → ResOk T w u q → ResOk T (w.wr x ob hb) u q ∧ foot (w.wr x ob hb).H u q = foot w.H u q := fun j q u hj ej eu _ hq =>
    hq.wrOut (en.ok j q ej) fun z => en.dis j i q r u v hj ej e eu h1 x z hx
  have ft : ∀ (j : Nat) (q : Res) (u : V), j ≠ i → ρ[j]? = some (some q) → σ[j]? = some (some u) → foot (w.wr x ob hb).H u q = foot w.H u q := fun j q u hj ej eu => by
    obtain ⟨u', h7, h8⟩ := en.at_ j q ej
    rw [eu] at h7
    cases h7
    cases ha : isAli q with
    | true =>
      cases q with
      | ali _ _ => cases u <;> rfl
      | _ => cases ha
    | false => exact (out j q u hj ej eu ha (h8 ha)).2
  refine ⟨⟨en.bs.F, en.bs.H, en.bs.k⟩, fun j q ej => ?_, fun j k p q u1 u2 hjk e1 e2 e3 e4 y h3 h4 => ?_, by rw [List.length_set]; exact en.len, fun j q ej => ?_, fun k m n dss u a e1 e2 e3 e4 => ?_, fun c ks ds e1 => ?_⟩
  · rcases set_get ej with ⟨rfl, hq, _⟩ | ⟨hj, ej⟩
    · cases hq
      exact ⟨v, h1, fun _ => hr⟩
    · obtain ⟨u, h7, h8⟩ := en.at_ j q ej
      exact ⟨u, h7, fun z => (out j q u hj ej h7 z (h8 z)).1⟩
  · rcases set_get e1 with ⟨hj, hq, _⟩ | ⟨hj, n1⟩
    · rcases set_get e2 with ⟨hk, _, _⟩ | ⟨hk, n2⟩
      · exact hjk (hj.trans hk.symm)
      · subst hj
        cases hq
        rw [h1] at e3
        cases e3
        rw [ft k q u2 hk n2 e4] at h4
        exact en.dis k j q r u2 v hk n2 e e4 h1 y h4 (hf y h3)
    · rcases set_get e2 with ⟨hk, hq, _⟩ | ⟨hk, n2⟩
      · subst hk
        cases hq
        rw [h1] at e4
        cases e4
        rw [ft j p u1 hj n1 e3] at h3
        exact en.dis j k p r u1 v hj n1 e e3 h1 y h3 (hf y h4)
      · rw [ft j p u1 hj n1 e3] at h3
        rw [ft k q u2 hk n2 e4] at h4
        exact en.dis j k p q u1 u2 hjk n1 n2 e3 e4 y h3 h4
  · rcases set_get ej with ⟨_, hq, _⟩ | ⟨_, ej⟩
    · cases hq; exact hs'
    · exact en.ok j q ej
  · rcases set_get e1 with ⟨_, hq, _⟩ | ⟨hk, n1⟩
    · cases hq; cases na'
    · rcases set_get e2 with ⟨hm, hq, _⟩ | ⟨hm, n2⟩
      · subst hm
        cases hq
        obtain ⟨⟨dss', hd⟩, hne⟩ := h2 _ rfl
        subst hd
        rw [h1] at e4
        cases e4
        obtain ⟨vs, h5, h6⟩ := en.al k m n dss' u a n1 e e3 h1
        exact ⟨vs, by show upd w.H x ob a = _; rw [upd_ne (hne a rfl)]; exact h5, h6⟩
      · obtain ⟨vs, h5, h6⟩ := en.al k m n dss u a n1 n2 e3 e4
        have hax : a ≠ x := fun z => by
          subst z
          have hk2 := ft m (.own2 dss) (.ref a) hm n2 e4
          refine en.dis m i (.own2 dss) r (.ref a) v hm n2 e e4 h1 a ?_ hx
          exact List.mem_cons_self
        exact ⟨vs, by show upd w.H x ob a = _; rw [upd_ne hax]; exact h5, h6⟩
  · rcases set_get e1 with ⟨hz, hq, _⟩ | ⟨_, n1⟩
    · subst hz
      obtain ⟨c', ks', ds', hr'⟩ := h3 c ks ds (Option.some.inj hq).symm
      exact en.sf c' ks' ds' (by rw [e, hr'])
    · exact en.sf c ks ds n1
end
end Fx

set_option Elab.async false
set_option linter.all false
set_option maxRecDepth 100000
namespace Fx
open PySem PySem.Spec PyProof.Rows L2

/-! ### xs.append(e), xs[k] = e, x += e -/
/-- what is kept in an own list -/
def frD : Res → Option D
  | .at .f d => some d
  | _ => none
def sApp (i : Nat) (φ : Ro → Option Res) : Ro → Option Out := fun ρ => match ρ[i]? with
  | some (some (.own ds)) => (φ ρ).bind fun r => (frD r).bind fun d => if ds.length < 100000 then some (.nx (ρ.set i (some (.own (ds ++ [d]))))) else none
  | _ => none
def sSetI (i : Nat) (ψ φ : Ro → Option Res) : Ro → Option Out := fun ρ => match ρ[i]? with
  | some (some (.own ds)) => (φ ρ).bind fun r => (frD r).bind fun d => (ψ ρ).bind fun q => (intOf q).bind fun k => (ixN ds.length k).map fun j => .nx (ρ.set i (some (.own (ds.set j d))))
  | _ => none
def sAug (i : Nat) (f : Int → Int → Int) (φ : Ro → Option Res) : Ro → Option Out := fun ρ => match ρ[i]? with
  | some (some (.at _ (.int a))) => (φ ρ).bind fun r => (intOf r).map fun k => .nx (ρ.set i (some (.at .f (.int (f a k)))))
  | _ => none
theorem frD_eq {r : Res} {d : D} (h : frD r = some d) : r = .at .f d := by
  cases r with
  | «at» l d' => cases l <;> cases h <;> rfl
  | _ => cases h
theorem intOf_eq {r : Res} {i : Int} (h : intOf r = some i) : r.d = .int i := by
  unfold intOf at h
  split at h
  · rename_i e; cases h; exact e
  · cases h
section
variable {X : Cx} {c : Str → Option Addr} {b : Bas} {e : Expr} {pos : Pos} {φ ψ : Ro → Option Res} {Φ Ψ : Ro → Option Out}
theorem own_wr {T : Kt} {w : W3} {σ : L2.St} {ρ : Ro} {i : Nat} {ds ds' : List D} {a : Addr} {vs' : List V} (en : En T b w σ ρ) (e : ρ[i]? = some (some (.own ds))) (h1 : σ[i]? = some (some (.ref a))) (hf : w.F a = none) (hb : w.B a = none) (hr : RpL T w.F vs' ds') :
    En T b (w.wr a (.lst vs') hb) σ (ρ.set i (some (.own ds'))) :=
  en.wr (r' := .own ds') (ob := .lst vs') e h1 rfl rfl rfl (show a ∈ [a] from List.mem_cons_self) hb ⟨a, vs', rfl, upd_same, hr, hf, hb⟩ (fun y h => h) (fun dss h => by cases h) fun _ _ _ h => by cases h
theorem xapp {i : Nat} {e0 : Expr} (h : PE X e0 (tBM X.K "list" rAppend (tVar i) (tCons (tE (xT X c) b φ) tNil))) (hs : swapsWith e0 none pos.line X.env = pure false := by rfl) : PS X (.Expr e0 pos) (tS (xT X c) b (sApp i φ)) :=
  psImp (ps_expr h hs) fun D σ H h => by
    obtain ⟨w, ρ, o, rfl, en, hφ, k⟩ := h
    unfold sApp at hφ
    split at hφ
    · rename_i ds e1
      cases h2 : φ ρ with
      | none => rw [h2] at hφ; cases hφ
      | some r =>
        rw [h2, Option.bind_some] at hφ
        cases h3 : frD r with
        | none => rw [h3] at hφ; cases hφ
        | some d =>
          rw [h3, Option.bind_some] at hφ
          by_cases hz : ds.length < 100000
          · rw [if_pos hz] at hφ
            cases hφ
            cases frD_eq h3
            obtain ⟨v, h4, h5⟩ := en.at_ i _ e1
            obtain ⟨a, vs, rfl, h5, h6, h7, h8⟩ := h5 rfl
            refine ⟨.ref a, h4, .inl ⟨rfl, _, .of h5⟩, w, ρ, _, rfl, en, h2, fun u w' l o _ => ?_⟩
            have en' := en.mono l
            have m : Mut (w.H a) := by rw [h5]; exact True.intro
            have hb' := l.kB a m h8
            refine ⟨a, vs, u, rfl, rfl, l.H _ _ h5, by rw [h6.length]; exact szl hz, ?_⟩
            exact k σ (w'.wr a _ hb') ⟨l.F, l.B⟩ (own_wr en' e1 h4 (l.kF a m h7) hb' (RpL.app (RpL.mono l.F _ _ h6) (.cons (show Rp _ w'.F u d from o) .nil)))
          · rw [if_neg hz] at hφ; cases hφ
    · cases hφ
theorem xseti {i : Nat} {st : Stmt} (h : PS X st (tAsg (tE (xT X c) b φ) (gSub (tVar i) (tE (xT X c) b ψ) rSetL))) : PS X st (tS (xT X c) b (sSetI i ψ φ)) :=
  psImp h fun D σ H h => by
    obtain ⟨w, ρ, o, rfl, en, hφ, k⟩ := h
    unfold sSetI at hφ
    split at hφ
    · rename_i ds e1
      cases h2 : φ ρ with
      | none => rw [h2] at hφ; cases hφ
      | some r =>
        rw [h2, Option.bind_some] at hφ
        cases h3 : frD r with
        | none => rw [h3] at hφ; cases hφ
        | some d =>
          rw [h3, Option.bind_some] at hφ
          cases h4 : ψ ρ with
          | none => rw [h4] at hφ; cases hφ
          | some q =>
            rw [h4, Option.bind_some] at hφ
            cases h5 : intOf q with
            | none => rw [h5] at hφ; cases hφ
            | some z =>
              rw [h5, Option.bind_some] at hφ
              cases h6 : ixN ds.length z with
              | none => rw [h6] at hφ; cases hφ
              | some j =>
                rw [h6] at hφ
                cases hφ
                cases frD_eq h3
                obtain ⟨v, h7, h8⟩ := en.at_ i _ e1
                obtain ⟨a, vs, rfl, h8, h9, h10, h11⟩ := h8 rfl
                refine ⟨w, ρ, _, rfl, en, h2, fun u w1 l1 o1 _ => ⟨.ref a, h7, w1, ρ, q, rfl, en.mono l1, h4, fun u2 w2 l2 o2 _ => ?_⟩⟩
                have l := l1.trans l2
                have m : Mut (w.H a) := by rw [h8]; exact True.intro
                have hb' := l.kB a m h11
                refine ⟨a, vs, z, j, rfl, o2.isInt (intOf_eq h5), l.H _ _ h8, by rw [h9.length]; exact h6, ?_⟩
                exact k σ (w2.wr a _ hb') ⟨l.F, l.B⟩ (own_wr (en.mono l) e1 h7 (l.kF a m h10) hb' (RpL.set (show Rp _ w2.F u d from o1.mono l2) j (RpL.mono l.F _ _ h9)))
    · cases hφ
theorem xaug {i : Nat} {st : Stmt} {f : Int → Int → Int} (h : PS X st (tAug i (tE (xT X c) b φ) (ipI f))) : PS X st (tS (xT X c) b (sAug i f φ)) :=
  psImp h fun D σ H h => by
    obtain ⟨w, ρ, o, rfl, en, hφ, k⟩ := h
    unfold sAug at hφ
    split at hφ
    · rename_i l a e1
      cases h2 : φ ρ with
      | none => rw [h2] at hφ; cases hφ
      | some r =>
        rw [h2] at hφ
        have hφ : ((intOf r).map fun k => Out.nx (ρ.set i (some (.at .f (.int (f a k)))))) = some o := hφ
        cases h3 : intOf r with
        | none => rw [h3] at hφ; cases hφ
        | some z =>
          rw [h3] at hφ
          cases hφ
          obtain ⟨v, h4, h5⟩ := en.at_ i _ e1
          cases (show Rp _ (w.at l) v (.int a) from h5 rfl)
          refine ⟨_, h4, w, ρ, r, rfl, en, h2, fun u w1 l1 o1 _ => ⟨a, z, rfl, o1.isInt (intOf_eq h3), ?_⟩⟩
          exact k _ w1 l1.gr (En.set i en l1 (show ResOk _ w1 _ (.at .f (.int (f a z))) from .int _) True.intro rfl)
    · cases hφ
end

/-! ### targets -/
theorem wipe_get (σ : L2.St) : ∀ (us : List Nat) (i : Nat), (wipe σ us)[i]? = if i ∈ us then (if i < σ.length then some none else none) else σ[i]?
  | [], i => by simp [wipe]
  | v :: us, i => by
    unfold wipe
    rw [List.getElem?_set, wipe_length, wipe_get σ us i]
    by_cases hv : v = i
    · subst hv
      rw [if_pos rfl, if_pos (show v ∈ v :: us from List.mem_cons_self)]
    · rw [if_neg hv]
      by_cases hm : i ∈ us
      · rw [if_pos hm, if_pos (List.mem_cons_of_mem _ hm)]
      · rw [if_neg hm, if_neg (by
          intro z
          rcases List.mem_cons.mp z with z | z
          · exact hv z.symm
          · exact hm z)]
theorem wipe_set {σ : L2.St} {us : List Nat} {i : Nat} {x : Option V} (h : i ∈ us) : wipe (σ.set i x) us = wipe σ us := by
  apply List.ext_getElem?
  intro j
  rw [wipe_get, wipe_get, List.length_set]
  by_cases hj : j ∈ us
  · rw [if_pos hj, if_pos hj]
  · rw [if_neg hj, if_neg hj, List.getElem?_set_ne (fun (z : i = j) => hj (by rw [← z]; exact h))]
theorem wipe_wipe (σ : L2.St) (us : List Nat) : wipe (wipe σ us) us = wipe σ us := by
  apply List.ext_getElem?
  intro j
  rw [wipe_get, wipe_get, wipe_length]
  by_cases hj : j ∈ us
  · rw [if_pos hj, if_pos hj]
  · rw [if_neg hj, if_neg hj]
def isAt : Res → Bool
  | .at .h _ => false
  | .at _ _ => true
  | _ => false
theorem isAt_slot {r : Res} (h : isAt r = true) : slotA r = some r := by
  cases r with
  | «at» l d => cases l <;> first | rfl | cases h
  | _ => cases h
theorem isAt_frs {r : Res} (h : isAt r = true) (w : W3) (v : V) : Frs w v r := by
  cases r with
  | «at» l d => exact True.intro
  | _ => cases h
/-- a target, by what is stored -/
def GTg (T : Kt) (b : Bas) (g : TG) (γ : Res → Ro → Option Ro) (vs : List Nat) : Prop :=
  ∀ (w : W3) (σ : L2.St) (ρ : Ro) (x : V) (r : Res) (ρ' : Ro) (Q : L2.St → Hp → Prop), En T b w σ ρ → ResOk T w x r → isAt r = true → γ r ρ = some ρ' →
    (∀ σ', En T b w σ' ρ' → (∀ us : List Nat, (∀ v ∈ vs, v ∈ us) → wipe σ' us = wipe σ us) → Q σ' w.H) → g x σ w.H Q
def GTgs (T : Kt) (b : Bas) (g : TGs) (γ : List Res → Ro → Option Ro) (vs : List Nat) : Prop :=
  ∀ (w : W3) (σ : L2.St) (ρ : Ro) (xs : List V) (rs : List Res) (ρ' : Ro) (Q : L2.St → Hp → Prop), En T b w σ ρ → ArgsOk T w xs rs → rs.all isAt = true → γ rs ρ = some ρ' →
    (∀ σ', En T b w σ' ρ' → (∀ us : List Nat, (∀ v ∈ vs, v ∈ us) → wipe σ' us = wipe σ us) → Q σ' w.H) → g xs σ w.H Q
def gaN (i : Nat) (r : Res) (ρ : Ro) : Option Ro := some (ρ.set i (some r))
def gaT (n : Nat) (γ : List Res → Ro → Option Ro) (r : Res) (ρ : Ro) : Option Ro := match r.d with
  | .tup ds => if ds.length = n then γ (ds.map (Res.mk r.lv)) ρ else none
  | .ktp ds => if ds.length = n then γ (ds.map (Res.mk r.lv)) ρ else none
  | _ => none
def ga0 (rs : List Res) (ρ : Ro) : Option Ro := match rs with
  | [] => some ρ
  | _ => none
def gaC (γ : Res → Ro → Option Ro) (γs : List Res → Ro → Option Ro) (rs : List Res) (ρ : Ro) : Option Ro := match rs with
  | r :: rs => (γ r ρ).bind (γs rs)
  | _ => none
section
variable {T : Kt} {b : Bas}
theorem tg_name (i : Nat) : GTg T b (gName i) (gaN i) [i] := by
  intro w σ ρ x r ρ' Q en o ha hγ q
  cases hγ
  exact q _ (En.set i en (.refl w) o (isAt_frs ha w x) (isAt_slot ha)) fun us hu => wipe_set (hu i (by simp))
theorem tgs_nil : GTgs T b gNil ga0 [] := by
  intro w σ ρ xs rs ρ' Q en o ha hγ q
  cases o with
  | nil => cases hγ; exact ⟨rfl, q σ en fun us _ => rfl⟩
  | cons _ _ => cases hγ
theorem tgs_cons {g : TG} {gs : TGs} {γ : Res → Ro → Option Ro} {γs : List Res → Ro → Option Ro} {vs us : List Nat} (h : GTg T b g γ vs) (hs : GTgs T b gs γs us) : GTgs T b (gCons g gs) (gaC γ γs) (vs ++ us) := by
  intro w σ ρ xs rs ρ' Q en o ha hγ q
  cases o with
  | nil => cases hγ
  | @cons x r xs rs h1 h2 =>
    simp only [List.all_cons, Bool.and_eq_true] at ha
    have hγ : ((γ r ρ).bind (γs rs)) = some ρ' := hγ
    cases h3 : γ r ρ with
    | none => rw [h3] at hγ; cases hγ
    | some ρ1 =>
      rw [h3] at hγ
      refine ⟨x, xs, rfl, h w σ ρ x r ρ1 _ en h1 ha.1 h3 fun σ1 en1 e1 => ?_⟩
      refine hs w σ1 ρ1 xs rs ρ' Q en1 h2 ha.2 hγ fun σ2 en2 e2 => q σ2 en2 fun ws hw => ?_
      rw [e2 ws fun v hv => hw v (List.mem_append_right _ hv), e1 ws fun v hv => hw v (List.mem_append_left _ hv)]
theorem mks_ok {w : W3} {l : Lv} (hl : l = .h → False) : ∀ {vs : List V} {ds : List D}, RpL T (w.at l) vs ds → ArgsOk T w vs (ds.map (Res.mk l)) ∧ (ds.map (Res.mk l)).all isAt = true
  | _, _, .nil => ⟨.nil, rfl⟩
  | _, _, .cons h t => by
    obtain ⟨h1, h2⟩ := mks_ok hl t
    refine ⟨.cons (ResOk.mk h) h1, ?_⟩
    rw [List.map_cons, List.all_cons, h2, Bool.and_true]
    unfold Res.mk
    rename_i d _
    cases atomic d with
    | true => rfl
    | false =>
      cases l with
      | f => rfl
      | b => rfl
      | h => exact (hl rfl).elim
theorem isAt_lv {r : Res} (h : isAt r = true) : r.lv = .h → False := by
  cases r with
  | «at» l d =>
    cases l with
    | f => intro e; cases e
    | b => intro e; cases e
    | h => cases h
  | _ => cases h
theorem tg_tup {n : Nat} {gs : TGs} {γs : List Res → Ro → Option Ro} {us : List Nat} (hs : GTgs T b gs γs us) : GTg T b (gTup T.K n gs) (gaT n γs) us := by
  intro w σ ρ x r ρ' Q en o ha hγ q
  unfold gaT at hγ
  split at hγ
  · rename_i ds e
    by_cases hn : ds.length = n
    · rw [if_pos hn] at hγ
      obtain ⟨a, vs, rfl, h1, h2, _⟩ := o.titems e
      obtain ⟨h3, h4⟩ := mks_ok (isAt_lv ha) h2
      exact ⟨a, vs, rfl, h1.sq, by rw [h2.length]; exact hn, hs w σ ρ vs _ ρ' Q en h3 h4 hγ q⟩
    · rw [if_neg hn] at hγ; cases hγ
  · rename_i ds e
    by_cases hn : ds.length = n
    · rw [if_pos hn] at hγ
      obtain ⟨a, vs, rfl, h1, h2, _⟩ := o.kitems e
      obtain ⟨h3, h4⟩ := mks_ok (isAt_lv ha) h2
      exact ⟨a, vs, rfl, .of h1, by rw [h2.length]; exact hn, hs w σ ρ vs _ ρ' Q en h3 h4 hγ q⟩
    · rw [if_neg hn] at hγ; cases hγ
  · cases hγ
end

/-! ### loops -/
structure ItOk (T : Kt) (J : It) (w0 : W3) (items : List Res) : Prop where
  ats : items.all isAt = true
  go : ∀ (w : W3), Same w0.F w.F → Same w0.B w.B → ∀ i, i < items.length → J.go i w.H ∧ ∀ x H', J.yld i w.H x H' → ∃ w' r, items[i]? = some r ∧ w'.H = H' ∧ Le w w' ∧ ResOk T w' x r
  stop : ∀ (w : W3), Same w0.F w.F → Same w0.B w.B → ∀ i, items.length ≤ i → J.stop i w.H
def tI (T : Kt) (b : Bas) (ι : Ro → Option (List Res)) : TI := fun σ H R => ∃ w ρ items, w.H = H ∧ En T b w σ ρ ∧ ι ρ = some items ∧ ∀ J w', Le w w' → ItOk T J w' items → R J w'.H
theorem piImp {X : Cx} {tg it : Expr} {t t' : TI} (h : PI X tg it t) (i : ∀ σ H R, t' σ H R → t σ H R) : PI X tg it t' := ⟨fun pins s σ H R I q => h.run pins s σ H R I (i σ H R q)⟩
def loopD (γ : Res → Ro → Option Ro) (Φ : Ro → Option Out) : List Res → Ro → Option Out
  | [], ρ => some (.nx ρ)
  | x :: xs, ρ => (γ x ρ).bind fun ρ1 => (Φ ρ1).bind fun o => match o with
    | .nx ρ2 => loopD γ Φ xs ρ2
    | .ct ρ2 => loopD γ Φ xs ρ2
    | .bk ρ2 => some (.nx ρ2)
    | .rt r => some (.rt r)
def sFor (ι : Ro → Option (List Res)) (γ : Res → Ro → Option Ro) (Φ : Ro → Option Out) : Ro → Option Out := fun ρ => (ι ρ).bind fun items => loopD γ Φ items ρ
section
variable {X : Cx} {T : Kt} {b : Bas} {ι : Ro → Option (List Res)} {γ : Res → Ro → Option Ro} {Φ : Ro → Option Out} {g : TG} {vs : List Nat}
theorem loop_go {J : It} {D : Ends} {w0 : W3} {items : List Res} (hg : GTg T b g γ vs) (hJ : ItOk T J w0 items) {w : W3} {σ : L2.St} {ρ : Ro} {o : Out} (hw : Gr w0 w) (en : En T b w σ ρ) (hl : loopD γ Φ items ρ = some o) (k : Cont T b w D o) :
    ∃ W : Nat → Nat → L2.St → Hp → Prop, (∃ m, W 0 m σ w.H) ∧ ∀ i m σ H, W i m σ H → (J.stop i H ∧ D.nx σ H) ∨ (J.go i H ∧ ∃ N : L2.St → Hp → Prop, (∀ σ' H', N σ' H' → ∃ m', m' < m ∧ W (i + 1) m' σ' H') ∧
      ∀ x H', J.yld i H x H' → g x σ H' fun σ2 H2 => tS T b Φ { D with nx := N, ct := N, bk := D.nx } σ2 H2) := by
  refine ⟨fun i m σ H => m = items.length - i ∧ i ≤ items.length ∧ ∃ w ρ o, w.H = H ∧ Gr w0 w ∧ En T b w σ ρ ∧ loopD γ Φ (items.drop i) ρ = some o ∧ Cont T b w D o, ⟨items.length, rfl, Nat.zero_le _, w, ρ, o, rfl, hw, en, hl, k⟩, ?_⟩
  rintro i m σ H ⟨rfl, hi, w, ρ, o, rfl, hw, en, hl, k⟩
  by_cases hlt : i < items.length
  · obtain ⟨h1, h2⟩ := hJ.go w hw.F hw.B i hlt
    rw [List.drop_eq_getElem_cons hlt] at hl
    refine .inr ⟨h1, fun σ H => ∃ w ρ o, w.H = H ∧ Gr w0 w ∧ En T b w σ ρ ∧ loopD γ Φ (items.drop (i + 1)) ρ = some o ∧ Cont T b w D o,
      fun σ' H' ⟨w, ρ, o, e, a1, a3, a4, a5⟩ => ⟨items.length - (i + 1), by omega, rfl, hlt, w, ρ, o, e, a1, a3, a4, a5⟩, fun x H' hy => ?_⟩
    obtain ⟨w', r, h3, rfl, l, h5⟩ := h2 x H' hy
    have er : r = items[i] := by rw [List.getElem?_eq_getElem hlt] at h3; exact (Option.some.inj h3).symm
    have har : isAt r = true := by rw [er]; exact List.all_eq_true.mp hJ.ats _ (List.getElem_mem hlt)
    rw [← er] at hl
    unfold loopD at hl
    cases h6 : γ r ρ with
    | none => rw [h6] at hl; cases hl
    | some ρ1 =>
      rw [h6] at hl
      refine hg w' σ ρ x r ρ1 _ (en.mono l) h5 har h6 fun σ1 en1 _ => ?_
      rw [Option.bind_some] at hl
      cases h7 : Φ ρ1 with
      | none => rw [h7] at hl; cases hl
      | some o1 =>
        rw [h7, Option.bind_some] at hl
        refine ⟨w', ρ1, o1, rfl, en1, h7, ?_⟩
        cases o1 with
        | nx ρ2 => exact fun σ2 w2 g2 en2 => ⟨w2, ρ2, o, rfl, (hw.trans l.gr).trans g2, en2, hl, k.mono (l.gr.trans g2)⟩
        | ct ρ2 => exact fun σ2 w2 g2 en2 => ⟨w2, ρ2, o, rfl, (hw.trans l.gr).trans g2, en2, hl, k.mono (l.gr.trans g2)⟩
        | bk ρ2 =>
          cases hl
          exact fun σ2 w2 g2 en2 => k σ2 w2 (l.gr.trans g2) en2
        | rt r2 =>
          cases hl
          exact k
  · have e : i = items.length := by omega
    subst e
    rw [List.drop_length] at hl
    cases hl
    exact .inl ⟨hJ.stop w hw.F hw.B _ (Nat.le_refl _), k σ w (.refl w) en⟩
theorem xfor {tg iter : Expr} {body : List Stmt} {pos : Pos} (hp : PassesOwn (model X.prog X.w) X.A X.env X.xe) (hc : X.calm = true) (hi : PI X tg iter (tI T b ι)) (ht : PG X tg g) (hg : GTg T b g γ vs) (hb : PSs X body (tS T b Φ))
    (hs : ∀ x, foldedSetIterable iter X.env x = pure x := by intro _; rfl) : PS X (.For tg iter body [] pos) (tS T b (sFor ι γ Φ)) :=
  psImp (ps_for hp hc hi ht hb hs) fun D σ H h => by
    obtain ⟨w, ρ, o, rfl, en, hφ, k⟩ := h
    unfold sFor at hφ
    cases h1 : ι ρ with
    | none => rw [h1] at hφ; cases hφ
    | some items =>
      rw [h1, Option.bind_some] at hφ
      exact ⟨w, ρ, items, rfl, en, h1, fun J w' l hJ => loop_go hg hJ (.refl w') (en.mono l) hφ (k.mono l.gr)⟩
end
end Fx

set_option Elab.async false
set_option linter.all false
set_option maxRecDepth 100000
namespace Fx
open PySem PySem.Spec PyProof.Rows L2

/-! ### what is walked -/
def seqItems (r : Res) : Option (List Res) := match r.lv, r.d with
  | .h, _ => none
  | l, .lst ds => some (ds.map (Res.mk l))
  | l, .tup ds => some (ds.map (Res.mk l))
  | l, .ktp ds => some (ds.map (Res.mk l))
  | _, .scr ns => some (ns.map fun n => .at .f (.int n))
  | _, _ => none
theorem mk_at {l : Lv} {d : D} (hl : l = .h → False) : isAt (Res.mk l d) = true := by
  unfold Res.mk
  cases atomic d with
  | true => rfl
  | false =>
    cases l with
    | f => rfl
    | b => rfl
    | h => exact (hl rfl).elim
theorem Gr.at {w w' : W3} (g : Gr w w') : ∀ {l : Lv}, (l = .h → False) → Same (w.at l) (w'.at l)
  | .f, _ => g.F
  | .b, _ => g.B
  | .h, h => (h rfl).elim
theorem itOk_list {T : Kt} {w0 : W3} {a : Addr} {l : Lv} {ds : List D} (hl : l = .h → False) (h : Rp T (w0.at l) (.ref a) (.lst ds)) : ItOk T (Itl T.K a) w0 (ds.map (Res.mk l)) := by
  cases h with
  | @lst _ vs _ h1 h2 =>
    refine ⟨?_, fun w hF hB i hi => ?_, fun w hF hB i hi => ?_⟩
    · rw [List.all_map, List.all_eq_true]
      exact fun d _ => mk_at hl
    · have s : Same (w0.at l) (w.at l) := Gr.at ⟨hF, hB⟩ hl
      have h1' : w.H a = some (.lst vs) := w.atH l _ _ (s _ _ h1)
      rw [List.length_map] at hi
      obtain ⟨x, hx, hr⟩ := h2.get (List.getElem?_eq_getElem hi)
      refine ⟨⟨vs, x, .of h1', hx⟩, fun y H' hy => ?_⟩
      obtain ⟨rfl, hy⟩ := hy
      have e := hy vs (.of h1')
      rw [hx] at e
      cases e
      exact ⟨w, Res.mk l ds[i], by rw [List.getElem?_map, List.getElem?_eq_getElem hi]; rfl, rfl, .refl w, ResOk.mk (Rp.mono s _ _ hr)⟩
    · have s : Same (w0.at l) (w.at l) := Gr.at ⟨hF, hB⟩ hl
      rw [List.length_map] at hi
      exact ⟨vs, .of (w.atH l _ _ (s _ _ h1)), by rw [h2.length]; exact hi⟩
theorem itOk_tup {T : Kt} {w0 : W3} {a : Addr} {l : Lv} {vs : List V} {ds : List D} (hl : l = .h → False) (h1 : SqT T.K (w0.at l) a vs) (h2 : RpL T (w0.at l) vs ds) : ItOk T (Itt T.K a) w0 (ds.map (Res.mk l)) := by
  have q : ∀ w : W3, Same w0.F w.F → Same w0.B w.B → SqT T.K w.H a vs := fun w hF hB => sqT_mono (w.atH l) (sqT_mono (Gr.at ⟨hF, hB⟩ hl) h1)
  refine ⟨?_, fun w hF hB i hi => ?_, fun w hF hB i hi => ?_⟩
  · rw [List.all_map, List.all_eq_true]
    exact fun d _ => mk_at hl
  · have s : Same (w0.at l) (w.at l) := Gr.at ⟨hF, hB⟩ hl
    rw [List.length_map] at hi
    obtain ⟨x, hx, hr⟩ := h2.get (List.getElem?_eq_getElem hi)
    refine ⟨⟨vs, x, q w hF hB, hx⟩, fun y H' hy => ?_⟩
    obtain ⟨rfl, hy⟩ := hy
    have e := hy vs (q w hF hB)
    rw [hx] at e
    cases e
    exact ⟨w, Res.mk l ds[i], by rw [List.getElem?_map, List.getElem?_eq_getElem hi]; rfl, rfl, .refl w, ResOk.mk (Rp.mono s _ _ hr)⟩
  · rw [List.length_map] at hi
    exact ⟨vs, q w hF hB, by rw [h2.length]; exact hi⟩
theorem itOk_scr {T : Kt} {w0 : W3} {a : Addr} {l : Lv} {ns : List Int} (hl : l = .h → False) (h : Rp T (w0.at l) (.ref a) (.scr ns)) : ItOk T (Itl T.K a) w0 (ns.map fun n => .at .f (.int n)) := by
  cases h with
  | @scr _ _ h1 =>
    have q : ∀ w : W3, Same w0.F w.F → Same w0.B w.B → SqL T.K w.H a (ns.map V.int) := fun w hF hB => (w.atH l).seq ((Gr.at ⟨hF, hB⟩ hl).seq h1)
    refine ⟨?_, fun w hF hB i hi => ?_, fun w hF hB i hi => ?_⟩
    · rw [List.all_map, List.all_eq_true]
      exact fun d _ => rfl
    · rw [List.length_map] at hi
      have hx : (ns.map V.int)[i]? = some (.int ns[i]) := by rw [List.getElem?_map, List.getElem?_eq_getElem hi]; rfl
      refine ⟨⟨_, _, q w hF hB, hx⟩, fun y H' hy => ?_⟩
      obtain ⟨rfl, hy⟩ := hy
      have e := hy _ (q w hF hB)
      rw [hx] at e
      cases e
      exact ⟨w, .at .f (.int ns[i]), by rw [List.getElem?_map, List.getElem?_eq_getElem hi]; rfl, rfl, .refl w, .int _⟩
    · rw [List.length_map] at hi
      exact ⟨_, q w hF hB, by rw [List.length_map]; exact hi⟩
section
variable {X : Cx} {c : Str → Option Addr} {b : Bas} {tg : Expr}
def iSq (φ : Ro → Option Res) : Ro → Option (List Res) := fun ρ => (φ ρ).bind seqItems
theorem xi_seq {e : Expr} {φ : Ro → Option Res} (he : PE X e (tE (xT X c) b φ)) : PI X tg e (tI (xT X c) b (iSq φ)) := by
  refine ⟨fun pins s σ H R I h => ?_⟩
  obtain ⟨w, ρ, items, rfl, en, hφ, k⟩ := h
  unfold iSq at hφ
  cases h1 : φ ρ with
  | none => rw [h1] at hφ; cases hφ
  | some r =>
    rw [h1, Option.bind_some] at hφ
    have hl : r.lv = .h → False := fun e => by unfold seqItems at hφ; rw [e] at hφ; cases hφ
    have tail : ∀ {J : It} {w' : W3} {v : V} (l : Le w w') (o : ResOk (xT X c) w' v r), ItOk (xT X c) J w' items → R J w'.H := fun l _ h => k _ _ l h
    cases hd : r.d with
    | lst ds =>
      have e2 : items = ds.map (Res.mk r.lv) := by
        unfold seqItems at hφ
        rw [hd] at hφ
        cases hlv : r.lv with
        | f => rw [hlv] at hφ; cases hφ; rfl
        | b => rw [hlv] at hφ; cases hφ; rfl
        | h => exact (hl hlv).elim
      subst e2
      refine (pi_list he).run pins s σ w.H R I ⟨w, ρ, r, rfl, en, h1, fun v w' l o _ => ?_⟩
      have hr := o.rp
      rw [hd] at hr
      cases hr with
      | @lst a vs _ h3 h4 => exact ⟨a, rfl, ⟨vs, .of (w'.atH _ _ _ h3)⟩, k _ w' l (itOk_list hl (.lst h3 h4))⟩
    | tup ds =>
      have e2 : items = ds.map (Res.mk r.lv) := by
        unfold seqItems at hφ
        rw [hd] at hφ
        cases hlv : r.lv with
        | f => rw [hlv] at hφ; cases hφ; rfl
        | b => rw [hlv] at hφ; cases hφ; rfl
        | h => exact (hl hlv).elim
      subst e2
      refine (pi_tup he).run pins s σ w.H R I ⟨w, ρ, r, rfl, en, h1, fun v w' l o _ => ?_⟩
      have hr := o.rp
      rw [hd] at hr
      cases hr with
      | @tup a vs _ h3 h4 => exact ⟨a, rfl, ⟨vs, (h3.mono (w'.atH _)).sq⟩, k _ w' l (itOk_tup hl h3.sq h4)⟩
    | ktp ds =>
      have e2 : items = ds.map (Res.mk r.lv) := by
        unfold seqItems at hφ
        rw [hd] at hφ
        cases hlv : r.lv with
        | f => rw [hlv] at hφ; cases hφ; rfl
        | b => rw [hlv] at hφ; cases hφ; rfl
        | h => exact (hl hlv).elim
      subst e2
      refine (pi_tup he).run pins s σ w.H R I ⟨w, ρ, r, rfl, en, h1, fun v w' l o _ => ?_⟩
      have hr := o.rp
      rw [hd] at hr
      cases hr with
      | @ktp a vs _ h3 h4 => exact ⟨a, rfl, ⟨vs, .of (w'.atH _ _ _ h3)⟩, k _ w' l (itOk_tup hl (.of h3) h4)⟩
    | scr ns =>
      have e2 : items = ns.map fun n => .at .f (.int n) := by
        unfold seqItems at hφ
        rw [hd] at hφ
        cases hlv : r.lv with
        | f => rw [hlv] at hφ; cases hφ; rfl
        | b => rw [hlv] at hφ; cases hφ; rfl
        | h => exact (hl hlv).elim
      subst e2
      refine (pi_list he).run pins s σ w.H R I ⟨w, ρ, r, rfl, en, h1, fun v w' l o _ => ?_⟩
      have hr := o.rp
      rw [hd] at hr
      cases hr with
      | @scr a _ h3 => exact ⟨a, rfl, ⟨_, (w'.atH _).seq h3⟩, k _ w' l (itOk_scr hl (.scr h3))⟩
    | non => unfold seqItems at hφ; rw [hd] at hφ; cases hlv : r.lv <;> rw [hlv] at hφ <;> cases hφ
    | bl _ => unfold seqItems at hφ; rw [hd] at hφ; cases hlv : r.lv <;> rw [hlv] at hφ <;> cases hφ
    | int _ => unfold seqItems at hφ; rw [hd] at hφ; cases hlv : r.lv <;> rw [hlv] at hφ <;> cases hφ
    | str _ => unfold seqItems at hφ; rw [hd] at hφ; cases hlv : r.lv <;> rw [hlv] at hφ <;> cases hφ
    | obj _ _ _ => unfold seqItems at hφ; rw [hd] at hφ; cases hlv : r.lv <;> rw [hlv] at hφ <;> cases hφ
    | dct _ _ => unfold seqItems at hφ; rw [hd] at hφ; cases hlv : r.lv <;> rw [hlv] at hφ <;> cases hφ
    | set _ => unfold seqItems at hφ; rw [hd] at hφ; cases hlv : r.lv <;> rw [hlv] at hφ <;> cases hφ
    | rng _ _ => unfold seqItems at hφ; rw [hd] at hφ; cases hlv : r.lv <;> rw [hlv] at hφ <;> cases hφ

/-! ### ranges -/
def rngItems (lo : Int) (n : Nat) : List Res := (List.range n).map fun (i : Nat) => Res.at .f (.int (lo + i))
theorem itOk_rng {T : Kt} {w0 : W3} (lo : Int) (n : Nat) : ItOk T (Itr lo n) w0 (rngItems lo n) := by
  refine ⟨?_, fun w hF hB i hi => ?_, fun w hF hB i hi => ?_⟩
  · unfold rngItems
    rw [List.all_map, List.all_eq_true]
    exact fun d _ => rfl
  · unfold rngItems at hi ⊢
    rw [List.length_map, List.length_range] at hi
    refine ⟨hi, fun y H' hy => ?_⟩
    obtain ⟨rfl, rfl⟩ := hy
    exact ⟨w, .at .f (.int (lo + i)), by rw [List.getElem?_map, List.getElem?_range hi]; rfl, rfl, .refl w, .int _⟩
  · unfold rngItems at hi
    rw [List.length_map, List.length_range] at hi
    exact hi
def rng1R : List Res → Option (List Res)
  | [r] => (intOf r).bind fun j => if -1000000 ≤ j ∧ j ≤ 1000000 then some (rngItems 0 j.toNat) else none
  | _ => none
def rng2R : List Res → Option (List Res)
  | [r, q] => (intOf r).bind fun i => (intOf q).bind fun j => if (-1000000 ≤ i ∧ i ≤ 1000000) ∧ (-1000000 ≤ j ∧ j ≤ 1000000) then some (rngItems i (j - i).toNat) else none
  | _ => none
def iA (g : List Res → Option (List Res)) (φ : Ro → Option (List Res)) : Ro → Option (List Res) := fun ρ => (φ ρ).bind g
variable {φ : Ro → Option (List Res)} {T : Kt}
theorem iA_ok {g : List Res → Option (List Res)} {σ : L2.St} {H : Hp} {R : It → Hp → Prop} (h : tI T b (iA g φ) σ H R) {S : List V → Hp → Prop}
    (hr : ∀ (w : W3) (vs : List V) (rs items : List Res), ArgsOk T w vs rs → g rs = some items → (∀ J, ItOk T J w items → R J w.H) → S vs w.H) : tA T b φ σ H S := by
  obtain ⟨w, ρ, items, rfl, en, hφ, k⟩ := h
  unfold iA at hφ
  cases h1 : φ ρ with
  | none => rw [h1] at hφ; cases hφ
  | some rs =>
    rw [h1, Option.bind_some] at hφ
    exact ⟨w, ρ, rs, rfl, en, h1, fun vs w' l o => hr w' vs rs items o hφ fun J hJ => k J w' l hJ⟩
theorem xi_rng1 {it : Expr} (h : PI X tg it (iRng1 (tA T b φ))) : PI X tg it (tI T b (iA rng1R φ)) := piImp h fun σ H R h => iA_ok h fun w vs rs items o hg k => by
  unfold rng1R at hg
  split at hg
  · rename_i r
    obtain ⟨v, rfl, ho⟩ := args1 o
    cases h1 : intOf r with
    | none => rw [h1] at hg; cases hg
    | some j =>
      rw [h1, Option.bind_some] at hg
      by_cases hz : -1000000 ≤ j ∧ j ≤ 1000000
      · rw [if_pos hz] at hg
        cases hg
        exact ⟨j, by rw [ho.isInt (intOf_eq h1)], by omega, by omega, k _ (itOk_rng 0 _)⟩
      · rw [if_neg hz] at hg; cases hg
  · cases hg
theorem xi_rng2 {it : Expr} (h : PI X tg it (iRng2 (tA T b φ))) : PI X tg it (tI T b (iA rng2R φ)) := piImp h fun σ H R h => iA_ok h fun w vs rs items o hg k => by
  unfold rng2R at hg
  split at hg
  · rename_i r q
    obtain ⟨v, u, rfl, ho, hq⟩ := args2 o
    cases h1 : intOf r with
    | none => rw [h1] at hg; cases hg
    | some i =>
      cases h2 : intOf q with
      | none => rw [h1, h2] at hg; cases hg
      | some j =>
        rw [h1, h2, Option.bind_some, Option.bind_some] at hg
        by_cases hz : (-1000000 ≤ i ∧ i ≤ 1000000) ∧ (-1000000 ≤ j ∧ j ≤ 1000000)
        · rw [if_pos hz] at hg
          cases hg
          exact ⟨i, j, by rw [ho.isInt (intOf_eq h1), hq.isInt (intOf_eq h2)], ⟨by omega, by omega, by omega, by omega⟩, k _ (itOk_rng i _)⟩
        · rw [if_neg hz] at hg; cases hg
  · cases hg

/-! ### zip -/
def zipItems (l : Lv) (xs ys : List D) : List Res := (xs.zip ys).map fun p => Res.at l (.ktp [p.1, p.2])
def isH : Lv → Bool
  | .h => true
  | _ => false
theorem zip_get {xs ys : List D} {l : Lv} {i : Nat} (hi : i < (zipItems l xs ys).length) : ∃ x y, xs[i]? = some x ∧ ys[i]? = some y ∧ (zipItems l xs ys)[i]? = some (.at l (.ktp [x, y])) := by
  unfold zipItems at hi ⊢
  rw [List.length_map, List.length_zip] at hi
  have h1 : i < xs.length := by omega
  have h2 : i < ys.length := by omega
  refine ⟨xs[i], ys[i], List.getElem?_eq_getElem h1, List.getElem?_eq_getElem h2, ?_⟩
  have e : (xs.zip ys)[i]? = some (xs[i], ys[i]) := List.getElem?_zip_eq_some.mpr ⟨List.getElem?_eq_getElem h1, List.getElem?_eq_getElem h2⟩
  rw [List.getElem?_map, e]
  rfl
theorem zip_new {w : W3} {l : Lv} {Tm : Addr} {x y : V} {d e : D} (hl : Rp T (w.at l) x d) (hr : Rp T (w.at l) y e) (hT : w.H Tm = none) : ∃ w', w'.H = upd w.H Tm (.tup [x, y]) ∧ Le w w' ∧ ResOk T w' (.ref Tm) (.at l (.ktp [d, e])) :=
  ⟨w.new l Tm _ hT, w.new_H l Tm _ hT, w.new_le l Tm _ hT, show Rp T _ _ _ from .ktp (w.new_at l Tm _ hT) (.cons (Rp.mono ((w.new_le l Tm _ hT).at l) _ _ hl) (.cons (Rp.mono ((w.new_le l Tm _ hT).at l) _ _ hr) .nil))⟩
theorem zip_ats {l : Lv} (hl : l = .h → False) (xs ys : List D) : (zipItems l xs ys).all isAt = true := by
  unfold zipItems
  rw [List.all_map, List.all_eq_true]
  intro d _
  cases l with
  | f => rfl
  | b => rfl
  | h => exact (hl rfl).elim
theorem zip_len (l : Lv) (xs ys : List D) : (zipItems l xs ys).length = min xs.length ys.length := by
  unfold zipItems
  rw [List.length_map, List.length_zip]
/-- a list or a tuple that is read -/
def SqA (K : PySem.W.Frag) (t : Bool) (H : Hp) (a : Addr) (vs : List V) : Prop := if t then SqT K H a vs else SqL K H a vs
theorem SqA.mono {K : PySem.W.Frag} {t : Bool} {H H' : Hp} {a : Addr} {vs : List V} (e : Same H H') (h : SqA K t H a vs) : SqA K t H' a vs := by
  cases t with
  | true => exact sqT_mono e h
  | false => exact e.seq h
/-- the two things at a and b as they stand at each turn, the items in new pairs -/
def ItzA (K : PySem.W.Frag) (t u : Bool) (a b : Addr) : It :=
  ⟨fun i H => ∃ (xs ys : List V) (x y : V), SqA K t H a xs ∧ SqA K u H b ys ∧ xs[i]? = some x ∧ ys[i]? = some y,
    fun i H v H' => ∃ Tm x y, v = .ref Tm ∧ H Tm = none ∧ H' = upd H Tm (.tup [x, y]) ∧ (∀ xs, SqA K t H a xs → xs[i]? = some x) ∧ ∀ ys, SqA K u H b ys → ys[i]? = some y,
    fun i H => ∃ xs ys : List V, SqA K t H a xs ∧ SqA K u H b ys ∧ (xs.length ≤ i ∨ ys.length ≤ i)⟩
theorem itOk_zipA {w0 : W3} {t u : Bool} {a a2 : Addr} {l : Lv} {vs us : List V} {xs ys : List D} (hl : l = .h → False) (h1 : SqA T.K t (w0.at l) a vs) (h2 : RpL T (w0.at l) vs xs) (h3 : SqA T.K u (w0.at l) a2 us) (h4 : RpL T (w0.at l) us ys) : ItOk T (ItzA T.K t u a a2) w0 (zipItems l xs ys) := by
  refine ⟨zip_ats hl xs ys, fun w hF hB i hi => ?_, fun w hF hB i hi => ?_⟩
  · have s : Same (w0.at l) (w.at l) := Gr.at ⟨hF, hB⟩ hl
    have q1 := (h1.mono s).mono (w.atH l)
    have q2 := (h3.mono s).mono (w.atH l)
    obtain ⟨d, e, g1, g2, g3⟩ := zip_get hi
    obtain ⟨x, hx, rx⟩ := h2.get g1
    obtain ⟨y, hy, ry⟩ := h4.get g2
    refine ⟨⟨vs, us, x, y, q1, q2, hx, hy⟩, fun z H' hz => ?_⟩
    obtain ⟨Tm, x', y', rfl, hT, rfl, f1, f2⟩ := hz
    have e1 := f1 vs q1
    rw [hx] at e1
    cases e1
    have e2 := f2 us q2
    rw [hy] at e2
    cases e2
    obtain ⟨w', k1, k2, k3⟩ := zip_new (Rp.mono s _ _ rx) (Rp.mono s _ _ ry) hT
    exact ⟨w', _, g3, k1, k2, k3⟩
  · have s : Same (w0.at l) (w.at l) := Gr.at ⟨hF, hB⟩ hl
    rw [zip_len] at hi
    exact ⟨vs, us, (h1.mono s).mono (w.atH l), (h3.mono s).mono (w.atH l), by rw [h2.length, h4.length]; omega⟩
/-- the items of a list (false) or a tuple (true) -/
def walkD : D → Option (Bool × List D)
  | .lst xs => some (false, xs)
  | .tup xs => some (true, xs)
  | .ktp xs => some (true, xs)
  | _ => none
theorem walk_of {H : Hp} {v : V} {d : D} {t : Bool} {xs : List D} (h : Rp T H v d) (e : walkD d = some (t, xs)) : ∃ a vs, v = .ref a ∧ SqA T.K t H a vs ∧ RpL T H vs xs := by
  cases h with
  | @lst a vs _ h1 h2 => cases e; exact ⟨a, vs, rfl, .of h1, h2⟩
  | @tup a vs _ h1 h2 => cases e; exact ⟨a, vs, rfl, h1.sq, h2⟩
  | @ktp a vs _ h1 h2 => cases e; exact ⟨a, vs, rfl, .of h1, h2⟩
  | _ => cases e
def zipR : List Res → Option (List Res)
  | [r, q] => if isH (r.lv.sup q.lv) then none else (walkD r.d).bind fun x => (walkD q.d).map fun y => zipItems (r.lv.sup q.lv) x.2 y.2
  | _ => none
def iZipM (K : PySem.W.Frag) (ta : TA) : TI := fun σ H R => ta σ H fun vs H1 => ∃ (t u : Bool) (a b : Addr) (xs ys : List V), vs = [.ref a, .ref b] ∧ SqA K t H1 a xs ∧ SqA K u H1 b ys ∧ R (ItzA K t u a b) H1
theorem xi_zip {it : Expr} (h : PI X tg it (iZipM X.K (tA (xT X c) b φ))) : PI X tg it (tI (xT X c) b (iA zipR φ)) := piImp h fun σ H R h => iA_ok h fun w vs rs items o hg k => by
  match rs, hg, o with
  | [r, q], hg, o =>
    unfold zipR at hg
    simp only at hg
    by_cases hh : isH (r.lv.sup q.lv) = true
    · rw [if_pos hh] at hg; cases hg
    · rw [if_neg hh] at hg
      have hl : r.lv.sup q.lv = .h → False := fun e => hh (by rw [e]; rfl)
      obtain ⟨v, u, rfl, ho, hq⟩ := args2 o
      have r1 := Rp.mono (w.sup1 r.lv q.lv) _ _ ho.rp
      have r2 := Rp.mono (w.sup2 r.lv q.lv) _ _ hq.rp
      cases e1 : walkD r.d with
      | none => rw [e1] at hg; cases hg
      | some x =>
        cases e2 : walkD q.d with
        | none => rw [e1, e2] at hg; cases hg
        | some y =>
          rw [e1, e2] at hg
          cases hg
          obtain ⟨t, xs⟩ := x
          obtain ⟨t2, ys⟩ := y
          obtain ⟨a, vs, rfl, h1, h2⟩ := walk_of r1 e1
          obtain ⟨a2, us, rfl, h3, h4⟩ := walk_of r2 e2
          exact ⟨t, t2, a, a2, vs, us, rfl, h1.mono (w.atH _), h3.mono (w.atH _), k _ (itOk_zipA hl h1 h2 h3 h4)⟩
end
end Fx

set_option Elab.async false
set_option linter.all false
set_option maxRecDepth 100000
namespace Fx
open PySem PySem.Spec PyProof.Rows L2

/-! ### list comprehensions -/
def wipeR (ρ : Ro) : List Nat → Ro
  | [] => ρ
  | v :: vs => (wipeR ρ vs).set v none
theorem wipeR_len (ρ : Ro) : ∀ vs : List Nat, (wipeR ρ vs).length = ρ.length
  | [] => rfl
  | v :: vs => by unfold wipeR; rw [List.length_set, wipeR_len ρ vs]
theorem wipeR_some {ρ : Ro} {i : Nat} {r : Res} : ∀ {vs : List Nat}, (wipeR ρ vs)[i]? = some (some r) → ρ[i]? = some (some r) ∧ i ∉ vs
  | [], h => ⟨h, by simp⟩
  | v :: vs, h => by
    unfold wipeR at h
    by_cases hi : v = i
    · subst hi
      by_cases hv : v < (wipeR ρ vs).length
      · rw [List.getElem?_set_self hv] at h; cases h
      · rw [List.getElem?_eq_none (by rw [List.length_set]; omega)] at h; cases h
    · rw [List.getElem?_set_ne hi] at h
      obtain ⟨h1, h2⟩ := wipeR_some h
      refine ⟨h1, fun z => ?_⟩
      rcases List.mem_cons.mp z with z | z
      · exact hi z.symm
      · exact h2 z
theorem En.wipe {T : Kt} {b : Bas} {w : W3} {σ : L2.St} {ρ : Ro} (vs : List Nat) (h : En T b w σ ρ) : En T b w (L2.wipe σ vs) (wipeR ρ vs) := by
  have get : ∀ {i : Nat} {v : V}, i ∉ vs → σ[i]? = some (some v) → (L2.wipe σ vs)[i]? = some (some v) := fun {i v} hi e => by
    rw [wipe_get, if_neg hi]; exact e
  refine ⟨h.bs, fun i r e => ?_, fun i j r q v u hij e1 e2 e3 e4 => ?_, by rw [wipeR_len, wipe_length, h.len], fun i r e => h.ok i r (wipeR_some e).1, fun k i j dss v a e1 e2 e3 e4 => ?_, fun c ks ds e1 => ?_⟩
  · obtain ⟨h1, h2⟩ := wipeR_some e
    obtain ⟨v, h3, h4⟩ := h.at_ i r h1
    exact ⟨v, get h2 h3, h4⟩
  · exact h.dis i j r q v u hij (wipeR_some e1).1 (wipeR_some e2).1 (wipe_some e3).1 (wipe_some e4).1
  · exact h.al k i j dss v a (wipeR_some e1).1 (wipeR_some e2).1 (wipe_some e3).1 (wipe_some e4).1
  · obtain ⟨h1, h2⟩ := wipeR_some e1
    obtain ⟨a, h3, h4⟩ := h.sf c ks ds h1
    exact ⟨a, h3, get h2 h4⟩
def lcD (γ : Res → Ro → Option Ro) (α : Ro → Option Bool) (φ : Ro → Option Res) (ρ : Ro) : List Res → Option (List D)
  | [] => some []
  | x :: xs => (γ x ρ).bind fun ρ1 => (α ρ1).bind fun k => if k then (φ ρ1).bind fun r => (frD r).bind fun d => (lcD γ α φ ρ xs).map fun ds => d :: ds else lcD γ α φ ρ xs
def fLc (ι : Ro → Option (List Res)) (vs : List Nat) (γ : Res → Ro → Option Ro) (α : Ro → Option Bool) (φ : Ro → Option Res) : Ro → Option Res := fun ρ =>
  (ι ρ).bind fun items => if items.length ≤ 100000 then (lcD γ α φ (wipeR ρ vs) items).map .own else none
def fYes : Ro → Option Bool := fun _ => some true
section
variable {T : Kt} {b : Bas} {ι : Ro → Option (List Res)} {vs us : List Nat} {γ : Res → Ro → Option Ro} {α : Ro → Option Bool} {φ : Ro → Option Res} {g : TG}
theorem lc_go (hg : GTg T b g γ us) (hu : ∀ v ∈ us, v ∈ vs) {σ : L2.St} {H : Hp} {Q : VK} (h : tE T b (fLc ι vs γ α φ) σ H Q) : tLc (tI T b ι) g (tT T b α) (tE T b φ) vs σ H Q := by
  obtain ⟨w, ρ, rr, rfl, en, hφ, k⟩ := h
  unfold fLc at hφ
  cases h1 : ι ρ with
  | none => rw [h1] at hφ; cases hφ
  | some items =>
    rw [h1, Option.bind_some] at hφ
    by_cases hz : items.length ≤ 100000
    · rw [if_pos hz] at hφ
      cases h2 : lcD γ α φ (wipeR ρ vs) items with
      | none => rw [h2] at hφ; cases hφ
      | some ds =>
        rw [h2] at hφ
        cases hφ
        refine ⟨w, ρ, items, rfl, en, h1, fun J w1 l1 hJ A hA => ?_⟩
        have en1 := en.mono l1
        have mA : ∀ {w2 : W3} {acc : List V}, w2.H A = some (.lst acc) → Mut (w2.H A) := fun e => by rw [e]; exact True.intro
        refine ⟨fun i m H => m = items.length - i ∧ i ≤ items.length ∧ ∃ w2 acc done rest, w2.H = H ∧ Le w1 w2 ∧ w2.H A = some (.lst acc) ∧ w2.F A = none ∧ w2.B A = none ∧ RpL T w2.F acc done ∧ lcD γ α φ (wipeR ρ vs) (items.drop i) = some rest ∧ done ++ rest = ds ∧ done.length ≤ i,
          ⟨items.length, rfl, Nat.zero_le _, w1.new .h A (.lst []) hA, [], [], ds, w1.new_H .h A _ hA, w1.new_le .h A _ hA, upd_same, none_back w1.fb (none_back w1.bh hA), none_back w1.bh hA, .nil, h2, rfl, Nat.zero_le _⟩, ?_⟩
        rintro i m H ⟨rfl, hi, w2, acc, done, rest, rfl, l2, hD, hF, hB, ha, hr, hd, hdl⟩
        by_cases hlt : i < items.length
        · obtain ⟨g1, g2⟩ := hJ.go w2 l2.F l2.B i hlt
          refine .inr ⟨g1, fun H => ∃ w2 acc done rest, w2.H = H ∧ Le w1 w2 ∧ w2.H A = some (.lst acc) ∧ w2.F A = none ∧ w2.B A = none ∧ RpL T w2.F acc done ∧ lcD γ α φ (wipeR ρ vs) (items.drop (i + 1)) = some rest ∧ done ++ rest = ds ∧ done.length ≤ i + 1,
            fun H' hN => ⟨items.length - (i + 1), by omega, rfl, hlt, hN⟩, fun x H' hy => ?_⟩
          obtain ⟨w3, r, h3, rfl, l3, h5⟩ := g2 x H' hy
          have er : r = items[i] := by rw [List.getElem?_eq_getElem hlt] at h3; exact (Option.some.inj h3).symm
          have har : isAt r = true := by rw [er]; exact List.all_eq_true.mp hJ.ats _ (List.getElem_mem hlt)
          rw [List.drop_eq_getElem_cons hlt, ← er] at hr
          unfold lcD at hr
          cases h6 : γ r (wipeR ρ vs) with
          | none => rw [h6] at hr; cases hr
          | some ρ1 =>
            rw [h6, Option.bind_some] at hr
            refine hg w3 (L2.wipe σ vs) (wipeR ρ vs) x r ρ1 _ ((en1.mono (l2.trans l3)).wipe vs) h5 har h6 fun σ2 en2 e2 => ⟨by rw [e2 vs hu, wipe_wipe], ?_⟩
            cases h7 : α ρ1 with
            | none => rw [h7] at hr; cases hr
            | some kk =>
              rw [h7, Option.bind_some] at hr
              refine ⟨w3, ρ1, kk, rfl, en2, h7, fun w4 l4 => ?_⟩
              have l24 := l3.trans l4
              cases kk with
              | false =>
                rw [if_neg (by decide)] at hr
                refine L2.iteF ?_
                exact ⟨w4, acc, done, rest, rfl, l2.trans l24, l24.H _ _ hD, l24.kF A (mA hD) hF, l24.kB A (mA hD) hB, RpL.mono l24.F _ _ ha, hr, hd, by omega⟩
              | true =>
                rw [if_pos rfl] at hr
                refine L2.iteT ?_
                cases h8 : φ ρ1 with
                | none => rw [h8] at hr; cases hr
                | some q =>
                  rw [h8, Option.bind_some] at hr
                  cases h9 : frD q with
                  | none => rw [h9] at hr; cases hr
                  | some d =>
                    rw [h9, Option.bind_some] at hr
                    cases h10 : lcD γ α φ (wipeR ρ vs) (items.drop (i + 1)) with
                    | none => rw [h10] at hr; cases hr
                    | some rest' =>
                      rw [h10] at hr
                      cases hr
                      cases frD_eq h9
                      refine ⟨w4, ρ1, _, rfl, en2.mono l4, h8, fun y w5 l5 o5 _ => ?_⟩
                      have l25 := l24.trans l5
                      have hD5 := l25.H _ _ hD
                      have hF5 := l25.kF A (mA hD) hF
                      have hB5 := l25.kB A (mA hD) hB
                      have l15 := l2.trans l25
                      refine ⟨acc, hD5, by rw [ha.length]; exact szl (by omega), ⟨w5.F, w5.B, upd w5.H A (.lst (acc ++ [y])), w5.fb, same_upd2 w5.bh hB5⟩, acc ++ [y], done ++ [d], rest', rfl, ?_, upd_same, hF5, hB5, RpL.app (RpL.mono l25.F _ _ ha) (.cons (show Rp T w5.F y d from o5) .nil), rfl, by rw [List.append_assoc]; exact hd, by rw [List.length_append]; simp; omega⟩
                      exact ⟨l15.F, l15.B, same_upd2 l15.H hA, l15.kF, l15.kB⟩
        · have e : i = items.length := by omega
          subst e
          rw [List.drop_length] at hr
          cases hr
          rw [List.append_nil] at hd
          subst hd
          exact .inl ⟨hJ.stop w2 l2.F l2.B _ (Nat.le_refl _), k (.ref A) w2 (l1.trans l2) ⟨A, acc, rfl, hD, ha, hF, hB⟩ (fun a e => by cases e; exact none_back l1.H hA)⟩
    · rw [if_neg hz] at hφ; cases hφ
theorem xyes {X : Cx} : PTs X [] (tT T b fYes) := ⟨fun pins s σ H Q I h => pts_nil.run pins s σ H Q I (by
  obtain ⟨w, ρ, k, rfl, en, hφ, q⟩ := h
  cases hφ
  exact q w (.refl w))⟩
theorem xlc {X : Cx} {e : Expr} (h : PE X e (tLc (tI T b ι) g (tT T b α) (tE T b φ) vs)) (hg : GTg T b g γ us) (hu : ∀ v ∈ us, v ∈ vs) : PE X e (tE T b (fLc ι vs γ α φ)) := peImp h fun _ _ _ h => lc_go hg hu h
theorem xlcs {X : Cx} {st : Stmt} {i : Nat} (h : PS X st (tAsg (tLc (tI T b ι) g (tT T b α) (tE T b φ) vs) (gName i))) (hg : GTg T b g γ us) (hu : ∀ v ∈ us, v ∈ vs) : PS X st (tS T b (sAsg i (fLc ι vs γ α φ))) := psImp h fun D σ H h => by
  refine lc_go hg hu (Q := fun v H1 => D.nx (σ.set i (some v)) H1) ?_
  obtain ⟨w, ρ, o, rfl, en, hφ, k⟩ := h
  unfold sAsg at hφ
  cases h1 : fLc ι vs γ α φ ρ with
  | none => rw [h1] at hφ; cases hφ
  | some r =>
    rw [h1] at hφ
    have hφ : ((slotA r).map fun r => Out.nx (ρ.set i (some r))) = some o := hφ
    cases h2 : slotA r with
    | none => rw [h2] at hφ; cases hφ
    | some q =>
      rw [h2] at hφ
      cases hφ
      cases (slotA_eq h2).1
      exact ⟨w, ρ, r, rfl, en, h1, fun v w' l o f => k (σ.set i (some v)) w' l.gr (En.set i en l o f h2)⟩
/-- y = [..], the list frozen at once -/
theorem xlcsz {X : Cx} {st : Stmt} {i : Nat} (h : PS X st (tAsg (tLc (tI T b ι) g (tT T b α) (tE T b φ) vs) (gName i))) (hg : GTg T b g γ us) (hu : ∀ v ∈ us, v ∈ vs) : PS X st (tS T b (sAsg i (fFz (fLc ι vs γ α φ)))) := psImp h fun D σ H h => by
  refine lc_go hg hu (Q := fun v H1 => D.nx (σ.set i (some v)) H1) (fFz_ok σ H _ ?_)
  obtain ⟨w, ρ, o, rfl, en, hφ, k⟩ := h
  unfold sAsg at hφ
  cases h1 : fFz (fLc ι vs γ α φ) ρ with
  | none => rw [h1] at hφ; cases hφ
  | some r =>
    rw [h1] at hφ
    have hφ : ((slotA r).map fun r => Out.nx (ρ.set i (some r))) = some o := hφ
    cases h2 : slotA r with
    | none => rw [h2] at hφ; cases hφ
    | some q =>
      rw [h2] at hφ
      cases hφ
      cases (slotA_eq h2).1
      exact ⟨w, ρ, r, rfl, en, h1, fun v w' l o f => k (σ.set i (some v)) w' l.gr (En.set i en l o f h2)⟩
end
end Fx

set_option Elab.async false
set_option linter.all false
set_option maxRecDepth 100000
namespace Fx
open PySem PySem.Spec PyProof.Rows L2

/-! ### short words for the end -/
/-- a def that stands in the module and keeps its promise -/
def Cal (P : Program) (w : World) (K : PySem.W.Frag) (mg : Str → Option Value) (base : Heap) (k : Nat) (x : Str) (ps : List Str) (sp : Sp) : Prop :=
  ∃ (f : Addr) (fd : FuncData), mg x = some (.ref f) ∧ PySem.W.keepIn K (.ref f) = true ∧ Binds K fd ps [] ∧ FnOk P w K mg base CX0 k f fd ps sp
section
variable {X : Cx} {c : Str → Option Addr} {b : Bas} {k : Nat} {ps : List Str} {ms : List Bool} {φd : List D → Option Res} {x : Str} {p pos : Pos} {e : Expr} {es : List Expr} {φ : Ro → Option (List Res)}
theorem xcallC (C : Cal X.prog X.w X.K X.mg X.base k x ps (spP (xT X c) ms φd)) (hr : Room k X.A) (hg : Gl X x)
    (ha : PA X (e :: es) (tA (xT X c) b φ)) (hdb : (x == ("__debug__" : Str)) = false := by decide) (he : starEach (e :: es) X.env = (false, eval e X.env) :: starEach es X.env := by rfl) (hpl : (backTo pos (starEach es X.env)).any (·.1) = false := by rfl) :
    PE X (.Call (.Name x p) (e :: es) [] pos) (tE (xT X c) b (fA (callR ms φd) φ)) := by
  obtain ⟨f, fd, hm, hk, hb, F⟩ := C
  exact xcall F hr hg hm hk hb ha hdb he hpl
end
theorem fnok_none {P : Program} {w : World} {K : PySem.W.Frag} {mg : Str → Option Value} {base : Heap} {k : Nat} {f : Addr} {fd : FuncData} {ps : List Str} {T : Kt} {ms : List Bool} (hl : ms.length = ps.length) :
    FnOk P w K mg base CX0 k f fd ps (spP T ms fun _ => none) :=
  ⟨fun vs H Q E h => by obtain ⟨F, ds, r, _, ha, _⟩ := h; rw [ha.len.1, hl], fun A outer s H args us vs Q E _ _ _ _ h => by obtain ⟨F, ds, r, _, _, e, _⟩ := h; cases e⟩
/-- the law, from the script -/
theorem law_sp {T : Kt} {d : List D → Option Res} {H : Hp} {a : Addr} {ns : List Int} (hS : SqL T.K H a (ns.map V.int)) (h : d [.scr ns] = some (.at .f (.bl true))) {E : XK} : spP T [false] d [.ref a] H (fun v _ => v = .bl true) E :=
  ⟨fun _ => none, [.scr ns], _, (fun _ _ h => by cases h), .cons (.scr hS) .nil, h, fun v F' H' _ _ _ _ h5 => by
    cases (show Rp T F' v (.bl true) from h5)
    rfl⟩
end Fx

set_option Elab.async false
set_option linter.all false
set_option maxRecDepth 100000
set_option maxHeartbeats 2000000
/-! zip over two things, each a list or a tuple -/
namespace Fx
open PySem PySem.Spec PyProof.Rows L2

/-- an iterator over a tuple (t) or a list, at place k -/
def ItS (t : Bool) (h : Heap) (it l : Addr) (k : Nat) : Prop := if t then h.IsTupleIter it l k else h.IsListIter it l k
def SqS (t : Bool) (h : Heap) (l : Addr) (xs : Array Value) : Prop := if t then h.IsTuple l xs else h.IsList l xs
theorem ItS.ext {t : Bool} {h h' : Heap} {a b l : Addr} {k : Nat} (x : ItS t h a l k) (hs : Heap.ExtBut b h h') (hab : a ≠ b) : ItS t h' a l k := by
  cases t with
  | true => exact Heap.IsTupleIter.extBut x hs hab
  | false => exact Heap.IsListIter.extBut x hs hab
theorem SqS.ext {t : Bool} {h h' : Heap} {a b : Addr} {xs : Array Value} (x : SqS t h a xs) (hs : Heap.ExtBut b h h') (hab : a ≠ b) : SqS t h' a xs := by
  cases t with
  | true => exact Heap.IsTuple.extBut x hs hab
  | false => exact Heap.IsList.extBut x hs hab
theorem ItS.keep {t : Bool} {h h' : Heap} {a l : Addr} {k : Nat} (x : ItS t h a l k) (e : ∀ o, h.get? a = some o → h'.get? a = some o) : ItS t h' a l k := by
  cases t with
  | true => exact Heap.IsTupleIter.at x e
  | false => exact Heap.IsListIter.at x e
theorem ItS.obj {t : Bool} {h : Heap} {a l : Addr} {k : Nat} (x : ItS t h a l k) : ∃ o, h.get? a = some o ∧ ∀ v, o.data ≠ .cell v := by
  cases t with
  | true => obtain ⟨o, e, _, d⟩ := x; exact ⟨o, e, fun v q => by rw [d] at q; cases q⟩
  | false => obtain ⟨o, e, _, d⟩ := x; exact ⟨o, e, fun v q => by rw [d] at q; cases q⟩
theorem ItS.lt {t : Bool} {h : Heap} {a l : Addr} {k : Nat} (x : ItS t h a l k) : a < h.objs.size := by
  obtain ⟨o, e, _⟩ := x.obj
  exact Heap.lt_size e
theorem SqS.lt {t : Bool} {h : Heap} {a : Addr} {xs : Array Value} (x : SqS t h a xs) : a < h.objs.size := by
  cases t with
  | true => obtain ⟨o, e, _⟩ := x; exact Heap.lt_size e
  | false => obtain ⟨o, e, _⟩ := x; exact Heap.lt_size e
section
variable {prog : Program} {w : World} {A : Around} {E : Value → Shared → Prop} {s : Shared}
theorem nextS_item {t : Bool} {it l : Addr} {i : Nat} {items : Array Value} {x : Value} {Q : Value → Shared → Prop} (hit : ItS t s.heap it l i) (hl : SqS t s.heap l items) (hx : items[i]? = some x)
    (hQ : ∀ h', ItS t h' it l (i + 1) → Heap.SameBut it s.heap h' → Q x { s with heap := h' }) : wpAny (model prog w) A (Builtin.SmallTypes.nextOf (.ref it)) Q E s := by
  cases t with
  | true => exact RZ.nextOf_tuple_item hit hl hx hQ
  | false => exact wpAny_nextOf_list_item hit hl hx hQ
theorem nextS_end {t : Bool} {it l : Addr} {i : Nat} {items : Array Value} {Q : Value → Shared → Prop} (hh : A.handled = none) (hit : ItS t s.heap it l i) (hl : SqS t s.heap l items) (hx : items[i]? = none)
    (hE : ∀ h' e, Heap.ExtBut it s.heap h' → (∃ o, h'.get? e = some o ∧ o.cls = .type "StopIteration") → E (.ref e) { s with heap := h' }) : wpAny (model prog w) A (Builtin.SmallTypes.nextOf (.ref it)) Q E s := by
  cases t with
  | true => exact RZ.nextOf_tuple_end hh hit hl hx hE
  | false => exact wpAny_nextOf_list_end hh hit hl hx hE
/-- where a zip's records stand -/
structure Zst (t u : Bool) (h : Heap) (z TI TO i1 i2 l1 l2 : Addr) (k : Nat) : Prop where
  zip : IsZip h z TI TO .none
  ti : IsPair h TI (.ref i1) (.ref i2)
  to : ∃ a b, IsPair h TO a b
  it1 : ItS t h i1 l1 k
  it2 : ItS u h i2 l2 k
abbrev Zout (z TO i1 i2 : Addr) (h h' : Heap) : Prop := ∀ c o, c ≠ z → c ≠ TO → c ≠ i1 → c ≠ i2 → h.get? c = some o → h'.get? c = some o
variable {t u : Bool} {z TI TO i1 i2 l1 l2 : Addr} {k : Nat} {xs ys : Array Value}
theorem zipS_item {x y : Value} {Q : Value → Shared → Prop} (D : ZipApart z TI TO i1 i2 l1 l2) (st : Zst t u s.heap z TI TO i1 i2 l1 l2 k) (hl1 : SqS t s.heap l1 xs) (hl2 : SqS u s.heap l2 ys) (hx : xs[k]? = some x) (hy : ys[k]? = some y)
    (hQ : ∀ h', IsZip h' z TI TO (rawInt s.heap.objs.size) → IsPair h' TO x y → ItS t h' i1 l1 (k + 1) → ItS u h' i2 l2 (k + 1) → IsPair h' s.heap.objs.size x y → h'.objs.size = s.heap.objs.size + 1 → Zout z TO i1 i2 s.heap h' → Q (.ref s.heap.objs.size) { s with heap := h' }) :
    wpAny (model prog w) A (Builtin.«zip.__next__» ⟨[.ref z], []⟩) (fun fin s' => ∃ v, fin = .done (.ret v) ∧ Q v s') E s := by
  obtain ⟨hz, hTI, ⟨a, b, hTO⟩, h1, h2⟩ := st
  show wpAny _ _ (field (.ref z) 2 >>= _) _ _ _
  refine wpAny_bind (wpAny_field hz rfl (x := .bool false) rfl ?_)
  show wpAny _ _ (field (.ref z) 3 >>= _) _ _ _
  refine wpAny_bind (wpAny_field hz rfl (x := .ref TI) rfl (wpAny_bind (wpAny_seqItems hTI rfl ?_)))
  show wpAny _ _ (Builtin.SmallTypes.ownedTupleIsFree (.ref z) >>= _) _ _ _
  refine wpAny_bind ?_
  unfold Builtin.SmallTypes.ownedTupleIsFree
  refine wpAny_bind (wpAny_field hz rfl (x := .none) rfl (wpAny_pure ?_))
  simp only [if_true]
  refine wpAny_bind (wpAny_rule (wpAny_bind (wpAny_field hz rfl (x := .ref TO) rfl (wpAny_bind (wpAny_setField_rec hz (by simp) fun g1 z1 b1 => ?_)))))
  replace z1 : IsZip g1 z TI TO .ellipsis := z1
  have e1 := b1.extBut
  refine wpAny_bind ?_
  simp only [List.zipIdx_cons, List.zipIdx_nil, List.forIn_cons, List.forIn_nil]
  -- the first one's item
  refine wpAny_bind (wpAny_bind (wpAny_onRaise ?_))
  show wpAny _ _ (Builtin.SmallTypes.nextOf (.ref i1) >>= _) _ _ _
  refine wpAny_bind (nextS_item (h1.ext e1 D.i1z) (hl1.ext e1 D.l1z) hx fun g2 n1 b2 => wpAny_pure ?_)
  have e2 := b2.extBut
  have p2 : IsPair g2 TO a b := e2 _ _ D.TOi1 (e1 _ _ D.TOz hTO)
  refine wpAny_bind (wpAny_seqItems p2 rfl (wpAny_bind (wpAny_updateSeq_pair p2 fun g3 p3 b3 => wpAny_bind (wpAny_letGo (wpAny_pure ?_)))))
  replace p3 : IsPair g3 TO x b := p3
  have e3 := b3.extBut
  -- the second one's
  refine wpAny_bind (wpAny_bind (wpAny_onRaise ?_))
  show wpAny _ _ (Builtin.SmallTypes.nextOf (.ref i2) >>= _) _ _ _
  refine wpAny_bind (nextS_item (((h2.ext e1 D.i2z).ext e2 D.i12.symm).ext e3 D.TOi2.symm) (((hl2.ext e1 D.l2z).ext e2 D.l2i1).ext e3 D.l2TO) hy fun g4 n2 b4 => wpAny_pure ?_)
  have e4 := b4.extBut
  have p4 : IsPair g4 TO x b := e4 _ _ D.TOi2 p3
  refine wpAny_bind (wpAny_seqItems p4 rfl (wpAny_bind (wpAny_updateSeq_pair p4 fun g5 p5 b5 => wpAny_bind (wpAny_letGo (wpAny_pure (wpAny_pure ?_))))))
  replace p5 : IsPair g5 TO x y := p5
  have e5 := b5.extBut
  -- the new pair
  refine wpAny_bind (wpAny_seqItems p5 rfl (wpAny_bind (wpAny_newTuple ?_)))
  have hsz : g5.objs.size = s.heap.objs.size := by rw [b5.1, b4.1, b3.1, b2.1, b1.1]
  have z5 : IsZip g5 z TI TO .ellipsis := e5 _ _ D.TOz.symm (e4 _ _ D.i2z.symm (e3 _ _ D.TOz.symm (e2 _ _ D.i1z.symm z1)))
  have k5 : Zout z TO i1 i2 s.heap g5 := fun c o c1 c2 c3 c4 e => e5 _ _ c2 (e4 _ _ c4 (e3 _ _ c2 (e2 _ _ c3 (e1 _ _ c1 e))))
  have m1 : ItS t g5 i1 l1 (k + 1) := ((n1.ext e3 D.TOi1.symm).ext e4 D.i12).ext e5 D.TOi1.symm
  have m2 : ItS u g5 i2 l2 (k + 1) := n2.ext e5 D.TOi2.symm
  have zlt : z < g5.objs.size := Heap.lt_size z5
  show wpAny _ _ (Builtin.SmallTypes.ownedTupleHandOut (.ref z) (.ref g5.objs.size) >>= _) _ _ _
  refine wpAny_bind ?_
  unfold Builtin.SmallTypes.ownedTupleHandOut
  have z6 : IsZip (g5.push { cls := .type "tuple", data := .seq #[x, y] }) z TI TO .ellipsis := Heap.get?_push_of_some _ z5
  refine wpAny_bind (wpAny_setField_rec z6 (by simp) fun g7 z7 b7 => ?_)
  replace z7 : IsZip g7 z TI TO (rawInt g5.objs.size) := z7
  refine wpAny_setField_rec z7 (by simp) fun g8 z8 b8 => ?_
  replace z8 : IsZip g8 z TI TO (rawInt g5.objs.size) := z8
  have up : ∀ c o, c ≠ z → g5.get? c = some o → g8.get? c = some o := fun c o c1 e => b8.extBut _ _ c1 (b7.extBut _ _ c1 (Heap.get?_push_of_some _ e))
  have t8 : IsPair g8 g5.objs.size x y := b8.extBut _ _ (Nat.ne_of_gt zlt) (b7.extBut _ _ (Nat.ne_of_gt zlt) (Heap.get?_push_size _ rfl))
  have s8 : g8.objs.size = g5.objs.size + 1 := by rw [b8.1, b7.1, Heap.size_push]
  rw [hsz] at z8 t8 s8
  refine wpAny_pure ⟨_, rfl, ?_⟩
  show Q (.ref g5.objs.size) _
  rw [hsz]
  exact hQ g8 z8 (up _ _ D.TOz p5) (m1.keep fun o e => up _ o D.i1z e) (m2.keep fun o e => up _ o D.i2z e) t8 s8 fun c o c1 c2 c3 c4 e => up c o c1 (k5 c o c1 c2 c3 c4 e)
theorem zipS_end {Q : Fin → Shared → Prop} (hh : A.handled = none) (D : ZipApart z TI TO i1 i2 l1 l2) (st : Zst t u s.heap z TI TO i1 i2 l1 l2 k) (hl1 : SqS t s.heap l1 xs) (hl2 : SqS u s.heap l2 ys) (hend : xs[k]? = none ∨ ys[k]? = none)
    (hE : ∀ h' e, Zout z TO i1 i2 s.heap h' → (∃ o, h'.get? e = some o ∧ o.cls = .type "StopIteration") → E (.ref e) { s with heap := h' }) : wpAny (model prog w) A (Builtin.«zip.__next__» ⟨[.ref z], []⟩) Q E s := by
  obtain ⟨hz, hTI, ⟨a, b, hTO⟩, h1, h2⟩ := st
  show wpAny _ _ (field (.ref z) 2 >>= _) _ _ _
  refine wpAny_bind (wpAny_field hz rfl (x := .bool false) rfl ?_)
  show wpAny _ _ (field (.ref z) 3 >>= _) _ _ _
  refine wpAny_bind (wpAny_field hz rfl (x := .ref TI) rfl (wpAny_bind (wpAny_seqItems hTI rfl ?_)))
  show wpAny _ _ (Builtin.SmallTypes.ownedTupleIsFree (.ref z) >>= _) _ _ _
  refine wpAny_bind ?_
  unfold Builtin.SmallTypes.ownedTupleIsFree
  refine wpAny_bind (wpAny_field hz rfl (x := .none) rfl (wpAny_pure ?_))
  simp only [if_true]
  refine wpAny_bind (wpAny_rule (wpAny_bind (wpAny_field hz rfl (x := .ref TO) rfl (wpAny_bind (wpAny_setField_rec hz (by simp) fun g1 z1 b1 => ?_)))))
  replace z1 : IsZip g1 z TI TO .ellipsis := z1
  have e1 := b1.extBut
  refine wpAny_bind ?_
  simp only [List.zipIdx_cons, List.zipIdx_nil, List.forIn_cons, List.forIn_nil]
  refine wpAny_bind (wpAny_bind (wpAny_onRaise ?_))
  show wpAny _ _ (Builtin.SmallTypes.nextOf (.ref i1) >>= _) _ _ _
  cases hx : xs[k]? with
  | none =>
    refine wpAny_bind (nextS_end hh (h1.ext e1 D.i1z) (hl1.ext e1 D.l1z) hx fun g2 e e2 he => ?_)
    obtain ⟨oe, ho, hc⟩ := he
    have z2 : IsZip g2 z TI TO .ellipsis := e2 _ _ D.i1z.symm z1
    have hez : e ≠ z := fun q => by subst q; rw [z2] at ho; cases ho; simp at hc
    exact wpAny_setField_rec z2 (by simp) fun g3 _ b3 => hE g3 e (fun c o c1 _ c3 _ q => b3.extBut _ _ c1 (e2 _ _ c3 (e1 _ _ c1 q))) ⟨oe, b3.extBut _ _ hez ho, hc⟩
  | some x =>
    have hy : ys[k]? = none := hend.resolve_left (by rw [hx]; intro q; cases q)
    refine wpAny_bind (nextS_item (h1.ext e1 D.i1z) (hl1.ext e1 D.l1z) hx fun g2 n1 b2 => wpAny_pure ?_)
    have e2 := b2.extBut
    have p2 : IsPair g2 TO a b := e2 _ _ D.TOi1 (e1 _ _ D.TOz hTO)
    refine wpAny_bind (wpAny_seqItems p2 rfl (wpAny_bind (wpAny_updateSeq_pair p2 fun g3 p3 b3 => wpAny_bind (wpAny_letGo (wpAny_pure ?_)))))
    have e3 := b3.extBut
    refine wpAny_bind (wpAny_bind (wpAny_onRaise ?_))
    show wpAny _ _ (Builtin.SmallTypes.nextOf (.ref i2) >>= _) _ _ _
    refine wpAny_bind (nextS_end hh (((h2.ext e1 D.i2z).ext e2 D.i12.symm).ext e3 D.TOi2.symm) (((hl2.ext e1 D.l2z).ext e2 D.l2i1).ext e3 D.l2TO) hy fun g4 e e4 he => ?_)
    obtain ⟨oe, ho, hc⟩ := he
    have z4 : IsZip g4 z TI TO .ellipsis := e4 _ _ D.i2z.symm (e3 _ _ D.TOz.symm (e2 _ _ D.i1z.symm z1))
    have hez : e ≠ z := fun q => by subst q; rw [z4] at ho; cases ho; simp at hc
    exact wpAny_setField_rec z4 (by simp) fun g5 _ b5 => hE g5 e (fun c o c1 c2 c3 c4 q => b5.extBut _ _ c1 (e4 _ _ c4 (e3 _ _ c2 (e2 _ _ c3 (e1 _ _ c1 q))))) ⟨oe, b5.extBut _ _ hez ho, hc⟩
theorem nextZ_item {x y : Value} {Q : Option Value → Shared → Prop} (D : ZipApart z TI TO i1 i2 l1 l2) (st : Zst t u s.heap z TI TO i1 i2 l1 l2 k) (hl1 : SqS t s.heap l1 xs) (hl2 : SqS u s.heap l2 ys) (hx : xs[k]? = some x) (hy : ys[k]? = some y)
    (hQ : ∀ h', IsZip h' z TI TO (rawInt s.heap.objs.size) → IsPair h' TO x y → ItS t h' i1 l1 (k + 1) → ItS u h' i2 l2 (k + 1) → IsPair h' s.heap.objs.size x y → h'.objs.size = s.heap.objs.size + 1 → Zout z TO i1 i2 s.heap h' → Q (some (.ref s.heap.objs.size)) { s with heap := h' }) :
    wpAny (model prog w) A (pyNext (.ref z)) Q E s := by
  have hT : s.TypeIs (.ref z) "zip" := ⟨_, st.zip, rfl⟩
  unfold pyNext
  exact wpAny_bind (wpAny_attempt (wpAny_callSpecial?_slot (name := Str.ofString "__next__") hT F.slot_zip_next (wpAny_call_entry F.slot_zip_next hT F.entry_zip_next
    (zipS_item D st hl1 hl2 hx hy fun h' a1 a2 a3 a4 a5 a6 a7 => wpAny_pure (hQ h' a1 a2 a3 a4 a5 a6 a7)) (F.args_zip_next_1 _))))
theorem nextZ_end {Q : Option Value → Shared → Prop} (hh : A.handled = none) (D : ZipApart z TI TO i1 i2 l1 l2) (st : Zst t u s.heap z TI TO i1 i2 l1 l2 k) (hl1 : SqS t s.heap l1 xs) (hl2 : SqS u s.heap l2 ys) (hend : xs[k]? = none ∨ ys[k]? = none)
    (hQ : ∀ h', Zout z TO i1 i2 s.heap h' → Q none { s with heap := h' }) : wpAny (model prog w) A (pyNext (.ref z)) Q E s := by
  have hT : s.TypeIs (.ref z) "zip" := ⟨_, st.zip, rfl⟩
  unfold pyNext
  refine wpAny_bind (wpAny_attempt (wpAny_callSpecial?_slot (name := Str.ofString "__next__") hT F.slot_zip_next (wpAny_call_entry F.slot_zip_next hT F.entry_zip_next (zipS_end hh D st hl1 hl2 hend fun h' e hk he => ?_) (F.args_zip_next_1 _))))
  obtain ⟨o, ho, hc⟩ := he
  exact wpAny_bind (wpAny_isInstance (T := "StopIteration") (b := true) ⟨o, ho, hc⟩ isSubtype_stop (wpAny_pure (hQ _ hk)))
end

/-! ### as what a loop walks -/
theorem Zst.keepAll {t u : Bool} {h h' : Heap} {z TI TO i1 i2 l1 l2 : Addr} {k : Nat} (st : Zst t u h z TI TO i1 i2 l1 l2 k) (e : ∀ b ∈ [z, TI, TO, i1, i2], ∀ o, h.get? b = some o → h'.get? b = some o) : Zst t u h' z TI TO i1 i2 l1 l2 k := by
  obtain ⟨hz, hTI, ⟨a, b, hTO⟩, h1, h2⟩ := st
  exact ⟨e z (by simp) _ hz, e TI (by simp) _ hTI, ⟨a, b, e TO (by simp) _ hTO⟩, h1.keep fun o q => e i1 (by simp) o q, h2.keep fun o q => e i2 (by simp) o q⟩
theorem SqA.at {X : Cx} {pins : List (Addr × Obj)} {σ : L2.St} {H : Hp} {s : Shared} {t : Bool} {a : Addr} {vs : List V} (I : L2.Inv X pins σ H s) (h : SqA X.K t H a vs) : ∃ its : List Value, Vals vs its ∧ SqS t s.heap a its.toArray := by
  cases t with
  | true => obtain ⟨its, r, p, _⟩ := I.tuple h; exact ⟨its, r, p⟩
  | false => obtain ⟨its, r, p, _⟩ := I.list h; exact ⟨its, r, p.isList⟩
theorem SqA.inj {X : Cx} {pins : List (Addr × Obj)} {σ : L2.St} {H : Hp} {s : Shared} {t : Bool} {a : Addr} {vs us : List V} (I : L2.Inv X pins σ H s) (h : SqA X.K t H a vs) (h' : SqA X.K t H a us) : vs = us := by
  cases t with
  | true => exact I.tuple_inj h h'
  | false => exact I.list_inj h h'
theorem mem5 {c z TI TO i1 i2 : Addr} (h : c ∈ [z, TI, TO, i1, i2]) : c = z ∨ c = TI ∨ c = TO ∨ c = i1 ∨ c = i2 := by simpa using h
theorem turn_zipA {P : Program} {w : World} {K : PySem.W.Frag} {elts : List Expr} {kk : Nat} {tpos : Pos} {t u : Bool} {a b z TI TO i1 i2 : Addr} (D : ZipApart z TI TO i1 i2 a b) :
    Turn P w K (.Tuple elts kk tpos) (ItzA K t u a b) [z, TI, TO, i1, i2] z (fun i h => Zst t u h z TI TO i1 i2 a b i) where
  mem := List.mem_cons_self
  obj := fun i h st c hc => by
    obtain ⟨hz, hTI, ⟨x, y, hTO⟩, h1, h2⟩ := st
    rcases mem5 hc with q | q | q | q | q <;> rw [q]
    · exact ⟨_, hz, fun v e => nomatch e⟩
    · exact ⟨_, hTI, fun v e => nomatch e⟩
    · exact ⟨_, hTO, fun v e => nomatch e⟩
    · exact h1.obj
    · exact h2.obj
  keep := fun i h h' st k => st.keepAll k
  item := by
    intro X hP hw hK hc i pins s σ H E I hf st hg
    subst hP hw hK
    obtain ⟨xs, ys, x, y, hqx, hqy, hx, hy⟩ := hg
    obtain ⟨its, rv, p⟩ := SqA.at I hqx
    obtain ⟨its2, rv2, p2⟩ := SqA.at I hqy
    obtain ⟨v1, hu, ru⟩ := rv.get hx
    obtain ⟨v2, hu2, ru2⟩ := rv2.get hy
    have hzl : z < s.heap.objs.size := Heap.lt_size st.zip
    have TIl : TI < s.heap.objs.size := Heap.lt_size st.ti
    have TOl : TO < s.heap.objs.size := by obtain ⟨_, _, e⟩ := st.to; exact Heap.lt_size e
    refine nextZ_item D st p p2 (x := v1) (y := v2) (by simpa using hu) (by simpa using hu2) fun h' z' TO' n1 n2 hT hsz hk => ?_
    refine ⟨_, rfl, wpAny_letOwnedTupleGo_zip (s := { s with heap := h' }) z' fun h'' z'' sb => ?_⟩
    have hT2 : h''.get? s.heap.objs.size = some { cls := .type "tuple", data := .seq #[v1, v2] } := (sb.2 _ (Nat.ne_of_gt hzl)).trans hT
    have new : ObjOk X.prog X.w (upd H s.heap.objs.size (.tup [x, y])) h'' s.heap.objs.size (.tup [x, y]) := ⟨by show 2 ≤ sizeLine; decide, [v1, v2], .cons ru (.cons ru2 .nil), ⟨_, hT2, rfl, _, rfl⟩⟩
    have I1 : L2.Inv X pins σ (upd H s.heap.objs.size (.tup [x, y])) { s with heap := h'' } :=
      I.turnedNew (t' := s.toks) (ch := [z, TI, TO, i1, i2]) (fun c o hb q => (sb.2 c (fun e => hb (by simp [e]))).trans (hk c o (fun e => hb (by simp [e])) (fun e => hb (by simp [e])) (fun e => hb (by simp [e])) (fun e => hb (by simp [e])) q)) hf (Nat.le_refl _) new
    refine ⟨.ref s.heap.objs.size, _, I1, rfl, ⟨_, x, y, rfl, I.hok.fresh (Nat.le_refl _), rfl, fun l hl => by rw [SqA.inj I hl hqx]; exact hx, fun l hl => by rw [SqA.inj I hl hqy]; exact hy⟩, ⟨z'', ?_, ⟨v1, v2, ?_⟩, ?_, ?_⟩, fun c hcm => ?_⟩
    · exact (sb.2 _ D.TIz).trans (hk _ _ D.TIz D.TITO D.TIi1 D.TIi2 st.ti)
    · exact (sb.2 _ D.TOz).trans TO'
    · exact n1.keep fun o q => (sb.2 _ D.i1z).trans q
    · exact n2.keep fun o q => (sb.2 _ D.i2z).trans q
    · have hlt : c < s.heap.objs.size := by
        rcases mem5 hcm with q | q | q | q | q <;> rw [q]
        · exact hzl
        · exact TIl
        · exact TOl
        · exact st.it1.lt
        · exact st.it2.lt
      rw [upd_ne (Nat.ne_of_lt hlt)]
      exact (hf c hcm).1
  done := by
    intro X hP hw hK hc i pins s σ H E I hf st hg
    subst hP hw hK
    obtain ⟨xs, ys, hqx, hqy, hend⟩ := hg
    obtain ⟨its, rv, p⟩ := SqA.at I hqx
    obtain ⟨its2, rv2, p2⟩ := SqA.at I hqy
    have l1 := rv.length
    have l2 := rv2.length
    have he : its.toArray[i]? = none ∨ its2.toArray[i]? = none := hend.imp (fun q => by simp; omega) (fun q => by simp; omega)
    exact nextZ_end (I.ok.hd hc) D st p p2 he fun h' hk => ⟨rfl, I.turnedL (t' := s.toks) (ch := [z, TI, TO, i1, i2]) (fun c o hb q =>
      hk c o (fun e => hb (by simp [e])) (fun e => hb (by simp [e])) (fun e => hb (by simp [e])) (fun e => hb (by simp [e])) q) hf⟩
  self := fun A i s Q E st h => wpAny_pyIter_zip st.zip h

/-! ### the call -/
abbrev itO (t : Bool) (l : Addr) : Obj := { cls := .type (if t then "tuple_iterator" else "list_iterator"), data := .fields #[.ref l, .int 0 0] }
abbrev zm1 (t : Bool) (h : Heap) (l1 : Addr) : Heap := h.push (itO t l1)
abbrev zm2 (t u : Bool) (h : Heap) (l1 l2 : Addr) : Heap := (zm1 t h l1).push (itO u l2)
abbrev zm3 (t u : Bool) (h : Heap) (l1 l2 : Addr) : Heap := (zm2 t u h l1 l2).push { cls := .type "tuple", data := .seq #[.ref h.objs.size, .ref (zm1 t h l1).objs.size] }
abbrev zm4 (t u : Bool) (h : Heap) (l1 l2 : Addr) : Heap := (zm3 t u h l1 l2).push { cls := .type "tuple", data := .seq #[.none, .none] }
abbrev zm5 (t u : Bool) (h : Heap) (l1 l2 : Addr) : Heap := (zm4 t u h l1 l2).push { cls := .type "zip", data := .fields #[.none, .bool false, .bool false, .ref (zm2 t u h l1 l2).objs.size, .ref (zm3 t u h l1 l2).objs.size] }
theorem meets_zipLT (l1 l2 : Addr) (xs ys : Array Value) :
    Meets (Builtin.«zip.__new__» ⟨[.type "zip", .ref l1, .ref l2], []⟩) (fun _ R s => s.heap.IsList l1 xs ∧ s.heap.IsTuple l2 ys ∧ R (.ok (.ret (.ref (zm4 false true s.heap l1 l2).objs.size))) { s with heap := zm5 false true s.heap l1 l2 }) :=
  .of_wp fun prog w A R s h => by
    obtain ⟨hp, g, d, tk, os⟩ := s
    obtain ⟨q1, q2, h⟩ := h
    have hsub := sub_zip
    have r1 : Heap.IsList (Shared.heap ⟨hp, g, d, tk, os⟩) l1 xs := q1
    have r2 : Heap.IsTuple (Shared.heap ⟨hp.push { cls := .type "list_iterator", data := .fields #[.ref l1, .int 0 0] }, g, d, tk, os⟩) l2 ys := Heap.IsTuple.push q2 _
    wp_walk using wpAny_pyIter_list r1, wpAny_pyIter_tuple r2
    exact ⟨_, rfl, h⟩
theorem meets_zipTL (l1 l2 : Addr) (xs ys : Array Value) :
    Meets (Builtin.«zip.__new__» ⟨[.type "zip", .ref l1, .ref l2], []⟩) (fun _ R s => s.heap.IsTuple l1 xs ∧ s.heap.IsList l2 ys ∧ R (.ok (.ret (.ref (zm4 true false s.heap l1 l2).objs.size))) { s with heap := zm5 true false s.heap l1 l2 }) :=
  .of_wp fun prog w A R s h => by
    obtain ⟨hp, g, d, tk, os⟩ := s
    obtain ⟨q1, q2, h⟩ := h
    have hsub := sub_zip
    have r1 : Heap.IsTuple (Shared.heap ⟨hp, g, d, tk, os⟩) l1 xs := q1
    have r2 : Heap.IsList (Shared.heap ⟨hp.push { cls := .type "tuple_iterator", data := .fields #[.ref l1, .int 0 0] }, g, d, tk, os⟩) l2 ys := Heap.IsList.push q2 _
    wp_walk using wpAny_pyIter_tuple r1, wpAny_pyIter_list r2
    exact ⟨_, rfl, h⟩
section
variable {prog : Program} {w : World} {A : Around} {E : Value → Shared → Prop} {s : Shared} {l1 l2 : Addr} {xs ys : Array Value}
/-- what stands behind the call -/
abbrev Zend (t u : Bool) (s : Shared) (l1 l2 : Addr) (Q : Value → Shared → Prop) : Prop := ∀ h', Zst t u h' (s.heap.objs.size + 4) (s.heap.objs.size + 2) (s.heap.objs.size + 3) s.heap.objs.size (s.heap.objs.size + 1) l1 l2 0 → (∀ c o, s.heap.get? c = some o → h'.get? c = some o) → Q (.ref (s.heap.objs.size + 4)) { s with heap := h' }
theorem zm_at (t u : Bool) {Q : Value → Shared → Prop} (h : Zend t u s l1 l2 Q) : Q (.ref (zm4 t u s.heap l1 l2).objs.size) { s with heap := zm5 t u s.heap l1 l2 } := by
  have c1 : (zm1 t s.heap l1).objs.size = s.heap.objs.size + 1 := Heap.size_push ..
  have c2 : (zm2 t u s.heap l1 l2).objs.size = s.heap.objs.size + 2 := by rw [Heap.size_push, c1]
  have c3 : (zm3 t u s.heap l1 l2).objs.size = s.heap.objs.size + 3 := by rw [Heap.size_push, c2]
  have c4 : (zm4 t u s.heap l1 l2).objs.size = s.heap.objs.size + 4 := by rw [Heap.size_push, c3]
  have u5 : ∀ {c o}, (zm4 t u s.heap l1 l2).get? c = some o → (zm5 t u s.heap l1 l2).get? c = some o := fun e => Heap.get?_push_of_some _ e
  have u4 : ∀ {c o}, (zm3 t u s.heap l1 l2).get? c = some o → (zm5 t u s.heap l1 l2).get? c = some o := fun e => u5 (Heap.get?_push_of_some _ e)
  have u3 : ∀ {c o}, (zm2 t u s.heap l1 l2).get? c = some o → (zm5 t u s.heap l1 l2).get? c = some o := fun e => u4 (Heap.get?_push_of_some _ e)
  have u2 : ∀ {c o}, (zm1 t s.heap l1).get? c = some o → (zm5 t u s.heap l1 l2).get? c = some o := fun e => u3 (Heap.get?_push_of_some _ e)
  have g5 : (zm5 t u s.heap l1 l2).get? (zm4 t u s.heap l1 l2).objs.size = some _ := Heap.get?_push_size _ rfl
  have g4 : (zm5 t u s.heap l1 l2).get? (zm3 t u s.heap l1 l2).objs.size = some _ := u5 (Heap.get?_push_size _ rfl)
  have g3 : (zm5 t u s.heap l1 l2).get? (zm2 t u s.heap l1 l2).objs.size = some _ := u4 (Heap.get?_push_size _ rfl)
  have g2 : (zm5 t u s.heap l1 l2).get? (zm1 t s.heap l1).objs.size = some _ := u3 (Heap.get?_push_size _ rfl)
  have g1 : (zm5 t u s.heap l1 l2).get? s.heap.objs.size = some _ := u2 (Heap.get?_push_size _ rfl)
  rw [c2, c3, c4] at g5
  rw [c1, c2] at g3
  rw [c3] at g4
  rw [c1] at g2
  rw [c4]
  refine h _ ⟨g5, g3, ⟨_, _, g4⟩, ?_, ?_⟩ fun c o x => u2 (Heap.get?_push_of_some _ x)
  · cases t <;> exact ⟨_, g1, rfl, rfl⟩
  · cases u <;> exact ⟨_, g2, rfl, rfl⟩
theorem callZ {t u : Bool} {Q : Value → Shared → Prop} (h1 : SqS t s.heap l1 xs) (h2 : SqS u s.heap l2 ys) (h : Zend t u s l1 l2 Q) : wpAny (model prog w) A (call (.type "zip") [.ref l1, .ref l2]) Q E s := by
  cases t with
  | false =>
    cases u with
    | false => exact call_zip_2 h1 h2 fun h' a1 a2 a3 a4 a5 _ k => h h' ⟨a1, a2, ⟨_, _, a3⟩, a4, a5⟩ k
    | true => exact callType_new F.called_zip (by decide) (F.typeCall_zip_2 _ _) (F.newCall_zip_2 _ _) (fun obj => F.args_object_init_3 obj _ _) F.entry_zip_new (meets_zipLT l1 l2 xs ys) ⟨h1, h2, ⟨_, Heap.get?_push_size _ rfl, rfl⟩, zm_at false true h⟩
  | true =>
    cases u with
    | false => exact callType_new F.called_zip (by decide) (F.typeCall_zip_2 _ _) (F.newCall_zip_2 _ _) (fun obj => F.args_object_init_3 obj _ _) F.entry_zip_new (meets_zipTL l1 l2 xs ys) ⟨h1, h2, ⟨_, Heap.get?_push_size _ rfl, rfl⟩, zm_at true false h⟩
    | true => exact RZ.call_zipT h1 h2 fun h' a1 a2 a3 a4 a5 _ k => h h' ⟨a1, a2, ⟨_, _, a3⟩, a4, a5⟩ k
end
theorem pi_zipM {X : Cx} {e e2 : Expr} {ta : TA} {p pos tpos : Pos} {elts : List Expr} {kk : Nat} (hg : Gl X "zip") (hm : X.mg "zip" = none) (ha : PA X [e, e2] ta)
    (hs : starEach [e, e2] X.env = (false, eval e X.env) :: starEach [e2] X.env := by rfl) (hpl : (backTo pos (starEach [e2] X.env)).any (·.1) = false := by rfl) :
    PI X (.Tuple elts kk tpos) (.Call (.Name "zip" p) [e, e2] [] pos) (iZipM X.K ta) := by
  refine ⟨fun pins s σ H R I h => Call_ (ld_blt I hg hm PyProof.Rows.boot_zip (PyProof.Rows.callWith_type1 (thn (ha.run pos pins s σ H _ I h) fun us s1 ⟨vs, H1, I1, r1, q1⟩ => ?_) hs hpl))⟩
  obtain ⟨t, u, a, b, xs, ys, ex, hqx, hqy, q⟩ := q1
  subst ex
  obtain ⟨w1, w2, rfl, r, r'⟩ := vals2 r1
  cases r
  cases r'
  obtain ⟨its, rv, p1⟩ := SqA.at I1 hqx
  obtain ⟨its2, rv2, p2⟩ := SqA.at I1 hqy
  refine callZ p1 p2 fun h' st hk => wpAny_pyIter_zip st.zip ?_
  have I2 : L2.Inv X pins σ H1 { s1 with heap := h' } := I1.kept (t' := s1.toks) hk
  refine ⟨_, [s1.heap.objs.size + 4, s1.heap.objs.size + 2, s1.heap.objs.size + 3, s1.heap.objs.size, s1.heap.objs.size + 1], _, _, H1, rfl, I2, turn_zipA (PySem.W.ktu_apart s1.heap.objs.size a b p1.lt p2.lt), st, fun c hcm => ?_, q⟩
  have hle : s1.heap.objs.size ≤ c := by rcases mem5 hcm with z | z | z | z | z <;> rw [z] <;> first | exact Nat.le_add_right _ _ | exact Nat.le_refl _
  exact I1.fpOk hle (I1.hok.fresh hle)
end Fx

set_option Elab.async false
set_option linter.all false
set_option maxRecDepth 100000
namespace Fx
open PySem PySem.Spec PyProof.Rows L2

/-! ### own lists of own lists -/
theorem O2.len {T : Kt} {w : W3} : ∀ {as : List Addr} {dss : List (List D)}, O2 T w as dss → as.length = dss.length
  | _, _, .nil => rfl
  | _, _, .cons _ _ _ _ t => by rw [List.length_cons, List.length_cons, t.len]
theorem O2.getJ {T : Kt} {w : W3} : ∀ {as : List Addr} {dss : List (List D)} {j : Nat} {ds : List D}, O2 T w as dss → dss[j]? = some ds → ∃ x vs, as[j]? = some x ∧ w.H x = some (.lst vs) ∧ RpL T w.F vs ds ∧ w.F x = none ∧ w.B x = none
  | _, _, _, _, .nil, h => by simp at h
  | _, _, 0, _, .cons h1 h2 h3 h4 _, h => by simp at h; subst h; exact ⟨_, _, rfl, h1, h2, h3, h4⟩
  | _, _, j + 1, _, .cons _ _ _ _ t, h => by
    obtain ⟨x, vs, h1, h2⟩ := t.getJ (j := j) (by simpa using h)
    exact ⟨x, vs, by simpa using h1, h2⟩
theorem O2.setJ {T : Kt} {w : W3} {x : Addr} {vs' : List V} {ds' : List D} (hb : w.B x = none) (hf : w.F x = none) (hr : RpL T w.F vs' ds') : ∀ {as : List Addr} {dss : List (List D)} {j : Nat}, O2 T w as dss → as.Nodup → as[j]? = some x → O2 T (w.wr x (.lst vs') hb) as (dss.set j ds')
  | _, _, _, .nil, _, h => by simp at h
  | _, _, 0, .cons h1 h2 h3 h4 t, n, h => by
    simp at h; subst h
    exact .cons upd_same hr hf hb (O2.wrOut (List.nodup_cons.mp n).1 t)
  | _, _, j + 1, .cons h1 h2 h3 h4 t, n, h => by
    rw [List.getElem?_cons_succ] at h
    have hx := List.mem_of_getElem? h
    refine .cons (by show upd w.H x _ _ = _; rw [upd_ne (fun z => (List.nodup_cons.mp n).1 (by rw [z]; exact hx))]; exact h1) h2 h3 h4 (O2.setJ hb hf hr t (List.nodup_cons.mp n).2 h)
theorem own2_wr {T : Kt} {b : Bas} {w : W3} {σ : L2.St} {ρ : Ro} {i j : Nat} {dss : List (List D)} {a x : Addr} {as : List Addr} {vs' : List V} {ds' : List D} (en : En T b w σ ρ) (e : ρ[i]? = some (some (.own2 dss))) (h1 : σ[i]? = some (some (.ref a)))
    (h2 : w.H a = some (.lst (as.map V.ref))) (o : O2 T w as dss) (n : (a :: as).Nodup) (hf : w.F a = none) (hb : w.B a = none) (hj : as[j]? = some x) (xf : w.F x = none) (xb : w.B x = none) (hr : RpL T w.F vs' ds') :
    En T b (w.wr x (.lst vs') xb) σ (ρ.set i (some (.own2 (dss.set j ds')))) := by
  have hx := List.mem_of_getElem? hj
  have hax : a ≠ x := fun z => (List.nodup_cons.mp n).1 (by rw [z]; exact hx)
  have h2' : (w.wr x (.lst vs') xb).H a = some (.lst (as.map V.ref)) := by show upd w.H x _ a = _; rw [upd_ne hax]; exact h2
  refine en.wr (r' := .own2 (dss.set j ds')) (ob := .lst vs') e h1 rfl rfl rfl (by rw [foot_own2 h2]; exact List.mem_cons_of_mem _ hx) xb ⟨a, as, rfl, h2', O2.setJ xb xf hr o (List.nodup_cons.mp n).2 hj, n, hf, hb⟩ (fun y hy => ?_) (fun dss' _ => ⟨⟨dss, rfl⟩, fun a' e' => by cases e'; exact hax⟩) fun _ _ _ h => by cases h
  rw [foot_own2 h2'] at hy
  rw [foot_own2 h2]
  exact hy
/-- the list that row j of an own2 is, by a value -/
structure Row (T : Kt) (w : W3) (a x : Addr) (as : List Addr) (dss : List (List D)) (j : Nat) (vs : List V) (ds : List D) : Prop where
  ha : w.H a = some (.lst (as.map V.ref))
  o : O2 T w as dss
  n : (a :: as).Nodup
  hf : w.F a = none
  hb : w.B a = none
  hj : as[j]? = some x
  hx : w.H x = some (.lst vs)
  r : RpL T w.F vs ds
  xf : w.F x = none
  xb : w.B x = none
theorem Row.mono {T : Kt} {w w' : W3} {a x : Addr} {as : List Addr} {dss : List (List D)} {j : Nat} {vs : List V} {ds : List D} (l : Le w w') (h : Row T w a x as dss j vs ds) : Row T w' a x as dss j vs ds := by
  have ma : Mut (w.H a) := by rw [h.ha]; exact True.intro
  have mx : Mut (w.H x) := by rw [h.hx]; exact True.intro
  exact ⟨l.H _ _ h.ha, h.o.mono l, h.n, l.kF _ ma h.hf, l.kB _ ma h.hb, h.hj, l.H _ _ h.hx, RpL.mono l.F _ _ h.r, l.kF _ mx h.xf, l.kB _ mx h.xb⟩
theorem row_of {T : Kt} {w : W3} {v : V} {dss : List (List D)} {j : Nat} {ds : List D} (h : ResOk T w v (.own2 dss)) (hd : dss[j]? = some ds) : ∃ a x as vs, v = .ref a ∧ Row T w a x as dss j vs ds := by
  obtain ⟨a, as, rfl, h1, h2, h3, h4, h5⟩ := h
  obtain ⟨x, vs, h6, h7, h8, h9, h10⟩ := h2.getJ hd
  exact ⟨a, x, as, vs, rfl, h1, h2, h3, h4, h5, h6, h7, h8, h9, h10⟩
theorem Row.at {T : Kt} {w : W3} {a x : Addr} {as : List Addr} {dss : List (List D)} {j : Nat} {vs : List V} {ds : List D} (h : Row T w a x as dss j vs ds) : (as.map V.ref)[j]? = some (.ref x) := by rw [List.getElem?_map, h.hj]; rfl
theorem Row.wr {T : Kt} {b : Bas} {w : W3} {σ : L2.St} {ρ : Ro} {i j : Nat} {dss : List (List D)} {a x : Addr} {as : List Addr} {vs vs' : List V} {ds ds' : List D} (h : Row T w a x as dss j vs ds) (en : En T b w σ ρ) (e : ρ[i]? = some (some (.own2 dss))) (h1 : σ[i]? = some (some (.ref a))) (hr : RpL T w.F vs' ds') :
    En T b (w.wr x (.lst vs') h.xb) σ (ρ.set i (some (.own2 (dss.set j ds')))) := own2_wr en e h1 h.ha h.o h.n h.hf h.hb h.hj h.xf h.xb hr

/-- the row that an index names -/
def rowOf (dss : List (List D)) (q : Res) : Option (Nat × List D) := (intOf q).bind fun z => (ixN dss.length z).bind fun j => (dss[j]?).map fun ds => (j, ds)
theorem rowOf_eq {dss : List (List D)} {q : Res} {j : Nat} {ds : List D} (h : rowOf dss q = some (j, ds)) : ∃ z, q.d = .int z ∧ ixN dss.length z = some j ∧ dss[j]? = some ds := by
  unfold rowOf at h
  cases h1 : intOf q with
  | none => rw [h1] at h; cases h
  | some z =>
    rw [h1, Option.bind_some] at h
    cases h2 : ixN dss.length z with
    | none => rw [h2] at h; cases h
    | some j' =>
      rw [h2, Option.bind_some] at h
      cases h3 : dss[j']? with
      | none => rw [h3] at h; cases h
      | some ds' =>
        rw [h3] at h
        cases h
        exact ⟨z, intOf_eq h1, h2, h3⟩
/-- x[k].append(e) -/
def sApp2 (i : Nat) (ψ φ : Ro → Option Res) : Ro → Option Out := fun ρ => match ρ[i]? with
  | some (some (.own2 dss)) => (ψ ρ).bind fun q => (rowOf dss q).bind fun p => (φ ρ).bind fun r => (frD r).bind fun d => if p.2.length < 100000 then some (.nx (ρ.set i (some (.own2 (dss.set p.1 (p.2 ++ [d])))))) else none
  | _ => none
/-- x[k][m] = e -/
def sSet2 (i : Nat) (ψ χ φ : Ro → Option Res) : Ro → Option Out := fun ρ => match ρ[i]? with
  | some (some (.own2 dss)) => (φ ρ).bind fun r => (frD r).bind fun d => (ψ ρ).bind fun q => (rowOf dss q).bind fun p => (χ ρ).bind fun s => (intOf s).bind fun z => (ixN p.2.length z).map fun m => .nx (ρ.set i (some (.own2 (dss.set p.1 (p.2.set m d)))))
  | _ => none
/-- line = x[k] -/
def sAli (k i : Nat) (ψ : Ro → Option Res) : Ro → Option Out := fun ρ => match ρ[i]? with
  | some (some (.own2 dss)) => if i = k then none else (ψ ρ).bind fun q => (rowOf dss q).map fun p => .nx (ρ.set k (some (.ali i p.1)))
  | _ => none
/-- line[m] = e -/
def sSetA (k : Nat) (ψ φ : Ro → Option Res) : Ro → Option Out := fun ρ => match ρ[k]? with
  | some (some (.ali i j)) => match ρ[i]? with
    | some (some (.own2 dss)) => (dss[j]?).bind fun ds => (φ ρ).bind fun r => (frD r).bind fun d => (ψ ρ).bind fun s => (intOf s).bind fun z => (ixN ds.length z).map fun m => .nx (ρ.set i (some (.own2 (dss.set j (ds.set m d)))))
    | _ => none
  | _ => none
theorem atI_j {α : Type} {xs : List α} {z : Int} {j n : Nat} {v : α} (hn : xs.length = n) (h : ixN n z = some j) (e : xs[j]? = some v) : L2.atI xs z = some v := by
  subst hn
  unfold L2.atI
  rw [h]
  exact e
section
variable {X : Cx} {c : Str → Option Addr} {b : Bas} {e : Expr} {pos : Pos} {φ ψ χ : Ro → Option Res} {Φ Ψ : Ro → Option Out}
theorem xapp2 {i : Nat} {e0 : Expr} (h : PE X e0 (tBM X.K "list" rAppend (tOp (rIxL X.K) (tVar i) (tE (xT X c) b ψ)) (tCons (tE (xT X c) b φ) tNil))) (hs : swapsWith e0 none pos.line X.env = pure false := by rfl) : PS X (.Expr e0 pos) (tS (xT X c) b (sApp2 i ψ φ)) :=
  psImp (ps_expr h hs) fun D σ H h => by
    obtain ⟨w, ρ, o, rfl, en, hφ, k⟩ := h
    unfold sApp2 at hφ
    split at hφ
    · rename_i dss e1
      obtain ⟨q, h2, hφ⟩ := Option.bind_eq_some_iff.mp hφ
      obtain ⟨⟨j, ds⟩, h3, hφ⟩ := Option.bind_eq_some_iff.mp hφ
      obtain ⟨r, h4, hφ⟩ := Option.bind_eq_some_iff.mp hφ
      obtain ⟨d, h5, hφ⟩ := Option.bind_eq_some_iff.mp hφ
      by_cases hz : ds.length < 100000
      · rw [if_pos hz] at hφ
        cases hφ
        cases frD_eq h5
        obtain ⟨z, hz1, hz2, hz3⟩ := rowOf_eq h3
        obtain ⟨v, h6, h7⟩ := en.at_ i _ e1
        obtain ⟨a, x, as, vs, rfl, R⟩ := row_of (h7 rfl) hz3
        refine ⟨.ref a, h6, w, ρ, q, rfl, en, h2, fun u w1 l1 o1 _ => ?_⟩
        have R1 := R.mono l1
        refine ⟨a, _, z, .ref x, rfl, o1.isInt hz1, .of R1.ha, atI_j (by rw [List.length_map, R.o.len]) hz2 R1.at, .inl ⟨rfl, vs, .of R1.hx⟩, w1, ρ, _, rfl, en.mono l1, h4, fun u2 w2 l2 o2 _ => ?_⟩
        have l := l1.trans l2
        have R2 := R.mono l
        refine ⟨x, vs, u2, rfl, rfl, R2.hx, by rw [R2.r.length]; exact szl hz, ?_⟩
        exact k σ (w2.wr x _ R2.xb) ⟨l.F, l.B⟩ (R2.wr (en.mono l) e1 h6 (RpL.app R2.r (.cons (show Rp _ w2.F u2 d from o2) .nil)))
      · rw [if_neg hz] at hφ; cases hφ
    · cases hφ
theorem xset2 {i : Nat} {st : Stmt} (h : PS X st (tAsg (tE (xT X c) b φ) (gSub (tOp (rIxL X.K) (tVar i) (tE (xT X c) b ψ)) (tE (xT X c) b χ) rSetL))) : PS X st (tS (xT X c) b (sSet2 i ψ χ φ)) :=
  psImp h fun D σ H h => by
    obtain ⟨w, ρ, o, rfl, en, hφ, k⟩ := h
    unfold sSet2 at hφ
    split at hφ
    · rename_i dss e1
      obtain ⟨r, h4, hφ⟩ := Option.bind_eq_some_iff.mp hφ
      obtain ⟨d, h5, hφ⟩ := Option.bind_eq_some_iff.mp hφ
      obtain ⟨q, h2, hφ⟩ := Option.bind_eq_some_iff.mp hφ
      obtain ⟨⟨j, ds⟩, h3, hφ⟩ := Option.bind_eq_some_iff.mp hφ
      obtain ⟨s, h8, hφ⟩ := Option.bind_eq_some_iff.mp hφ
      obtain ⟨y, h9, hφ⟩ := Option.bind_eq_some_iff.mp hφ
      obtain ⟨m, h10, hφ⟩ := Option.map_eq_some_iff.mp hφ
      subst hφ
      cases frD_eq h5
      obtain ⟨z, hz1, hz2, hz3⟩ := rowOf_eq h3
      obtain ⟨v, h6, h7⟩ := en.at_ i _ e1
      obtain ⟨a, x, as, vs, rfl, R⟩ := row_of (h7 rfl) hz3
      refine ⟨w, ρ, _, rfl, en, h4, fun u w1 l1 o1 _ => ⟨.ref a, h6, w1, ρ, q, rfl, en.mono l1, h2, fun u2 w2 l2 o2 _ => ?_⟩⟩
      have R2 := R.mono (l1.trans l2)
      refine ⟨a, _, z, .ref x, rfl, o2.isInt hz1, .of R2.ha, atI_j (by rw [List.length_map, R.o.len]) hz2 R2.at, w2, ρ, s, rfl, en.mono (l1.trans l2), h8, fun u3 w3 l3 o3 _ => ?_⟩
      have l := (l1.trans l2).trans l3
      have R3 := R.mono l
      refine ⟨x, vs, y, m, rfl, o3.isInt (intOf_eq h9), R3.hx, by rw [R3.r.length]; exact h10, ?_⟩
      exact k σ (w3.wr x _ R3.xb) ⟨l.F, l.B⟩ (R3.wr (en.mono l) e1 h6 (RpL.set (show Rp _ w3.F u d from o1.mono (l2.trans l3)) m R3.r))
    · cases hφ
theorem En.setAli {T : Kt} {w : W3} {σ : L2.St} {ρ : Ro} {i j m : Nat} {a : Addr} {v : V} {vs : List V} (h : En T b w σ ρ) (hm : σ[m]? = some (some (.ref a))) (ha : w.H a = some (.lst vs)) (hv : vs[j]? = some v) (hi : m ≠ i) :
    En T b w (σ.set i (some v)) (ρ.set i (some (.ali m j))) := by
  have atS : ∀ {j : Nat} {u : V}, (σ.set i (some v))[j]? = some (some u) → j ≠ i → σ[j]? = some (some u) := fun {j u} e hj => by
    rw [List.getElem?_set_ne (fun z => hj z.symm)] at e; exact e
  have foot_ali : ∀ {H : Hp} {u : V} {p q : Nat}, foot H u (.ali p q) = [] := fun {H u p q} => by cases u <;> rfl
  refine ⟨h.bs, fun j q e => ?_, fun j k p q u1 u2 hjk e1 e2 e3 e4 x h1 h2 => ?_, by rw [List.length_set, List.length_set, h.len], fun j q e => ?_, fun k n l dss u a' e1 e2 e3 e4 => ?_, fun c ks ds e1 => ?_⟩
  · rcases set_get e with ⟨rfl, hq, hlt⟩ | ⟨hj, e⟩
    · cases hq
      exact ⟨v, List.getElem?_set_self (by rw [← h.len]; exact hlt), fun z => by cases z⟩
    · obtain ⟨u, h1, h2⟩ := h.at_ j q e
      exact ⟨u, by rw [List.getElem?_set_ne (fun z => hj z.symm)]; exact h1, h2⟩
  · rcases set_get e1 with ⟨hj, hq, _⟩ | ⟨hj, n1⟩
    · cases hq
      rw [foot_ali] at h1
      cases h1
    · rcases set_get e2 with ⟨hk, hq, _⟩ | ⟨hk, n2⟩
      · cases hq
        rw [foot_ali] at h2
        cases h2
      · exact h.dis j k p q u1 u2 hjk n1 n2 (atS e3 hj) (atS e4 hk) x h1 h2
  · rcases set_get e with ⟨_, hq, _⟩ | ⟨_, e⟩
    · cases hq; rfl
    · exact h.ok j q e
  · rcases set_get e2 with ⟨_, hq, _⟩ | ⟨hn, n2⟩
    · cases hq
    · replace e4 := atS e4 hn
      rcases set_get e1 with ⟨hk, hq, hlt⟩ | ⟨hk, n1⟩
      · cases hq
        subst hk
        rw [List.getElem?_set_self (by rw [← h.len]; exact hlt)] at e3
        cases e3
        rw [hm] at e4
        cases e4
        exact ⟨vs, ha, hv⟩
      · exact h.al k n l dss u a' n1 n2 (atS e3 hk) e4
  · rcases set_get e1 with ⟨_, hq, _⟩ | ⟨hk, n1⟩
    · cases hq
    · obtain ⟨a2, h1, h2⟩ := h.sf c ks ds n1
      exact ⟨a2, h1, by rw [List.getElem?_set_ne (fun z => hk z.symm)]; exact h2⟩
theorem xali {k i : Nat} {x : Str} {e : Expr} {pos' : Pos} (hN : X.N.Nodup) (hi : X.N[k]? = some x) (hx : Loc X.env.scope x) (he : PE X e (tOp (rIxL X.K) (tVar i) (tE (xT X c) b ψ))) (hs : swapsWith e (some (.Name x pos')) pos.line X.env = pure false := by rfl)
    (hf : X.fn x = true ∨ X.env.scope.names.lookup x = some .local := by first | exact .inl rfl | exact .inr rfl | assumption) : PS X (.Assign [.Name x pos'] e pos) (tS (xT X c) b (sAli k i ψ)) :=
  psImp (ps_set (i := k) hN hi hx he hs hf) fun D σ H h => by
    obtain ⟨w, ρ, o, rfl, en, hφ, kk⟩ := h
    unfold sAli at hφ
    split at hφ
    · rename_i dss e1
      by_cases hik : i = k
      · rw [if_pos hik] at hφ; cases hφ
      · rw [if_neg hik] at hφ
        obtain ⟨q, h2, hφ⟩ := Option.bind_eq_some_iff.mp hφ
        obtain ⟨⟨j, ds⟩, h3, hφ⟩ := Option.map_eq_some_iff.mp hφ
        subst hφ
        obtain ⟨z, hz1, hz2, hz3⟩ := rowOf_eq h3
        obtain ⟨v, h6, h7⟩ := en.at_ i _ e1
        obtain ⟨a, x, as, vs, rfl, R⟩ := row_of (h7 rfl) hz3
        refine ⟨.ref a, h6, w, ρ, q, rfl, en, h2, fun u w1 l1 o1 _ => ?_⟩
        have R1 := R.mono l1
        refine ⟨a, _, z, .ref x, rfl, o1.isInt hz1, .of R1.ha, atI_j (by rw [List.length_map, R.o.len]) hz2 R1.at, ?_⟩
        exact kk _ w1 l1.gr ((en.mono l1).setAli h6 R1.ha R1.at hik)
    · cases hφ
theorem xseta {k : Nat} {st : Stmt} (h : PS X st (tAsg (tE (xT X c) b φ) (gSub (tVar k) (tE (xT X c) b ψ) rSetL))) : PS X st (tS (xT X c) b (sSetA k ψ φ)) :=
  psImp h fun D σ H h => by
    obtain ⟨w, ρ, o, rfl, en, hφ, kk⟩ := h
    unfold sSetA at hφ
    split at hφ
    · rename_i i j e1
      split at hφ
      · rename_i dss e2
        obtain ⟨ds, h3, hφ⟩ := Option.bind_eq_some_iff.mp hφ
        obtain ⟨r, h4, hφ⟩ := Option.bind_eq_some_iff.mp hφ
        obtain ⟨d, h5, hφ⟩ := Option.bind_eq_some_iff.mp hφ
        obtain ⟨s, h8, hφ⟩ := Option.bind_eq_some_iff.mp hφ
        obtain ⟨y, h9, hφ⟩ := Option.bind_eq_some_iff.mp hφ
        obtain ⟨m, h10, hφ⟩ := Option.map_eq_some_iff.mp hφ
        subst hφ
        cases frD_eq h5
        obtain ⟨v, h6, h7⟩ := en.at_ i _ e2
        obtain ⟨u0, h11, _⟩ := en.at_ k _ e1
        obtain ⟨a, x, as, vs, rfl, R⟩ := row_of (h7 rfl) h3
        obtain ⟨us, h12, h13⟩ := en.al k i j dss u0 a e1 e2 h11 h6
        rw [R.ha] at h12
        cases h12
        rw [R.at] at h13
        cases h13
        refine ⟨w, ρ, _, rfl, en, h4, fun u w1 l1 o1 _ => ⟨.ref x, h11, w1, ρ, s, rfl, en.mono l1, h8, fun u2 w2 l2 o2 _ => ?_⟩⟩
        have l := l1.trans l2
        have R2 := R.mono l
        refine ⟨x, vs, y, m, rfl, o2.isInt (intOf_eq h9), R2.hx, by rw [R2.r.length]; exact h10, ?_⟩
        exact kk σ (w2.wr x _ R2.xb) ⟨l.F, l.B⟩ (R2.wr (en.mono l) e2 h6 (RpL.set (show Rp _ w2.F u d from o1.mono l2) m R2.r))
      · cases hφ
    · cases hφ
end
end Fx

set_option Elab.async false
set_option linter.all false
set_option maxRecDepth 100000
namespace Fx
open PySem PySem.Spec PyProof.Rows L2

/-! ### x = [[..] for ..]: an own list of own lists -/
def ownD : Res → Option (List D)
  | .own ds => some ds
  | _ => none
def lcD2 (γ : Res → Ro → Option Ro) (α : Ro → Option Bool) (φ : Ro → Option Res) (ρ : Ro) : List Res → Option (List (List D))
  | [] => some []
  | x :: xs => (γ x ρ).bind fun ρ1 => (α ρ1).bind fun k => if k then (φ ρ1).bind fun r => (ownD r).bind fun d => (lcD2 γ α φ ρ xs).map fun ds => d :: ds else lcD2 γ α φ ρ xs
def noAli (i : Nat) (ρ : Ro) : Bool := ρ.all fun r => match r with
  | some (.ali j _) => j != i
  | _ => true
def sNew2 (i : Nat) (ι : Ro → Option (List Res)) (vs : List Nat) (γ : Res → Ro → Option Ro) (α : Ro → Option Bool) (φ : Ro → Option Res) : Ro → Option Out := fun ρ =>
  (ι ρ).bind fun items => if items.length ≤ 100000 then (lcD2 γ α φ (wipeR ρ vs) items).bind fun dss => if noAli i ρ then some (.nx (ρ.set i (some (.own2 dss)))) else none else none
theorem ownD_eq {r : Res} {ds : List D} (h : ownD r = some ds) : r = .own ds := by
  cases r <;> first | (cases h; rfl) | cases h
theorem noAli_no {ρ : Ro} {i k j : Nat} (h : noAli i ρ = true) (e : ρ[k]? = some (some (.ali i j))) : False := by
  have h1 := List.all_eq_true.mp h _ (List.mem_of_getElem? e)
  simp at h1
/-- a slot gets an own list of own lists, all of them new -/
theorem En.set2 {T : Kt} {b : Bas} {w0 w : W3} {σ : L2.St} {ρ : Ro} {v : V} {ds : List (List D)} (i : Nat) (h0 : En T b w0 σ ρ) (l : Le w0 w) (o : ResOk T w v (.own2 ds)) (f : ∀ x ∈ foot w.H v (.own2 ds), w0.H x = none) (na : noAli i ρ = true) :
    En T b w (σ.set i (some v)) (ρ.set i (some (.own2 ds))) := by
  have h := h0.mono l
  have there : ∀ (j : Nat) (p : Res) (u : V) (x : Addr), ρ[j]? = some (some p) → σ[j]? = some (some u) → x ∈ foot w.H u p → x ∈ foot w.H v (.own2 ds) → False := fun j p u x e1 e2 h1 h2 => by
    obtain ⟨u', h3, h4⟩ := h0.at_ j p e1
    rw [e2] at h3
    cases h3
    rw [foot_eq l.H h4] at h1
    have h5 : isAli p = false := by cases p <;> first | rfl | (cases u <;> cases h1)
    have h6 := foot_in (h4 h5) h1
    rw [f x h2] at h6
    exact h6.1
  have atS : ∀ {j : Nat} {u : V}, (σ.set i (some v))[j]? = some (some u) → j ≠ i → σ[j]? = some (some u) := fun {j u} e hj => by
    rw [List.getElem?_set_ne (fun z => hj z.symm)] at e; exact e
  have atI : ∀ {u : V}, (σ.set i (some v))[i]? = some (some u) → u = v := fun {u} e => by
    rcases set_get e with ⟨_, z, _⟩ | ⟨z, _⟩
    · exact Option.some.inj z
    · exact absurd rfl z
  refine ⟨h.bs, fun j q e => ?_, fun j k p q u1 u2 hjk e1 e2 e3 e4 x h1 h2 => ?_, by rw [List.length_set, List.length_set, h.len], fun j q e => ?_, fun k m n dss u a e1 e2 e3 e4 => ?_, fun c ks ds' e => ?_⟩
  · rcases set_get e with ⟨rfl, hq, hlt⟩ | ⟨hj, e⟩
    · cases hq
      exact ⟨v, List.getElem?_set_self (by rw [← h.len]; exact hlt), fun _ => o⟩
    · obtain ⟨u, h1, h2⟩ := h.at_ j q e
      exact ⟨u, by rw [List.getElem?_set_ne (fun z => hj z.symm)]; exact h1, h2⟩
  · rcases set_get e1 with ⟨hj, hq, _⟩ | ⟨hj, n1⟩
    · rcases set_get e2 with ⟨hk, _, _⟩ | ⟨hk, n2⟩
      · exact hjk (hj.trans hk.symm)
      · subst hj
        cases hq
        cases atI e3
        exact there k q u2 x n2 (atS e4 hk) h2 h1
    · rcases set_get e2 with ⟨hk, hq, _⟩ | ⟨hk, n2⟩
      · subst hk
        cases hq
        cases atI e4
        exact there j p u1 x n1 (atS e3 hj) h1 h2
      · exact h.dis j k p q u1 u2 hjk n1 n2 (atS e3 hj) (atS e4 hk) x h1 h2
  · rcases set_get e with ⟨_, hq, _⟩ | ⟨_, e⟩
    · cases hq; rfl
    · exact h.ok j q e
  · rcases set_get e1 with ⟨_, hq, _⟩ | ⟨hk, n1⟩
    · cases hq
    · rcases set_get e2 with ⟨hm, hq, _⟩ | ⟨hm, n2⟩
      · subst hm
        exact (noAli_no na n1).elim
      · exact h.al k m n dss u a n1 n2 (atS e3 hk) (atS e4 hm)
  · rcases set_get e with ⟨_, hq, _⟩ | ⟨hk, n1⟩
    · cases hq
    · obtain ⟨a, h1, h2⟩ := h.sf c ks ds' n1
      exact ⟨a, h1, by rw [List.getElem?_set_ne (fun z => hk z.symm)]; exact h2⟩
theorem O2.snoc {T : Kt} {w : W3} {x : Addr} {vs : List V} {ds : List D} (h1 : w.H x = some (.lst vs)) (h2 : RpL T w.F vs ds) (h3 : w.F x = none) (h4 : w.B x = none) : ∀ {as : List Addr} {dss : List (List D)}, O2 T w as dss → O2 T w (as ++ [x]) (dss ++ [ds])
  | _, _, .nil => .cons h1 h2 h3 h4 .nil
  | _, _, .cons q1 q2 q3 q4 t => .cons q1 q2 q3 q4 (O2.snoc h1 h2 h3 h4 t)
/-- what the loop keeps -/
structure C2 (T : Kt) (w1 w2 : W3) (A : Addr) (as : List Addr) (done : List (List D)) : Prop where
  l : Le w1 w2
  hA : w2.H A = some (.lst (as.map V.ref))
  F : w2.F A = none
  B : w2.B A = none
  o : O2 T w2 as done
  n : (A :: as).Nodup
  new : ∀ x ∈ A :: as, w1.H x = none
theorem C2.mono {T : Kt} {w1 w2 w3 : W3} {A : Addr} {as : List Addr} {done : List (List D)} (h : C2 T w1 w2 A as done) (l : Le w2 w3) : C2 T w1 w3 A as done := by
  have m : Mut (w2.H A) := by rw [h.hA]; exact True.intro
  exact ⟨h.l.trans l, l.H _ _ h.hA, l.kF _ m h.F, l.kB _ m h.B, h.o.mono l, h.n, h.new⟩
theorem C2.put {T : Kt} {w1 w2 w3 : W3} {A : Addr} {as : List Addr} {done : List (List D)} {y : V} {ds : List D} (h : C2 T w1 w2 A as done) (l : Le w2 w3) (o : ResOk T w3 y (.own ds)) (f : Frs w2 y (.own ds)) :
    ∃ x, y = .ref x ∧ w3.H A = some (.lst (as.map V.ref)) ∧ C2 T w1 ((w3.wr A (.lst ((as ++ [x]).map V.ref)) (h.mono l).B)) A (as ++ [x]) (done ++ [ds]) := by
  obtain ⟨x, vs, rfl, h1, h2, h3, h4⟩ := o
  have h3' := h.mono l
  have hx2 : w2.H x = none := f x rfl
  have hx1 : w1.H x = none := none_back h.l.H hx2
  have hAx : x ≠ A := fun z => by subst z; rw [h.hA] at hx2; cases hx2
  have hxa : x ∉ as := fun z => by
    obtain ⟨us, q, _⟩ := h.o.mem z
    rw [q] at hx2
    cases hx2
  have hAa : A ∉ as := (List.nodup_cons.mp h.n).1
  have hA1 : w1.H A = none := h.new A List.mem_cons_self
  refine ⟨x, rfl, h3'.hA, ⟨⟨h3'.l.F, h3'.l.B, same_upd2 h3'.l.H hA1, h3'.l.kF, h3'.l.kB⟩, upd_same, h3'.F, h3'.B, ?_, ?_, fun p hp => ?_⟩⟩
  · refine O2.snoc (w := w3.wr A (.lst ((as ++ [x]).map V.ref)) h3'.B) ?_ h2 h3 h4 (O2.wrOut hAa h3'.o)
    show upd w3.H A _ x = _
    rw [upd_ne hAx]
    exact h1
  · refine List.nodup_cons.mpr ⟨fun z => ?_, List.nodup_append.mpr ⟨(List.nodup_cons.mp h.n).2, List.nodup_cons.mpr ⟨by simp, List.nodup_nil⟩, fun p hp q hq e => ?_⟩⟩
    · rcases List.mem_append.mp z with z | z
      · exact hAa z
      · rw [List.mem_singleton] at z; exact hAx z.symm
    · rw [List.mem_singleton] at hq
      subst hq; subst e
      exact hxa hp
  · rcases List.mem_cons.mp hp with rfl | hp
    · exact hA1
    · rcases List.mem_append.mp hp with hp | hp
      · exact h.new p (List.mem_cons_of_mem _ hp)
      · rw [List.mem_singleton] at hp; subst hp; exact hx1
section
variable {T : Kt} {b : Bas} {ι : Ro → Option (List Res)} {vs us : List Nat} {γ : Res → Ro → Option Ro} {α : Ro → Option Bool} {φ : Ro → Option Res} {g : TG}
theorem lc_go2 (hg : GTg T b g γ us) (hu : ∀ v ∈ us, v ∈ vs) {σ : L2.St} {w : W3} {ρ : Ro} {Q : VK} {items : List Res} {dss : List (List D)} (en : En T b w σ ρ) (h1 : ι ρ = some items) (hz : items.length ≤ 100000) (h2 : lcD2 γ α φ (wipeR ρ vs) items = some dss)
    (k : ∀ v w', Le w w' → ResOk T w' v (.own2 dss) → (∀ x ∈ foot w'.H v (.own2 dss), w.H x = none) → Q v w'.H) : tLc (tI T b ι) g (tT T b α) (tE T b φ) vs σ w.H Q := by
  refine ⟨w, ρ, items, rfl, en, h1, fun J w1 l1 hJ A hA => ?_⟩
  have en1 := en.mono l1
  refine ⟨fun i m H => m = items.length - i ∧ i ≤ items.length ∧ ∃ w2 as done rest, w2.H = H ∧ C2 T w1 w2 A as done ∧ lcD2 γ α φ (wipeR ρ vs) (items.drop i) = some rest ∧ done ++ rest = dss ∧ done.length ≤ i,
    ⟨items.length, rfl, Nat.zero_le _, w1.new .h A (.lst []) hA, [], [], dss, w1.new_H .h A _ hA, ⟨w1.new_le .h A _ hA, upd_same, none_back w1.fb (none_back w1.bh hA), none_back w1.bh hA, .nil, by simp, fun x hx => by rw [List.mem_singleton] at hx; subst hx; exact hA⟩, h2, rfl, Nat.zero_le _⟩, ?_⟩
  rintro i m H ⟨rfl, hi, w2, as, done, rest, rfl, C, hr, hd, hdl⟩
  by_cases hlt : i < items.length
  · obtain ⟨g1, g2⟩ := hJ.go w2 C.l.F C.l.B i hlt
    refine .inr ⟨g1, fun H => ∃ w2 as done rest, w2.H = H ∧ C2 T w1 w2 A as done ∧ lcD2 γ α φ (wipeR ρ vs) (items.drop (i + 1)) = some rest ∧ done ++ rest = dss ∧ done.length ≤ i + 1,
      fun H' hN => ⟨items.length - (i + 1), by omega, rfl, hlt, hN⟩, fun x H' hy => ?_⟩
    obtain ⟨w3, r, h3, rfl, l3, h5⟩ := g2 x H' hy
    have er : r = items[i] := by rw [List.getElem?_eq_getElem hlt] at h3; exact (Option.some.inj h3).symm
    have har : isAt r = true := by rw [er]; exact List.all_eq_true.mp hJ.ats _ (List.getElem_mem hlt)
    rw [List.drop_eq_getElem_cons hlt, ← er] at hr
    unfold lcD2 at hr
    obtain ⟨ρ1, h6, hr⟩ := Option.bind_eq_some_iff.mp hr
    obtain ⟨kk, h7, hr⟩ := Option.bind_eq_some_iff.mp hr
    refine hg w3 (L2.wipe σ vs) (wipeR ρ vs) x r ρ1 _ ((en1.mono (C.l.trans l3)).wipe vs) h5 har h6 fun σ2 en2 e2 => ⟨by rw [e2 vs hu, wipe_wipe], ?_⟩
    refine ⟨w3, ρ1, kk, rfl, en2, h7, fun w4 l4 => ?_⟩
    have l24 := l3.trans l4
    cases kk with
    | false =>
      rw [if_neg (by decide)] at hr
      exact L2.iteF ⟨w4, as, done, rest, rfl, C.mono l24, hr, hd, by omega⟩
    | true =>
      rw [if_pos rfl] at hr
      refine L2.iteT ?_
      obtain ⟨q, h8, hr⟩ := Option.bind_eq_some_iff.mp hr
      obtain ⟨d, h9, hr⟩ := Option.bind_eq_some_iff.mp hr
      obtain ⟨rest', h10, hr⟩ := Option.map_eq_some_iff.mp hr
      subst hr
      cases ownD_eq h9
      refine ⟨w4, ρ1, _, rfl, en2.mono l4, h8, fun y w5 l5 o5 f5 => ?_⟩
      obtain ⟨x, rfl, hA5, C5⟩ := C.put (l24.trans l5) o5 (f5.back l24.H)
      refine ⟨as.map V.ref, hA5, by rw [List.length_map, C.o.len]; exact szl (by omega), _, as ++ [x], done ++ [d], rest', ?_, C5, h10, by rw [List.append_assoc]; exact hd, by rw [List.length_append]; simp; omega⟩
      show upd w5.H A _ = upd w5.H A _
      rw [List.map_append]
      rfl
  · have e : i = items.length := by omega
    subst e
    rw [List.drop_length] at hr
    cases hr
    rw [List.append_nil] at hd
    subst hd
    refine .inl ⟨hJ.stop w2 C.l.F C.l.B _ (Nat.le_refl _), k (.ref A) w2 (l1.trans C.l) ⟨A, as, rfl, C.hA, C.o, C.n, C.F, C.B⟩ fun x hx => ?_⟩
    rw [foot_own2 C.hA] at hx
    exact none_back l1.H (C.new x hx)
theorem xlcs2 {X : Cx} {st : Stmt} {i : Nat} (h : PS X st (tAsg (tLc (tI T b ι) g (tT T b α) (tE T b φ) vs) (gName i))) (hg : GTg T b g γ us) (hu : ∀ v ∈ us, v ∈ vs) : PS X st (tS T b (sNew2 i ι vs γ α φ)) := psImp h fun D σ H h => by
  obtain ⟨w, ρ, o, rfl, en, hφ, k⟩ := h
  unfold sNew2 at hφ
  obtain ⟨items, h1, hφ⟩ := Option.bind_eq_some_iff.mp hφ
  by_cases hz : items.length ≤ 100000
  · rw [if_pos hz] at hφ
    obtain ⟨dss, h2, hφ⟩ := Option.bind_eq_some_iff.mp hφ
    by_cases hn : noAli i ρ = true
    · rw [if_pos hn] at hφ
      cases hφ
      exact lc_go2 hg hu (Q := fun v H1 => D.nx (σ.set i (some v)) H1) en h1 hz h2 fun v w' l o f => k (σ.set i (some v)) w' l.gr (En.set2 i en l o f hn)
    · rw [if_neg hn] at hφ; cases hφ
  · rw [if_neg hz] at hφ; cases hφ
end
end Fx

set_option Elab.async false
set_option linter.all false
set_option maxRecDepth 100000
namespace Fx
open PySem PySem.Spec PyProof.Rows L2

/-! ### a.index(y) -/
def SqK (K : PySem.W.Frag) (t : Bool) (H : Hp) (a : Addr) (vs : List V) : Prop := if t then KTup H a vs else SqL K H a vs
def tIdx2 (K : PySem.W.Frag) (to : TE) (ta : TA) : TE := fun σ H Q => to σ H fun x H1 => ∃ (t : Bool) (a : Addr) (ns : List Int), x = .ref a ∧ SqK K t H1 a (ns.map V.int) ∧ ta σ H1 fun ys H2 => ∃ (i : Int) (j : Nat), ys = [.int i] ∧ SqK K t H2 a (ns.map V.int) ∧ ns[j]? = some i ∧ (∀ m, m < j → ns[m]? ≠ some i) ∧ Q (.int (j : Nat)) H2
section
variable {X : Cx}
theorem mt_tup_indexI : MtR X "tuple.index" (fun x xs H Q => ∃ (p : Addr) (ns : List Int) (i : Int) (j : Nat), x = .ref p ∧ xs = [.int i] ∧ SqT X.K H p (ns.map V.int) ∧ ns[j]? = some i ∧ (∀ m, m < j → ns[m]? ≠ some i) ∧ Q (.int (j : Nat)) H) := by
  intro pins s σ H x xs v us Q I rx rs h
  obtain ⟨p, ys, z, j, rfl, rfl, hq, hy, hno, q⟩ := h
  cases rx
  obtain ⟨u, rfl, t, rfl⟩ := vals1 rs
  obtain ⟨its, r, pl, hz⟩ := I.tuple hq
  obtain ⟨⟨cls, dd, dt, sl⟩, ho, hc, n, hd⟩ := pl
  simp only at hc hd
  subst hc
  subst hd
  have hl : its.toArray.size = ys.length := by rw [List.size_toArray, ← r.length, List.length_map]
  have hj : j < its.toArray.size := by rw [hl]; exact (List.getElem?_eq_some_iff.mp hy).1
  have at' : ∀ (m : Nat) (hm : m < its.toArray.size), ∃ y t', ys[m]? = some y ∧ its.toArray[m] = Value.int y t' := fun m hm => by
    have hm' : m < ys.length := by rw [← hl]; exact hm
    obtain ⟨w, hw, t', hw'⟩ := r.get (i := m) (x := .int ys[m]) (by simp [hm'])
    refine ⟨ys[m], t', List.getElem?_eq_getElem hm', ?_⟩
    have e := (List.getElem?_eq_some_iff.mp hw).2
    rw [← hw', ← e]
    simp
  refine call_meets PySem.F.slot_tuple_index ⟨_, ho, rfl⟩ PySem.F.entry_tuple_index (PySem.F.args_tuple_index_2 _ _) (TI.tuple_indexAt p its.toArray n dd sl (.int z t) (eqU (.int z)) j hj ?_ ?_)
    ⟨ho, fun w hw => mem_eqAt (x := .int z) ⟨t, rfl⟩ rfl r (flat_ints ys) w (by simpa using hw), ⟨.int (j : Nat), H, I.tok _, ⟨_, rfl⟩, q⟩⟩
  · obtain ⟨y, t', h1, h2⟩ := at' j hj
    rw [hy] at h1
    cases h1
    rw [h2]
    show (z == z) = true
    exact beq_self_eq_true z
  · intro m hm hmj
    obtain ⟨y, t', h1, h2⟩ := at' m hm
    rw [h2]
    show (y == z) = false
    exact beq_eq_false_iff_ne.mpr fun e => hno m hmj (e ▸ h1)
theorem eqV_int (x y : Int) : eqV (.int x) (.int y) = (x == y) := rfl
theorem pe_idx {o e : Expr} {to : TE} {t : TA} {apos cpos : Pos} (ho : PE X o to) (ha : PA X [e] t)
    (hbase : attributeBase o "index" X.env (eval o X.env) = eval o X.env := by rfl)
    (hfew : ((backTo cpos (starEach [e] X.env)).all (fun x => !x.1) && (backToKw cpos (keywordEach [] X.env)).all (fun x => x.1.isSome)
      && decide (([e] : List Expr).length + ([] : List Keyword).length + (if ([] : List Keyword).isEmpty then 0 else 1) < 30)) = true := by rfl)
    (hline : (apos.endLine == cpos.line) = true := by rfl) (hs : starEach [e] X.env = (false, eval e X.env) :: starEach [] X.env := by rfl) (hplain : (backTo cpos (starEach [] X.env)).any (·.1) = false := by rfl) :
    PE X (.Call (.Attribute o "index" apos) [e] [] cpos) (tIdx2 X.K to t) := by
  refine ⟨fun pins s σ H Q I h => ?_⟩
  refine wpAny_Call_method_late hbase hfew hline rfl (thn (ho.run pins s σ H _ I h) fun v s1 ⟨x, H1, I1, r1, tt, a, ns, ex, ht, q1⟩ => ?_)
  subst ex
  have hA := ha.run cpos pins s1 σ H1 _ I1 q1
  cases r1
  cases tt with
  | false =>
    have ht : SqL X.K H1 a (ns.map V.int) := ht
    obtain ⟨h1, h2⟩ := tyV_is (T := "list") I1 (x := .ref a) (v := .ref a) rfl (.inl ⟨rfl, _, ht⟩)
    refine ⟨"list", _, PySem.F.plainAttrs_list, PySem.F.slot_list_index, PySem.F.type_list_index, h1, h2, ?_⟩
    rw [hs] at hA ⊢
    refine Calls.callWith_builtin (by show (false || (backTo cpos (starEach [] X.env)).any (·.1)) = false; rw [hplain] <;> rfl) (Calls.evalArgs_plain ?_)
    refine thn hA fun us s2 ⟨vs, H2, I2, r2, i, j, hv, ht2, hj, hno, q2⟩ => ?_
    subst hv
    refine mt_index pins s2 σ H2 (.ref a) [.int i] _ us Q I2 rfl r2 ⟨a, ns.map V.int, .int i, j, .int i, rfl, rfl, ht2, rfl, flat_ints ns, by rw [List.getElem?_map, hj]; rfl, by rw [eqV_int]; exact beq_self_eq_true i, fun m z' hm hz => ?_, q2⟩
    rw [List.getElem?_map] at hz
    obtain ⟨y, hy, rfl⟩ := Option.map_eq_some_iff.mp hz
    rw [eqV_int]
    exact beq_eq_false_iff_ne.mpr fun e => hno m hm (e ▸ hy)
  | true =>
    obtain ⟨ob, hk, hd⟩ := (show KTup H1 a (ns.map V.int) from ht)
    obtain ⟨hg, hz, us, rv, hI⟩ := I1.hok a _ hk
    have hT : s1.TypeIs (.ref a) "tuple" := by
      obtain ⟨o', e', c', _⟩ := hI
      exact ⟨o', e', c'⟩
    refine ⟨"tuple", _, PySem.F.plainAttrs_tuple, PySem.F.slot_tuple_index, PySem.F.type_tuple_index, hT, fun b e => by cases e; exact ⟨ob, hg, hd⟩, ?_⟩
    rw [hs] at hA ⊢
    refine Calls.callWith_builtin (by show (false || (backTo cpos (starEach [] X.env)).any (·.1)) = false; rw [hplain] <;> rfl) (Calls.evalArgs_plain ?_)
    refine thn hA fun us s2 ⟨vs, H2, I2, r2, i, j, hv, ht2, hj, hno, q2⟩ => ?_
    subst hv
    exact mt_tup_indexI pins s2 σ H2 (.ref a) [.int i] _ us Q I2 rfl r2 ⟨a, ns, i, j, rfl, rfl, (show KTup H2 a (ns.map V.int) from ht2).sq, hj, hno, q2⟩
end

def idxNs : D → Option (Bool × List Int)
  | .lst ds => (ints? ds).map fun ns => (false, ns)
  | .tup ds => (ints? ds).map fun ns => (true, ns)
  | .scr ns => some (false, ns)
  | _ => none
theorem idxNs_ok {T : Kt} {H : Hp} {v : V} {d : D} {t : Bool} {ns : List Int} (h : Rp T H v d) (e : idxNs d = some (t, ns)) : ∃ a, v = .ref a ∧ SqK T.K t H a (ns.map V.int) := by
  cases h with
  | @lst a vs ds h1 h2 =>
    obtain ⟨ms, e1, e2⟩ := Option.map_eq_some_iff.mp e
    cases e2
    cases ints_of e1
    rw [h2.ints] at h1
    exact ⟨a, rfl, .of h1⟩
  | @tup a vs ds h1 h2 =>
    obtain ⟨ms, e1, e2⟩ := Option.map_eq_some_iff.mp e
    cases e2
    cases ints_of e1
    rw [h2.ints] at h1
    exact ⟨a, rfl, h1⟩
  | @scr a ms h1 => cases e; exact ⟨a, rfl, h1⟩
  | _ => cases e
theorem SqK.mono {K : PySem.W.Frag} {t : Bool} {H H' : Hp} {a : Addr} {vs : List V} (e : Same H H') (h : SqK K t H a vs) : SqK K t H' a vs := by
  cases t with
  | true => exact KTup.mono e h
  | false => exact e.seq h
/-- the first place of i -/
def ixOf (i : Int) : List Int → Option Nat
  | [] => none
  | n :: ns => if n = i then some 0 else (ixOf i ns).map (· + 1)
theorem ixOf_ok {i : Int} : ∀ {ns : List Int} {j : Nat}, ixOf i ns = some j → ns[j]? = some i ∧ ∀ m, m < j → ns[m]? ≠ some i
  | [], _, h => by cases h
  | n :: ns, j, h => by
    unfold ixOf at h
    by_cases hn : n = i
    · rw [if_pos hn] at h
      cases h
      exact ⟨by rw [hn]; rfl, fun m hm => by omega⟩
    · rw [if_neg hn] at h
      obtain ⟨k, h1, rfl⟩ := Option.map_eq_some_iff.mp h
      obtain ⟨h2, h3⟩ := ixOf_ok h1
      refine ⟨h2, fun m hm => ?_⟩
      cases m with
      | zero => intro e; exact hn (Option.some.inj e)
      | succ m => exact h3 m (by omega)
def idxR (x y : Res) : Option Res := (idxNs x.d).bind fun p => (intOf y).bind fun i => (ixOf i p.2).map fun j => .at .f (.int (j : Nat))
section
variable {X : Cx} {c : Str → Option Addr} {b : Bas} {φ ψ χ : Ro → Option Res}
def fIdx (φ : Ro → Option Res) (ψ : Ro → Option (List Res)) : Ro → Option Res := fun ρ => (φ ρ).bind fun x => (ψ ρ).bind fun ys => match ys with
  | [y] => idxR x y
  | _ => none
theorem xidx {e : Expr} {ψ : Ro → Option (List Res)} (h : PE X e (tIdx2 X.K (tE (xT X c) b φ) (tA (xT X c) b ψ))) : PE X e (tE (xT X c) b (fIdx φ ψ)) := peImp h fun σ H Q h => by
  obtain ⟨w, ρ, rr, rfl, en, hφ, k⟩ := h
  unfold fIdx at hφ
  obtain ⟨x, h1, hφ⟩ := Option.bind_eq_some_iff.mp hφ
  obtain ⟨ys, h2, hφ⟩ := Option.bind_eq_some_iff.mp hφ
  split at hφ
  · rename_i y
    unfold idxR at hφ
    obtain ⟨⟨t, ns⟩, h3, hφ⟩ := Option.bind_eq_some_iff.mp hφ
    obtain ⟨i, h4, hφ⟩ := Option.bind_eq_some_iff.mp hφ
    obtain ⟨j, h5, hφ⟩ := Option.map_eq_some_iff.mp hφ
    subst hφ
    obtain ⟨h6, h7⟩ := ixOf_ok h5
    refine ⟨w, ρ, x, rfl, en, h1, fun v w1 l1 o1 _ => ?_⟩
    obtain ⟨a, rfl, hs⟩ := idxNs_ok o1.rpH h3
    refine ⟨t, a, ns, rfl, hs, w1, ρ, [y], rfl, en.mono l1, h2, fun vs w2 l2 o2 => ?_⟩
    obtain ⟨u, rfl, o3⟩ := args1 o2
    exact ⟨i, j, by rw [o3.isInt (intOf_eq h4)], hs.mono l2.H, h6, h7, k _ w2 (l1.trans l2) (show ResOk _ w2 _ (.at .f (.int (j : Nat))) from .int _) True.intro⟩
  · cases hφ
end

/-! ### dicts whose keys are tuples -/
def keyD : D → Option Key
  | .int i => some (.inl i)
  | .str x => some (.inr x)
  | _ => none
def keysD : List D → Option (List Key)
  | [] => some []
  | d :: ds => (keyD d).bind fun k => (keysD ds).map fun ks => k :: ks
def tkey : D → Option (List Key)
  | .ktp ds => keysD ds
  | _ => none
theorem keyD_ok {T : Kt} {H : Hp} {v : V} {d : D} {k : Key} (h : Rp T H v d) (e : keyD d = some k) : v = kV k := by
  cases h with
  | int i => cases e; rfl
  | str x => cases e; rfl
  | _ => cases e
theorem keysD_ok {T : Kt} {H : Hp} : ∀ {vs : List V} {ds : List D} {ks : List Key}, RpL T H vs ds → keysD ds = some ks → vs = ks.map kV
  | _, _, _, .nil, e => by cases e; rfl
  | _, _, _, .cons h t, e => by
    unfold keysD at e
    obtain ⟨k, h1, e⟩ := Option.bind_eq_some_iff.mp e
    obtain ⟨ks, h2, rfl⟩ := Option.map_eq_some_iff.mp e
    rw [keyD_ok h h1, keysD_ok t h2]
    rfl
theorem tkey_ok {T : Kt} {H : Hp} {v : V} {d : D} {k : List Key} (h : Rp T H v d) (e : tkey d = some k) : ∃ p, v = .ref p ∧ H p = some (.tup (k.map kV)) := by
  cases h with
  | @ktp a vs ds h1 h2 =>
    rw [keysD_ok h2 e] at h1
    exact ⟨a, rfl, h1⟩
  | _ => cases e
def valD : List (List Key) → List D → List Key → Option D
  | k' :: ks, x :: xs, k => if k' = k then some x else valD ks xs k
  | _, _, _ => none
theorem valD_ok {T : Kt} {H : Hp} {k : List Key} : ∀ {kvv : List (List Key × V)} {ks : List (List Key)} {xs : List D}, kvv.map Prod.fst = ks → RpL T H (kvv.map Prod.snd) xs →
    (∀ d, valD ks xs k = some d → ∃ v, valV kvv k = some v ∧ Rp T H v d) ∧ (valD ks xs k = none → valV kvv k = none)
  | [], _, _, rfl, h => by
    cases h
    exact ⟨fun d e => (nomatch (show (none : Option D) = some d from e)), fun _ => rfl⟩
  | (k', v) :: kvv, _, _, rfl, h => by
    cases h with
    | @cons _ _ d ds h1 h2 =>
      obtain ⟨i1, i2⟩ := valD_ok (k := k) (kvv := kvv) rfl h2
      show (∀ d', (if k' = k then some d else valD (kvv.map Prod.fst) ds k) = some d' → _) ∧ ((if k' = k then some d else valD (kvv.map Prod.fst) ds k) = none → _)
      by_cases hk : k' = k
      · rw [if_pos hk, valV_pos hk]
        exact ⟨fun d' e => by cases e; exact ⟨v, rfl, h1⟩, fun e => by cases e⟩
      · rw [if_neg hk, valV_neg hk]
        exact ⟨i1, i2⟩
def dgetR (x y : Res) : Option Res := match x.d with
  | .dct ks xs => (tkey y.d).bind fun k => (valD ks xs k).map (Res.mk x.lv)
  | _ => none
def dinR (y x : Res) : Option Res := match x.d with
  | .dct ks xs => (tkey y.d).map fun k => .at .f (.bl (valD ks xs k).isSome)
  | _ => none
def dninR (y x : Res) : Option Res := match x.d with
  | .dct ks xs => (tkey y.d).map fun k => .at .f (.bl (!(valD ks xs k).isSome))
  | _ => none
def dget1R (x y : Res) : Option Res := match x.d with
  | .dct ks xs => (tkey y.d).map fun k => match valD ks xs k with
    | some d => Res.mk x.lv d
    | none => .at .f .non
  | _ => none
theorem dct_at {T : Kt} {w : W3} {v : V} {r : Res} {ks : List (List Key)} {xs : List D} (o : ResOk T w v r) (e : r.d = .dct ks xs) : ∃ a kvv, v = .ref a ∧ w.H a = some (.dT kvv) ∧ kvv.map Prod.fst = ks ∧ RpL T (w.at r.lv) (kvv.map Prod.snd) xs := by
  have hr := o.rp
  rw [e] at hr
  cases hr with
  | @dct a kvv _ _ h1 h2 h3 => exact ⟨a, kvv, rfl, w.atH _ _ _ h1, h2, h3⟩
theorem dget_rel {T : Kt} {w : W3} {v u : V} {r q : Res} {ks : List (List Key)} {xs : List D} {k : List Key} (o : ResOk T w v r) (e : r.d = .dct ks xs) (p : ResOk T w u q) (hk : tkey q.d = some k) :
    ∃ a ov, v = .ref a ∧ DGet w.H a u ov ∧ IsD w.H a ∧ (∀ d, valD ks xs k = some d → ∃ x, ov = some x ∧ Rp T (w.at r.lv) x d) ∧ (valD ks xs k = none → ov = none) := by
  obtain ⟨a, kvv, rfl, h1, h2, h3⟩ := dct_at o e
  obtain ⟨b, rfl, h4⟩ := tkey_ok p.rpH hk
  obtain ⟨h5, h6⟩ := valD_ok (k := k) h2 h3
  exact ⟨a, valV kvv k, rfl, DGet.t h1 h4, .inr ⟨kvv, .inl h1⟩, h5, h6⟩
section
variable {X : Cx} {c : Str → Option Addr} {b : Bas} {φ ψ χ : Ro → Option Res} {e : Expr} {T : Kt}
theorem xdget (h : PE X e (tDGet (tE T b φ) (tE T b ψ))) : PE X e (tE T b (f2 dgetR φ ψ)) := peImp h fun σ H Q h =>
  f2_ok (r := fun x y H Q => ∃ a v, x = .ref a ∧ DGet H a y (some v) ∧ Q v H) (fun w x y rx ry rr Q ox oy hg k => by
    unfold dgetR at hg
    split at hg
    · rename_i ks xs e1
      obtain ⟨kk, h1, hg⟩ := Option.bind_eq_some_iff.mp hg
      obtain ⟨d, h2, rfl⟩ := Option.map_eq_some_iff.mp hg
      obtain ⟨a, ov, rfl, h3, _, h4, _⟩ := dget_rel ox e1 oy h1
      obtain ⟨z, rfl, h5⟩ := h4 d h2
      exact ⟨a, z, rfl, h3, fin_at k h5⟩
    · cases hg) σ H Q h
theorem xdin (h : PE X e (tDIn (tE T b ψ) (tE T b φ))) : PE X e (tE T b (f2 dinR ψ φ)) := peImp h fun σ H Q h =>
  f2_ok (r := fun y x H Q => ∃ a o, x = .ref a ∧ DGet H a y o ∧ Q (.bl o.isSome) H) (fun w y x ry rx rr Q oy ox hg k => by
    unfold dinR at hg
    split at hg
    · rename_i ks xs e1
      obtain ⟨kk, h1, rfl⟩ := Option.map_eq_some_iff.mp hg
      obtain ⟨a, ov, rfl, h3, _, h4, h5⟩ := dget_rel ox e1 oy h1
      refine ⟨a, ov, rfl, h3, ?_⟩
      cases h6 : valD ks xs kk with
      | none => rw [h6] at k; rw [h5 h6]; exact fin_bl k
      | some d =>
        rw [h6] at k
        obtain ⟨z, rfl, _⟩ := h4 d h6
        exact fin_bl k
    · cases hg) σ H Q h
theorem xdnin (h : PE X e (tDNotIn (tE T b ψ) (tE T b φ))) : PE X e (tE T b (f2 dninR ψ φ)) := peImp h fun σ H Q h =>
  f2_ok (r := fun y x H Q => ∃ a o, x = .ref a ∧ DGet H a y o ∧ Q (.bl (!o.isSome)) H) (fun w y x ry rx rr Q oy ox hg k => by
    unfold dninR at hg
    split at hg
    · rename_i ks xs e1
      obtain ⟨kk, h1, rfl⟩ := Option.map_eq_some_iff.mp hg
      obtain ⟨a, ov, rfl, h3, _, h4, h5⟩ := dget_rel ox e1 oy h1
      refine ⟨a, ov, rfl, h3, ?_⟩
      cases h6 : valD ks xs kk with
      | none => rw [h6] at k; rw [h5 h6]; exact fin_bl k
      | some d =>
        rw [h6] at k
        obtain ⟨z, rfl, _⟩ := h4 d h6
        exact fin_bl k
    · cases hg) σ H Q h
theorem xdget1 (h : PE X e (tDGet1 (tE T b φ) (tE T b ψ))) : PE X e (tE T b (f2 dget1R φ ψ)) := peImp h fun σ H Q h => by
  obtain ⟨w, ρ, rr, rfl, en, hφ, k⟩ := h
  unfold f2 at hφ
  obtain ⟨x, h1, hφ⟩ := Option.bind_eq_some_iff.mp hφ
  obtain ⟨y, h2, hg⟩ := Option.bind_eq_some_iff.mp hφ
  unfold dget1R at hg
  split at hg
  · rename_i ks xs e1
    obtain ⟨kk, h3, hg⟩ := Option.map_eq_some_iff.mp hg
    refine ⟨w, ρ, x, rfl, en, h1, fun v w1 l1 o1 _ => ?_⟩
    obtain ⟨a, kvv, rfl, h4, h5, h6⟩ := dct_at o1 e1
    refine ⟨a, rfl, .inr ⟨kvv, .inl h4⟩, w1, ρ, y, rfl, en.mono l1, h2, fun u w2 l2 o2 _ => ?_⟩
    have o1' := o1.mono l2
    obtain ⟨a', ov, e2, h7, _, h8, h9⟩ := dget_rel o1' e1 o2 h3
    cases e2
    refine ⟨ov, h7, ?_⟩
    have k2 : Kq T w2 rr Q := fun v w3 l3 o3 f3 => k v w3 ((l1.trans l2).trans l3) o3 (f3.back (l1.trans l2).H)
    subst hg
    cases h10 : valD ks xs kk with
    | none =>
      rw [h10] at k2
      rw [h9 h10]
      exact fin_non k2
    | some d =>
      rw [h10] at k2
      obtain ⟨z, rfl, hz⟩ := h8 d h10
      exact fin_at k2 hz
  · cases hg
/-- {} -/
theorem xdnew {pos : Pos} : PE X (.Dict [] [] pos) (tE T b (fun _ => some (.ownT []))) := peImp pe_dnewT fun σ H Q h => by
  obtain ⟨w, ρ, rr, rfl, en, hφ, k⟩ := h
  cases hφ
  intro p hp
  have q := k (.ref p) (w.new .h p (.dT []) hp) (w.new_le .h p _ hp) ⟨p, [], rfl, upd_same, rfl, .nil, none_back w.fb (none_back w.bh hp), none_back w.bh hp⟩ (fun a e => by cases e; exact hp)
  exact q
end
def putD (kvs : List (List Key × D)) (k : List Key) (v : D) : List (List Key × D) :=
  if (kvs.any fun kv => decide (kv.1 = k)) = true then kvs.map (fun kv => if kv.1 = k then (kv.1, v) else kv) else kvs ++ [(k, v)]
theorem putD_fst {kvv : List (List Key × V)} {kvs : List (List Key × D)} {k : List Key} {v : V} {d : D} (h : kvv.map Prod.fst = kvs.map Prod.fst) : (putK kvv k v).map Prod.fst = (putD kvs k d).map Prod.fst := by
  have e : ∀ {α : Type} (l : List (List Key × α)), (l.any fun kv => decide (kv.1 = k)) = ((l.map Prod.fst).any fun x => decide (x = k)) := fun l => by rw [List.any_map]; rfl
  have m : ∀ {α : Type} (l : List (List Key × α)) (x : α), (l.map (fun kv => if kv.1 = k then (kv.1, x) else kv)).map Prod.fst = l.map Prod.fst := fun l x => by
    rw [List.map_map]
    apply List.map_congr_left
    intro kv _
    show (if kv.1 = k then (kv.1, x) else kv).1 = kv.1
    by_cases hk : kv.1 = k
    · rw [if_pos hk]
    · rw [if_neg hk]
  unfold putK putD
  rw [e kvv, e kvs, h]
  by_cases hb : ((kvs.map Prod.fst).any fun x => decide (x = k)) = true
  · rw [if_pos hb, if_pos hb, m, m, h]
  · rw [if_neg hb, if_neg hb, List.map_append, List.map_append, h]
    rfl
theorem putD_snd {T : Kt} {H : Hp} {k : List Key} {v : V} {d : D} (r : Rp T H v d) : ∀ {kvv : List (List Key × V)} {kvs : List (List Key × D)}, kvv.map Prod.fst = kvs.map Prod.fst → RpL T H (kvv.map Prod.snd) (kvs.map Prod.snd) →
    RpL T H ((putK kvv k v).map Prod.snd) ((putD kvs k d).map Prod.snd) := by
  intro kvv kvs h hs
  have e : ∀ {α : Type} (l : List (List Key × α)), (l.any fun kv => decide (kv.1 = k)) = ((l.map Prod.fst).any fun x => decide (x = k)) := fun l => by rw [List.any_map]; rfl
  have m : ∀ {kvv : List (List Key × V)} {kvs : List (List Key × D)}, kvv.map Prod.fst = kvs.map Prod.fst → RpL T H (kvv.map Prod.snd) (kvs.map Prod.snd) →
      RpL T H ((kvv.map (fun kv => if kv.1 = k then (kv.1, v) else kv)).map Prod.snd) ((kvs.map (fun kv => if kv.1 = k then (kv.1, d) else kv)).map Prod.snd) := by
    intro kvv
    induction kvv with
    | nil =>
      intro kvs h hs
      cases kvs with
      | nil => exact .nil
      | cons _ _ => cases h
    | cons p kvv ih =>
      intro kvs h hs
      cases kvs with
      | nil => cases h
      | cons q kvs =>
        rw [List.map_cons, List.map_cons] at h
        injection h with h1 h2
        rw [List.map_cons, List.map_cons] at hs
        cases hs with
        | cons s1 s2 =>
          refine .cons ?_ (ih h2 s2)
          show Rp T H (if p.1 = k then (p.1, v) else p).2 (if q.1 = k then (q.1, d) else q).2
          rw [h1]
          by_cases hk : q.1 = k
          · rw [if_pos hk, if_pos hk]; exact r
          · rw [if_neg hk, if_neg hk]; exact s1
  unfold putK putD
  rw [e kvv, e kvs, h]
  by_cases hb : ((kvs.map Prod.fst).any fun x => decide (x = k)) = true
  · rw [if_pos hb, if_pos hb]; exact m h hs
  · rw [if_neg hb, if_neg hb, List.map_append, List.map_append]
    exact hs.app (.cons r .nil)
/-- x[k] = e, x an own dict -/
def sDput (i : Nat) (ψ φ : Ro → Option Res) : Ro → Option Out := fun ρ => match ρ[i]? with
  | some (some (.ownT kvs)) => (φ ρ).bind fun r => (frD r).bind fun d => (ψ ρ).bind fun q => (tkey q.d).bind fun k => if kvs.length < 100000 then some (.nx (ρ.set i (some (.ownT (putD kvs k d))))) else none
  | _ => none
section
variable {X : Cx} {T : Kt} {b : Bas} {φ ψ : Ro → Option Res}
theorem xdput {i : Nat} {st : Stmt} (h : PS X st (sDPut (tVar i) (tE T b ψ) (tE T b φ))) : PS X st (tS T b (sDput i ψ φ)) := psImp h fun D σ H h => by
  obtain ⟨w, ρ, o, rfl, en, hφ, k⟩ := h
  unfold sDput at hφ
  split at hφ
  · rename_i kvs e1
    obtain ⟨r, h2, hφ⟩ := Option.bind_eq_some_iff.mp hφ
    obtain ⟨d, h3, hφ⟩ := Option.bind_eq_some_iff.mp hφ
    obtain ⟨q, h4, hφ⟩ := Option.bind_eq_some_iff.mp hφ
    obtain ⟨kk, h5, hφ⟩ := Option.bind_eq_some_iff.mp hφ
    by_cases hz : kvs.length < 100000
    · rw [if_pos hz] at hφ
      cases hφ
      cases frD_eq h3
      obtain ⟨v, h6, h7⟩ := en.at_ i _ e1
      obtain ⟨a, kvv, rfl, h8, h9, h10, h11, h12⟩ := h7 rfl
      refine ⟨w, ρ, _, rfl, en, h2, fun u w1 l1 o1 _ => ⟨.ref a, h6, w1, ρ, q, rfl, en.mono l1, h4, fun u2 w2 l2 o2 _ => ?_⟩⟩
      have l := l1.trans l2
      have m : Mut (w.H a) := by rw [h8]; exact True.intro
      have hb' := l.kB a m h12
      obtain ⟨p, rfl, hp⟩ := tkey_ok o2.rpH h5
      have hl : kvv.length = kvs.length := by
        have := congrArg List.length h9
        rwa [List.length_map, List.length_map] at this
      refine ⟨a, _, rfl, DPut.t (v := u) (l.H _ _ h8) hp (by rw [hl]; exact szl hz), ?_⟩
      exact k σ (w2.wr a (.dT (putK kvv kk u)) hb') ⟨l.F, l.B⟩ ((en.mono l).wr e1 h6 rfl rfl rfl (show a ∈ [a] from List.mem_cons_self) hb'
        ⟨a, putK kvv kk u, rfl, upd_same, putD_fst h9, putD_snd (show Rp T w2.F u d from o1.mono l2) h9 (RpL.mono l.F _ _ h10), l.kF a m h11, hb'⟩ (fun y h => h) (fun dss h => by cases h) fun _ _ _ h => by cases h)
    · rw [if_neg hz] at hφ; cases hφ
  · cases hφ

/-! ### a, b = e -/
def sTgt (γ : Res → Ro → Option Ro) (φ : Ro → Option Res) : Ro → Option Out := fun ρ => (φ ρ).bind fun r => if isAt r then (γ r ρ).map .nx else none
theorem xtgt {tg e : Expr} {pos : Pos} {g : TG} {γ : Res → Ro → Option Ro} {vs : List Nat} (he : PE X e (tE T b φ)) (ht : PG X tg g) (hg : GTg T b g γ vs) (hs : swapsWithSole [tg] e pos.line X.env = pure false := by rfl) (hw : swappedStores [tg] e X.env = pure none := by rfl)
    (h1 : (assignEach [tg] X.env).map (·.2) = [assign tg X.env] := by rfl) : PS X (.Assign [tg] e pos) (tS T b (sTgt γ φ)) := psImp (ps_asg he ht hs hw h1) fun D σ H h => by
  obtain ⟨w, ρ, o, rfl, en, hφ, k⟩ := h
  unfold sTgt at hφ
  obtain ⟨r, h2, hφ⟩ := Option.bind_eq_some_iff.mp hφ
  by_cases ha : isAt r = true
  · rw [if_pos ha] at hφ
    obtain ⟨ρ', h3, rfl⟩ := Option.map_eq_some_iff.mp hφ
    refine ⟨w, ρ, r, rfl, en, h2, fun v w1 l1 o1 _ => ?_⟩
    exact hg w1 σ ρ v r ρ' _ (en.mono l1) o1 ha h3 fun σ' en' _ => k σ' w1 l1.gr en'
  · rw [if_neg ha] at hφ; cases hφ
end


theorem fun_okd {P : Program} {w : World} {K : PySem.W.Frag} {mg : Str → Option Value} {base : Heap} {x qual : Str} {st : Stmt} {f : Addr} {fd : FuncData} {N ps : List Str} {k : Nat} {c : Str → Option Addr} {ms : List Bool} {Φ : Ro → Option Out} {d : List D → Option Res} (F : Fun K x qual st f fd) (S : FnScope N ps (defScope st)) (hl : ms.length = ps.length) (e : d = runD N.length ms Φ)
    (hbody : ∀ (b : Bas) (cdv : Value) (A : Around) (outer : List Env) (s : Shared) (H : Hp) (E : XK), Room k (A.deeper (envOfC qual (defScope st) s.heap.objs.size f cdv)) →
      PSs (cxOf CX0 P w K mg base N qual (defScope st) f cdv A outer s H E).nox (defBody st) (tS ⟨K, c, P, w⟩ b Φ)) :
    FnOk P w K mg base CX0 (k + 1) f fd ps (spP ⟨K, c, P, w⟩ ms d) := by
  subst e
  exact fun_ok F S hl hbody
end Fx

set_option Elab.async false
set_option linter.all false
set_option maxRecDepth 100000
namespace Fx
open PySem PySem.Spec PyProof.Rows L2

/-! ### what must be shown, computed -/
def W {α : Type} (x : Option α) (Q : α → Prop) : Prop := ∃ a, x = some a ∧ Q a
section
variable {α β : Type}
@[simp] theorem W_some {a : α} {Q : α → Prop} : W (some a) Q ↔ Q a := ⟨fun ⟨_, e, h⟩ => (by cases e; exact h), fun h => ⟨a, rfl, h⟩⟩
@[simp] theorem W_none {Q : α → Prop} : W (none : Option α) Q ↔ False := ⟨fun ⟨_, e, _⟩ => (by cases e), False.elim⟩
@[simp] theorem W_bind {x : Option α} {f : α → Option β} {Q : β → Prop} : W (x.bind f) Q ↔ W x fun a => W (f a) Q := by
  cases x with
  | none => exact ⟨fun ⟨_, e, _⟩ => (by cases e), fun ⟨_, e, _⟩ => (by cases e)⟩
  | some a => exact ⟨fun h => ⟨a, rfl, h⟩, fun ⟨_, e, h⟩ => by cases e; exact h⟩
@[simp] theorem W_map {x : Option α} {f : α → β} {Q : β → Prop} : W (x.map f) Q ↔ W x fun a => Q (f a) := by
  cases x with
  | none => exact ⟨fun ⟨_, e, _⟩ => (by cases e), fun ⟨_, e, _⟩ => (by cases e)⟩
  | some a => exact ⟨fun ⟨_, e, h⟩ => ⟨a, rfl, by cases e; exact h⟩, fun ⟨_, e, h⟩ => by cases e; exact ⟨_, rfl, h⟩⟩
theorem W_ite {c : Prop} [Decidable c] {x y : Option α} {Q : α → Prop} : W (if c then x else y) Q ↔ (c → W x Q) ∧ (¬ c → W y Q) := by
  by_cases h : c
  · rw [if_pos h]; exact ⟨fun q => ⟨fun _ => q, fun n => absurd h n⟩, fun q => q.1 h⟩
  · rw [if_neg h]; exact ⟨fun q => ⟨fun n => absurd n h, fun _ => q⟩, fun q => q.2 h⟩
@[simp high] theorem W_iteN {c : Prop} [Decidable c] {x : Option α} {Q : α → Prop} : W (if c then x else none) Q ↔ c ∧ W x Q := by
  by_cases h : c
  · rw [if_pos h]; exact ⟨fun q => ⟨h, q⟩, fun q => q.2⟩
  · rw [if_neg h]; exact ⟨fun q => (W_none.mp q).elim, fun q => absurd q.1 h⟩
theorem W.mono {x : Option α} {P Q : α → Prop} (h : W x P) (i : ∀ a, P a → Q a) : W x Q := let ⟨a, e, p⟩ := h; ⟨a, e, i a p⟩
theorem W.of {x : Option α} {a : α} {Q : α → Prop} (e : x = some a) (h : Q a) : W x Q := ⟨a, e, h⟩
end
theorem nl_bound (x : Int) : 0 ≤ x % 2147483647 ∧ x % 2147483647 < 2147483647 := ⟨Int.emod_nonneg _ (by decide), Int.emod_lt_of_pos _ (by decide)⟩
abbrev I (i : Int) : D := .int i
def iL (ns : List Int) : List D := ns.map D.int
abbrev N (n : Nat) : D := .int (n : Int)
@[simp] theorem mk_int {l : Lv} {i : Int} : Res.mk l (.int i) = .at .f (.int i) := rfl
@[simp] theorem mk_bl {l : Lv} {i : Bool} : Res.mk l (.bl i) = .at .f (.bl i) := rfl
@[simp] theorem mk_non {l : Lv} : Res.mk l .non = .at .f .non := rfl
@[simp] theorem mk_f {d : D} : Res.mk .f d = .at .f d := by unfold Res.mk; split <;> rfl
@[simp] theorem iL_len (ns : List Int) : (iL ns).length = ns.length := List.length_map _
@[simp] theorem sup_ff : Lv.sup .f .f = .f := rfl
@[simp] theorem at_d {l : Lv} {d : D} : (Res.at l d).d = d := rfl
@[simp] theorem at_lv {l : Lv} {d : D} : (Res.at l d).lv = l := rfl
@[simp] theorem at_il {l : Lv} {d : D} : (Res.at l d).il = l := rfl
@[simp] theorem own_d {ds : List D} : (Res.own ds).d = .lst ds := rfl
@[simp] theorem pk_d {ds : List D} : (Res.pk ds).d = .lst ds := rfl
@[simp] theorem own_il {ds : List D} : (Res.own ds).il = .f := rfl
@[simp] theorem pk_il {ds : List D} : (Res.pk ds).il = .f := rfl
@[simp] theorem own_lv {ds : List D} : (Res.own ds).lv = .h := rfl
@[simp] theorem pk_lv {ds : List D} : (Res.pk ds).lv = .h := rfl

/-! loops -/
section
variable {γ : Res → Ro → Option Ro} {Φ : Ro → Option Out}
/-- a loop that is left at its end, or by return -/
theorem w_loop (J : Nat → Ro → Prop) (R : Res → Prop) {items : List Res} {ρ : Ro} {Q : Out → Prop} (h0 : J 0 ρ)
    (hs : ∀ (i : Nat) (hi : i < items.length) (ρ : Ro), J i ρ → W (γ items[i] ρ) fun ρ1 => W (Φ ρ1) fun o => match o with
      | .nx ρ2 => J (i + 1) ρ2
      | .ct ρ2 => J (i + 1) ρ2
      | .bk _ => False
      | .rt r => R r) (q : ∀ ρ, J items.length ρ → Q (.nx ρ)) (qr : ∀ r, R r → Q (.rt r)) : W (loopD γ Φ items ρ) Q := by
  have go : ∀ (n i : Nat) (ρ : Ro), items.length - i = n → i ≤ items.length → J i ρ → W (loopD γ Φ (items.drop i) ρ) Q := by
    intro n
    induction n with
    | zero =>
      intro i ρ hn hi hJ
      have e : i = items.length := by omega
      subst e
      rw [List.drop_length]
      exact W_some.mpr (q ρ hJ)
    | succ n ih =>
      intro i ρ hn hi hJ
      have hlt : i < items.length := by omega
      rw [List.drop_eq_getElem_cons hlt]
      obtain ⟨ρ1, h1, o, h2, h3⟩ := hs i hlt ρ hJ
      unfold loopD
      rw [h1, Option.bind_some, h2, Option.bind_some]
      cases o with
      | nx ρ2 => exact ih (i + 1) ρ2 (by omega) hlt h3
      | ct ρ2 => exact ih (i + 1) ρ2 (by omega) hlt h3
      | bk _ => exact h3.elim
      | rt r => exact W_some.mpr (qr r h3)
  have := go items.length 0 ρ rfl (Nat.zero_le _) h0
  rwa [List.drop_zero] at this
/-- a comprehension without a test -/
theorem w_lc {φ : Ro → Option Res} {ρ : Ro} {P : Nat → D → Prop} : ∀ {items : List Res} {Q : List D → Prop} (hs : ∀ (i : Nat) (hi : i < items.length), W (γ items[i] ρ) fun ρ1 => W (φ ρ1) fun r => ∃ d, r = .at .f d ∧ P i d)
    (q : ∀ ds : List D, ds.length = items.length → (∀ (i : Nat) (hi : i < ds.length), P i ds[i]) → Q ds), W (lcD γ fYes φ ρ items) Q := by
  intro items
  induction items generalizing P with
  | nil => intro Q hs q; exact W_some.mpr (q [] rfl fun i hi => absurd hi (by simp))
  | cons x xs ih =>
    intro Q hs q
    obtain ⟨ρ1, h1, r, h2, d, rfl, h4⟩ := hs 0 (by simp)
    unfold lcD
    rw [show γ x ρ = some ρ1 from h1, Option.bind_some]
    show W (((some true).bind fun k => if k then _ else _)) Q
    rw [Option.bind_some, if_pos rfl, h2, Option.bind_some]
    show W ((some d).bind _) Q
    rw [Option.bind_some, W_map]
    refine ih (P := fun i => P (i + 1)) (fun i hi => hs (i + 1) (by simpa using hi)) fun ds hl hp => q (d :: ds) (by simp [hl]) fun i hi => ?_
    cases i with
    | zero => exact h4
    | succ i => exact hp i (by simpa using hi)
end
theorem atI_nat {α : Type} {xs : List α} {i : Int} {n : Nat} (e : i = n) (h : n < xs.length) : L2.atI xs i = xs[n]? := by
  subst e
  unfold L2.atI ixN
  rw [if_pos (by omega), if_pos (by omega)]
  simp
theorem w_atI {α : Type} {xs : List α} {i : Int} {Q : α → Prop} (h0 : 0 ≤ i) (h1 : i < xs.length) (q : ∀ (n : Nat) (hn : n < xs.length), i = n → Q xs[n]) : W (L2.atI xs i) Q := by
  obtain ⟨n, rfl⟩ := Int.eq_ofNat_of_zero_le h0
  have hn : n < xs.length := by omega
  rw [atI_nat rfl hn, List.getElem?_eq_getElem hn]
  exact W_some.mpr (q n hn rfl)

@[simp] theorem mk_lst {l : Lv} {ds : List D} : Res.mk l (.lst ds) = .at l (.lst ds) := rfl
@[simp] theorem mk_tup {l : Lv} {ds : List D} : Res.mk l (.tup ds) = .at l (.tup ds) := rfl
@[simp] theorem mk_ktp {l : Lv} {ds : List D} : Res.mk l (.ktp ds) = .at l (.ktp ds) := rfl
@[simp] theorem mk_scr {l : Lv} {ns : List Int} : Res.mk l (.scr ns) = .at l (.scr ns) := rfl
@[simp] theorem mk_dct {l : Lv} {ks : List (List Key)} {xs : List D} : Res.mk l (.dct ks xs) = .at l (.dct ks xs) := rfl
@[simp] theorem mk_str {l : Lv} {x : Str} : Res.mk l (.str x) = .at .f (.str x) := rfl
section
variable {φ ψ χ : Ro → Option Res} {Φ Ψ : Ro → Option Out} {ρ : Ro} {a c : Ro → Option Bool} {i j k : Nat} {g : List Res → Option Res} {α : Ro → Option (List Res)}
@[simp] theorem e_var : fVar i ρ = match ρ[i]? with
  | some (some (.at l d)) => some (Res.mk l d)
  | some (some (.own ds)) => some (.pk ds)
  | some (some (.own2 dss)) => some (.at .h (.lst (dss.map .lst)))
  | some (some (.ownT kvs)) => some (.at .h (.dct (kvs.map Prod.fst) (kvs.map Prod.snd)))
  | some (some (.ownI c ks ds)) => some (.at .h (.obj c ks ds))
  | some (some (.ownS ks)) => some (.at .h (.set ks))
  | some (some (.ali j k)) => match ρ[j]? with
    | some (some (.own2 dss)) => (dss[k]?).map .pk
    | _ => none
  | _ => none := rfl
@[simp] theorem e_c {d : D} : fC d ρ = some (.at .f d) := rfl
@[simp] theorem e_f2 {h : Res → Res → Option Res} : f2 h φ ψ ρ = (φ ρ).bind fun x => (ψ ρ).bind fun y => h x y := (rfl)
@[simp] theorem e_f1 {h : Res → Option Res} : f1 h φ ρ = (φ ρ).bind h := (rfl)
@[simp] theorem e_fA : fA g α ρ = (α ρ).bind g := (rfl)
@[simp] theorem e_nil : fNil ρ = some [] := rfl
@[simp] theorem e_cons : fCons φ α ρ = (φ ρ).bind fun x => (α ρ).bind fun xs => some (x :: xs) := rfl
@[simp] theorem e_fz : fFz φ ρ = (φ ρ).bind asF := (rfl)
@[simp] theorem e_asF1 {l : Lv} {d : D} : asF (.at l d) = some (.at l d) := rfl
@[simp] theorem e_asF2 {ds : List D} : asF (.own ds) = some (.at .f (.lst ds)) := rfl
@[simp] theorem e_tst : fTst φ ρ = (φ ρ).bind fun r => blD r.d := rfl
@[simp] theorem e_bl {x : Bool} : blD (.bl x) = some x := rfl
@[simp] theorem e_tru : fTru φ ρ = (φ ρ).bind fun r => truD r.d := rfl
@[simp] theorem e_and : fAnd a c ρ = (a ρ).bind fun x => if x then c ρ else some false := rfl
@[simp] theorem e_or : fOr a c ρ = (a ρ).bind fun x => if x then some true else c ρ := rfl
@[simp] theorem e_not : fNot a ρ = (a ρ).map fun x => !x := rfl
@[simp] theorem e_if : fIf a φ ψ ρ = (a ρ).bind fun k => if k then φ ρ else ψ ρ := rfl
@[simp] theorem e_yes : fYes ρ = some true := rfl
@[simp] theorem e_no : fNo ρ = some none := rfl
@[simp] theorem e_sm : fSm φ ρ = (φ ρ).bind fun r => (intOf r).map some := rfl
@[simp] theorem e_sl {lo hi : Ro → Option (Option Int)} : fSl φ lo hi ρ = (φ ρ).bind fun x => (lo ρ).bind fun l => (hi ρ).bind fun h => slR l h x := rfl
@[simp] theorem e_lc {ι : Ro → Option (List Res)} {vs : List Nat} {γ : Res → Ro → Option Ro} : fLc ι vs γ a φ ρ = (ι ρ).bind fun items => if items.length ≤ 100000 then (lcD γ a φ (wipeR ρ vs) items).map .own else none := rfl
@[simp] theorem e_isi {t : String} : fIsi t φ ρ = (φ ρ).bind fun r => (isiD r.d t).map fun k => .at .f (.bl k) := rfl
@[simp] theorem e_asg : sAsg i φ ρ = (φ ρ).bind fun r => (slotA r).map fun r => .nx (ρ.set i (some r)) := rfl
@[simp] theorem e_ret : sRet φ ρ = (φ ρ).map .rt := rfl
@[simp] theorem e_seq : sSeq Φ Ψ ρ = (Φ ρ).bind fun o => match o with
  | .nx ρ' => Ψ ρ'
  | o => some o := (rfl)
@[simp] theorem e_nx : sNx ρ = some (.nx ρ) := rfl
@[simp] theorem e_sif : sIf a Φ Ψ ρ = (a ρ).bind fun k => if k then Φ ρ else Ψ ρ := rfl
@[simp] theorem e_drop : sDrop φ ρ = (φ ρ).map fun _ => .nx ρ := rfl
@[simp] theorem e_retn : sRetN ρ = some (.rt (.at .f .non)) := rfl
@[simp] theorem e_retv : sRetV i ρ = match ρ[i]? with
  | some (some (.own ds)) => some (.rt (.own ds))
  | some (some (.at l d)) => some (.rt (Res.mk l d))
  | _ => none := rfl
@[simp] theorem e_app : sApp i φ ρ = match ρ[i]? with
  | some (some (.own ds)) => (φ ρ).bind fun r => (frD r).bind fun d => if ds.length < 100000 then some (.nx (ρ.set i (some (.own (ds ++ [d]))))) else none
  | _ => none := rfl
@[simp] theorem e_seti : sSetI i ψ φ ρ = match ρ[i]? with
  | some (some (.own ds)) => (φ ρ).bind fun r => (frD r).bind fun d => (ψ ρ).bind fun q => (intOf q).bind fun k => (ixN ds.length k).map fun j => .nx (ρ.set i (some (.own (ds.set j d))))
  | _ => none := rfl
@[simp] theorem e_for {ι : Ro → Option (List Res)} {γ : Res → Ro → Option Ro} : sFor ι γ Φ ρ = (ι ρ).bind fun items => loopD γ Φ items ρ := (rfl)
@[simp] theorem e_frz : sFrz i Φ ρ = Φ (frzSlot i ρ) := rfl
@[simp] theorem e_iA {h : List Res → Option (List Res)} : iA h α ρ = (α ρ).bind h := (rfl)
@[simp] theorem e_iSq : iSq φ ρ = (φ ρ).bind seqItems := (rfl)
@[simp] theorem e_app2 : sApp2 i ψ φ ρ = match ρ[i]? with
  | some (some (.own2 dss)) => (ψ ρ).bind fun q => (rowOf dss q).bind fun p => (φ ρ).bind fun r => (frD r).bind fun d => if p.2.length < 100000 then some (.nx (ρ.set i (some (.own2 (dss.set p.1 (p.2 ++ [d])))))) else none
  | _ => none := rfl
@[simp] theorem e_ali : sAli k i ψ ρ = match ρ[i]? with
  | some (some (.own2 dss)) => if i = k then none else (ψ ρ).bind fun q => (rowOf dss q).map fun p => .nx (ρ.set k (some (.ali i p.1)))
  | _ => none := rfl
@[simp] theorem e_seta : sSetA k ψ φ ρ = match ρ[k]? with
  | some (some (.ali i j)) => match ρ[i]? with
    | some (some (.own2 dss)) => (dss[j]?).bind fun ds => (φ ρ).bind fun r => (frD r).bind fun d => (ψ ρ).bind fun s => (intOf s).bind fun z => (ixN ds.length z).map fun m => .nx (ρ.set i (some (.own2 (dss.set j (ds.set m d)))))
    | _ => none
  | _ => none := rfl
@[simp] theorem e_dput : sDput i ψ φ ρ = match ρ[i]? with
  | some (some (.ownT kvs)) => (φ ρ).bind fun r => (frD r).bind fun d => (ψ ρ).bind fun q => (tkey q.d).bind fun k => if kvs.length < 100000 then some (.nx (ρ.set i (some (.ownT (putD kvs k d))))) else none
  | _ => none := rfl
@[simp] theorem e_gaN {r : Res} : gaN i r ρ = some (ρ.set i (some r)) := rfl
@[simp] theorem e_ga0 : ga0 [] ρ = some ρ := rfl
@[simp] theorem e_frD {d : D} : frD (.at .f d) = some d := rfl
@[simp] theorem e_slotA1 {d : D} : slotA (.at .f d) = some (.at .f d) := rfl
@[simp] theorem e_slotA2 {d : D} : slotA (.at .b d) = some (.at .b d) := rfl
@[simp] theorem e_slotA3 {ds : List D} : slotA (.own ds) = some (.own ds) := rfl
@[simp] theorem e_slotA4 {kvs : List (List Key × D)} : slotA (.ownT kvs) = some (.ownT kvs) := rfl
@[simp] theorem e_intOf {r : Res} : intOf r = match r.d with
  | .int i => some i
  | _ => none := rfl
@[simp] theorem e_addI {l m : Lv} {x y : Int} : addR (.at l (.int x)) (.at m (.int y)) = some (.at .f (.int (x + y))) := rfl
@[simp] theorem e_subI {l m : Lv} {x y : Int} : subR (.at l (.int x)) (.at m (.int y)) = some (.at .f (.int (x - y))) := rfl
@[simp] theorem e_mulI {l m : Lv} {x y : Int} : mulR (.at l (.int x)) (.at m (.int y)) = if (-(2 ^ 64) < x ∧ x < 2 ^ 64) ∨ (-(2 ^ 64) < y ∧ y < 2 ^ 64) then some (.at .f (.int (x * y))) else none := rfl
@[simp] theorem e_modI {l m : Lv} {x y : Int} : modR (.at l (.int x)) (.at m (.int y)) = if 0 < y then some (.at .f (.int (x % y))) else none := rfl
@[simp] theorem e_fdivI {l m : Lv} {x y : Int} : fdivR (.at l (.int x)) (.at m (.int y)) = if 0 < y ∧ y < 1073741824 then some (.at .f (.int (x / y))) else none := rfl
@[simp] theorem e_powI {l m : Lv} {x y : Int} : powR (.at l (.int x)) (.at m (.int y)) = if 0 ≤ y ∧ y ≤ 1000000 ∧ x.natAbs < 2 ^ 64 then some (.at .f (.int (x ^ y.toNat))) else none := rfl
@[simp] theorem e_intR {l : Lv} {x : Int} : intR [.at l (.int x)] = some (.at .f (.int x)) := rfl
@[simp] theorem e_cmp {p : Int → Int → Bool} {l m : Lv} {x y : Int} : cmpR p (.at l (.int x)) (.at m (.int y)) = some (.at .f (.bl (p x y))) := rfl
@[simp] theorem e_ltP {x y : Int} : ltP x y = decide (x < y) := rfl
@[simp] theorem e_leP {x y : Int} : leP x y = decide (x ≤ y) := rfl
@[simp] theorem e_gtP {x y : Int} : gtP x y = decide (y < x) := rfl
@[simp] theorem e_geP {x y : Int} : geP x y = decide (y ≤ x) := rfl
@[simp] theorem e_run {n : Nat} {ms : List Bool} {ds : List D} : runD n ms Φ ds = (Φ (ro0 n ms ds)).bind endR := (rfl)
@[simp] theorem e_end1 {d : D} : endR (.rt (.at .f d)) = some (.at .f d) := rfl
@[simp] theorem e_end2 {ds : List D} : endR (.rt (.own ds)) = some (.own ds) := rfl
@[simp] theorem e_end3 : endR (.nx ρ) = some (.at .f .non) := rfl
@[simp] theorem e_callR {ms : List Bool} {d : List D → Option Res} {rs : List Res} : callR ms d rs = if fits ms rs then d (rs.map Res.d) else none := (rfl)
@[simp] theorem e_eqR {x y : Res} : eqR x y = (eqD x.d y.d).map fun b => .at .f (.bl b) := rfl
@[simp] theorem e_neR {x y : Res} : neR x y = (eqD x.d y.d).map fun b => .at .f (.bl !b) := rfl
@[simp] theorem e_eqI {x y : Int} : eqD (.int x) (.int y) = some (decide (x = y)) := by
  show some (x == y) = _
  rfl
/-- one behind the other, when the first one falls through -/
theorem w_seq {Q : Out → Prop} (M : Ro → Prop) (h1 : W (Φ ρ) fun o => ∃ ρ', o = .nx ρ' ∧ M ρ') (h2 : ∀ ρ', M ρ' → W (Ψ ρ') Q) : W (sSeq Φ Ψ ρ) Q := by
  obtain ⟨o, e, ρ', rfl, m⟩ := h1
  rw [e_seq, e, Option.bind_some]
  exact h2 ρ' m
theorem w_for {ι : Ro → Option (List Res)} {γ : Res → Ro → Option Ro} {Q : Out → Prop} {items : List Res} (e : ι ρ = some items) (h : W (loopD γ Φ items ρ) Q) : W (sFor ι γ Φ ρ) Q := by
  rw [e_for, e, Option.bind_some]
  exact h
end
@[simp] theorem rng_len (lo : Int) (n : Nat) : (rngItems lo n).length = n := by unfold rngItems; rw [List.length_map, List.length_range]
@[simp] theorem rng_get (lo : Int) (n i : Nat) (h : i < (rngItems lo n).length) : (rngItems lo n)[i] = .at .f (.int (lo + i)) := by
  rw [rng_len] at h
  exact (List.getElem?_eq_some_iff.mp (show (rngItems lo n)[i]? = some (.at .f (.int (lo + i))) by unfold rngItems; rw [List.getElem?_map, List.getElem?_range h]; rfl)).2
@[simp] theorem iL_nil : iL [] = [] := rfl
@[simp] theorem iL_cons {n : Int} {ns : List Int} : iL (n :: ns) = .int n :: iL ns := rfl
@[simp] theorem iL_app {ns ms : List Int} : iL (ns ++ ms) = iL ns ++ iL ms := List.map_append
@[simp] theorem iL_get? {ns : List Int} {i : Nat} : (iL ns)[i]? = (ns[i]?).map D.int := List.getElem?_map
@[simp] theorem iL_get {ns : List Int} {i : Nat} (h : i < (iL ns).length) : (iL ns)[i] = .int (ns[i]'(by rwa [iL_len] at h)) := by
  have h' : i < ns.length := by rwa [iL_len] at h
  exact (List.getElem?_eq_some_iff.mp (show (iL ns)[i]? = some (.int ns[i]) by rw [iL_get?, List.getElem?_eq_getElem h']; rfl)).2
end Fx

set_option Elab.async false
set_option linter.all false
set_option maxRecDepth 100000
set_option maxHeartbeats 2000000
/-! enumerate over a list or a tuple -/
namespace Fx
open PySem PySem.Spec PyProof.Rows L2

def ItE (K : PySem.W.Frag) (t : Bool) (a : Addr) : It :=
  ⟨fun i H => ∃ (ys : List V) (y : V), SqA K t H a ys ∧ ys[i]? = some y,
    fun i H v H' => ∃ Tm y, v = .ref Tm ∧ H Tm = none ∧ H' = upd H Tm (.tup [.int (i : Nat), y]) ∧ ∀ ys, SqA K t H a ys → ys[i]? = some y,
    fun i H => ∃ ys : List V, SqA K t H a ys ∧ ys.length ≤ i⟩
theorem drawsS {P : Program} {w : World} {A : Around} (hh : A.handled = none) (t : Bool) (it l : Addr) (hne : l ≠ it) (items : Array Value) : Draws P w A it [it, l] items.size (fun i v => items[i]? = some v) (fun i h => ItS t h it l i ∧ SqS t h l items) := by
  cases t with
  | true => exact Draws.tuple hh it l hne items
  | false => exact Draws.list hh it l hne items
/-- where an enumerate's records stand -/
structure Est (t : Bool) (h : Heap) (e it l : Addr) (k : Nat) : Prop where
  en : ∃ old, IsEnum h e it ((k : Nat) : Int) old
  ti : ItS t h it l k
  ne : e ≠ it
  nl : e ≠ l
  nt : l ≠ it
theorem turn_enumA {P : Program} {w : World} {K : PySem.W.Frag} {elts : List Expr} {kk : Nat} {tpos : Pos} {t : Bool} {a e it : Addr} :
    Turn P w K (.Tuple elts kk tpos) (ItE K t a) [e, it] e (fun i h => Est t h e it a i) where
  mem := List.mem_cons_self
  obj := fun i h st c hc => by
    obtain ⟨⟨old, he⟩, h1, _, _, _⟩ := st
    have hc : c = e ∨ c = it := by simpa using hc
    rcases hc with q | q <;> rw [q]
    · exact ⟨_, he, fun v z => nomatch z⟩
    · exact h1.obj
  keep := fun i h h' st k => by
    obtain ⟨⟨old, he⟩, h1, n1, n2, n3⟩ := st
    exact ⟨⟨old, k e (by simp) _ he⟩, h1.keep fun o q => k it (by simp) o q, n1, n2, n3⟩
  item := by
    intro X hP hw hK hc i pins s σ H E I hf st hg
    subst hP hw hK
    obtain ⟨ys, y, hq, hy⟩ := hg
    obtain ⟨its, rv, p⟩ := SqA.at I hq
    obtain ⟨v1, hu, ru⟩ := rv.get hy
    obtain ⟨⟨old, he⟩, h1, n1, n2, n3⟩ := st
    have lte : e < s.heap.objs.size := Heap.lt_size he
    have hlt : i < its.toArray.size := by simpa using (List.getElem?_eq_some_iff.mp hu).1
    have hcm := I.ok.hd hc
    refine wpAny_pyNext_enum_itemD (drawsS (A := X.A.in1) hcm t it a n3 its.toArray) he ⟨h1, p⟩ hlt n1 (by intro z; have z : e = it ∨ e = a := (by simpa using z); exact z.elim n1 n2) fun x g tk hx ho hs' hT hsz hk => ?_
    have ex : x = v1 := by
      have hx : its[i]? = some x := by simpa using hx
      rw [hu] at hx
      exact (Option.some.inj hx).symm
    subst ex
    refine ⟨_, rfl, wpAny_letOwnedTupleGo_enum (s := { s with heap := g, toks := tk + 1 }) ho fun g2 he2 sb => ?_⟩
    have hT2 := (sb.2 _ (Nat.ne_of_gt lte)).trans hT
    have new : ObjOk X.prog X.w (upd H s.heap.objs.size (.tup [.int (i : Nat), y])) g2 s.heap.objs.size (.tup [.int (i : Nat), y]) := ⟨by show 2 ≤ sizeLine; decide, [.int i tk, x], .cons ⟨_, rfl⟩ (.cons ru .nil), ⟨_, hT2, rfl, _, rfl⟩⟩
    have I1 : L2.Inv X pins σ (upd H s.heap.objs.size (.tup [.int (i : Nat), y])) { s with heap := g2, toks := tk + 1 } :=
      I.turnedNew (t' := tk + 1) (ch := [e, it]) (fun c o hb q => (sb.2 c (fun z => hb (by simp [z]))).trans (hk c o (fun z => hb (by simp [z])) (fun z => hb (by simp [z])) q)) hf (Nat.le_refl _) new
    refine ⟨.ref s.heap.objs.size, _, I1, rfl, ⟨_, y, rfl, I.hok.fresh (Nat.le_refl _), rfl, fun l hl => by rw [SqA.inj I hl hq]; exact hy⟩, ⟨⟨x, ?_⟩, hs'.1.keep fun o q => (sb.2 _ n1.symm).trans q, n1, n2, n3⟩, fun c hcm => ?_⟩
    · rw [show (((i + 1 : Nat) : Int)) = (i : Int) + 1 by omega]
      exact he2
    · have hlt2 : c < s.heap.objs.size := by
        have z : c = e ∨ c = it := by simpa using hcm
        rcases z with z | z <;> rw [z]
        · exact lte
        · exact h1.lt
      rw [upd_ne (Nat.ne_of_lt hlt2)]
      exact (hf c hcm).1
  done := by
    intro X hP hw hK hc i pins s σ H E I hf st hg
    subst hP hw hK
    obtain ⟨ys, hq, hend⟩ := hg
    obtain ⟨its, rv, p⟩ := SqA.at I hq
    have l1 := rv.length
    obtain ⟨⟨old, he⟩, h1, n1, n2, n3⟩ := st
    have hcm := I.ok.hd hc
    by_cases hi : i = its.toArray.size
    · subst hi
      exact wpAny_pyNext_enum_endD (drawsS (A := X.A.in1) hcm t it a n3 its.toArray) he ⟨h1, p⟩ fun g hk => ⟨rfl, I.turnedL (t' := s.toks) (ch := [e, it]) (fun c o hb q => hk c o (fun z => hb (by simp [z])) q) hf⟩
    · have hno : its.toArray[i]? = none := by simp; omega
      cases t with
      | false => exact wpAny_pyNext_enum_end hcm he h1 p hno fun g hk => ⟨rfl, I.turnedL (t' := s.toks) (ch := [e, it]) (fun c o hb q => hk c o (fun z => hb (by simp [z])) q) hf⟩
      | true =>
        -- a tuple's iterator past its end draws nothing either
        have D : Draws X.prog X.w X.A.in1 it [it, a] i (fun _ _ => True) (fun j h => j = i ∧ ItS true h it a j ∧ SqS true h a its.toArray) :=
          ⟨fun j h st => let ⟨o, ho, _⟩ := st.2.1.obj; ⟨o, ho⟩, fun j h h' st hk => ⟨st.1, st.2.1.keep fun o q => hk it (by simp) o q, Heap.IsTuple.at st.2.2 fun o q => hk a (by simp) o q⟩,
            fun j s Q E hj st _ => absurd st.1 (by omega), fun s Q E st hE => RZ.nextOf_tuple_end hcm st.2.1 st.2.2 (by simpa using hno) hE⟩
        exact wpAny_pyNext_enum_endD D he ⟨rfl, h1, p⟩ fun g hk => ⟨rfl, I.turnedL (t' := s.toks) (ch := [e, it]) (fun c o hb q => hk c o (fun z => hb (by simp [z])) q) hf⟩
  self := fun A i s Q E st h => st.en.elim fun _ z => wpAny_pyIter_enum z h

/-! ### the call -/
theorem meets_enum1 {v : Value} {ob : Obj} {G : Heap → Prop} (B : Begins v ob G) :
    Meets (Builtin.«enumerate.__new__» ⟨[.type "enumerate", v], []⟩) (fun _ R s => G s.heap ∧ R (.ok (.ret (.ref (s.heap.push ob).objs.size)))
      { s with heap := (s.heap.push ob).push { cls := .type "enumerate", data := .fields #[.none, .bool false, .ref s.heap.objs.size, rawInt 0, .none, .none] } }) :=
  .of_wp fun prog w A R s h => by
    obtain ⟨hp, g, d, tk, os⟩ := s
    obtain ⟨z1, h⟩ := h
    have hsb := sub_enumerate
    have goes : ∀ {A' : Around} {E : Value → Shared → Prop} {Q : Value → Shared → Prop}, Q (.ref hp.objs.size) ⟨hp.push ob, g, d, tk, os⟩ → wpAny (model prog w) A' (pyIter v) Q E ⟨hp, g, d, tk, os⟩ :=
      fun z => B.iter prog w _ _ ⟨hp, g, d, tk, os⟩ _ z1 z
    wp_walk using goes
    refine wpAny_stack_any fun st => wpAny_pure ?_
    split
    · rename_i c _ _ _ _ _
      cases (c == Value.type "enumerate")
      · wp_walk using goes
        exact ⟨_, rfl, h⟩
      · wp_walk using goes
        exact ⟨_, rfl, h⟩
    · wp_walk using goes
      exact ⟨_, rfl, h⟩
section
variable {prog : Program} {w : World} {A : Around} {E : Value → Shared → Prop} {s : Shared}
theorem call_enumA {t : Bool} {l : Addr} {ys : Array Value} {Q : Value → Shared → Prop} (h1 : SqS t s.heap l ys)
    (h : ∀ g, Est t g (s.heap.objs.size + 1) s.heap.objs.size l 0 → (∀ c o, s.heap.get? c = some o → g.get? c = some o) → Q (.ref (s.heap.objs.size + 1)) { s with heap := g }) :
    wpAny (model prog w) A (call (.type "enumerate") [.ref l]) Q E s := by
  have lt := h1.lt
  cases t with
  | false =>
    exact call_enumerate_list h1 fun g he hit hsz hk => h g ⟨⟨.none, he⟩, hit, Nat.succ_ne_self _, Nat.ne_of_gt (Nat.lt_succ_of_lt lt), Nat.ne_of_lt lt⟩ hk
  | true =>
    have B := begins_tuple l ys
    have hz : (s.heap.push { cls := .type "tuple_iterator", data := .fields #[.ref l, .int 0 0] }).objs.size = s.heap.objs.size + 1 := Heap.size_push ..
    refine callType_new F.called_enumerate (by decide) (F.typeCall_enumerate_1 _) (F.newCall_enumerate_1 _) (fun obj => F.args_object_init_2 obj _) F.entry_enumerate_new (meets_enum1 B) ⟨h1, ?_⟩
    show _ ∧ _
    rw [hz]
    have he : IsEnum ((s.heap.push { cls := .type "tuple_iterator", data := .fields #[.ref l, .int 0 0] }).push { cls := .type "enumerate", data := .fields #[.none, .bool false, .ref s.heap.objs.size, rawInt 0, .none, .none] }) (s.heap.objs.size + 1) s.heap.objs.size 0 .none := by
      have q := Heap.get?_push_size (s.heap.push { cls := .type "tuple_iterator", data := .fields #[.ref l, .int 0 0] }) (o := { cls := .type "enumerate", data := .fields #[.none, .bool false, .ref s.heap.objs.size, rawInt 0, .none, .none] }) rfl
      rw [hz] at q
      exact q
    exact ⟨⟨_, he, rfl⟩, h _ ⟨⟨.none, he⟩, ⟨_, Heap.get?_push_of_some _ (Heap.get?_push_size _ rfl), rfl, rfl⟩, Nat.succ_ne_self _, Nat.ne_of_gt (Nat.lt_succ_of_lt lt), Nat.ne_of_lt lt⟩ fun c o x => Heap.get?_push_of_some _ (Heap.get?_push_of_some _ x)⟩
end
def iEnumM (K : PySem.W.Frag) (ta : TA) : TI := fun σ H R => ta σ H fun vs H1 => ∃ (t : Bool) (a : Addr) (ys : List V), vs = [.ref a] ∧ SqA K t H1 a ys ∧ R (ItE K t a) H1
theorem pi_enumM {X : Cx} {e : Expr} {ta : TA} {p pos tpos : Pos} {elts : List Expr} {kk : Nat} (hg : Gl X "enumerate") (hm : X.mg "enumerate" = none) (ha : PA X [e] ta)
    (hs : starEach [e] X.env = (false, eval e X.env) :: starEach [] X.env := by rfl) : PI X (.Tuple elts kk tpos) (.Call (.Name "enumerate" p) [e] [] pos) (iEnumM X.K ta) := by
  refine ⟨fun pins s σ H R I h => Call_ (ld_blt I hg hm boot_enumerate (PyProof.Rows.callWith_type1 (thn (ha.run pos pins s σ H _ I h) fun us s1 ⟨vs, H1, I1, r1, q1⟩ => ?_) hs rfl))⟩
  obtain ⟨t, a, ys, rfl, hq, q⟩ := q1
  obtain ⟨u, rfl, r⟩ := vals1 r1
  cases r
  obtain ⟨its, rv, p1⟩ := SqA.at I1 hq
  refine call_enumA p1 fun g st hk => wpAny_pyIter_enum (Classical.choose_spec st.en) ?_
  have I2 : L2.Inv X pins σ H1 { s1 with heap := g } := I1.kept (t' := s1.toks) hk
  refine ⟨_, [s1.heap.objs.size + 1, s1.heap.objs.size], _, _, H1, rfl, I2, turn_enumA, st, fun c hcm => ?_, q⟩
  have z : c = s1.heap.objs.size + 1 ∨ c = s1.heap.objs.size := by simpa using hcm
  have hle : s1.heap.objs.size ≤ c := by rcases z with z | z <;> rw [z] <;> first | exact Nat.le_add_right _ _ | exact Nat.le_refl _
  exact I1.fpOk hle (I1.hok.fresh hle)
section
variable {X : Cx} {c : Str → Option Addr} {b : Bas} {tg : Expr} {φ : Ro → Option (List Res)}
def enumItems (l : Lv) (xs : List D) : List Res := (xs.zipIdx).map fun p => Res.at l (.ktp [.int (p.2 : Nat), p.1])
def enumR : List Res → Option (List Res)
  | [r] => if isH r.lv then none else (walkD r.d).map fun y => enumItems r.lv y.2
  | _ => none
theorem enum_get {xs : List D} {l : Lv} {i : Nat} (hi : i < (enumItems l xs).length) : ∃ x, xs[i]? = some x ∧ (enumItems l xs)[i]? = some (.at l (.ktp [.int (i : Nat), x])) := by
  unfold enumItems at hi ⊢
  rw [List.length_map, List.length_zipIdx] at hi
  refine ⟨xs[i], List.getElem?_eq_getElem hi, ?_⟩
  rw [List.getElem?_map, List.getElem?_zipIdx, List.getElem?_eq_getElem hi]
  simp
theorem enum_len (l : Lv) (xs : List D) : (enumItems l xs).length = xs.length := by unfold enumItems; rw [List.length_map, List.length_zipIdx]
theorem itOk_enum {T : Kt} {w0 : W3} {t : Bool} {a : Addr} {l : Lv} {vs : List V} {xs : List D} (hl : l = .h → False) (h1 : SqA T.K t (w0.at l) a vs) (h2 : RpL T (w0.at l) vs xs) : ItOk T (ItE T.K t a) w0 (enumItems l xs) := by
  refine ⟨?_, fun w hF hB i hi => ?_, fun w hF hB i hi => ?_⟩
  · unfold enumItems
    rw [List.all_map, List.all_eq_true]
    intro d _
    cases l with
    | f => rfl
    | b => rfl
    | h => exact (hl rfl).elim
  · have s : Same (w0.at l) (w.at l) := Gr.at ⟨hF, hB⟩ hl
    have q1 := (h1.mono s).mono (w.atH l)
    obtain ⟨d, g1, g3⟩ := enum_get hi
    obtain ⟨x, hx, rx⟩ := h2.get g1
    refine ⟨⟨vs, x, q1, hx⟩, fun z H' hz => ?_⟩
    obtain ⟨Tm, x', rfl, hT, rfl, f1⟩ := hz
    have e1 := f1 vs q1
    rw [hx] at e1
    cases e1
    obtain ⟨w', k1, k2, k3⟩ := zip_new (w := w) (l := l) (x := .int (i : Nat)) (d := .int (i : Nat)) (.int _) (Rp.mono s _ _ rx) hT
    exact ⟨w', _, g3, k1, k2, k3⟩
  · have s : Same (w0.at l) (w.at l) := Gr.at ⟨hF, hB⟩ hl
    rw [enum_len] at hi
    exact ⟨vs, (h1.mono s).mono (w.atH l), by rw [h2.length]; exact hi⟩
theorem xi_enum {it : Expr} (h : PI X tg it (iEnumM X.K (tA (xT X c) b φ))) : PI X tg it (tI (xT X c) b (iA enumR φ)) := piImp h fun σ H R h => iA_ok h fun w vs rs items o hg k => by
  match rs, hg, o with
  | [r], hg, o =>
    unfold enumR at hg
    simp only at hg
    by_cases hh : isH r.lv = true
    · rw [if_pos hh] at hg; cases hg
    · rw [if_neg hh] at hg
      have hl : r.lv = .h → False := fun e => hh (by rw [e]; rfl)
      obtain ⟨v, rfl, ho⟩ := args1 o
      obtain ⟨y, e1, rfl⟩ := Option.map_eq_some_iff.mp hg
      obtain ⟨t, xs⟩ := y
      obtain ⟨a, vs, rfl, h1, h2⟩ := walk_of ho.rp e1
      exact ⟨t, a, vs, rfl, h1.mono (w.atH _), k _ (itOk_enum hl h1 h2)⟩
end
end Fx

set_option Elab.async false
set_option linter.all false
set_option maxRecDepth 100000
/-! ranges that are kept, max and min with a default, calls by keywords alone, comprehensions with two for's -/
namespace Fx
open PySem PySem.Spec PyProof.Rows L2

/-! ### ranges as values -/
section
variable {X : Cx}
theorem cr_rangeV : CallR X (.type "range") (fun vs H Q => ∃ j, vs = [V.int j] ∧ ∀ p, H p = none → Q (.ref p) (upd H p (.rng 0 j))) := by
  intro pins s σ H vs us Q I r h
  obtain ⟨j, rfl, q⟩ := h
  obtain ⟨u, rfl, ru⟩ := vals1 r
  obtain ⟨t, rfl⟩ := ru
  refine call_range_1 ⟨.ref s.heap.objs.size, upd H s.heap.objs.size (.rng 0 j), I.laid (t' := s.toks + 1 + 1) (fun b o e => Heap.get?_push_of_some _ e) (Nat.le_refl _) ?_, rfl, q _ (I.hok.fresh (Nat.le_refl _))⟩
  exact ⟨s.toks, t, s.toks + 1, Heap.get?_push_size _ rfl⟩
theorem rangeV_it {tg : Expr} {pins : List (Addr × Obj)} {σ : L2.St} {H : Hp} {s : Shared} {R : It → Hp → Prop} {E : Value → Shared → Prop} {a : Addr} {lo hi : Int} (I : L2.Inv X pins σ H s) (ha : H a = some (.rng lo hi))
    (h1 : -(2 ^ 62) ≤ lo) (h2 : lo < 2 ^ 62) (h3 : -(2 ^ 62) ≤ hi) (h4 : hi < 2 ^ 62) (q : R (Itr lo (hi - lo).toNat) H) : wpAny (model X.prog X.w) X.A (pyIter (.ref a)) (PIE X pins σ tg R) E s := by
  obtain ⟨t1, t2, t3, ho⟩ := I.hok a _ ha
  refine wpAny_pyIter_range (show IsRange s.heap a lo hi 1 t1 t2 t3 from ho) (small_one h1 h2 h3 h4) ?_
  refine ⟨s.heap.objs.size, [s.heap.objs.size], _, _, H, rfl, I.kept (t' := s.toks) fun b o e => Heap.get?_push_of_some _ e, turn_range _ lo (hi - lo).toNat, ?_, fun b hb => ?_, q⟩
  · have z1 : (lo : Int) + ((0 : Nat) : Int) * 1 = lo := by rw [Int.mul_one]; exact Int.add_zero lo
    have z2 : (((hi - lo).toNat : Nat) : Int) - ((0 : Nat) : Int) = Builtin.Range.rangeSize lo hi 1 := by
      rw [rangeSize_one]
      split <;> omega
    refine (show IsRangeIter _ _ (lo + ((0 : Nat) : Int) * 1) ((((hi - lo).toNat : Nat) : Int) - ((0 : Nat) : Int)) 1 from ?_)
    rw [z1, z2]
    exact Heap.get?_push_size _ rfl
  · cases (show b = s.heap.objs.size by simpa using hb)
    exact I.fpOk (Nat.le_refl _) (I.hok.fresh (Nat.le_refl _))
theorem pi_rangeV {tg e : Expr} {te : TE} (he : PE X e te) : PI X tg e (fun σ H R => te σ H fun v H1 => ∃ (a : Addr) (lo hi : Int), v = .ref a ∧ H1 a = some (.rng lo hi) ∧ (-1000000 ≤ lo ∧ lo ≤ 1000000) ∧ (-1000000 ≤ hi ∧ hi ≤ 1000000) ∧ R (Itr lo (hi - lo).toNat) H1) :=
  ⟨fun pins s σ H R I h => thn (he.run pins s σ H _ I h) fun u s1 ⟨v, H1, I1, r1, a, lo, hi, e1, ha, b1, b2, q⟩ => by
    subst e1
    obtain rfl : u = Value.ref a := r1
    exact rangeV_it I1 ha (by omega) (by omega) (by omega) (by omega) q⟩
end
def rngVR : List Res → Option Res
  | [r] => (intOf r).bind fun j => if -1000000 ≤ j ∧ j ≤ 1000000 then some (.at .f (.rng 0 j)) else none
  | _ => none
theorem g_rangeV {T : Kt} : GCall T (fun vs H Q => ∃ j, vs = [V.int j] ∧ ∀ p, H p = none → Q (.ref p) (upd H p (.rng 0 j))) rngVR := by
  intro w vs rs rr Q ha hg k
  unfold rngVR at hg
  split at hg
  · rename_i r
    obtain ⟨v, rfl, h⟩ := args1 ha
    cases h1 : intOf r with
    | none => rw [h1] at hg; cases hg
    | some j =>
      rw [h1, Option.bind_some] at hg
      by_cases hz : -1000000 ≤ j ∧ j ≤ 1000000
      · rw [if_pos hz] at hg
        cases hg
        refine ⟨j, by rw [h.isInt (intOf_eq h1)], fun p hp => ?_⟩
        have q := k (.ref p) (w.new .f p (.rng 0 j) hp) (w.new_le .f p _ hp) (show ResOk T _ _ (.at .f (.rng 0 j)) from .rng (w.new_at .f p _ hp)) True.intro
        rw [W3.new_H] at q
        exact q
      · rw [if_neg hz] at hg; cases hg
  · cases hg
section
variable {X : Cx} {c : Str → Option Addr} {b : Bas}
def iRgV (φ : Ro → Option Res) : Ro → Option (List Res) := fun ρ => (φ ρ).bind fun r => match r.d with
  | .rng lo hi => if (-1000000 ≤ lo ∧ lo ≤ 1000000) ∧ (-1000000 ≤ hi ∧ hi ≤ 1000000) then some (rngItems lo (hi - lo).toNat) else none
  | _ => none
theorem xi_rgv {tg e : Expr} {φ : Ro → Option Res} (he : PE X e (tE (xT X c) b φ)) : PI X tg e (tI (xT X c) b (iRgV φ)) := piImp (pi_rangeV he) fun σ H R h => by
  obtain ⟨w, ρ, items, rfl, en, hφ, k⟩ := h
  unfold iRgV at hφ
  cases h1 : φ ρ with
  | none => rw [h1] at hφ; cases hφ
  | some r =>
    rw [h1, Option.bind_some] at hφ
    split at hφ
    · rename_i lo hi hd
      by_cases hz : (-1000000 ≤ lo ∧ lo ≤ 1000000) ∧ (-1000000 ≤ hi ∧ hi ≤ 1000000)
      · rw [if_pos hz] at hφ
        cases hφ
        refine ⟨w, ρ, r, rfl, en, h1, fun v w' l o _ => ?_⟩
        have hr := o.rpH
        rw [hd] at hr
        cases hr with
        | @rng a _ _ h3 => exact ⟨a, lo, hi, rfl, h3, hz.1, hz.2, k _ w' l (itOk_rng lo _)⟩
      · rw [if_neg hz] at hφ; cases hφ
    · cases hφ

/-! ### max(xs, default=d), min(xs, default=d) of ints -/
theorem ra_ints {h : Heap} : ∀ {us : List Value} {ns : List Int}, IntsAre us ns → ∃ as, ReadsAll h us (ns.map fun n => PyData.int n) as
  | _, _, .nil => ⟨_, .nil⟩
  | _, _, .cons t k r => by
    obtain ⟨as, q⟩ := ra_ints (h := h) r
    exact ⟨_, .cons (.int _ _) q⟩
end
def rDef (K : PySem.W.Frag) (f : List Int → Int → Int) : List V → List V → Hp → VK → Prop := fun xs zs H Q => ∃ (p : Addr) (ns : List Int) (d : Int), xs = [.ref p] ∧ zs = [.int d] ∧ (SqL K H p (ns.map V.int) ∨ SqT K H p (ns.map V.int)) ∧ Q (.int (f ns d)) H
theorem maxOf_max (x : Int) : ∀ xs : List Int, PySem.W.maxOf x xs = xs.foldl max x := by
  intro xs
  unfold PySem.W.maxOf
  induction xs generalizing x with
  | nil => rfl
  | cons y ys ih =>
    rw [List.foldl_cons, List.foldl_cons]
    have e : (if PySem.W.DatumOrd.lt x y = true then y else x) = max x y := by
      show (if decide (x < y) = true then y else x) = max x y
      by_cases h : x < y
      · rw [if_pos (by simpa using h)]; omega
      · rw [if_neg (by simpa using h)]; omega
    rw [e]
    exact ih _
theorem minOf_min (x : Int) : ∀ xs : List Int, PySem.W.minOf x xs = xs.foldl min x := by
  intro xs
  unfold PySem.W.minOf
  induction xs generalizing x with
  | nil => rfl
  | cons y ys ih =>
    rw [List.foldl_cons, List.foldl_cons]
    have e : (if PySem.W.DatumOrd.lt y x = true then y else x) = min x y := by
      show (if decide (y < x) = true then y else x) = min x y
      by_cases h : y < x
      · rw [if_pos (by simpa using h)]; omega
      · rw [if_neg (by simpa using h)]; omega
    rw [e]
    exact ih _
def maxD0 (ns : List Int) (d : Int) : Int := ns.max?.getD d
def minD0 (ns : List Int) (d : Int) : Int := ns.min?.getD d
section
variable {X : Cx} {c : Str → Option Addr} {b : Bas}
theorem holdAll_ints {h : Heap} {us : List Value} {ns : List Int} (r : Vals (ns.map V.int) us) : PySem.W.HoldAll h us.toArray.toList ns := ra_ints r.ints
theorem holds_int {h : Heap} {v : Value} {m : Int} (r : PySem.W.Holds h v m) : RelV (.int m) v := by
  obtain ⟨as, r⟩ := r
  have r : Reads h v (.int m) as := r
  cases r
  exact ⟨_, rfl⟩
theorem cr_maxd (hc : X.calm = true) (hu : X.A.units + 1 < cLine) : CallRK X (.builtin "max") ["default"] (rDef X.K maxD0) := by
  intro pins s σ H xs zs us ws Q I r rz h
  obtain ⟨p, ns, d, rfl, rfl, hs, q⟩ := h
  rw [Vals.ref1 r]
  obtain ⟨u, rfl, ru⟩ := vals1 rz
  obtain ⟨t, rfl⟩ := ru
  show wpAny _ _ (call (.builtin "max") [.ref p] [(Str.ofString "default", .int d t)]) _ _ s
  have e0 : ns = [] → maxD0 ns d = d := fun e => by subst e; rfl
  have e1 : ∀ (y : Int) (ys : List Int), ns = y :: ys → maxD0 ns d = PySem.W.maxOf y ys := fun y ys e => by subst e; rw [maxOf_max]; rfl
  rcases hs with hs | hs
  · obtain ⟨its, rv, hl, _⟩ := I.list hs
    exact PySem.W.max_list_datum_default (I.ok.hd hc) hl.isList (holdAll_ints rv) hu (fun e h' tk hk => ⟨.int d, H, I.kept hk, ⟨_, rfl⟩, by rw [← e0 e]; exact q⟩)
      fun y ys i v h' tk e _ hv hk => ⟨.int _, H, I.kept hk, holds_int hv, by rw [← e1 y ys e]; exact q⟩
  · obtain ⟨its, rv, hl, _⟩ := I.tuple hs
    exact PySem.W.max_tuple_datum_default (I.ok.hd hc) hl (holdAll_ints rv) hu (fun e h' tk hk => ⟨.int d, H, I.kept hk, ⟨_, rfl⟩, by rw [← e0 e]; exact q⟩)
      fun y ys i v h' tk e _ hv hk => ⟨.int _, H, I.kept hk, holds_int hv, by rw [← e1 y ys e]; exact q⟩
theorem cr_mind (hc : X.calm = true) (hu : X.A.units + 1 < cLine) : CallRK X (.builtin "min") ["default"] (rDef X.K minD0) := by
  intro pins s σ H xs zs us ws Q I r rz h
  obtain ⟨p, ns, d, rfl, rfl, hs, q⟩ := h
  rw [Vals.ref1 r]
  obtain ⟨u, rfl, ru⟩ := vals1 rz
  obtain ⟨t, rfl⟩ := ru
  show wpAny _ _ (call (.builtin "min") [.ref p] [(Str.ofString "default", .int d t)]) _ _ s
  have e0 : ns = [] → minD0 ns d = d := fun e => by subst e; rfl
  have e1 : ∀ (y : Int) (ys : List Int), ns = y :: ys → minD0 ns d = PySem.W.minOf y ys := fun y ys e => by subst e; rw [minOf_min]; rfl
  rcases hs with hs | hs
  · obtain ⟨its, rv, hl, _⟩ := I.list hs
    exact PySem.W.min_list_datum_default (I.ok.hd hc) hl.isList (holdAll_ints rv) hu (fun e h' tk hk => ⟨.int d, H, I.kept hk, ⟨_, rfl⟩, by rw [← e0 e]; exact q⟩)
      fun y ys i v h' tk e _ hv hk => ⟨.int _, H, I.kept hk, holds_int hv, by rw [← e1 y ys e]; exact q⟩
  · obtain ⟨its, rv, hl, _⟩ := I.tuple hs
    exact PySem.W.min_tuple_datum_default (I.ok.hd hc) hl (holdAll_ints rv) hu (fun e h' tk hk => ⟨.int d, H, I.kept hk, ⟨_, rfl⟩, by rw [← e0 e]; exact q⟩)
      fun y ys i v h' tk e _ hv hk => ⟨.int _, H, I.kept hk, holds_int hv, by rw [← e1 y ys e]; exact q⟩
def defR (f : List Int → Int → Int) (r q : Res) : Option Res := (r.d.seq?.bind ints?).bind fun ns => (intOf q).map fun d => .at .f (.int (f ns d))
def fDef (f : List Int → Int → Int) (φ ψ : Ro → Option Res) : Ro → Option Res := f2 (defR f) φ ψ
theorem xk_cons {e : Expr} {φ : Ro → Option Res} {kws : List Keyword} {ψ : Ro → Option (List Res)} {T : Kt} {nm : Option Str} {kp : Pos} (ha : PE X e (tE T b φ)) (hr : PK X kws (tA T b ψ)) : PK X (⟨nm, e, kp⟩ :: kws) (tA T b (fCons φ ψ)) :=
  ⟨fun pos pins s σ H Q I h => (pk_cons ha hr).run pos pins s σ H Q I (by
    obtain ⟨w, ρ, rr, rfl, en, hφ, k⟩ := h
    unfold fCons at hφ
    cases h1 : φ ρ with
    | none => rw [h1] at hφ; cases hφ
    | some x =>
      cases h2 : ψ ρ with
      | none => rw [h1, h2] at hφ; cases hφ
      | some xs =>
        rw [h1, h2] at hφ
        cases hφ
        exact ⟨w, ρ, x, rfl, en, h1, fun v w1 l1 o1 _ => ⟨w1, ρ, xs, rfl, en.mono l1, h2, fun vs w2 l2 o2 => k _ w2 (l1.trans l2) (.cons (o1.mono l2) o2)⟩⟩)⟩
theorem xk_nil {T : Kt} : PK X [] (tA T b fNil) := ⟨fun pos pins s σ H Q I h => pk_nil.run pos pins s σ H Q I (by
  obtain ⟨w, ρ, rr, rfl, en, hφ, k⟩ := h
  cases hφ
  exact k [] w (.refl w) .nil)⟩
theorem xdef {f : List Int → Int → Int} {id : String} {x : Str} {p pos kp : Pos} {e e' : Expr} {φ ψ : Ro → Option Res} (hc : CallRK X (.builtin id) ["default"] (rDef X.K f)) (hg : Gl X x) (hm : X.mg x = none) (hv : bootBuiltins x = some (.builtin id))
    (ha : PE X e (tE (xT X c) b φ)) (hk : PE X e' (tE (xT X c) b ψ)) (hn : x ≠ "__name__" := by decide) (hdb : (x == ("__debug__" : Str)) = false := by decide)
    (hs : starEach [e] X.env = (false, eval e X.env) :: starEach [] X.env := by rfl)
    (he : backTo pos (starEach [e] X.env) = (false, eval e X.env) :: backTo pos (starEach [] X.env) := by rfl) (hpl : (backTo pos (starEach [e] X.env)).any (·.1) = false := by rfl) :
    PE X (.Call (.Name x p) [e] [⟨some "default", e', kp⟩] pos) (tE (xT X c) b (fDef f φ ψ)) :=
  peImp (pe_callBK hc hg hm hv (pa_cons ha pa_nil hs) (pk_cons hk pk_nil) hn hdb he hpl) fun σ H Q h => by
    obtain ⟨w, ρ, rr, rfl, en, hφ, k⟩ := h
    unfold fDef f2 at hφ
    cases h1 : φ ρ with
    | none => rw [h1] at hφ; cases hφ
    | some r =>
      cases h2 : ψ ρ with
      | none => rw [h1, h2] at hφ; cases hφ
      | some q =>
        rw [h1, h2] at hφ
        have hφ : defR f r q = some rr := hφ
        unfold defR at hφ
        cases h3 : r.d.seq?.bind ints? with
        | none => rw [h3] at hφ; cases hφ
        | some ns =>
          rw [h3, Option.bind_some] at hφ
          cases h4 : intOf q with
          | none => rw [h4] at hφ; cases hφ
          | some d =>
            rw [h4] at hφ
            cases hφ
            refine ⟨w, ρ, r, rfl, en, h1, fun v w1 l1 o1 _ => ⟨w1, ρ, q, rfl, en.mono l1, h2, fun u w2 l2 o2 _ => ?_⟩⟩
            obtain ⟨p, rfl, hq⟩ := seq_of (o1.mono l2) h3
            exact ⟨p, ns, d, rfl, by rw [o2.isInt (intOf_eq h4)], hq, k _ w2 (l1.trans l2) (.int _) True.intro⟩

/-! ### f(k = e, ..): every parameter by its name, in their order -/
def KwTo (K : PySem.W.Frag) (fd : FuncData) (ps : List Str) : Prop := ∀ (s : Shared) (ws : List Value), K.In s.heap → ws.length = ps.length → BindsTo s fd ⟨[], ps.zip ws⟩ (ps.zip ws)
theorem pe_callK0 {CX : CXT} {k : Nat} {f : Addr} {fd : FuncData} {ps : List Str} {sp : Sp} {E : XK} {x : Str} {p pos : Pos} {kws : List Keyword} {tk : TA} (F : FnOk X.prog X.w X.K X.mg X.base CX k f fd ps sp) (hr : Room k X.A) (hg : Gl X x) (hm : X.mg x = some (.ref f)) (hk : PySem.W.keepIn X.K (.ref f) = true)
    (hb : KwTo X.K fd ps) (hx : Passes CX X E) (hkw : PK X kws tk) (hall : (backToKw pos (keywordEach kws X.env)).all (·.1.isSome) = true := by rfl) (hks : (backToKw pos (keywordEach kws X.env)).filterMap (·.1) = ps := by rfl)
    (hdb : (x == ("__debug__" : Str)) = false := by decide)
    (hpl : ((backTo pos (starEach [] X.env)).any (·.1) || (backToKw pos (keywordEach kws X.env)).any (·.1.isNone)) = false := by rfl) :
    PE X (.Call (.Name x p) [] kws pos) (fun σ H Q => tk σ H fun zs H2 => sp zs H2 Q E) := by
  refine ⟨fun pins s σ H Q I h => ?_⟩
  refine wpAny_Call_Name_kw (ld_glob I hg hm ?_ hdb)
  refine PySem.W.callWith_KW0 (h₀ := X.base) I.ok.mod.kin hk hall (thn (hkw.run pos pins s σ H _ I h) fun ws s2 ⟨zs, H2, I2, rz, q2⟩ => ⟨I2.kIn, ?_⟩) hpl
  rw [hks]
  have hl : ws.length = ps.length := by rw [← rz.length]; exact F.len _ _ _ _ q2
  refine wpAny_call (codeAny_mono (F.run X.A X.stack s2 H2 ⟨[], ps.zip ws⟩ ws zs Q E hr I2.env0 (hb s2 ws I2.kIn hl) rz q2) fun r s' hq => ?_)
  cases r with
  | error e => exact hx pins σ H2 s2 e s' I2 hq
  | ok fl =>
    cases fl with
    | ret u => exact I2.after hq
    | next => exact False.elim hq
    | brk => exact False.elim hq
    | cont => exact False.elim hq
/-- a def that may be called by keywords alone -/
def CalK (P : Program) (w : World) (K : PySem.W.Frag) (mg : Str → Option Value) (base : Heap) (k : Nat) (x : Str) (ps : List Str) (sp : Sp) : Prop :=
  ∃ (f : Addr) (fd : FuncData), mg x = some (.ref f) ∧ PySem.W.keepIn K (.ref f) = true ∧ KwTo K fd ps ∧ FnOk P w K mg base CX0 k f fd ps sp
theorem fun_kw {K : PySem.W.Frag} {x qual : Str} {st : Stmt} {f : Addr} {kV doc pm cdv ct : Value} {an : Option Addr} {ps : List Str} (F : Fun K x qual st f (PySem.W.fnOf x qual (defArgs st) (defBody st) (defScope st) .none kV doc pm an cdv ct))
    (h : ∀ us : List Value, us.length = ps.length → bindArgs (PySem.W.fnOf x qual (defArgs st) (defBody st) (defScope st) .none kV doc pm an cdv ct) ⟨[], ps.zip us⟩ = pure (ps.zip us)) : KwTo K (PySem.W.fnOf x qual (defArgs st) (defBody st) (defScope st) .none kV doc pm an cdv ct) ps :=
  fun _ us _ hl => .of_eq (h us hl)
theorem xcallK {k : Nat} {ps : List Str} {ms : List Bool} {φd : List D → Option Res} {x : Str} {p pos : Pos} {kws : List Keyword} {φ : Ro → Option (List Res)}
    (C : CalK X.prog X.w X.K X.mg X.base k x ps (spP (xT X c) ms φd)) (hr : Room k X.A) (hg : Gl X x)
    (hkw : PK X kws (tA (xT X c) b φ)) (hall : (backToKw pos (keywordEach kws X.env)).all (·.1.isSome) = true := by rfl) (hks : (backToKw pos (keywordEach kws X.env)).filterMap (·.1) = ps := by rfl)
    (hdb : (x == ("__debug__" : Str)) = false := by decide)
    (hpl : ((backTo pos (starEach [] X.env)).any (·.1) || (backToKw pos (keywordEach kws X.env)).any (·.1.isNone)) = false := by rfl) :
    PE X (.Call (.Name x p) [] kws pos) (tE (xT X c) b (fA (callR ms φd) φ)) := by
  obtain ⟨f, fd, hm, hk, hb, F⟩ := C
  exact peImp (pe_callK0 F hr hg hm hk hb pass0 hkw hall hks hdb hpl) fun σ H Q h => fA_ok h fun w vs rs rr o hg kk => by
    have z := call_go (X := X) (E := fun _ _ _ => False) o hg kk
    rw [List.append_nil] at z
    exact z
end
end Fx
/-! ### comprehensions with two for's -/
namespace Fx
open PySem PySem.Spec PyProof.Rows L2
/-- a target: what the slots say of the part w0 of the heaps is kept -/
def GTh (T : Kt) (b : Bas) (g : TG) (γ : Res → Ro → Option Ro) (vs : List Nat) : Prop :=
  ∀ (w0 w : W3) (σ : L2.St) (ρ : Ro) (x : V) (r : Res) (ρ' : Ro) (Q : L2.St → Hp → Prop), Le w0 w → En T b w0 σ ρ → ResOk T w0 x r → isAt r = true → γ r ρ = some ρ' →
    (∀ σ', En T b w0 σ' ρ' → (∀ us : List Nat, (∀ v ∈ vs, v ∈ us) → wipe σ' us = wipe σ us) → Q σ' w.H) → g x σ w.H Q
def GThs (T : Kt) (b : Bas) (g : TGs) (γ : List Res → Ro → Option Ro) (vs : List Nat) : Prop :=
  ∀ (w0 w : W3) (σ : L2.St) (ρ : Ro) (xs : List V) (rs : List Res) (ρ' : Ro) (Q : L2.St → Hp → Prop), Le w0 w → En T b w0 σ ρ → ArgsOk T w0 xs rs → rs.all isAt = true → γ rs ρ = some ρ' →
    (∀ σ', En T b w0 σ' ρ' → (∀ us : List Nat, (∀ v ∈ vs, v ∈ us) → wipe σ' us = wipe σ us) → Q σ' w.H) → g xs σ w.H Q
section
variable {T : Kt} {b : Bas}
theorem th_name (i : Nat) : GTh T b (gName i) (gaN i) [i] := by
  intro w0 w σ ρ x r ρ' Q l en o ha hγ q
  cases hγ
  exact q _ (En.set i en (.refl w0) o (isAt_frs ha w0 x) (isAt_slot ha)) fun us hu => wipe_set (hu i (by simp))
theorem ths_nil : GThs T b gNil ga0 [] := by
  intro w0 w σ ρ xs rs ρ' Q l en o ha hγ q
  cases o with
  | nil => cases hγ; exact ⟨rfl, q σ en fun us _ => rfl⟩
  | cons _ _ => cases hγ
theorem ths_cons {g : TG} {gs : TGs} {γ : Res → Ro → Option Ro} {γs : List Res → Ro → Option Ro} {vs us : List Nat} (h : GTh T b g γ vs) (hs : GThs T b gs γs us) : GThs T b (gCons g gs) (gaC γ γs) (vs ++ us) := by
  intro w0 w σ ρ xs rs ρ' Q l en o ha hγ q
  cases o with
  | nil => cases hγ
  | @cons x r xs rs h1 h2 =>
    simp only [List.all_cons, Bool.and_eq_true] at ha
    have hγ : ((γ r ρ).bind (γs rs)) = some ρ' := hγ
    cases h3 : γ r ρ with
    | none => rw [h3] at hγ; cases hγ
    | some ρ1 =>
      rw [h3] at hγ
      refine ⟨x, xs, rfl, h w0 w σ ρ x r ρ1 _ l en h1 ha.1 h3 fun σ1 en1 e1 => ?_⟩
      refine hs w0 w σ1 ρ1 xs rs ρ' Q l en1 h2 ha.2 hγ fun σ2 en2 e2 => q σ2 en2 fun ws hw => ?_
      rw [e2 ws fun v hv => hw v (List.mem_append_right _ hv), e1 ws fun v hv => hw v (List.mem_append_left _ hv)]
theorem th_tup {n : Nat} {gs : TGs} {γs : List Res → Ro → Option Ro} {us : List Nat} (hs : GThs T b gs γs us) : GTh T b (gTup T.K n gs) (gaT n γs) us := by
  intro w0 w σ ρ x r ρ' Q l en o ha hγ q
  unfold gaT at hγ
  split at hγ
  · rename_i ds e
    by_cases hn : ds.length = n
    · rw [if_pos hn] at hγ
      obtain ⟨a, vs, rfl, h1, h2, _⟩ := o.titems e
      obtain ⟨h3, h4⟩ := mks_ok (isAt_lv ha) h2
      exact ⟨a, vs, rfl, (h1.mono l.H).sq, by rw [h2.length]; exact hn, hs w0 w σ ρ vs _ ρ' Q l en h3 h4 hγ q⟩
    · rw [if_neg hn] at hγ; cases hγ
  · rename_i ds e
    by_cases hn : ds.length = n
    · rw [if_pos hn] at hγ
      obtain ⟨a, vs, rfl, h1, h2, _⟩ := o.kitems e
      obtain ⟨h3, h4⟩ := mks_ok (isAt_lv ha) h2
      exact ⟨a, vs, rfl, .of (l.H _ _ h1), by rw [h2.length]; exact hn, hs w0 w σ ρ vs _ ρ' Q l en h3 h4 hγ q⟩
    · rw [if_neg hn] at hγ; cases hγ
  · cases hγ
end
/-- the heaps without the object at A -/
def W3.sub (w : W3) (A : Addr) (hB : w.B A = none) : W3 :=
  ⟨w.F, w.B, fun a => if a = A then none else w.H a, w.fb, fun a o e => by
    by_cases h : a = A
    · subst h; rw [hB] at e; cases e
    · show (if a = A then none else w.H a) = some o
      rw [if_neg h]; exact w.bh a o e⟩
theorem W3.sub_le (w : W3) (A : Addr) (hB : w.B A = none) : Le (w.sub A hB) w :=
  ⟨.refl _, .refl _, fun a o e => by
    have e : (if a = A then none else w.H a) = some o := e
    by_cases h : a = A
    · rw [if_pos h] at e; cases e
    · rw [if_neg h] at e; exact e, fun _ _ h => h, fun _ _ h => h⟩
theorem W3.sub_mono {w w' : W3} {A : Addr} (hB : w.B A = none) (hB' : w'.B A = none) (l : Le w w') : Le (w.sub A hB) (w'.sub A hB') := by
  refine ⟨l.F, l.B, fun a o e => ?_, fun a m h => ?_, fun a m h => ?_⟩
  · have e : (if a = A then none else w.H a) = some o := e
    show (if a = A then none else w'.H a) = some o
    by_cases h : a = A
    · rw [if_pos h] at e; cases e
    · rw [if_neg h] at e ⊢; exact l.H a o e
  · have m : Mut (if a = A then none else w.H a) := m
    by_cases z : a = A
    · rw [if_pos z] at m; exact m.elim
    · rw [if_neg z] at m; exact l.kF a m h
  · have m : Mut (if a = A then none else w.H a) := m
    by_cases z : a = A
    · rw [if_pos z] at m; exact m.elim
    · rw [if_neg z] at m; exact l.kB a m h
theorem W3.sub_upd {w : W3} {A : Addr} {o : HO} (hB : w.B A = none) : Le (w.sub A hB) ((⟨w.F, w.B, upd w.H A o, w.fb, same_upd2 w.bh hB⟩ : W3).sub A hB) := by
  refine ⟨.refl _, .refl _, fun a u e => ?_, fun _ _ h => h, fun _ _ h => h⟩
  have e : (if a = A then none else w.H a) = some u := e
  show (if a = A then none else upd w.H A o a) = some u
  by_cases h : a = A
  · rw [if_pos h] at e; cases e
  · rw [if_neg h] at e ⊢; rw [upd_ne h]; exact e
theorem W3.sub_new {w : W3} {A : Addr} {o : HO} (hA : w.H A = none) (hB : (w.new .h A o hA).B A = none) : Le w ((w.new .h A o hA).sub A hB) := by
  refine ⟨.refl _, .refl _, fun a u e => ?_, fun _ _ h => h, fun _ _ h => h⟩
  show (if a = A then none else upd w.H A o a) = some u
  by_cases h : a = A
  · subst h; rw [hA] at e; cases e
  · rw [if_neg h, upd_ne h]; exact e
theorem isAt_sub {T : Kt} {w : W3} {A : Addr} {x : V} {r : Res} (hB : w.B A = none) (h : ResOk T w x r) (ha : isAt r = true) : ResOk T (w.sub A hB) x r := by
  cases r with
  | «at» l d =>
    cases l with
    | f => exact h
    | b => exact h
    | h => cases ha
  | _ => cases ha
def lcDD (γ : Res → Ro → Option Ro) (α : Ro → Option Bool) (ι1 : Ro → Option (List Res)) (vs1 : List Nat) (γ1 : Res → Ro → Option Ro) (α1 : Ro → Option Bool) (φ : Ro → Option Res) (ρ : Ro) : List Res → Option (List D)
  | [] => some []
  | x :: xs => (γ x ρ).bind fun ρ1 => (α ρ1).bind fun k =>
    if k then (ι1 ρ1).bind fun it => (lcD γ1 α1 φ (wipeR ρ1 vs1) it).bind fun ds => (lcDD γ α ι1 vs1 γ1 α1 φ ρ xs).map fun es => ds ++ es else lcDD γ α ι1 vs1 γ1 α1 φ ρ xs
def fLc2 (ι : Ro → Option (List Res)) (vs : List Nat) (γ : Res → Ro → Option Ro) (α : Ro → Option Bool) (ι1 : Ro → Option (List Res)) (vs1 : List Nat) (γ1 : Res → Ro → Option Ro) (α1 : Ro → Option Bool) (φ : Ro → Option Res) : Ro → Option Res := fun ρ =>
  (ι ρ).bind fun items => (lcDD γ α ι1 vs1 γ1 α1 φ (wipeR ρ vs) items).bind fun ds => if ds.length ≤ 90000 then some (.own ds) else none
/-- the new list at A, w1 what stood before it -/
structure Acc (T : Kt) (w1 w : W3) (A : Addr) (done : List D) : Prop where
  ex : ∃ (acc : List V) (hB : w.B A = none), Le w1 (w.sub A hB) ∧ w.H A = some (.lst acc) ∧ w.F A = none ∧ RpL T w.F acc done
theorem Acc.mono {T : Kt} {w1 w w' : W3} {A : Addr} {done : List D} (l : Le w w') (h : Acc T w1 w A done) : Acc T w1 w' A done := by
  obtain ⟨acc, hB, l1, hD, hF, ha⟩ := h.ex
  have mA : Mut (w.H A) := by rw [hD]; exact True.intro
  have hB' := l.kB A mA hB
  exact ⟨acc, hB', l1.trans (W3.sub_mono hB hB' l), l.H _ _ hD, l.kF A mA hF, RpL.mono l.F _ _ ha⟩
theorem Acc.le {T : Kt} {w1 w : W3} {A : Addr} {done : List D} (h : Acc T w1 w A done) : Le w1 w := by
  obtain ⟨acc, hB, l1, hD, hF, ha⟩ := h.ex
  exact l1.trans (w.sub_le A hB)
section
variable {T : Kt} {b : Bas} {ι ι1 : Ro → Option (List Res)} {vs us vs1 us1 : List Nat} {γ γ1 : Res → Ro → Option Ro} {α α1 : Ro → Option Bool} {φ : Ro → Option Res} {g g1 : TG}
theorem lc2_go (hg : GTh T b g γ us) (hu : ∀ v ∈ us, v ∈ vs) (hg1 : GTh T b g1 γ1 us1) (hu1 : ∀ v ∈ us1, v ∈ vs1) {σ : L2.St} {H : Hp} {Q : VK} (h : tE T b (fLc2 ι vs γ α ι1 vs1 γ1 α1 φ) σ H Q) :
    tLc2 (tI T b ι) g (tT T b α) (tI T b ι1) g1 (tT T b α1) (tE T b φ) vs vs1 σ H Q := by
  obtain ⟨w, ρ, rr, rfl, en, hφ, k⟩ := h
  unfold fLc2 at hφ
  cases h1 : ι ρ with
  | none => rw [h1] at hφ; cases hφ
  | some items =>
    rw [h1, Option.bind_some] at hφ
    cases h2 : lcDD γ α ι1 vs1 γ1 α1 φ (wipeR ρ vs) items with
    | none => rw [h2] at hφ; cases hφ
    | some ds =>
      rw [h2, Option.bind_some] at hφ
      by_cases hz : ds.length ≤ 90000
      · rw [if_pos hz] at hφ
        cases hφ
        refine ⟨w, ρ, items, rfl, en, h1, fun J w1 l1 hJ A hA => ?_⟩
        have en1 := en.mono l1
        have hA1 := none_back w1.bh hA
        refine ⟨fun i m H => m = items.length - i ∧ i ≤ items.length ∧ ∃ w2 done rest, w2.H = H ∧ Acc T w1 w2 A done ∧ lcDD γ α ι1 vs1 γ1 α1 φ (wipeR ρ vs) (items.drop i) = some rest ∧ done ++ rest = ds,
          ⟨items.length, rfl, Nat.zero_le _, w1.new .h A (.lst []) hA, [], ds, w1.new_H .h A _ hA, ⟨[], hA1, W3.sub_new hA hA1, upd_same, none_back w1.fb hA1, .nil⟩, h2, rfl⟩, ?_⟩
        rintro i m H ⟨rfl, hi, w2, done, rest, rfl, c2, hr, hd⟩
        by_cases hlt : i < items.length
        · obtain ⟨g1', g2⟩ := hJ.go w2 c2.le.F c2.le.B i hlt
          refine .inr ⟨g1', fun H => ∃ w2 done rest, w2.H = H ∧ Acc T w1 w2 A done ∧ lcDD γ α ι1 vs1 γ1 α1 φ (wipeR ρ vs) (items.drop (i + 1)) = some rest ∧ done ++ rest = ds,
            fun H' hN => ⟨items.length - (i + 1), by omega, rfl, hlt, hN⟩, fun x H' hy => ?_⟩
          obtain ⟨w3, r, h3, rfl, l3, h5⟩ := g2 x H' hy
          have er : r = items[i] := by rw [List.getElem?_eq_getElem hlt] at h3; exact (Option.some.inj h3).symm
          have har : isAt r = true := by rw [er]; exact List.all_eq_true.mp hJ.ats _ (List.getElem_mem hlt)
          rw [List.drop_eq_getElem_cons hlt, ← er] at hr
          unfold lcDD at hr
          cases h6 : γ r (wipeR ρ vs) with
          | none => rw [h6] at hr; cases hr
          | some ρ1 =>
            rw [h6, Option.bind_some] at hr
            have c3 := c2.mono l3
            obtain ⟨acc3, hB3, l13, hD3, hF3, ha3⟩ := c3.ex
            refine hg (w3.sub A hB3) w3 (L2.wipe σ vs) (wipeR ρ vs) x r ρ1 _ (w3.sub_le A hB3) ((en1.mono l13).wipe vs) (isAt_sub hB3 h5 har) har h6 fun σ2 en2 e2 => ⟨by rw [e2 vs hu, wipe_wipe], ?_⟩
            cases h7 : α ρ1 with
            | none => rw [h7] at hr; cases hr
            | some kk =>
              rw [h7, Option.bind_some] at hr
              refine ⟨w3, ρ1, kk, rfl, en2.mono (w3.sub_le A hB3), h7, fun w4 l4 => ?_⟩
              cases kk with
              | false =>
                rw [if_neg (by decide)] at hr
                refine L2.iteF ?_
                exact ⟨w4, done, rest, rfl, c3.mono l4, hr, hd⟩
              | true =>
                rw [if_pos rfl] at hr
                refine L2.iteT ?_
                cases i1 : ι1 ρ1 with
                | none => rw [i1] at hr; cases hr
                | some it =>
                  rw [i1, Option.bind_some] at hr
                  cases i2 : lcD γ1 α1 φ (wipeR ρ1 vs1) it with
                  | none => rw [i2] at hr; cases hr
                  | some dsi =>
                    rw [i2, Option.bind_some] at hr
                    cases i3 : lcDD γ α ι1 vs1 γ1 α1 φ (wipeR ρ vs) (items.drop (i + 1)) with
                    | none => rw [i3] at hr; cases hr
                    | some rest2 =>
                      rw [i3] at hr
                      cases hr
                      have l43 := (w3.sub_le A hB3).trans l4
                      refine ⟨w4, ρ1, it, rfl, en2.mono l43, i1, fun J1 w5 l5 hJ1 => ?_⟩
                      have c5 := (c3.mono l4).mono l5
                      have mA3 : Mut (w3.H A) := by rw [hD3]; exact True.intro
                      have hB5 := (l4.trans l5).kB A mA3 hB3
                      have en5 : En T b (w5.sub A hB5) σ2 ρ1 := en2.mono (W3.sub_mono hB3 hB5 (l4.trans l5))
                      obtain ⟨acc5, _, l15, hD5, hF5, ha5⟩ := c5.ex
                      refine ⟨fun j m H => m = it.length - j ∧ j ≤ it.length ∧ ∃ w6 done rest, w6.H = H ∧ Acc T (w5.sub A hB5) w6 A done ∧ lcD γ1 α1 φ (wipeR ρ1 vs1) (it.drop j) = some rest ∧ done ++ (rest ++ rest2) = ds,
                        ⟨it.length, rfl, Nat.zero_le _, w5, done, dsi, rfl, ⟨acc5, hB5, .refl _, hD5, hF5, ha5⟩, i2, hd⟩, ?_⟩
                      rintro j m H ⟨rfl, hj, w6, done6, rest6, rfl, c6, hr6, hd6⟩
                      by_cases hjt : j < it.length
                      · obtain ⟨q1, q2⟩ := hJ1.go w6 c6.le.F c6.le.B j hjt
                        refine .inr ⟨q1, fun H => ∃ w6 done rest, w6.H = H ∧ Acc T (w5.sub A hB5) w6 A done ∧ lcD γ1 α1 φ (wipeR ρ1 vs1) (it.drop (j + 1)) = some rest ∧ done ++ (rest ++ rest2) = ds,
                          fun H' hN => ⟨it.length - (j + 1), by omega, rfl, hjt, hN⟩, fun y H' hy1 => ?_⟩
                        obtain ⟨w7, r7, h73, rfl, l7, h75⟩ := q2 y H' hy1
                        have er7 : r7 = it[j] := by rw [List.getElem?_eq_getElem hjt] at h73; exact (Option.some.inj h73).symm
                        have har7 : isAt r7 = true := by rw [er7]; exact List.all_eq_true.mp hJ1.ats _ (List.getElem_mem hjt)
                        rw [List.drop_eq_getElem_cons hjt, ← er7] at hr6
                        unfold lcD at hr6
                        cases h76 : γ1 r7 (wipeR ρ1 vs1) with
                        | none => rw [h76] at hr6; cases hr6
                        | some ρ7 =>
                          rw [h76, Option.bind_some] at hr6
                          have c7 := c6.mono l7
                          obtain ⟨acc7, hB7, l57, hD7, hF7, ha7⟩ := c7.ex
                          refine hg1 (w7.sub A hB7) w7 (L2.wipe σ2 vs1) (wipeR ρ1 vs1) y r7 ρ7 _ (w7.sub_le A hB7) ((en5.mono l57).wipe vs1) (isAt_sub hB7 h75 har7) har7 h76 fun σ7 en7 e7 => ⟨by rw [e7 vs1 hu1, wipe_wipe], ?_⟩
                          cases h77 : α1 ρ7 with
                          | none => rw [h77] at hr6; cases hr6
                          | some kk7 =>
                            rw [h77, Option.bind_some] at hr6
                            refine ⟨w7, ρ7, kk7, rfl, en7.mono (w7.sub_le A hB7), h77, fun w8 l8 => ?_⟩
                            cases kk7 with
                            | false =>
                              rw [if_neg (by decide)] at hr6
                              refine L2.iteF ?_
                              exact ⟨w8, done6, rest6, rfl, c7.mono l8, hr6, hd6⟩
                            | true =>
                              rw [if_pos rfl] at hr6
                              refine L2.iteT ?_
                              cases h8 : φ ρ7 with
                              | none => rw [h8] at hr6; cases hr6
                              | some q =>
                                rw [h8, Option.bind_some] at hr6
                                cases h9 : frD q with
                                | none => rw [h9] at hr6; cases hr6
                                | some d =>
                                  rw [h9, Option.bind_some] at hr6
                                  cases h10 : lcD γ1 α1 φ (wipeR ρ1 vs1) (it.drop (j + 1)) with
                                  | none => rw [h10] at hr6; cases hr6
                                  | some rest' =>
                                    rw [h10] at hr6
                                    cases hr6
                                    cases frD_eq h9
                                    refine ⟨w8, ρ7, _, rfl, en7.mono ((w7.sub_le A hB7).trans l8), h8, fun y w9 l9 o9 _ => ?_⟩
                                    obtain ⟨acc9, hB9, l59, hD9, hF9, ha9⟩ := ((c7.mono l8).mono l9).ex
                                    have hlen : acc9.length ≤ 90000 := by
                                      rw [ha9.length]
                                      have z := congrArg List.length hd6
                                      rw [List.length_append] at z
                                      omega
                                    exact ⟨acc9, hD9, szl (by omega), ⟨w9.F, w9.B, upd w9.H A (.lst (acc9 ++ [y])), w9.fb, same_upd2 w9.bh hB9⟩, done6 ++ [d], rest', rfl, ⟨acc9 ++ [y], hB9, l59.trans (W3.sub_upd hB9), upd_same, hF9, RpL.app ha9 (.cons (show Rp T w9.F y d from o9) .nil)⟩, rfl, by rw [List.append_assoc]; exact hd6⟩
                      · have e : j = it.length := by omega
                        subst e
                        rw [List.drop_length] at hr6
                        cases hr6
                        rw [List.nil_append] at hd6
                        obtain ⟨acc6, hB6, l56, hD6, hF6, ha6⟩ := c6.ex
                        exact .inl ⟨hJ1.stop w6 c6.le.F c6.le.B _ (Nat.le_refl _), w6, done6, rest2, rfl, ⟨acc6, hB6, l15.trans l56, hD6, hF6, ha6⟩, rfl, hd6⟩
        · have e : i = items.length := by omega
          subst e
          rw [List.drop_length] at hr
          cases hr
          rw [List.append_nil] at hd
          subst hd
          obtain ⟨acc, hB, l2, hD, hF, ha⟩ := c2.ex
          exact .inl ⟨hJ.stop w2 c2.le.F c2.le.B _ (Nat.le_refl _), k (.ref A) w2 (l1.trans c2.le) ⟨A, acc, rfl, hD, ha, hF, hB⟩ (fun a e => by cases e; exact none_back l1.H hA)⟩
      · rw [if_neg hz] at hφ; cases hφ
theorem xlcD {X : Cx} {e : Expr} (h : PE X e (tLc2 (tI T b ι) g (tT T b α) (tI T b ι1) g1 (tT T b α1) (tE T b φ) vs vs1)) (hg : GTh T b g γ us) (hu : ∀ v ∈ us, v ∈ vs) (hg1 : GTh T b g1 γ1 us1) (hu1 : ∀ v ∈ us1, v ∈ vs1) : PE X e (tE T b (fLc2 ι vs γ α ι1 vs1 γ1 α1 φ)) := peImp h fun _ _ _ h => lc2_go hg hu hg1 hu1 h
end
end Fx

set_option Elab.async false
set_option linter.all false
set_option maxRecDepth 100000
namespace Lw
open PySem PySem.Spec PyProof.Rows L2 Fx
def phi_shared_places : Ro → Option Out :=
  (sRet (fA tupOfR (fCons (fLc (iSq (fVar 0)) [2] (gaN 2) (fTst (f2 inR (fVar 2) (fVar 1))) (fVar 2)) fNil)))
def d_shared_places : List D → Option Res := runD 3 [true, true] phi_shared_places
def phi_place_after : Ro → Option Out :=
  (sRet (f2 ixR (fVar 0) (f2 addR (fIdx (fVar 0) (fCons (fVar 1) fNil)) (fC (.int 1)))))
def d_place_after : List D → Option Res := runD 2 [true, true] phi_place_after
def phi_conflict : Ro → Option Out :=
  (sSeq (sAsg 2 (fA (callR [true, true] d_shared_places) (fCons (fVar 0) (fCons (fVar 1) fNil))))
  (sSeq (sFor (iA zipR (fCons (fVar 2) (fCons (fFz (fSl (fVar 2) (fSm (fC (.int 1))) fNo)) fNil))) (gaT 2 (gaC (gaN 3) (gaC (gaN 4) ga0))) (sIf (fTst (f2 neR (fA (callR [true, true] d_place_after) (fCons (fVar 0) (fCons (fVar 3) fNil))) (fA (callR [true, true] d_place_after) (fCons (fVar 1) (fCons (fVar 3) fNil))))) (sRet (fA tupR (fCons (fVar 3) (fCons (fVar 4) fNil)))) sNx))
  (sRet (fC .non))))
def d_conflict : List D → Option Res := runD 5 [true, true] phi_conflict
def phi_nowhere_right : Ro → Option Out :=
  (sRet (fA allR (fCons (fLc (iA zipR (fCons (fVar 0) (fCons (fVar 1) fNil))) [2, 3] (gaT 2 (gaC (gaN 2) (gaC (gaN 3) ga0))) fYes (f2 (cmpR leP) (fVar 2) (fVar 3))) fNil)))
def d_nowhere_right : List D → Option Res := runD 4 [true, true] phi_nowhere_right
def phi_beside : Ro → Option Out :=
  (sRet (fAndV (fA (callR [true, true] d_nowhere_right) (fCons (fVar 0) (fCons (fVar 1) fNil))) (f2 isNR (fA (callR [true, true] d_conflict) (fCons (fVar 0) (fCons (fVar 1) fNil))) (fC .non))))
def d_beside : List D → Option Res := runD 2 [true, true] phi_beside
def phi_comes_before : Ro → Option Out :=
  (sSeq (sIf (fTst (f2 eqR (f2 ixR (fVar 0) (fVar 1)) (f2 ixR (fVar 0) (fVar 2)))) (sRet (f2 (cmpR ltP) (fVar 1) (fVar 2))) sNx)
  (sRet (fA (callR [true, true] d_beside) (fCons (f2 ixR (fVar 0) (fVar 1)) (fCons (f2 ixR (fVar 0) (fVar 2)) fNil)))))
def d_comes_before : List D → Option Res := runD 3 [true, true, true] phi_comes_before
def phi_is_lot : Ro → Option Out :=
  (sSeq (sIf (fNot (fTru (fA allR (fCons (fLc (iSq (fVar 1)) [2] (gaN 2) fYes (fCh (cmpR leP) (cmpR ltP) (fC (.int 0)) (fVar 2) (fA lenR (fCons (fVar 0) fNil)))) fNil)))) (sRet (fC (.bl false))) sNx)
  (sSeq (sIf (fNot (fTru (fA allR (fCons (fLc (iA zipR (fCons (fVar 1) (fCons (fFz (fSl (fVar 1) (fSm (fC (.int 1))) fNo)) fNil))) [3, 4] (gaT 2 (gaC (gaN 3) (gaC (gaN 4) ga0))) fYes (f2 (cmpR ltP) (fVar 3) (fVar 4))) fNil)))) (sRet (fC (.bl false))) sNx)
  (sRet (fA allR (fCons (fLc2 (iSq (fVar 1)) [3, 4] (gaN 3) fYes (iSq (fVar 1)) [4] (gaN 4) (fTst (f2 (cmpR ltP) (fVar 3) (fVar 4))) (fOrV (fA (callR [true, true, true] d_comes_before) (fCons (fVar 0) (fCons (fVar 3) (fCons (fVar 4) fNil)))) (fA (callR [true, true, true] d_comes_before) (fCons (fVar 0) (fCons (fVar 4) (fCons (fVar 3) fNil)))))) fNil)))))
def d_is_lot : List D → Option Res := runD 5 [true, true] phi_is_lot
def phi_are_marks : Ro → Option Out :=
  (sSeq (sIf (fOr (fTst (f2 neR (fA lenR (fCons (fVar 2) fNil)) (fA lenR (fCons (fVar 0) fNil)))) (fNot (fTru (fA allR (fCons (fLc (iA zipR (fCons (fVar 1) (fCons (fVar 2) fNil))) [4, 5] (gaT 2 (gaC (gaN 4) (gaC (gaN 5) ga0))) fYes (f2 (cmpR leP) (fVar 4) (fVar 5))) fNil))))) (sRet (fC (.bl false))) sNx)
  (sSeq (sAsg 3 (fA rngVR (fCons (fA lenR (fCons (fVar 0) fNil)) fNil)))
  (sRet (fA allR (fCons (fLc2 (iRgV (fVar 3)) [6, 7] (gaN 6) fYes (iRgV (fVar 3)) [7] (gaN 7) (fTru (fA (callR [true, true, true] d_comes_before) (fCons (fVar 0) (fCons (fVar 6) (fCons (fVar 7) fNil))))) (f2 (cmpR geP) (f2 subR (f2 ixR (fVar 2) (fVar 7)) (f2 ixR (fVar 1) (fVar 7))) (f2 ixR (fVar 2) (fVar 6)))) fNil)))))
def d_are_marks : List D → Option Res := runD 8 [true, true, true] phi_are_marks
def phi_lot_holds : Ro → Option Out :=
  (sSeq (sAsg 4 (fFz (fLc (iSq (fVar 0)) [5] (gaN 5) fYes (fA tupOfR (fCons (fVar 5) fNil)))))
  (sSeq (sIf (fOr (fNot (fTru (fA (callR [true, true] d_is_lot) (fCons (fVar 4) (fCons (fVar 2) fNil))))) (fNot (fTru (fA (callR [true, true, true] d_are_marks) (fCons (fVar 4) (fCons (fVar 1) (fCons (fVar 3) fNil))))))) (sRet (fC (.bl false))) sNx)
  (sRet (f2 eqR (fA sumR (fCons (fLc (iSq (fVar 2)) [6] (gaN 6) fYes (f2 ixR (fVar 1) (fVar 6))) fNil)) (fDef maxD0 (fVar 3) (fC (.int 0)))))))
def d_lot_holds : List D → Option Res := runD 7 [true, true, true, true] phi_lot_holds
def phi_l_cell : Ro → Option Out :=
  (sSeq (sIf (fTst (f2 (cmpR ltP) (fVar 1) (fA lenR (fCons (fVar 0) fNil)))) (sRet (f2 ixR (fVar 0) (fVar 1))) sNx)
  (sRet (fC (.int 0))))
def d_l_cell : List D → Option Res := runD 2 [false, true] phi_l_cell
def phi_l_draws : Ro → Option Out :=
  (sSeq (sAsg 2 (fC (.int 0)))
  (sSeq (sIf (fTst (f2 (cmpR geP) (fVar 0) (f2 powR (fC (.int 10)) (fC (.int 18))))) (sAsg 2 (fVar 0)) sNx)
  (sSeq (sAsg 3 (fA lstR fNil))
  (sSeq (sFor (iA rng1R (fCons (fVar 1) fNil)) (gaN 4) (sSeq (sIf (fTst (f2 (cmpR gtP) (fVar 2) (fC (.int 0)))) (sApp 3 (f2 modR (fA intR (fCons (fVar 2) fNil)) (fC (.int 1000)))) (sSeq (sAsg 5 (f2 modR (fA intR (fCons (f2 addR (f2 addR (fVar 0) (f2 mulR (fC (.int 7919)) (fVar 4))) (fC (.int 13))) fNil)) (fC (.int 2147483647))))
  (sSeq (sAsg 5 (f2 modR (fA intR (fCons (f2 mulR (fVar 5) (f2 addR (fVar 5) (fC (.int 48271)))) fNil)) (fC (.int 2147483629))))
  (sSeq (sAsg 5 (f2 modR (fA intR (fCons (f2 addR (f2 mulR (fVar 5) (f2 addR (fVar 5) (fC (.int 69621)))) (f2 mulR (fC (.int 31)) (fVar 4))) fNil)) (fC (.int 2147483647))))
  (sApp 3 (fA intR (fCons (f2 fdivR (fVar 5) (fC (.int 9))) fNil)))))))
  (sAsg 2 (f2 fdivR (fVar 2) (fC (.int 1000))))))
  (sRetV 3)))))
def d_l_draws : List D → Option Res := runD 6 [true, true] phi_l_draws
def phi_l_widths : Ro → Option Out :=
  (sSeq (sAsg 2 (f2 modR (fA intR (fCons (f2 ixR (fVar 0) (fC (.int 1))) fNil)) (fC (.int 12))))
  (sSeq (sAsg 3 (fA intR (fCons (f2 ixR (fVar 0) (fC (.int 0))) fNil)))
  (sSeq (sIf (fTru (fVar 1)) (sRet (fLc (iA rng1R (fCons (f2 addR (fC (.int 2)) (f2 fdivR (f2 addR (f2 modR (fVar 3) (fC (.int 7))) (fC (.int 2))) (fC (.int 3)))) fNil)) [4] (gaN 4) fYes (f2 addR (fC (.int 1)) (f2 fdivR (f2 addR (f2 modR (fA intR (fCons (f2 ixR (fVar 0) (f2 addR (fC (.int 2)) (fVar 4))) fNil)) (fC (.int 5))) (fC (.int 1))) (fC (.int 2)))))) sNx)
  (sSeq (sIf (fTst (f2 eqR (fVar 2) (fC (.int 11)))) (sRet (fLc (iA rng1R (fCons (f2 addR (fC (.int 5)) (f2 modR (fVar 3) (fC (.int 8)))) fNil)) [4] (gaN 4) fYes (f2 addR (fC (.int 1)) (f2 fdivR (f2 addR (f2 modR (fA intR (fCons (f2 ixR (fVar 0) (f2 addR (fC (.int 2)) (fVar 4))) fNil)) (fC (.int 5))) (fC (.int 1))) (fC (.int 2)))))) sNx)
  (sSeq (sIf (fTst (f2 eqR (fVar 2) (fC (.int 10)))) (sRet (fLc (iA rng1R (fCons (f2 addR (fC (.int 1)) (f2 modR (fVar 3) (fC (.int 4)))) fNil)) [4] (gaN 4) fYes (f2 addR (fC (.int 1)) (f2 modR (fA intR (fCons (f2 ixR (fVar 0) (f2 addR (fC (.int 2)) (fVar 4))) fNil)) (fC (.int 8)))))) sNx)
  (sSeq (sIf (fTst (f2 eqR (fVar 2) (fC (.int 9)))) (sRet (fLc (iA rng1R (fCons (f2 ixR (fA lstR (fCons (fC (.int 1)) (fCons (fC (.int 5)) (fCons (fC (.int 6)) (fCons (fC (.int 7)) (fCons (fC (.int 8)) fNil)))))) (f2 modR (fVar 3) (fC (.int 5)))) fNil)) [4] (gaN 4) fYes (f2 addR (fC (.int 1)) (f2 modR (fA intR (fCons (f2 ixR (fVar 0) (f2 addR (fC (.int 2)) (fVar 4))) fNil)) (fC (.int 4)))))) sNx)
  (sRet (fLc (iA rng1R (fCons (f2 addR (fC (.int 3)) (f2 modR (fVar 3) (fC (.int 3)))) fNil)) [4] (gaN 4) fYes (f2 addR (fC (.int 1)) (f2 fdivR (f2 addR (f2 modR (fA intR (fCons (f2 ixR (fVar 0) (f2 addR (fC (.int 2)) (fVar 4))) fNil)) (fC (.int 7))) (fC (.int 1))) (fC (.int 2))))))))))))
def d_l_widths : List D → Option Res := runD 5 [true, true] phi_l_widths
def phi_l_price : Ro → Option Out :=
  (sSeq (sIf (fTst (f2 (cmpR ltP) (fVar 0) (fC (.int 6)))) (sRet (fC (.int 0))) sNx)
  (sSeq (sIf (fTst (f2 eqR (fVar 0) (fC (.int 6)))) (sRet (f2 modR (fA intR (fCons (fVar 1) fNil)) (fC (.int 2)))) sNx)
  (sSeq (sIf (fTst (f2 eqR (fVar 0) (fC (.int 7)))) (sRet (f2 subR (fC (.int 0)) (f2 fdivR (fA intR (fCons (fVar 1) fNil)) (fC (.int 40))))) sNx)
  (sSeq (sIf (fTst (f2 eqR (fVar 0) (fC (.int 8)))) (sRet (fA intR (fCons (fVar 1) fNil))) sNx)
  (sRet (f2 subR (fC (.int 1000000)) (f2 mulR (f2 fdivR (fA intR (fCons (fVar 1) fNil)) (fC (.int 30))) (fC (.int 2000000)))))))))
def d_l_price : List D → Option Res := runD 2 [true, true] phi_l_price
def phi_l_roads : Ro → Option Out :=
  (sSeq (sAsg 2 (f2 modR (fA intR (fCons (f2 ixR (fVar 1) (fC (.int 14))) fNil)) (fC (.int 10))))
  (sSeq (sAsg 3 (fA lstR fNil))
  (sSeq (sAsg 4 (fC (.int 0)))
  (sSeq (sAsg 5 (fC (.int 15)))
  (sSeq (sFor (iA rng1R (fCons (f2 subR (fA lenR (fCons (fVar 0) fNil)) (fC (.int 1))) fNil)) (gaN 6) (sSeq (sAsg 7 (fC (.int 0)))
  (sSeq (sAsg 8 (fC (.int 0)))
  (sSeq (sAsg 9 (f2 addR (fVar 4) (f2 ixR (fVar 0) (fVar 6))))
  (sSeq (sFor (iA rng1R (fCons (f2 subR (f2 addR (f2 ixR (fVar 0) (fVar 6)) (f2 ixR (fVar 0) (f2 addR (fVar 6) (fC (.int 1))))) (fC (.int 1))) fNil)) (gaN 10) (sSeq (sIf (fTst (f2 (cmpR gtP) (f2 modR (fA intR (fCons (f2 ixR (fVar 1) (fVar 5)) fNil)) (fC (.int 10))) (fC (.int 0)))) (sApp 3 (fA tupR (fCons (f2 addR (fVar 4) (fVar 7)) (fCons (f2 addR (fVar 9) (fVar 8)) (fCons (fA (callR [true, true] d_l_price) (fCons (fVar 2) (fCons (f2 modR (f2 fdivR (fA intR (fCons (f2 ixR (fVar 1) (fVar 5)) fNil)) (fC (.int 20))) (fC (.int 50))) fNil))) fNil))))) sNx)
  (sSeq (sIf (fAnd (fTst (f2 (cmpR ltP) (f2 addR (fVar 7) (fC (.int 1))) (f2 ixR (fVar 0) (fVar 6)))) (fOr (fTst (f2 eqR (f2 modR (f2 fdivR (fA intR (fCons (f2 ixR (fVar 1) (fVar 5)) fNil)) (fC (.int 10))) (fC (.int 2))) (fC (.int 0)))) (fTst (f2 eqR (f2 addR (fVar 8) (fC (.int 1))) (f2 ixR (fVar 0) (f2 addR (fVar 6) (fC (.int 1)))))))) (sAsg 7 (f2 addR (fVar 7) (fC (.int 1)))) (sAsg 8 (f2 addR (fVar 8) (fC (.int 1)))))
  (sAsg 5 (f2 addR (fVar 5) (fC (.int 1)))))))
  (sAsg 4 (fVar 9)))))))
  (sRetV 3))))))
def d_l_roads : List D → Option Res := runD 11 [true, true] phi_l_roads
def phi_l_rows : Ro → Option Out :=
  (sSeq (sAsg 1 (fFz (fA lstR fNil)))
  (sSeq (sFor (iA rng1R (fCons (fA lenR (fCons (fVar 0) fNil)) fNil)) (gaN 2) (sAsg 1 (fFz (f2 addR (fVar 1) (f2 mulR (fA lstR (fCons (fVar 2) fNil)) (f2 ixR (fVar 0) (fVar 2)))))))
  (sRetV 1)))
def d_l_rows : List D → Option Res := runD 3 [true] phi_l_rows
def phi_l_ends : Ro → Option Out :=
  (sSeq (sNew2 2 (iA rng1R (fCons (fVar 0) fNil)) [4] (gaN 4) fYes (fA lstR fNil))
  (sSeq (sFor (iSq (fVar 1)) (gaN 3) (sApp2 2 (f2 ixR (fVar 3) (fC (.int 0))) (f2 ixR (fVar 3) (fC (.int 1)))))
  (sFrz 2 (sRetV 2))))
def d_l_ends : List D → Option Res := runD 5 [true, true] phi_l_ends
def phi_l_costs : Ro → Option Out :=
  (sSeq (sAsg 1 (fun _ => some (.ownT [])))
  (sSeq (sFor (iSq (fVar 0)) (gaN 2) (sDput 1 (fA ktpR (fCons (f2 ixR (fVar 2) (fC (.int 0))) (fCons (f2 ixR (fVar 2) (fC (.int 1))) fNil))) (f2 ixR (fVar 2) (fC (.int 2)))))
  (sFrz 1 (sRetV 1))))
def d_l_costs : List D → Option Res := runD 3 [true] phi_l_costs
def phi_l_least : Ro → Option Out :=
  (sSeq (sNew2 2 (iA rng1R (fCons (fVar 0) fNil)) [3] (gaN 3) fYes (f2 mulR (fA lstR (fCons (fC .non) fNil)) (fVar 0)))
  (sSeq (sFor (iA rng1R (fCons (fVar 0) fNil)) (gaN 3) (sSeq (sAli 4 2 (fVar 3))
  (sSetA 4 (fVar 3) (fC (.int 0)))))
  (sSeq (sFor (iA rng1R (fCons (fA lenR (fCons (fVar 1) fNil)) fNil)) (gaN 5) (sSeq (sAsg 6 (f2 ixR (fVar 1) (f2 subR (f2 subR (fA lenR (fCons (fVar 1) fNil)) (fC (.int 1))) (fVar 5))))
  (sSeq (sAli 4 2 (f2 ixR (fVar 6) (fC (.int 0))))
  (sSeq (sAli 7 2 (f2 ixR (fVar 6) (fC (.int 1))))
  (sFor (iA rng2R (fCons (f2 ixR (fVar 6) (fC (.int 1))) (fCons (fVar 0) fNil))) (gaN 8) (sIf (fTst (f2 notNR (f2 ixR (fVar 7) (fVar 8)) (fC .non))) (sSeq (sAsg 9 (f2 addR (f2 ixR (fVar 6) (fC (.int 2))) (f2 ixR (fVar 7) (fVar 8))))
  (sIf (fOr (fTst (f2 isNR (f2 ixR (fVar 4) (fVar 8)) (fC .non))) (fTst (f2 (cmpR ltP) (fVar 9) (f2 ixR (fVar 4) (fVar 8))))) (sSetA 4 (fVar 8) (fVar 9)) sNx)) sNx))))))
  (sFrz 2 (sRetV 2)))))
def d_l_least : List D → Option Res := runD 10 [true, true] phi_l_least
def phi_l_pairs : Ro → Option Out :=
  (sSeq (sAsg 2 (fFz (fA (callR [true] d_l_rows) (fCons (fVar 0) fNil))))
  (sSeq (sNew2 3 (iSq (fVar 0)) [8] (gaN 8) fYes (fA lstR fNil))
  (sSeq (sFor (iA rng1R (fCons (fA lenR (fCons (fVar 2) fNil)) fNil)) (gaN 4) (sFor (iA rng2R (fCons (f2 addR (fVar 4) (fC (.int 1))) (fCons (fA lenR (fCons (fVar 2) fNil)) fNil))) (gaN 5) (sIf (fTst (f2 notNR (f2 ixR (f2 ixR (fVar 1) (fVar 4)) (fVar 5)) (fC .non))) (sApp2 3 (f2 subR (f2 ixR (fVar 2) (fVar 5)) (f2 ixR (fVar 2) (fVar 4))) (fA tupR (fCons (fVar 4) (fCons (fVar 5) fNil)))) sNx)))
  (sSeq (sAsg 6 (fFz (fA lstR fNil)))
  (sSeq (sFrz 3 (sFor (iSq (fVar 3)) (gaN 7) (sAsg 6 (fFz (f2 addR (fVar 6) (fVar 7))))))
  (sRetV 6))))))
def d_l_pairs : List D → Option Res := runD 9 [true, true] phi_l_pairs
def phi_l_world_of : Ro → Option Out :=
  (sSeq (sAsg 2 (fA sumR (fCons (fVar 0) fNil)))
  (sSeq (sAsg 3 (fFz (fA (callR [true, true] d_l_least) (fCons (fVar 2) (fCons (fVar 1) fNil)))))
  (sRet (fA tupR (fCons (fVar 0) (fCons (fVar 1) (fCons (fFz (fA (callR [true, true] d_l_ends) (fCons (fVar 2) (fCons (fVar 1) fNil)))) (fCons (fA (callR [true] d_l_costs) (fCons (fVar 1) fNil)) (fCons (fVar 3) (fCons (fFz (fA (callR [true, true] d_l_pairs) (fCons (fVar 0) (fCons (fVar 3) fNil)))) fNil))))))))))
def d_l_world_of : List D → Option Res := runD 4 [true, true] phi_l_world_of
def phi_l_world : Ro → Option Out :=
  (sSeq (sAsg 2 (fFz (fA (callR [true, true] d_l_draws) (fCons (fVar 0) (fCons (fC (.int 70)) fNil)))))
  (sSeq (sAsg 3 (fFz (fA (callR [true, true] d_l_widths) (fCons (fVar 2) (fCons (fVar 1) fNil)))))
  (sRet (fA (callR [true, true] d_l_world_of) (fCons (fVar 3) (fCons (fFz (fA (callR [true, true] d_l_roads) (fCons (fVar 3) (fCons (fVar 2) fNil)))) fNil))))))
def d_l_world : List D → Option Res := runD 4 [true, true] phi_l_world
def phi_l_conflict : Ro → Option Out :=
  (sSeq (sFor (iA rng1R (fCons (f2 subR (fA lenR (fCons (fVar 0) fNil)) (fC (.int 1))) fNil)) (gaN 2) (sFor (iA rng1R (fCons (f2 subR (fA lenR (fCons (fVar 1) fNil)) (fC (.int 1))) fNil)) (gaN 3) (sIf (fAnd (fTst (f2 eqR (f2 ixR (fVar 0) (fVar 2)) (f2 ixR (fVar 1) (fVar 3)))) (fTst (f2 neR (f2 ixR (fVar 0) (f2 addR (fVar 2) (fC (.int 1)))) (f2 ixR (fVar 1) (f2 addR (fVar 3) (fC (.int 1))))))) (sSeq (sAsg 4 (fFz (fLc (iSq (fFz (fSl (fVar 0) (fSm (f2 addR (fVar 2) (fC (.int 1)))) fNo))) [5] (gaN 5) (fTst (f2 inR (fVar 5) (fSl (fVar 1) (fSm (f2 addR (fVar 3) (fC (.int 1)))) fNo))) (fVar 5))))
  (sIf (fTst (f2 (cmpR gtP) (fA lenR (fCons (fVar 4) fNil)) (fC (.int 0)))) (sRet (fA tupR (fCons (f2 ixR (fVar 0) (fVar 2)) (fCons (f2 ixR (fVar 4) (fC (.int 0))) fNil)))) sNx)) sNx)))
  (sRet (fC .non)))
def d_l_conflict : List D → Option Res := runD 6 [true, true] phi_l_conflict
def phi_l_same (rec : List D → Option Res) : Ro → Option Out :=
  (sSeq (sIf (fTst (f2 isNR (fVar 1) (fC .non))) (sRet (f2 isNR (fVar 0) (fC .non))) sNx)
  (sSeq (sIf (fTru (fIsi "bool" (fVar 1))) (sRet (fAndV (fIsi "bool" (fVar 0)) (f2 eqR (fVar 0) (fVar 1)))) sNx)
  (sSeq (sIf (fTru (fIsi "int" (fVar 1))) (sRet (fAndV (fIsi "int" (fVar 0)) (fAndV (f1 notR (fIsi "bool" (fVar 0))) (f2 eqR (fVar 0) (fVar 1))))) sNx)
  (sSeq (sIf (fTru (fIsi "str" (fVar 1))) (sRet (fAndV (fIsi "str" (fVar 0)) (f2 eqR (fVar 0) (fVar 1)))) sNx)
  (sSeq (sIf (fTru (fIsi "list" (fVar 1))) (sIf (fOr (fNot (fTru (fIsi "list" (fVar 0)))) (fTst (f2 neR (fA lenR (fCons (fVar 0) fNil)) (fA lenR (fCons (fVar 1) fNil))))) (sRet (fC (.bl false))) sNx) (sIf (fOr (fNot (fTru (fIsi "tuple" (fVar 0)))) (fTst (f2 neR (fA lenR (fCons (fVar 0) fNil)) (fA lenR (fCons (fVar 1) fNil))))) (sRet (fC (.bl false))) sNx))
  (sSeq (sFor (iA rng1R (fCons (fA lenR (fCons (fVar 1) fNil)) fNil)) (gaN 2) (sIf (fNot (fTru (fA (callR [true, true] rec) (fCons (f2 ixR (fVar 0) (fVar 2)) (fCons (f2 ixR (fVar 1) (fVar 2)) fNil))))) (sRet (fC (.bl false))) sNx))
  (sRet (fC (.bl true)))))))))
def r_l_same : Nat → List D → Option Res
  | 0 => fun _ => none
  | n + 1 => runD 3 [true, true] (phi_l_same (r_l_same n))
def d_l_same : List D → Option Res := r_l_same 6
def phi_l_walk : Ro → Option Out :=
  (sSeq (sAsg 4 (fA tupR (fCons (fVar 3) fNil)))
  (sSeq (sFor (iA rng1R (fCons (fC (.int 11)) fNil)) (gaN 5) (sSeq (sAsg 6 (f2 ixR (f2 ixR (fVar 0) (fC (.int 2))) (f2 ixR (fVar 4) (f1 negR (fC (.int 1))))))
  (sSeq (sIf (fOr (fTst (f2 eqR (fA lenR (fCons (fVar 6) fNil)) (fC (.int 0)))) (fTst (f2 eqR (f2 modR (f2 fdivR (fA intR (fCons (f2 ixR (fVar 1) (f2 addR (fVar 2) (fVar 5))) fNil)) (fC (.int 40))) (fC (.int 6))) (fC (.int 0))))) (sRetV 4) sNx)
  (sAsg 4 (f2 addR (fVar 4) (fA tupR (fCons (f2 ixR (fVar 6) (f2 modR (fA intR (fCons (f2 ixR (fVar 1) (f2 addR (fVar 2) (fVar 5))) fNil)) (fA lenR (fCons (fVar 6) fNil)))) fNil)))))))
  (sRetV 4)))
def d_l_walk : List D → Option Res := runD 7 [true, true, true, true] phi_l_walk
def phi_l_forked : Ro → Option Out :=
  (sSeq (sAsg 1 (fA lstR fNil))
  (sSeq (sFor (iSq (f2 ixR (fVar 0) (fC (.int 5)))) (gaN 2) (sSeq (sAsg 3 (fFz (fLc (iSq (f2 ixR (f2 ixR (fVar 0) (fC (.int 2))) (f2 ixR (fVar 2) (fC (.int 0))))) [4] (gaN 4) (fTst (f2 notNR (f2 ixR (f2 ixR (f2 ixR (fVar 0) (fC (.int 4))) (fVar 4)) (f2 ixR (fVar 2) (fC (.int 1)))) (fC .non))) (fVar 4))))
  (sIf (fTst (f2 (cmpR gtP) (fA lenR (fCons (fVar 3) fNil)) (fC (.int 1)))) (sApp 1 (fVar 2)) sNx)))
  (sRetV 1)))
def d_l_forked : List D → Option Res := runD 5 [true] phi_l_forked
def phi_l_led : Ro → Option Out :=
  (sSeq (sAsg 4 (fA tupR (fCons (fVar 2) fNil)))
  (sSeq (sFor (iA rng1R (fCons (fC (.int 11)) fNil)) (gaN 5) (sIf (fTst (f2 neR (f2 ixR (fVar 4) (f1 negR (fC (.int 1)))) (fVar 3))) (sSeq (sAsg 6 (fFz (fLc (iSq (f2 ixR (f2 ixR (fVar 0) (fC (.int 2))) (f2 ixR (fVar 4) (f1 negR (fC (.int 1)))))) [7] (gaN 7) (fTst (f2 notNR (f2 ixR (f2 ixR (f2 ixR (fVar 0) (fC (.int 4))) (fVar 7)) (fVar 3)) (fC .non))) (fVar 7))))
  (sAsg 4 (f2 addR (fVar 4) (fA tupR (fCons (f2 ixR (fVar 6) (f2 modR (fA intR (fCons (f2 ixR (fVar 1) (fVar 5)) fNil)) (fA lenR (fCons (fVar 6) fNil)))) fNil))))) sNx))
  (sRetV 4)))
def d_l_led : List D → Option Res := runD 8 [true, true, true, true] phi_l_led
def phi_l_ways : Ro → Option Out :=
  (sSeq (sAsg 3 (fFz (fA (callR [true] d_l_rows) (fCons (f2 ixR (fVar 0) (fC (.int 0))) fNil))))
  (sSeq (sAsg 4 (fFz (fA (callR [true] d_l_forked) (fCons (fVar 0) fNil))))
  (sSeq (sAsg 5 (f2 modR (fA intR (fCons (f2 ixR (fVar 2) (fC (.int 1))) fNil)) (fA lenR (fCons (f2 ixR (fVar 0) (fC (.int 0))) fNil))))
  (sSeq (sAsg 6 (f2 addR (fC (.int 1)) (f2 modR (fA intR (fCons (f2 ixR (fVar 2) (fC (.int 2))) fNil)) (f2 subR (fA lenR (fCons (f2 ixR (fVar 0) (fC (.int 0))) fNil)) (fVar 5)))))
  (sSeq (sAsg 7 (fC .non))
  (sSeq (sIf (fAnd (fTst (f2 (cmpR gtP) (fA lenR (fCons (fVar 4) fNil)) (fC (.int 0)))) (fTst (f2 (cmpR gtP) (f2 modR (fA intR (fCons (f2 ixR (fVar 2) (fC (.int 0))) fNil)) (fC (.int 4))) (fC (.int 0))))) (sSeq (sAsg 7 (f2 ixR (fVar 4) (f2 modR (fA intR (fCons (f2 ixR (fVar 2) (fC (.int 1))) fNil)) (fA lenR (fCons (fVar 4) fNil)))))
  (sSeq (sAsg 5 (f2 ixR (fVar 3) (f2 ixR (fVar 7) (fC (.int 0)))))
  (sAsg 6 (f2 addR (f2 subR (f2 ixR (fVar 3) (f2 ixR (fVar 7) (fC (.int 1)))) (fVar 5)) (fC (.int 1)))))) sNx)
  (sSeq (sAsg 8 (f2 modR (fA intR (fCons (f2 ixR (fVar 2) (fC (.int 4))) fNil)) (fC (.int 9))))
  (sSeq (sIf (fTst (f2 eqR (f2 modR (fA intR (fCons (f2 ixR (fVar 2) (fC (.int 3))) fNil)) (fC (.int 6))) (fC (.int 5)))) (sAsg 8 (f2 addR (fC (.int 9)) (f2 modR (fA intR (fCons (f2 ixR (fVar 2) (fC (.int 4))) fNil)) (fC (.int 12))))) sNx)
  (sSeq (sAsg 9 (fFz (fA (callR [true, true] d_l_draws) (fCons (fVar 1) (fCons (f2 mulR (fC (.int 13)) (fVar 8)) fNil)))))
  (sSeq (sAsg 10 (fA sumR (fCons (fSl (f2 ixR (fVar 0) (fC (.int 0))) fNo (fSm (fVar 5))) fNil)))
  (sSeq (sAsg 11 (fA lstR fNil))
  (sSeq (sFor (iA rng1R (fCons (fVar 8) fNil)) (gaN 12) (sSeq (sAsg 13 (fFz (fSl (fVar 9) (fSm (f2 mulR (fC (.int 13)) (fVar 12))) (fSm (f2 addR (f2 mulR (fC (.int 13)) (fVar 12)) (fC (.int 13)))))))
  (sSeq (sAsg 14 (fA intR (fCons (f2 ixR (fVar 13) (fC (.int 12))) fNil)))
  (sSeq (sAsg 15 (fA (callR [true, true, true, true] d_l_walk) (fCons (fVar 0) (fCons (fFz (fLc (iSq (fVar 13)) [16] (gaN 16) fYes (f2 addR (fC (.int 40)) (f2 modR (fA intR (fCons (fVar 16) fNil)) (fC (.int 40)))))) (fCons (fC (.int 0)) (fCons (f2 addR (fVar 10) (f2 modR (fA intR (fCons (f2 ixR (fVar 13) (fC (.int 11))) fNil)) (f2 ixR (f2 ixR (fVar 0) (fC (.int 0))) (fVar 5)))) fNil))))))
  (sSeq (sIf (fAnd (fTst (f2 notNR (fVar 7) (fC .non))) (fTst (f2 eqR (f2 modR (f2 fdivR (fVar 14) (fC (.int 4))) (fC (.int 2))) (fC (.int 0))))) (sAsg 15 (fA (callR [true, true, true, true] d_l_led) (fCons (fVar 0) (fCons (fVar 13) (fCons (f2 ixR (fVar 7) (fC (.int 0))) (fCons (f2 ixR (fVar 7) (fC (.int 1))) fNil)))))) sNx)
  (sIf (fAnd (fTst (f2 eqR (f2 modR (fVar 14) (fC (.int 4))) (fC (.int 0)))) (fTst (f2 (cmpR gtP) (fA lenR (fCons (fVar 11) fNil)) (fC (.int 0))))) (sApp 11 (f2 ixR (fVar 11) (f2 modR (f2 fdivR (fVar 14) (fC (.int 8))) (fA lenR (fCons (fVar 11) fNil))))) (sIf (fTst (f2 (cmpR geP) (fA lenR (fCons (fVar 15) fNil)) (fVar 6))) (sApp 11 (fFz (fSl (fVar 15) fNo (fSm (fVar 6))))) sNx)))))))
  (sRetV 11)))))))))))))
def d_l_ways : List D → Option Res := runD 17 [true, true, true] phi_l_ways
def phi_l_values : Ro → Option Out :=
  (sSeq (sAsg 2 (fFz (fA (callR [true, true] d_l_draws) (fCons (fVar 0) (fCons (f2 addR (f2 mulR (fC (.int 2)) (fVar 1)) (fC (.int 1))) fNil)))))
  (sSeq (sAsg 3 (f2 ixR (fA lstR (fCons (fC (.int 3)) (fCons (fC (.int 10)) (fCons (fC (.int 1000001)) fNil)))) (f2 modR (fA intR (fCons (f2 ixR (fVar 2) (fC (.int 0))) fNil)) (fC (.int 3)))))
  (sRet (fLc (iA rng1R (fCons (fVar 1) fNil)) [4] (gaN 4) fYes (f2 modR (fA intR (fCons (f2 addR (f2 mulR (f2 ixR (fVar 2) (f2 addR (f2 mulR (fC (.int 2)) (fVar 4)) (fC (.int 1)))) (fC (.int 1000))) (f2 ixR (fVar 2) (f2 addR (f2 mulR (fC (.int 2)) (fVar 4)) (fC (.int 2))))) fNil)) (fVar 3))))))
def d_l_values : List D → Option Res := runD 5 [true, true] phi_l_values
def phi_l_before : Ro → Option Out :=
  (sSeq (sAsg 1 (fA lstR fNil))
  (sSeq (sFor (iA rng1R (fCons (fA lenR (fCons (fVar 0) fNil)) fNil)) (gaN 2) (sSeq (sAsg 3 (fA lstR fNil))
  (sSeq (sFor (iA rng1R (fCons (fA lenR (fCons (fVar 0) fNil)) fNil)) (gaN 4) (sSeq (sAsg 5 (fFz (fLc (iA rng1R (fCons (fA lenR (fCons (f2 ixR (fVar 0) (fVar 2)) fNil)) fNil)) [6] (gaN 6) (fTst (f2 (cmpR gtP) (f2 ixR (f2 ixR (fVar 0) (fVar 2)) (fVar 6)) (f2 ixR (f2 ixR (fVar 0) (fVar 4)) (fVar 6)))) (fVar 6))))
  (sIf (fTst (f2 eqR (f2 ixR (fVar 0) (fVar 2)) (f2 ixR (fVar 0) (fVar 4)))) (sApp 3 (f2 (cmpR ltP) (fVar 2) (fVar 4))) (sApp 3 (fAndV (f2 eqR (fA lenR (fCons (fVar 5) fNil)) (fC (.int 0))) (f2 isNR (fA (callR [true, true] d_l_conflict) (fCons (f2 ixR (fVar 0) (fVar 2)) (fCons (f2 ixR (fVar 0) (fVar 4)) fNil))) (fC .non)))))))
  (sFrz 3 (sApp 1 (fVar 3))))))
  (sRetV 1)))
def d_l_before : List D → Option Res := runD 7 [true] phi_l_before
def phi_l_scores : Ro → Option Out :=
  (sSeq (sAsg 2 (fA listOfR (fCons (fVar 1) fNil)))
  (sSeq (sFor (iA rng1R (fCons (fA lenR (fCons (fVar 1) fNil)) fNil)) (gaN 3) (sFor (iA rng1R (fCons (fA lenR (fCons (fVar 1) fNil)) fNil)) (gaN 4) (sFor (iA rng1R (fCons (fA lenR (fCons (fVar 1) fNil)) fNil)) (gaN 5) (sIf (fAnd (fTru (f2 ixR (f2 ixR (fVar 0) (fVar 5)) (fVar 4))) (fTst (f2 (cmpR gtP) (f2 addR (f2 ixR (fVar 2) (fVar 5)) (f2 ixR (fVar 1) (fVar 4))) (f2 ixR (fVar 2) (fVar 4))))) (sSetI 2 (fVar 4) (f2 addR (f2 ixR (fVar 2) (fVar 5)) (f2 ixR (fVar 1) (fVar 4)))) sNx))))
  (sRetV 2)))
def d_l_scores : List D → Option Res := runD 6 [true, true] phi_l_scores
def phi_l_chosen : Ro → Option Out :=
  (sSeq (sIf (fTst (f2 eqR (fA lenR (fCons (fVar 2) fNil)) (fC (.int 0)))) (sRet (fA lstR fNil)) sNx)
  (sSeq (sAsg 3 (fIdx (fVar 2) (fCons (fA maxR (fCons (fVar 2) fNil)) fNil)))
  (sSeq (sAsg 4 (fA lstR (fCons (fVar 3) fNil)))
  (sSeq (sFor (iA rng1R (fCons (fA lenR (fCons (fVar 2) fNil)) fNil)) (gaN 5) (sSeq (sAsg 6 (fFz (fLc (iA rng1R (fCons (fA lenR (fCons (fVar 2) fNil)) fNil)) [7] (gaN 7) (fAnd (fTru (f2 ixR (f2 ixR (fVar 0) (fVar 7)) (fVar 3))) (fTst (f2 eqR (f2 ixR (fVar 2) (fVar 7)) (f2 subR (f2 ixR (fVar 2) (fVar 3)) (f2 ixR (fVar 1) (fVar 3)))))) (fVar 7))))
  (sIf (fTst (f2 (cmpR gtP) (fA lenR (fCons (fVar 6) fNil)) (fC (.int 0)))) (sSeq (sAsg 3 (f2 ixR (fVar 6) (fC (.int 0))))
  (sApp 4 (fVar 3))) sNx)))
  (sRet (fA sortedR (fCons (fVar 4) fNil)))))))
def d_l_chosen : List D → Option Res := runD 8 [true, true, true] phi_l_chosen
def phi_l_spoilt_lot : Ro → Option Out :=
  (sSeq (sAsg 3 (f2 modR (fA intR (fCons (f2 ixR (fVar 2) (fC (.int 0))) fNil)) (fC (.int 12))))
  (sSeq (sAsg 4 (fA lenR (fCons (fVar 1) fNil)))
  (sSeq (sAsg 5 (f2 modR (fA intR (fCons (f2 ixR (fVar 2) (fC (.int 1))) fNil)) (f2 addR (fA lenR (fCons (fVar 0) fNil)) (fC (.int 1)))))
  (sSeq (sAsg 6 (f2 modR (fA intR (fCons (f2 ixR (fVar 2) (fC (.int 2))) fNil)) (f2 addR (fVar 4) (fC (.int 1)))))
  (sSeq (sAsg 7 (fFz (fLc (iA rng1R (fCons (fVar 4) fNil)) [8] (gaN 8) (fAnd (fTst (f2 ninR (fVar 8) (fVar 0))) (fTst (f2 (cmpR gtP) (f2 ixR (fVar 1) (fVar 8)) (fC (.int 0))))) (fVar 8))))
  (sSeq (sIf (fTst (f2 eqR (fVar 3) (fC (.int 0)))) (sRet (f2 addR (fSl (fVar 0) fNo (fSm (fVar 5))) (fSl (fVar 0) (fSm (f2 addR (fVar 5) (fC (.int 1)))) fNo))) sNx)
  (sSeq (sIf (fTst (f2 eqR (fVar 3) (fC (.int 1)))) (sRet (fA sortedR (fCons (f2 addR (fVar 0) (fA lstR (fCons (fVar 6) fNil))) fNil))) sNx)
  (sSeq (sIf (fTst (f2 eqR (fVar 3) (fC (.int 2)))) (sRet (f2 addR (fSl (fVar 0) fNo (fSm (f2 addR (fVar 5) (fC (.int 1))))) (fSl (fVar 0) (fSm (fVar 5)) fNo))) sNx)
  (sSeq (sIf (fTst (f2 eqR (fVar 3) (fC (.int 3)))) (sRet (f2 addR (fA lstR (fCons (f2 subR (fC (.int 0)) (fC (.int 1))) fNil)) (fVar 0))) sNx)
  (sSeq (sIf (fTst (f2 eqR (fVar 3) (fC (.int 4)))) (sRet (f2 addR (fVar 0) (fA lstR (fCons (f2 addR (fVar 4) (f2 mulR (fVar 6) (f2 powR (fC (.int 10)) (fC (.int 20))))) fNil)))) sNx)
  (sSeq (sIf (fTst (f2 eqR (fVar 3) (fC (.int 5)))) (sRet (f2 addR (f2 addR (f2 addR (fSl (fVar 0) fNo (fSm (fVar 5))) (fSl (fVar 0) (fSm (f2 addR (fVar 5) (fC (.int 1)))) (fSm (f2 addR (fVar 5) (fC (.int 2)))))) (fSl (fVar 0) (fSm (fVar 5)) (fSm (f2 addR (fVar 5) (fC (.int 1)))))) (fSl (fVar 0) (fSm (f2 addR (fVar 5) (fC (.int 2)))) fNo))) sNx)
  (sSeq (sIf (fTst (f2 eqR (fVar 3) (fC (.int 6)))) (sRet (f2 addR (f2 addR (fSl (fVar 0) fNo (fSm (fVar 5))) (fA lstR (fCons (fVar 6) fNil))) (fSl (fVar 0) (fSm (f2 addR (fVar 5) (fC (.int 1)))) fNo))) sNx)
  (sSeq (sIf (fTst (f2 eqR (fVar 3) (fC (.int 7)))) (sRet (f2 addR (f2 addR (fSl (fVar 0) fNo (fSm (fVar 5))) (fA lstR (fCons (fVar 6) fNil))) (fSl (fVar 0) (fSm (fVar 5)) fNo))) sNx)
  (sSeq (sIf (fTst (f2 eqR (fVar 3) (fC (.int 8)))) (sRet (f2 addR (fLc (iSq (fFz (fSl (fVar 0) fNo (fSm (fVar 5))))) [9] (gaN 9) fYes (f2 subR (fVar 9) (fVar 4))) (fSl (fVar 0) (fSm (fVar 5)) fNo))) sNx)
  (sSeq (sIf (fTst (f2 (cmpR gtP) (fA lenR (fCons (fVar 7) fNil)) (fC (.int 0)))) (sRet (fA sortedR (fCons (f2 addR (fVar 0) (fA lstR (fCons (f2 ixR (fVar 7) (f2 modR (fVar 6) (fA lenR (fCons (fVar 7) fNil)))) fNil))) fNil))) sNx)
  (sRetV 0))))))))))))))))
def d_l_spoilt_lot : List D → Option Res := runD 10 [true, true, true] phi_l_spoilt_lot
def phi_l_spoilt_scores : Ro → Option Out :=
  (sSeq (sAsg 3 (f2 modR (fA intR (fCons (f2 ixR (fVar 2) (fC (.int 0))) fNil)) (fC (.int 10))))
  (sSeq (sAsg 4 (f2 addR (fC (.int 1)) (f2 modR (fA intR (fCons (f2 ixR (fVar 2) (fC (.int 2))) fNil)) (fC (.int 3)))))
  (sSeq (sIf (fTst (f2 eqR (fVar 3) (fC (.int 0)))) (sRet (f2 addR (fVar 0) (fA lstR (fCons (f2 modR (fA intR (fCons (f2 ixR (fVar 2) (fC (.int 1))) fNil)) (fC (.int 10))) fNil)))) sNx)
  (sSeq (sIf (fTst (f2 eqR (fVar 3) (fC (.int 1)))) (sRet (fSl (fVar 0) fNo (fSm (f1 negR (fC (.int 1)))))) sNx)
  (sSeq (sIf (fTst (f2 eqR (fVar 3) (fC (.int 2)))) (sRet (fLc (iSq (fVar 0)) [7] (gaN 7) fYes (f2 addR (fVar 7) (fVar 4)))) sNx)
  (sSeq (sIf (fTst (f2 eqR (fA lenR (fCons (fVar 0) fNil)) (fC (.int 0)))) (sRet (fA lstR fNil)) sNx)
  (sSeq (sAsg 5 (f2 modR (fA intR (fCons (f2 ixR (fVar 2) (fC (.int 1))) fNil)) (fA lenR (fCons (fVar 0) fNil))))
  (sSeq (sAsg 6 (fA listOfR (fCons (fVar 0) fNil)))
  (sSeq (sIf (fTst (f2 eqR (fVar 3) (fC (.int 3)))) (sSetI 6 (fVar 5) (f2 addR (f2 ixR (fVar 0) (fVar 5)) (fVar 4))) (sIf (fTst (f2 eqR (fVar 3) (fC (.int 4)))) (sSetI 6 (fVar 5) (f2 subR (f2 ixR (fVar 0) (fVar 5)) (fVar 4))) (sIf (fTst (f2 eqR (fVar 3) (fC (.int 5)))) (sSetI 6 (fVar 5) (f2 subR (f2 ixR (fVar 1) (fVar 5)) (fVar 4))) (sIf (fTst (f2 eqR (fVar 3) (fC (.int 6)))) (sSetI 6 (fVar 5) (f2 ixR (fVar 1) (fVar 5))) (sIf (fTst (f2 eqR (fVar 3) (fC (.int 7)))) (sSetI 6 (fVar 5) (fA maxR (fCons (fVar 0) fNil))) (sIf (fTst (f2 eqR (fVar 3) (fC (.int 8)))) (sRet (fLc (iSq (fVar 0)) [7] (gaN 7) fYes (fC (.int 0)))) sNx))))))
  (sRetV 6))))))))))
def d_l_spoilt_scores : List D → Option Res := runD 8 [true, true, true] phi_l_spoilt_scores
def phi_l_raised : Ro → Option Out :=
  (sSeq (sAsg 3 (fA sumR (fCons (fLc (iSq (fVar 2)) [5] (gaN 5) (fTst (fCh (cmpR leP) (cmpR ltP) (fC (.int 0)) (fVar 5) (fA lenR (fCons (fVar 1) fNil)))) (f2 ixR (fVar 1) (fVar 5))) fNil)))
  (sSeq (sAsg 4 (fA maxR (fCons (f2 addR (fA lstR (fCons (fC (.int 0)) fNil)) (fVar 0)) fNil)))
  (sSeq (sIf (fTst (f2 (cmpR gtP) (fVar 3) (fVar 4))) (sRet (fLc (iSq (fVar 0)) [6] (gaN 6) fYes (f2 subR (f2 addR (fVar 6) (fVar 3)) (fVar 4)))) sNx)
  (sRetV 0))))
def d_l_raised : List D → Option Res := runD 7 [true, true, true] phi_l_raised
def phi_l_due : Ro → Option Out :=
  (sSeq (sFor (iA rng1R (fCons (fA lenR (fCons (fVar 2) fNil)) fNil)) (gaN 4) (sIf (fOr (fTst (f2 (cmpR ltP) (f2 ixR (fVar 2) (fVar 4)) (fC (.int 0)))) (fOr (fTst (f2 (cmpR geP) (f2 ixR (fVar 2) (fVar 4)) (fA lenR (fCons (fVar 1) fNil)))) (fAnd (fTst (f2 (cmpR gtP) (fVar 4) (fC (.int 0)))) (fTst (f2 (cmpR geP) (f2 ixR (fVar 2) (f2 subR (fVar 4) (fC (.int 1)))) (f2 ixR (fVar 2) (fVar 4))))))) (sRet (fC (.bl false))) sNx))
  (sSeq (sFor (iA rng1R (fCons (fA lenR (fCons (fVar 2) fNil)) fNil)) (gaN 4) (sFor (iSq (fFz (fSl (fVar 2) fNo (fSm (fVar 4))))) (gaN 5) (sIf (fAnd (fNot (fTru (f2 ixR (f2 ixR (fVar 0) (fVar 5)) (f2 ixR (fVar 2) (fVar 4))))) (fNot (fTru (f2 ixR (f2 ixR (fVar 0) (f2 ixR (fVar 2) (fVar 4))) (fVar 5))))) (sRet (fC (.bl false))) sNx)))
  (sSeq (sIf (fTst (f2 neR (fA lenR (fCons (fVar 3) fNil)) (fA lenR (fCons (fVar 1) fNil)))) (sRet (fC (.bl false))) sNx)
  (sSeq (sFor (iA rng1R (fCons (fA lenR (fCons (fVar 1) fNil)) fNil)) (gaN 6) (sSeq (sAsg 7 (fFz (fLc (iA rng1R (fCons (fA lenR (fCons (fVar 1) fNil)) fNil)) [5] (gaN 5) (fAnd (fTru (f2 ixR (f2 ixR (fVar 0) (fVar 5)) (fVar 6))) (fTst (f2 (cmpR gtP) (f2 ixR (fVar 3) (fVar 5)) (f2 subR (f2 ixR (fVar 3) (fVar 6)) (f2 ixR (fVar 1) (fVar 6)))))) (f2 ixR (fVar 3) (fVar 5)))))
  (sIf (fOr (fTst (f2 (cmpR ltP) (f2 ixR (fVar 3) (fVar 6)) (f2 ixR (fVar 1) (fVar 6)))) (fTst (f2 (cmpR gtP) (fA lenR (fCons (fVar 7) fNil)) (fC (.int 0))))) (sRet (fC (.bl false))) sNx)))
  (sRet (f2 eqR (fA sumR (fCons (fLc (iSq (fVar 2)) [4] (gaN 4) fYes (f2 ixR (fVar 1) (fVar 4))) fNil)) (fA maxR (fCons (f2 addR (fA lstR (fCons (fC (.int 0)) fNil)) (fVar 3)) fNil))))))))
def d_l_due : List D → Option Res := runD 8 [true, true, true, true] phi_l_due
def phi_LAW : Ro → Option Out :=
  (sSeq (sAsg 1 (fA (callR [true, true] d_l_world) (fCons (fA (callR [false, true] d_l_cell) (fCons (fVar 0) (fCons (fC (.int 0)) fNil))) (fCons (fC (.bl false)) fNil))))
  (sSeq (sAsg 2 (fFz (fA (callR [true, true, true] d_l_ways) (fCons (fVar 1) (fCons (fA (callR [false, true] d_l_cell) (fCons (fVar 0) (fCons (fC (.int 1)) fNil))) (fCons (fFz (fA (callR [true, true] d_l_draws) (fCons (fA (callR [false, true] d_l_cell) (fCons (fVar 0) (fCons (fC (.int 4)) fNil))) (fCons (fC (.int 5)) fNil)))) fNil))))))
  (sSeq (sAsg 3 (fFz (fA (callR [true, true] d_l_values) (fCons (fA (callR [false, true] d_l_cell) (fCons (fVar 0) (fCons (fC (.int 2)) fNil))) (fCons (fA lenR (fCons (fVar 2) fNil)) fNil)))))
  (sSeq (sAsg 4 (fFz (fA (callR [true] d_l_before) (fCons (fVar 2) fNil))))
  (sSeq (sAsg 5 (fFz (fA (callR [true, true] d_l_scores) (fCons (fVar 4) (fCons (fVar 3) fNil)))))
  (sSeq (sAsg 6 (fFz (fA (callR [true, true, true] d_l_chosen) (fCons (fVar 4) (fCons (fVar 3) (fCons (fVar 5) fNil))))))
  (sSeq (sAsg 7 (fFz (fA (callR [true, true] d_l_draws) (fCons (fA (callR [false, true] d_l_cell) (fCons (fVar 0) (fCons (fC (.int 3)) fNil))) (fCons (fC (.int 8)) fNil)))))
  (sSeq (sAsg 8 (f2 modR (fA intR (fCons (f2 ixR (fVar 7) (fC (.int 6))) fNil)) (fC (.int 8))))
  (sSeq (sAsg 9 (fVar 6))
  (sSeq (sAsg 10 (fVar 5))
  (sSeq (sIf (fTst (fCh (cmpR ltP) (cmpR ltP) (fC (.int 0)) (fVar 8) (fC (.int 5)))) (sAsg 9 (fFz (fA (callR [true, true, true] d_l_spoilt_lot) (fCons (fVar 6) (fCons (fVar 3) (fCons (fFz (fSl (fVar 7) fNo (fSm (fC (.int 3))))) fNil)))))) sNx)
  (sSeq (sIf (fTst (f2 (cmpR gtP) (fVar 8) (fC (.int 3)))) (sAsg 10 (fFz (fA (callR [true, true, true] d_l_spoilt_scores) (fCons (fVar 5) (fCons (fVar 3) (fCons (fFz (fSl (fVar 7) (fSm (fC (.int 3))) (fSm (fC (.int 6))))) fNil)))))) (sIf (fTst (f2 (cmpR gtP) (f2 modR (fA intR (fCons (f2 ixR (fVar 7) (fC (.int 7))) fNil)) (fC (.int 4))) (fC (.int 0)))) (sAsg 10 (fFz (fA (callR [true, true, true] d_l_raised) (fCons (fVar 5) (fCons (fVar 3) (fCons (fVar 9) fNil)))))) sNx))
  (sSeq (sAsg 11 (fA (callR [true, true, true, true] d_l_due) (fCons (fVar 4) (fCons (fVar 3) (fCons (fVar 9) (fCons (fVar 10) fNil))))))
  (sSeq (sAsg 12 (fFz (fLc (iSq (fVar 2)) [16] (gaN 16) fYes (fFz (fA listOfR (fCons (fVar 16) fNil))))))
  (sSeq (sAsg 13 (fFz (fA lstR (fCons (fFz (fA listOfR (fCons (fVar 3) fNil))) (fCons (fFz (fA listOfR (fCons (fVar 9) fNil))) (fCons (fFz (fA listOfR (fCons (fVar 10) fNil))) fNil))))))
  (sSeq (sAsg 14 (fA (callR [true, true, true, true] d_lot_holds) (fCons (fVar 12) (fCons (f2 ixR (fVar 13) (fC (.int 0))) (fCons (f2 ixR (fVar 13) (fC (.int 1))) (fCons (f2 ixR (fVar 13) (fC (.int 2))) fNil))))))
  (sSeq (sIf (fOr (fNot (fTru (fA (callR [true, true] d_l_same) (fCons (fVar 14) (fCons (fVar 11) fNil))))) (fOr (fTst (f2 neR (fVar 12) (fLc (iSq (fVar 2)) [16] (gaN 16) fYes (fFz (fA listOfR (fCons (fVar 16) fNil)))))) (fTst (f2 neR (fVar 13) (fA lstR (fCons (fVar 3) (fCons (fVar 9) (fCons (fVar 10) fNil)))))))) (sRet (fC (.bl false))) sNx)
  (sSeq (sIf (fNot (fTru (fA (callR [true, true] d_l_same) (fCons (fA (callR [true, true, true, true] d_lot_holds) (fCons (fVar 12) (fCons (fFz (fA listOfR (fCons (fVar 3) fNil))) (fCons (fFz (fA listOfR (fCons (fVar 6) fNil))) (fCons (fFz (fA listOfR (fCons (fVar 5) fNil))) fNil))))) (fCons (fC (.bl true)) fNil))))) (sRet (fC (.bl false))) sNx)
  (sSeq (sIf (fNot (fTru (fA (callR [true, true] d_l_same) (fCons (fA (callR [true, true, true, true] d_lot_holds) (fCons (fA tupOfR (fCons (fVar 2) fNil)) (fCons (fA tupOfR (fCons (fVar 3) fNil)) (fCons (fA tupOfR (fCons (fVar 9) fNil)) (fCons (fA tupOfR (fCons (fVar 10) fNil)) fNil))))) (fCons (fVar 11) fNil))))) (sRet (fC (.bl false))) sNx)
  (sSeq (sAsg 15 (fFz (fLc (iA rng1R (fCons (fA lenR (fCons (fVar 2) fNil)) fNil)) [17] (gaN 17) fYes (fFz (fIf (fTst (f2 eqR (f2 modR (fVar 17) (fC (.int 2))) (fC (.int 0)))) (fA listOfR (fCons (f2 ixR (fVar 2) (fVar 17)) fNil)) (f2 ixR (fVar 2) (fVar 17)))))))
  (sRet (fA (callR [true, true] d_l_same) (fCons (fA (callR [true, true, true, true] d_lot_holds) (fCons (fVar 15) (fCons (f2 ixR (fVar 13) (fC (.int 0))) (fCons (f2 ixR (fVar 13) (fC (.int 1))) (fCons (f2 ixR (fVar 13) (fC (.int 2))) fNil))))) (fCons (fVar 11) fNil))))))))))))))))))))))))
def d_LAW : List D → Option Res := runD 18 [false] phi_LAW
end Lw

set_option Elab.async false
set_option linter.all false
set_option maxRecDepth 100000
namespace Lw
open PySem PySem.Spec PyProof.Rows L2 Fx
set_option maxHeartbeats 4000000
def topS (i : Nat) : Stmt := PySem.Challenge.pw_meetonce_k15_lot_held.main.body.getD i (.Pass ⟨0, 0, 0, 0⟩)
structure Zs (mg : Str → Option Value) : Prop where
  z_all : mg "all" = none
  z_bool : mg "bool" = none
  z_int : mg "int" = none
  z_isinstance : mg "isinstance" = none
  z_len : mg "len" = none
  z_list : mg "list" = none
  z_max : mg "max" = none
  z_range : mg "range" = none
  z_sorted : mg "sorted" = none
  z_str : mg "str" = none
  z_sum : mg "sum" = none
  z_tuple : mg "tuple" = none
  z_zip : mg "zip" = none
theorem bt_all : bootBuiltins "all" = some (.builtin "all") := by decide +kernel
theorem bt_bool : bootBuiltins "bool" = some (.type "bool") := by decide +kernel
theorem bt_int : bootBuiltins "int" = some (.type "int") := by decide +kernel
theorem bt_len : bootBuiltins "len" = some (.builtin "len") := by decide +kernel
theorem bt_list : bootBuiltins "list" = some (.type "list") := by decide +kernel
theorem bt_max : bootBuiltins "max" = some (.builtin "max") := by decide +kernel
theorem bt_range : bootBuiltins "range" = some (.type "range") := by decide +kernel
theorem bt_sorted : bootBuiltins "sorted" = some (.builtin "sorted") := by decide +kernel
theorem bt_str : bootBuiltins "str" = some (.type "str") := by decide +kernel
theorem bt_sum : bootBuiltins "sum" = some (.builtin "sum") := by decide +kernel
theorem bt_tuple : bootBuiltins "tuple" = some (.type "tuple") := by decide +kernel
section
variable {P : Program} {w : World} {K : PySem.W.Frag} {mg : Str → Option Value} {base : Heap} {c : Str → Option Addr}
abbrev s_shared_places : Stmt := topS 1
theorem sc_shared_places : FnScope ["first", "second", "place"] ["first", "second"] (defScope s_shared_places) := ⟨rfl, rfl, rfl, by decide +kernel, rfl, by decide +kernel, by decide +kernel⟩
theorem ok_shared_places {f : Addr} {fd : FuncData} (F : Fun K "shared_places" "shared_places" s_shared_places f fd) (Z : Zs mg) : FnOk P w K mg base CX0 1 f fd ["first", "second"] (spP ⟨K, c, P, w⟩ [true, true] d_shared_places) :=
  fun_okd (c := c) (Φ := phi_shared_places) F sc_shared_places rfl rfl fun b cdv A outer s H E hr => (xone (xret (xct call_tuple_ofF g_tupOf (by rfl) Z.z_tuple bt_tuple (xcons (xlc (pe_lc (own := [("place", 2)]) rfl sc_shared_places.nd (xi_seq (xv 0)) (blkOk_by (own := [("place", 2)]) (N := ["first", "second", "place"]) (sc := defScope s_shared_places) (by decide +kernel)) (fun _ _ _ _ _ => (pg_name (i := 2) sc_shared_places.nd rfl (by first | exact Or.inl rfl | exact Or.inr rfl))) (fun _ _ _ _ _ => (pts_one (xtc op_in_seq g_in (xv 2) (xv 1) (by rfl)))) (fun _ _ _ _ _ => (xv 2))) (tg_name 2) (by decide)) xnil))))
abbrev s_place_after : Stmt := topS 3
theorem sc_place_after : FnScope ["route", "place"] ["route", "place"] (defScope s_place_after) := ⟨rfl, rfl, rfl, by decide +kernel, rfl, by decide +kernel, by decide +kernel⟩
theorem ok_place_after {f : Addr} {fd : FuncData} (F : Fun K "_place_after" "_place_after" s_place_after f fd) (Z : Zs mg) : FnOk P w K mg base CX0 1 f fd ["route", "place"] (spP ⟨K, c, P, w⟩ [true, true] d_place_after) :=
  fun_okd (c := c) (Φ := phi_place_after) F sc_place_after rfl rfl fun b cdv A outer s H E hr => (xone (xret (xix (xv 0) (xop op_addU g_add (xidx (pe_idx (xv 0) (xcons (xv 1) xnil))) xint))))
abbrev s_conflict : Stmt := topS 2
theorem sc_conflict : FnScope ["first", "second", "shared", "split", "meeting"] ["first", "second"] (defScope s_conflict) := ⟨rfl, rfl, rfl, by decide +kernel, rfl, by decide +kernel, by decide +kernel⟩
theorem ok_conflict {f : Addr} {fd : FuncData} (F : Fun K "conflict" "conflict" s_conflict f fd) (Z : Zs mg) (C_shared_places : Cal P w K mg base 1 "shared_places" ["first", "second"] (spP ⟨K, c, P, w⟩ [true, true] d_shared_places)) (C_place_after : Cal P w K mg base 1 "_place_after" ["route", "place"] (spP ⟨K, c, P, w⟩ [true, true] d_place_after)) : FnOk P w K mg base CX0 2 f fd ["first", "second"] (spP ⟨K, c, P, w⟩ [true, true] d_conflict) :=
  fun_okd (c := c) (Φ := phi_conflict) F sc_conflict rfl rfl fun b cdv A outer s H E hr => (xseq (xset (i := 2) sc_conflict.nd rfl (by first | exact Or.inl rfl | exact Or.inr rfl) (xcallC C_shared_places (hr.mono (by decide)) (by rfl) (xcons (xv 0) (xcons (xv 1) xnil))))
    (xseq (xfor PassesOwn.never rfl (xi_zip (pi_zipM (by rfl) Z.z_zip (xcons (xv 2) (xcons (xfz (xsl (xv 2) (xsm xint) xno)) xnil)))) (pg_tup (n := 2) rfl (pgs_cons (pg_name (i := 3) sc_conflict.nd rfl (by first | exact Or.inl rfl | exact Or.inr rfl)) (pgs_cons (pg_name (i := 4) sc_conflict.nd rfl (by first | exact Or.inl rfl | exact Or.inr rfl)) pgs_nil))) (tg_tup (tgs_cons (tg_name 3) (tgs_cons (tg_name 4) tgs_nil))) (xone (xifs (xtc (op_neD hr.units) g_ne (xcallC C_place_after (hr.mono (by decide)) (by rfl) (xcons (xv 0) (xcons (xv 3) xnil))) (xcallC C_place_after (hr.mono (by decide)) (by rfl) (xcons (xv 1) (xcons (xv 3) xnil))) (nomark _)) (xone (xret (xtup (xcons (xv 3) (xcons (xv 4) xnil))))) xnx)))
    (xone (xret xnon))))
abbrev s_nowhere_right : Stmt := topS 4
theorem sc_nowhere_right : FnScope ["first", "second", "left", "right"] ["first", "second"] (defScope s_nowhere_right) := ⟨rfl, rfl, rfl, by decide +kernel, rfl, by decide +kernel, by decide +kernel⟩
theorem ok_nowhere_right {f : Addr} {fd : FuncData} (F : Fun K "nowhere_right" "nowhere_right" s_nowhere_right f fd) (Z : Zs mg) : FnOk P w K mg base CX0 1 f fd ["first", "second"] (spP ⟨K, c, P, w⟩ [true, true] d_nowhere_right) :=
  fun_okd (c := c) (Φ := phi_nowhere_right) F sc_nowhere_right rfl rfl fun b cdv A outer s H E hr => (xone (xret (xcb (cr_all rfl) g_all (by rfl) Z.z_all bt_all (xcons (xlc (pe_lc (own := [("left", 2), ("right", 3)]) rfl sc_nowhere_right.nd (xi_zip (pi_zipM (by rfl) Z.z_zip (xcons (xv 0) (xcons (xv 1) xnil)))) (blkOk_by (own := [("left", 2), ("right", 3)]) (N := ["first", "second", "left", "right"]) (sc := defScope s_nowhere_right) (by decide +kernel)) (fun _ _ _ _ _ => (pg_tup (n := 2) rfl (pgs_cons (pg_name (i := 2) sc_nowhere_right.nd rfl (by first | exact Or.inl rfl | exact Or.inr rfl)) (pgs_cons (pg_name (i := 3) sc_nowhere_right.nd rfl (by first | exact Or.inl rfl | exact Or.inr rfl)) pgs_nil)))) (fun _ _ _ _ _ => xyes) (fun _ _ _ _ _ => (xcmp op_le (g_cmp (p := leP)) (xv 2) (xv 3) (nomark _)))) (tg_tup (tgs_cons (tg_name 2) (tgs_cons (tg_name 3) tgs_nil))) (by decide)) xnil))))
abbrev s_beside : Stmt := topS 5
theorem sc_beside : FnScope ["first", "second"] ["first", "second"] (defScope s_beside) := ⟨rfl, rfl, rfl, by decide +kernel, rfl, by decide +kernel, by decide +kernel⟩
theorem ok_beside {f : Addr} {fd : FuncData} (F : Fun K "beside" "beside" s_beside f fd) (Z : Zs mg) (C_nowhere_right : Cal P w K mg base 1 "nowhere_right" ["first", "second"] (spP ⟨K, c, P, w⟩ [true, true] d_nowhere_right)) (C_conflict : Cal P w K mg base 2 "conflict" ["first", "second"] (spP ⟨K, c, P, w⟩ [true, true] d_conflict)) : FnOk P w K mg base CX0 3 f fd ["first", "second"] (spP ⟨K, c, P, w⟩ [true, true] d_beside) :=
  fun_okd (c := c) (Φ := phi_beside) F sc_beside rfl rfl fun b cdv A outer s H E hr => (xone (xret (xandV (xcallC C_nowhere_right (hr.mono (by decide)) (by rfl) (xcons (xv 0) (xcons (xv 1) xnil))) (pe_one (xcmp op_isN g_isN (xcallC C_conflict (hr.mono (by decide)) (by rfl) (xcons (xv 0) (xcons (xv 1) xnil))) xnon (nomark _))))))
abbrev s_comes_before : Stmt := topS 7
theorem sc_comes_before : FnScope ["routes", "first", "second"] ["routes", "first", "second"] (defScope s_comes_before) := ⟨rfl, rfl, rfl, by decide +kernel, rfl, by decide +kernel, by decide +kernel⟩
theorem ok_comes_before {f : Addr} {fd : FuncData} (F : Fun K "_comes_before" "_comes_before" s_comes_before f fd) (Z : Zs mg) (C_beside : Cal P w K mg base 3 "beside" ["first", "second"] (spP ⟨K, c, P, w⟩ [true, true] d_beside)) : FnOk P w K mg base CX0 4 f fd ["routes", "first", "second"] (spP ⟨K, c, P, w⟩ [true, true, true] d_comes_before) :=
  fun_okd (c := c) (Φ := phi_comes_before) F sc_comes_before rfl rfl fun b cdv A outer s H E hr => (xseq (xifs (xtc (op_eqD hr.units) g_eq (xix (xv 0) (xv 1)) (xix (xv 0) (xv 2)) (nomark _)) (xone (xret (xcmp op_lt (g_cmp (p := ltP)) (xv 1) (xv 2) (nomark _)))) xnx)
    (xone (xret (xcallC C_beside (hr.mono (by decide)) (by rfl) (xcons (xix (xv 0) (xv 1)) (xcons (xix (xv 0) (xv 2)) xnil))))))
abbrev s_is_lot : Stmt := topS 9
theorem sc_is_lot : FnScope ["routes", "lot", "index", "first", "second"] ["routes", "lot"] (defScope s_is_lot) := ⟨rfl, rfl, rfl, by decide +kernel, rfl, by decide +kernel, by decide +kernel⟩
theorem ok_is_lot {f : Addr} {fd : FuncData} (F : Fun K "_is_lot" "_is_lot" s_is_lot f fd) (Z : Zs mg) (C_comes_before : Cal P w K mg base 4 "_comes_before" ["routes", "first", "second"] (spP ⟨K, c, P, w⟩ [true, true, true] d_comes_before)) : FnOk P w K mg base CX0 5 f fd ["routes", "lot"] (spP ⟨K, c, P, w⟩ [true, true] d_is_lot) :=
  fun_okd (c := c) (Φ := phi_is_lot) F sc_is_lot rfl rfl fun b cdv A outer s H E hr => (xseq (xifs (xnot (xtru (xcb (cr_all rfl) g_all (by rfl) Z.z_all bt_all (xcons (xlc (pe_lc (own := [("index", 2)]) rfl sc_is_lot.nd (xi_seq (xv 1)) (blkOk_by (own := [("index", 2)]) (N := ["routes", "lot", "index", "first", "second"]) (sc := defScope s_is_lot) (by decide +kernel)) (fun _ _ _ _ _ => (pg_name (i := 2) sc_is_lot.nd rfl (by first | exact Or.inl rfl | exact Or.inr rfl))) (fun _ _ _ _ _ => xyes) (fun _ _ _ _ _ => (xchain op_le op_lt (g_cmp (p := leP)) (g_cmp (p := ltP)) xint (xv 2) (xcb call_len g_len (by rfl) Z.z_len bt_len (xcons (xv 0) xnil))))) (tg_name 2) (by decide)) xnil)))) (xone (xret xbl)) xnx)
    (xseq (xifs (xnot (xtru (xcb (cr_all rfl) g_all (by rfl) Z.z_all bt_all (xcons (xlc (pe_lc (own := [("first", 3), ("second", 4)]) rfl sc_is_lot.nd (xi_zip (pi_zipM (by rfl) Z.z_zip (xcons (xv 1) (xcons (xfz (xsl (xv 1) (xsm xint) xno)) xnil)))) (blkOk_by (own := [("first", 3), ("second", 4)]) (N := ["routes", "lot", "index", "first", "second"]) (sc := defScope s_is_lot) (by decide +kernel)) (fun _ _ _ _ _ => (pg_tup (n := 2) rfl (pgs_cons (pg_name (i := 3) sc_is_lot.nd rfl (by first | exact Or.inl rfl | exact Or.inr rfl)) (pgs_cons (pg_name (i := 4) sc_is_lot.nd rfl (by first | exact Or.inl rfl | exact Or.inr rfl)) pgs_nil)))) (fun _ _ _ _ _ => xyes) (fun _ _ _ _ _ => (xcmp op_lt (g_cmp (p := ltP)) (xv 3) (xv 4) (nomark _)))) (tg_tup (tgs_cons (tg_name 3) (tgs_cons (tg_name 4) tgs_nil))) (by decide)) xnil)))) (xone (xret xbl)) xnx)
    (xone (xret (xcb (cr_all rfl) g_all (by rfl) Z.z_all bt_all (xcons (xlcD (pe_lc2 (own := [("first", 3), ("second", 4)]) (vs1 := [4]) rfl sc_is_lot.nd (xi_seq (xv 1)) (blkOk_by (own := [("first", 3), ("second", 4)]) (N := ["routes", "lot", "index", "first", "second"]) (sc := defScope s_is_lot) (by decide +kernel)) (by decide) (fun _ _ _ _ _ => (pg_name (i := 3) sc_is_lot.nd rfl (by first | exact Or.inl rfl | exact Or.inr rfl))) (fun _ _ _ _ _ => xyes) (fun _ _ _ _ _ => (xi_seq (xv 1))) (fun _ _ _ _ _ => (pg_name (i := 4) sc_is_lot.nd rfl (by first | exact Or.inl rfl | exact Or.inr rfl))) (fun _ _ _ _ _ => (pts_one (xtc op_lt (g_cmp (p := ltP)) (xv 3) (xv 4) (nomark _)))) (fun _ _ _ _ _ => (xorV (xcallC C_comes_before (hr.mono (by decide)) (by rfl) (xcons (xv 0) (xcons (xv 3) (xcons (xv 4) xnil)))) (pe_one (xcallC C_comes_before (hr.mono (by decide)) (by rfl) (xcons (xv 0) (xcons (xv 4) (xcons (xv 3) xnil)))))))) (th_name 3) (by decide) (th_name 4) (by decide)) xnil))))))
abbrev s_are_marks : Stmt := topS 10
theorem sc_are_marks : FnScope ["routes", "worths", "marks", "indexes", "worth", "mark", "first", "second"] ["routes", "worths", "marks"] (defScope s_are_marks) := ⟨rfl, rfl, rfl, by decide +kernel, rfl, by decide +kernel, by decide +kernel⟩
theorem ok_are_marks {f : Addr} {fd : FuncData} (F : Fun K "_are_marks" "_are_marks" s_are_marks f fd) (Z : Zs mg) (C_comes_before : Cal P w K mg base 4 "_comes_before" ["routes", "first", "second"] (spP ⟨K, c, P, w⟩ [true, true, true] d_comes_before)) : FnOk P w K mg base CX0 5 f fd ["routes", "worths", "marks"] (spP ⟨K, c, P, w⟩ [true, true, true] d_are_marks) :=
  fun_okd (c := c) (Φ := phi_are_marks) F sc_are_marks rfl rfl fun b cdv A outer s H E hr => (xseq (xifs (PW.pt (xor (xtc (op_neD hr.units) g_ne (xcb call_len g_len (by rfl) Z.z_len bt_len (xcons (xv 2) xnil)) (xcb call_len g_len (by rfl) Z.z_len bt_len (xcons (xv 0) xnil)) (nomark _)) (pw_or1 (xnot (xtru (xcb (cr_all rfl) g_all (by rfl) Z.z_all bt_all (xcons (xlc (pe_lc (own := [("worth", 4), ("mark", 5)]) rfl sc_are_marks.nd (xi_zip (pi_zipM (by rfl) Z.z_zip (xcons (xv 1) (xcons (xv 2) xnil)))) (blkOk_by (own := [("worth", 4), ("mark", 5)]) (N := ["routes", "worths", "marks", "indexes", "worth", "mark", "first", "second"]) (sc := defScope s_are_marks) (by decide +kernel)) (fun _ _ _ _ _ => (pg_tup (n := 2) rfl (pgs_cons (pg_name (i := 4) sc_are_marks.nd rfl (by first | exact Or.inl rfl | exact Or.inr rfl)) (pgs_cons (pg_name (i := 5) sc_are_marks.nd rfl (by first | exact Or.inl rfl | exact Or.inr rfl)) pgs_nil)))) (fun _ _ _ _ _ => xyes) (fun _ _ _ _ _ => (xcmp op_le (g_cmp (p := leP)) (xv 4) (xv 5) (nomark _)))) (tg_tup (tgs_cons (tg_name 4) (tgs_cons (tg_name 5) tgs_nil))) (by decide)) xnil))))))) (xone (xret xbl)) xnx)
    (xseq (xset (i := 3) sc_are_marks.nd rfl (by first | exact Or.inl rfl | exact Or.inr rfl) (xct cr_rangeV g_rangeV (by rfl) Z.z_range bt_range (xcons (xcb call_len g_len (by rfl) Z.z_len bt_len (xcons (xv 0) xnil)) xnil)))
    (xone (xret (xcb (cr_all rfl) g_all (by rfl) Z.z_all bt_all (xcons (xlcD (pe_lc2 (own := [("first", 6), ("second", 7)]) (vs1 := [7]) rfl sc_are_marks.nd (xi_rgv (xv 3)) (blkOk_by (own := [("first", 6), ("second", 7)]) (N := ["routes", "worths", "marks", "indexes", "worth", "mark", "first", "second"]) (sc := defScope s_are_marks) (by decide +kernel)) (by decide) (fun _ _ _ _ _ => (pg_name (i := 6) sc_are_marks.nd rfl (by first | exact Or.inl rfl | exact Or.inr rfl))) (fun _ _ _ _ _ => xyes) (fun _ _ _ _ _ => (xi_rgv (xv 3))) (fun _ _ _ _ _ => (pg_name (i := 7) sc_are_marks.nd rfl (by first | exact Or.inl rfl | exact Or.inr rfl))) (fun _ _ _ _ _ => (pts_one (xtru (xcallC C_comes_before (hr.mono (by decide)) (by rfl) (xcons (xv 0) (xcons (xv 6) (xcons (xv 7) xnil))))))) (fun _ _ _ _ _ => (xcmp op_ge (g_cmp (p := geP)) (xop op_sub g_sub (xix (xv 2) (xv 7)) (xix (xv 1) (xv 7))) (xix (xv 2) (xv 6)) (nomark _)))) (th_name 6) (by decide) (th_name 7) (by decide)) xnil))))))
abbrev s_lot_holds : Stmt := topS 8
theorem sc_lot_holds : FnScope ["routes", "worths", "lot", "marks", "listed", "route", "index"] ["routes", "worths", "lot", "marks"] (defScope s_lot_holds) := ⟨rfl, rfl, rfl, by decide +kernel, rfl, by decide +kernel, by decide +kernel⟩
theorem ok_lot_holds {f : Addr} {fd : FuncData} (F : Fun K "lot_holds" "lot_holds" s_lot_holds f fd) (Z : Zs mg) (C_is_lot : Cal P w K mg base 5 "_is_lot" ["routes", "lot"] (spP ⟨K, c, P, w⟩ [true, true] d_is_lot)) (C_are_marks : Cal P w K mg base 5 "_are_marks" ["routes", "worths", "marks"] (spP ⟨K, c, P, w⟩ [true, true, true] d_are_marks)) : FnOk P w K mg base CX0 6 f fd ["routes", "worths", "lot", "marks"] (spP ⟨K, c, P, w⟩ [true, true, true, true] d_lot_holds) :=
  fun_okd (c := c) (Φ := phi_lot_holds) F sc_lot_holds rfl rfl fun b cdv A outer s H E hr => (xseq (by first | exact (xlcsz (ps_setLc (i := 4) (own := [("route", 5)]) rfl sc_lot_holds.nd rfl rfl (sw_true rfl rfl rfl (by decide +kernel)) (xi_seq (xv 0)) (blkOk_by (own := [("route", 5)]) (N := ["routes", "worths", "lot", "marks", "listed", "route", "index"]) (sc := defScope s_lot_holds) (by decide +kernel)) (fun _ _ _ _ _ => (pg_name (i := 5) sc_lot_holds.nd rfl (by first | exact Or.inl rfl | exact Or.inr rfl))) (fun _ _ _ _ _ => xyes) (fun _ _ _ _ _ => (xct call_tuple_ofF g_tupOf (by rfl) Z.z_tuple bt_tuple (xcons (xv 5) xnil)))) (tg_name 5) (by decide)) | exact (xset (i := 4) sc_lot_holds.nd rfl (by first | exact Or.inl rfl | exact Or.inr rfl) (xfz (xlc (pe_lc (own := [("route", 5)]) rfl sc_lot_holds.nd (xi_seq (xv 0)) (blkOk_by (own := [("route", 5)]) (N := ["routes", "worths", "lot", "marks", "listed", "route", "index"]) (sc := defScope s_lot_holds) (by decide +kernel)) (fun _ _ _ _ _ => (pg_name (i := 5) sc_lot_holds.nd rfl (by first | exact Or.inl rfl | exact Or.inr rfl))) (fun _ _ _ _ _ => xyes) (fun _ _ _ _ _ => (xct call_tuple_ofF g_tupOf (by rfl) Z.z_tuple bt_tuple (xcons (xv 5) xnil)))) (tg_name 5) (by decide)))))
    (xseq (xifs (PW.pt (xor (xnot (xtru (xcallC C_is_lot (hr.mono (by decide)) (by rfl) (xcons (xv 4) (xcons (xv 2) xnil))))) (pw_or1 (xnot (xtru (xcallC C_are_marks (hr.mono (by decide)) (by rfl) (xcons (xv 4) (xcons (xv 1) (xcons (xv 3) xnil))))))))) (xone (xret xbl)) xnx)
    (xone (xret (xcmp (op_eqD hr.units) g_eq (xcb (cr_sum rfl) g_sum (by rfl) Z.z_sum bt_sum (xcons (xlc (pe_lc (own := [("index", 6)]) rfl sc_lot_holds.nd (xi_seq (xv 2)) (blkOk_by (own := [("index", 6)]) (N := ["routes", "worths", "lot", "marks", "listed", "route", "index"]) (sc := defScope s_lot_holds) (by decide +kernel)) (fun _ _ _ _ _ => (pg_name (i := 6) sc_lot_holds.nd rfl (by first | exact Or.inl rfl | exact Or.inr rfl))) (fun _ _ _ _ _ => xyes) (fun _ _ _ _ _ => (xix (xv 1) (xv 6)))) (tg_name 6) (by decide)) xnil)) (xdef (cr_maxd rfl (hu_of hr)) (by rfl) Z.z_max bt_max (xv 3) xint) (nomark _))))))
abbrev s_l_cell : Stmt := topS 12
theorem sc_l_cell : FnScope ["script", "k"] ["script", "k"] (defScope s_l_cell) := ⟨rfl, rfl, rfl, by decide +kernel, rfl, by decide +kernel, by decide +kernel⟩
theorem ok_l_cell {f : Addr} {fd : FuncData} (F : Fun K "_law_cell" "_law_cell" s_l_cell f fd) (Z : Zs mg) : FnOk P w K mg base CX0 1 f fd ["script", "k"] (spP ⟨K, c, P, w⟩ [false, true] d_l_cell) :=
  fun_okd (c := c) (Φ := phi_l_cell) F sc_l_cell rfl rfl fun b cdv A outer s H E hr => (xseq (xifs (xtc op_lt (g_cmp (p := ltP)) (xv 1) (xcb call_len g_len (by rfl) Z.z_len bt_len (xcons (xv 0) xnil)) (nomark _)) (xone (xret (xix (xv 0) (xv 1)))) xnx)
    (xone (xret xint)))
abbrev s_l_draws : Stmt := topS 13
theorem sc_l_draws : FnScope ["cell", "many", "rest", "draws", "k", "mixed"] ["cell", "many"] (defScope s_l_draws) := ⟨rfl, rfl, rfl, by decide +kernel, rfl, by decide +kernel, by decide +kernel⟩
theorem ok_l_draws {f : Addr} {fd : FuncData} (F : Fun K "_law_draws" "_law_draws" s_l_draws f fd) (Z : Zs mg) : FnOk P w K mg base CX0 1 f fd ["cell", "many"] (spP ⟨K, c, P, w⟩ [true, true] d_l_draws) :=
  fun_okd (c := c) (Φ := phi_l_draws) F sc_l_draws rfl rfl fun b cdv A outer s H E hr => (xseq (xset (i := 2) sc_l_draws.nd rfl (by first | exact Or.inl rfl | exact Or.inr rfl) xint)
    (xseq (xifs (xtc op_ge (g_cmp (p := geP)) (xv 0) (xop op_pow g_pow xint xint) (nomark _)) (xone (xset (i := 2) sc_l_draws.nd rfl (by first | exact Or.inl rfl | exact Or.inr rfl) (xv 0))) xnx)
    (xseq (xset (i := 3) sc_l_draws.nd rfl (by first | exact Or.inl rfl | exact Or.inr rfl) (xlst xnil))
    (xseq (xfor PassesOwn.never rfl (xi_rng1 (pi_range1 (by rfl) Z.z_range (xcons (xv 1) xnil))) (pg_name (i := 4) sc_l_draws.nd rfl (by first | exact Or.inl rfl | exact Or.inr rfl)) (tg_name 4) (xseq (xifs (xtc op_gt (g_cmp (p := gtP)) (xv 2) xint (nomark _)) (xone (xapp (pe_bm PySem.F.plainAttrs_list PySem.F.slot_list_append PySem.F.type_list_append mt_append (pv 3) (pa_cons (xop op_mod g_mod (xct call_int1 g_int (by rfl) Z.z_int bt_int (xcons (xv 2) xnil)) xint) pa_nil)))) (xseq (xset (i := 5) sc_l_draws.nd rfl (by first | exact Or.inl rfl | exact Or.inr rfl) (xop op_mod g_mod (xct call_int1 g_int (by rfl) Z.z_int bt_int (xcons (xop op_addU g_add (xop op_addU g_add (xv 0) (xop op_mulU g_mul xint (xv 4))) xint) xnil)) xint))
    (xseq (xset (i := 5) sc_l_draws.nd rfl (by first | exact Or.inl rfl | exact Or.inr rfl) (xop op_mod g_mod (xct call_int1 g_int (by rfl) Z.z_int bt_int (xcons (xop op_mulU g_mul (xv 5) (xop op_addU g_add (xv 5) xint)) xnil)) xint))
    (xseq (xset (i := 5) sc_l_draws.nd rfl (by first | exact Or.inl rfl | exact Or.inr rfl) (xop op_mod g_mod (xct call_int1 g_int (by rfl) Z.z_int bt_int (xcons (xop op_addU g_add (xop op_mulU g_mul (xv 5) (xop op_addU g_add (xv 5) xint)) (xop op_mulU g_mul xint (xv 4))) xnil)) xint))
    (xone (xapp (pe_bm PySem.F.plainAttrs_list PySem.F.slot_list_append PySem.F.type_list_append mt_append (pv 3) (pa_cons (xct call_int1 g_int (by rfl) Z.z_int bt_int (xcons (xop op_fdiv g_fdiv (xv 5) xint) xnil)) pa_nil))))))))
    (xone (xset (i := 2) sc_l_draws.nd rfl (by first | exact Or.inl rfl | exact Or.inr rfl) (xop op_fdiv g_fdiv (xv 2) xint)))))
    (xone (xretv (pv 3)))))))
abbrev s_l_widths : Stmt := topS 14
theorem sc_l_widths : FnScope ["draws", "small", "form", "rows", "r"] ["draws", "small"] (defScope s_l_widths) := ⟨rfl, rfl, rfl, by decide +kernel, rfl, by decide +kernel, by decide +kernel⟩
theorem ok_l_widths {f : Addr} {fd : FuncData} (F : Fun K "_law_widths" "_law_widths" s_l_widths f fd) (Z : Zs mg) : FnOk P w K mg base CX0 1 f fd ["draws", "small"] (spP ⟨K, c, P, w⟩ [true, true] d_l_widths) :=
  fun_okd (c := c) (Φ := phi_l_widths) F sc_l_widths rfl rfl fun b cdv A outer s H E hr => (xseq (xset (i := 2) sc_l_widths.nd rfl (by first | exact Or.inl rfl | exact Or.inr rfl) (xop op_mod g_mod (xct call_int1 g_int (by rfl) Z.z_int bt_int (xcons (xix (xv 0) xint) xnil)) xint))
    (xseq (xset (i := 3) sc_l_widths.nd rfl (by first | exact Or.inl rfl | exact Or.inr rfl) (xct call_int1 g_int (by rfl) Z.z_int bt_int (xcons (xix (xv 0) xint) xnil)))
    (xseq (xifs (xtru (xv 1)) (xone (xret (xlc (pe_lc (own := [("r", 4)]) rfl sc_l_widths.nd (xi_rng1 (pi_range1 (by rfl) Z.z_range (xcons (xop op_addU g_add xint (xop op_fdiv g_fdiv (xop op_addU g_add (xop op_mod g_mod (xv 3) xint) xint) xint)) xnil))) (blkOk_by (own := [("r", 4)]) (N := ["draws", "small", "form", "rows", "r"]) (sc := defScope s_l_widths) (by decide +kernel)) (fun _ _ _ _ _ => (pg_name (i := 4) sc_l_widths.nd rfl (by first | exact Or.inl rfl | exact Or.inr rfl))) (fun _ _ _ _ _ => xyes) (fun _ _ _ _ _ => (xop op_addU g_add xint (xop op_fdiv g_fdiv (xop op_addU g_add (xop op_mod g_mod (xct call_int1 g_int (by rfl) Z.z_int bt_int (xcons (xix (xv 0) (xop op_addU g_add xint (xv 4))) xnil)) xint) xint) xint)))) (tg_name 4) (by decide)))) xnx)
    (xseq (xifs (xtc (op_eqD hr.units) g_eq (xv 2) xint (nomark _)) (xone (xret (xlc (pe_lc (own := [("r", 4)]) rfl sc_l_widths.nd (xi_rng1 (pi_range1 (by rfl) Z.z_range (xcons (xop op_addU g_add xint (xop op_mod g_mod (xv 3) xint)) xnil))) (blkOk_by (own := [("r", 4)]) (N := ["draws", "small", "form", "rows", "r"]) (sc := defScope s_l_widths) (by decide +kernel)) (fun _ _ _ _ _ => (pg_name (i := 4) sc_l_widths.nd rfl (by first | exact Or.inl rfl | exact Or.inr rfl))) (fun _ _ _ _ _ => xyes) (fun _ _ _ _ _ => (xop op_addU g_add xint (xop op_fdiv g_fdiv (xop op_addU g_add (xop op_mod g_mod (xct call_int1 g_int (by rfl) Z.z_int bt_int (xcons (xix (xv 0) (xop op_addU g_add xint (xv 4))) xnil)) xint) xint) xint)))) (tg_name 4) (by decide)))) xnx)
    (xseq (xifs (xtc (op_eqD hr.units) g_eq (xv 2) xint (nomark _)) (xone (xret (xlc (pe_lc (own := [("r", 4)]) rfl sc_l_widths.nd (xi_rng1 (pi_range1 (by rfl) Z.z_range (xcons (xop op_addU g_add xint (xop op_mod g_mod (xv 3) xint)) xnil))) (blkOk_by (own := [("r", 4)]) (N := ["draws", "small", "form", "rows", "r"]) (sc := defScope s_l_widths) (by decide +kernel)) (fun _ _ _ _ _ => (pg_name (i := 4) sc_l_widths.nd rfl (by first | exact Or.inl rfl | exact Or.inr rfl))) (fun _ _ _ _ _ => xyes) (fun _ _ _ _ _ => (xop op_addU g_add xint (xop op_mod g_mod (xct call_int1 g_int (by rfl) Z.z_int bt_int (xcons (xix (xv 0) (xop op_addU g_add xint (xv 4))) xnil)) xint)))) (tg_name 4) (by decide)))) xnx)
    (xseq (xifs (xtc (op_eqD hr.units) g_eq (xv 2) xint (nomark _)) (xone (xret (xlc (pe_lc (own := [("r", 4)]) rfl sc_l_widths.nd (xi_rng1 (pi_range1 (by rfl) Z.z_range (xcons (xix (xlst (xcons xint (xcons xint (xcons xint (xcons xint (xcons xint xnil)))))) (xop op_mod g_mod (xv 3) xint)) xnil))) (blkOk_by (own := [("r", 4)]) (N := ["draws", "small", "form", "rows", "r"]) (sc := defScope s_l_widths) (by decide +kernel)) (fun _ _ _ _ _ => (pg_name (i := 4) sc_l_widths.nd rfl (by first | exact Or.inl rfl | exact Or.inr rfl))) (fun _ _ _ _ _ => xyes) (fun _ _ _ _ _ => (xop op_addU g_add xint (xop op_mod g_mod (xct call_int1 g_int (by rfl) Z.z_int bt_int (xcons (xix (xv 0) (xop op_addU g_add xint (xv 4))) xnil)) xint)))) (tg_name 4) (by decide)))) xnx)
    (xone (xret (xlc (pe_lc (own := [("r", 4)]) rfl sc_l_widths.nd (xi_rng1 (pi_range1 (by rfl) Z.z_range (xcons (xop op_addU g_add xint (xop op_mod g_mod (xv 3) xint)) xnil))) (blkOk_by (own := [("r", 4)]) (N := ["draws", "small", "form", "rows", "r"]) (sc := defScope s_l_widths) (by decide +kernel)) (fun _ _ _ _ _ => (pg_name (i := 4) sc_l_widths.nd rfl (by first | exact Or.inl rfl | exact Or.inr rfl))) (fun _ _ _ _ _ => xyes) (fun _ _ _ _ _ => (xop op_addU g_add xint (xop op_fdiv g_fdiv (xop op_addU g_add (xop op_mod g_mod (xct call_int1 g_int (by rfl) Z.z_int bt_int (xcons (xix (xv 0) (xop op_addU g_add xint (xv 4))) xnil)) xint) xint) xint)))) (tg_name 4) (by decide))))))))))
abbrev s_l_price : Stmt := topS 15
theorem sc_l_price : FnScope ["mode", "part"] ["mode", "part"] (defScope s_l_price) := ⟨rfl, rfl, rfl, by decide +kernel, rfl, by decide +kernel, by decide +kernel⟩
theorem ok_l_price {f : Addr} {fd : FuncData} (F : Fun K "_law_price" "_law_price" s_l_price f fd) (Z : Zs mg) : FnOk P w K mg base CX0 1 f fd ["mode", "part"] (spP ⟨K, c, P, w⟩ [true, true] d_l_price) :=
  fun_okd (c := c) (Φ := phi_l_price) F sc_l_price rfl rfl fun b cdv A outer s H E hr => (xseq (xifs (xtc op_lt (g_cmp (p := ltP)) (xv 0) xint (nomark _)) (xone (xret xint)) xnx)
    (xseq (xifs (xtc (op_eqD hr.units) g_eq (xv 0) xint (nomark _)) (xone (xret (xop op_mod g_mod (xct call_int1 g_int (by rfl) Z.z_int bt_int (xcons (xv 1) xnil)) xint))) xnx)
    (xseq (xifs (xtc (op_eqD hr.units) g_eq (xv 0) xint (nomark _)) (xone (xret (xop op_sub g_sub xint (xop op_fdiv g_fdiv (xct call_int1 g_int (by rfl) Z.z_int bt_int (xcons (xv 1) xnil)) xint)))) xnx)
    (xseq (xifs (xtc (op_eqD hr.units) g_eq (xv 0) xint (nomark _)) (xone (xret (xct call_int1 g_int (by rfl) Z.z_int bt_int (xcons (xv 1) xnil)))) xnx)
    (xone (xret (xop op_sub g_sub xint (xop op_mulU g_mul (xop op_fdiv g_fdiv (xct call_int1 g_int (by rfl) Z.z_int bt_int (xcons (xv 1) xnil)) xint) xint))))))))
abbrev s_l_roads : Stmt := topS 16
theorem sc_l_roads : FnScope ["widths", "draws", "mode", "roads", "first", "at", "r", "a", "b", "above", "step"] ["widths", "draws"] (defScope s_l_roads) := ⟨rfl, rfl, rfl, by decide +kernel, rfl, by decide +kernel, by decide +kernel⟩
theorem ok_l_roads {f : Addr} {fd : FuncData} (F : Fun K "_law_roads" "_law_roads" s_l_roads f fd) (Z : Zs mg) (C_l_price : Cal P w K mg base 1 "_law_price" ["mode", "part"] (spP ⟨K, c, P, w⟩ [true, true] d_l_price)) : FnOk P w K mg base CX0 2 f fd ["widths", "draws"] (spP ⟨K, c, P, w⟩ [true, true] d_l_roads) :=
  fun_okd (c := c) (Φ := phi_l_roads) F sc_l_roads rfl rfl fun b cdv A outer s H E hr => (xseq (xset (i := 2) sc_l_roads.nd rfl (by first | exact Or.inl rfl | exact Or.inr rfl) (xop op_mod g_mod (xct call_int1 g_int (by rfl) Z.z_int bt_int (xcons (xix (xv 1) xint) xnil)) xint))
    (xseq (xset (i := 3) sc_l_roads.nd rfl (by first | exact Or.inl rfl | exact Or.inr rfl) (xlst xnil))
    (xseq (xset (i := 4) sc_l_roads.nd rfl (by first | exact Or.inl rfl | exact Or.inr rfl) xint)
    (xseq (xset (i := 5) sc_l_roads.nd rfl (by first | exact Or.inl rfl | exact Or.inr rfl) xint)
    (xseq (xfor PassesOwn.never rfl (xi_rng1 (pi_range1 (by rfl) Z.z_range (xcons (xop op_sub g_sub (xcb call_len g_len (by rfl) Z.z_len bt_len (xcons (xv 0) xnil)) xint) xnil))) (pg_name (i := 6) sc_l_roads.nd rfl (by first | exact Or.inl rfl | exact Or.inr rfl)) (tg_name 6) (xseq (xset (i := 7) sc_l_roads.nd rfl (by first | exact Or.inl rfl | exact Or.inr rfl) xint)
    (xseq (xset (i := 8) sc_l_roads.nd rfl (by first | exact Or.inl rfl | exact Or.inr rfl) xint)
    (xseq (xset (i := 9) sc_l_roads.nd rfl (by first | exact Or.inl rfl | exact Or.inr rfl) (xop op_addU g_add (xv 4) (xix (xv 0) (xv 6))))
    (xseq (xfor PassesOwn.never rfl (xi_rng1 (pi_range1 (by rfl) Z.z_range (xcons (xop op_sub g_sub (xop op_addU g_add (xix (xv 0) (xv 6)) (xix (xv 0) (xop op_addU g_add (xv 6) xint))) xint) xnil))) (pg_name (i := 10) sc_l_roads.nd rfl (by first | exact Or.inl rfl | exact Or.inr rfl)) (tg_name 10) (xseq (xifs (xtc op_gt (g_cmp (p := gtP)) (xop op_mod g_mod (xct call_int1 g_int (by rfl) Z.z_int bt_int (xcons (xix (xv 1) (xv 5)) xnil)) xint) xint (nomark _)) (xone (xapp (pe_bm PySem.F.plainAttrs_list PySem.F.slot_list_append PySem.F.type_list_append mt_append (pv 3) (pa_cons (xtup (xcons (xop op_addU g_add (xv 4) (xv 7)) (xcons (xop op_addU g_add (xv 9) (xv 8)) (xcons (xcallC C_l_price (hr.mono (by decide)) (by rfl) (xcons (xv 2) (xcons (xop op_mod g_mod (xop op_fdiv g_fdiv (xct call_int1 g_int (by rfl) Z.z_int bt_int (xcons (xix (xv 1) (xv 5)) xnil)) xint) xint) xnil))) xnil)))) pa_nil)))) xnx)
    (xseq (xifs (PW.pt (xand (xtc op_lt (g_cmp (p := ltP)) (xop op_addU g_add (xv 7) xint) (xix (xv 0) (xv 6)) (nomark _)) (pw_and1 (PW.pt (xor (xtc (op_eqD hr.units) g_eq (xop op_mod g_mod (xop op_fdiv g_fdiv (xct call_int1 g_int (by rfl) Z.z_int bt_int (xcons (xix (xv 1) (xv 5)) xnil)) xint) xint) xint (nomark _)) (pw_or1 (xtc (op_eqD hr.units) g_eq (xop op_addU g_add (xv 8) xint) (xix (xv 0) (xop op_addU g_add (xv 6) xint)) (nomark _)))))))) (xone (xset (i := 7) sc_l_roads.nd rfl (by first | exact Or.inl rfl | exact Or.inr rfl) (xop op_addU g_add (xv 7) xint))) (xone (xset (i := 8) sc_l_roads.nd rfl (by first | exact Or.inl rfl | exact Or.inr rfl) (xop op_addU g_add (xv 8) xint))))
    (xone (xset (i := 5) sc_l_roads.nd rfl (by first | exact Or.inl rfl | exact Or.inr rfl) (xop op_addU g_add (xv 5) xint))))))
    (xone (xset (i := 4) sc_l_roads.nd rfl (by first | exact Or.inl rfl | exact Or.inr rfl) (xv 9))))))))
    (xone (xretv (pv 3))))))))
abbrev s_l_rows : Stmt := topS 17
theorem sc_l_rows : FnScope ["widths", "rows", "r"] ["widths"] (defScope s_l_rows) := ⟨rfl, rfl, rfl, by decide +kernel, rfl, by decide +kernel, by decide +kernel⟩
theorem ok_l_rows {f : Addr} {fd : FuncData} (F : Fun K "_law_rows" "_law_rows" s_l_rows f fd) (Z : Zs mg) : FnOk P w K mg base CX0 1 f fd ["widths"] (spP ⟨K, c, P, w⟩ [true] d_l_rows) :=
  fun_okd (c := c) (Φ := phi_l_rows) F sc_l_rows rfl rfl fun b cdv A outer s H E hr => (xseq (xset (i := 1) sc_l_rows.nd rfl (by first | exact Or.inl rfl | exact Or.inr rfl) (xfz (xlst xnil)))
    (xseq (xfor PassesOwn.never rfl (xi_rng1 (pi_range1 (by rfl) Z.z_range (xcons (xcb call_len g_len (by rfl) Z.z_len bt_len (xcons (xv 0) xnil)) xnil))) (pg_name (i := 2) sc_l_rows.nd rfl (by first | exact Or.inl rfl | exact Or.inr rfl)) (tg_name 2) (xone (xset (i := 1) sc_l_rows.nd rfl (by first | exact Or.inl rfl | exact Or.inr rfl) (xfz (xop op_addU g_add (xv 1) (xop op_mulU g_mul (xlst (xcons (xv 2) xnil)) (xix (xv 0) (xv 2))))))))
    (xone (xretv (pv 1)))))
abbrev s_l_ends : Stmt := topS 18
theorem sc_l_ends : FnScope ["size", "roads", "ends", "road", "place"] ["size", "roads"] (defScope s_l_ends) := ⟨rfl, rfl, rfl, by decide +kernel, rfl, by decide +kernel, by decide +kernel⟩
theorem ok_l_ends {f : Addr} {fd : FuncData} (F : Fun K "_law_ends" "_law_ends" s_l_ends f fd) (Z : Zs mg) : FnOk P w K mg base CX0 1 f fd ["size", "roads"] (spP ⟨K, c, P, w⟩ [true, true] d_l_ends) :=
  fun_okd (c := c) (Φ := phi_l_ends) F sc_l_ends rfl rfl fun b cdv A outer s H E hr => (xseq (xlcs2 (ps_setLc (i := 2) (own := [("place", 4)]) rfl sc_l_ends.nd rfl rfl (sw_true rfl rfl rfl (by decide +kernel)) (xi_rng1 (pi_range1 (by rfl) Z.z_range (xcons (xv 0) xnil))) (blkOk_by (own := [("place", 4)]) (N := ["size", "roads", "ends", "road", "place"]) (sc := defScope s_l_ends) (by decide +kernel)) (fun _ _ _ _ _ => (pg_name (i := 4) sc_l_ends.nd rfl (by first | exact Or.inl rfl | exact Or.inr rfl))) (fun _ _ _ _ _ => xyes) (fun _ _ _ _ _ => (xlst xnil))) (tg_name 4) (by decide))
    (xseq (xfor PassesOwn.never rfl (xi_seq (xv 1)) (pg_name (i := 3) sc_l_ends.nd rfl (by first | exact Or.inl rfl | exact Or.inr rfl)) (tg_name 3) (xone (xapp2 (pe_bm PySem.F.plainAttrs_list PySem.F.slot_list_append PySem.F.type_list_append mt_append (pe_ix ix_list (pv 2) (xix (xv 3) xint) (fun _ _ => rfl)) (pa_cons (xix (xv 3) xint) pa_nil)))))
    (xone (xfrz 2 (xretv (pv 2))))))
abbrev s_l_costs : Stmt := topS 19
theorem sc_l_costs : FnScope ["roads", "costs", "road"] ["roads"] (defScope s_l_costs) := ⟨rfl, rfl, rfl, by decide +kernel, rfl, by decide +kernel, by decide +kernel⟩
theorem ok_l_costs {f : Addr} {fd : FuncData} (F : Fun K "_law_costs" "_law_costs" s_l_costs f fd) (Z : Zs mg) : FnOk P w K mg base CX0 1 f fd ["roads"] (spP ⟨K, c, P, w⟩ [true] d_l_costs) :=
  fun_okd (c := c) (Φ := phi_l_costs) F sc_l_costs rfl rfl fun b cdv A outer s H E hr => (xseq (xset (i := 1) sc_l_costs.nd rfl (by first | exact Or.inl rfl | exact Or.inr rfl) xdnew)
    (xseq (xfor PassesOwn.never rfl (xi_seq (xv 0)) (pg_name (i := 2) sc_l_costs.nd rfl (by first | exact Or.inl rfl | exact Or.inr rfl)) (tg_name 2) (xone (xdput (ps_dput (hu_of hr) (pv 1) (xktp (xcons (xix (xv 2) xint) (xcons (xix (xv 2) xint) xnil))) (xix (xv 2) xint) rfl))))
    (xone (xfrz 1 (xretv (pv 1))))))
abbrev s_l_least : Stmt := topS 20
theorem sc_l_least : FnScope ["size", "roads", "least", "place", "line", "at", "road", "beyond", "goal", "total"] ["size", "roads"] (defScope s_l_least) := ⟨rfl, rfl, rfl, by decide +kernel, rfl, by decide +kernel, by decide +kernel⟩
theorem ok_l_least {f : Addr} {fd : FuncData} (F : Fun K "_law_least" "_law_least" s_l_least f fd) (Z : Zs mg) : FnOk P w K mg base CX0 1 f fd ["size", "roads"] (spP ⟨K, c, P, w⟩ [true, true] d_l_least) :=
  fun_okd (c := c) (Φ := phi_l_least) F sc_l_least rfl rfl fun b cdv A outer s H E hr => (xseq (xlcs2 (ps_setLc (i := 2) (own := [("place", 3)]) rfl sc_l_least.nd rfl rfl (sw_true rfl rfl rfl (by decide +kernel)) (xi_rng1 (pi_range1 (by rfl) Z.z_range (xcons (xv 0) xnil))) (blkOk_by (own := [("place", 3)]) (N := ["size", "roads", "least", "place", "line", "at", "road", "beyond", "goal", "total"]) (sc := defScope s_l_least) (by decide +kernel)) (fun _ _ _ _ _ => (pg_name (i := 3) sc_l_least.nd rfl (by first | exact Or.inl rfl | exact Or.inr rfl))) (fun _ _ _ _ _ => xyes) (fun _ _ _ _ _ => (xop op_mulU g_mul (xlst (xcons xnon xnil)) (xv 0)))) (tg_name 3) (by decide))
    (xseq (xfor PassesOwn.never rfl (xi_rng1 (pi_range1 (by rfl) Z.z_range (xcons (xv 0) xnil))) (pg_name (i := 3) sc_l_least.nd rfl (by first | exact Or.inl rfl | exact Or.inr rfl)) (tg_name 3) (xseq (xali (i := 2) sc_l_least.nd rfl (by first | exact Or.inl rfl | exact Or.inr rfl) (pe_ix ix_list (pv 2) (xv 3) (fun _ _ => rfl)))
    (xone (xseta (ps_asg xint (pg_sub (pv 4) (xv 3) set_list))))))
    (xseq (xfor PassesOwn.never rfl (xi_rng1 (pi_range1 (by rfl) Z.z_range (xcons (xcb call_len g_len (by rfl) Z.z_len bt_len (xcons (xv 1) xnil)) xnil))) (pg_name (i := 5) sc_l_least.nd rfl (by first | exact Or.inl rfl | exact Or.inr rfl)) (tg_name 5) (xseq (xset (i := 6) sc_l_least.nd rfl (by first | exact Or.inl rfl | exact Or.inr rfl) (xix (xv 1) (xop op_sub g_sub (xop op_sub g_sub (xcb call_len g_len (by rfl) Z.z_len bt_len (xcons (xv 1) xnil)) xint) (xv 5))))
    (xseq (xali (i := 2) sc_l_least.nd rfl (by first | exact Or.inl rfl | exact Or.inr rfl) (pe_ix ix_list (pv 2) (xix (xv 6) xint) (fun _ _ => rfl)))
    (xseq (xali (i := 2) sc_l_least.nd rfl (by first | exact Or.inl rfl | exact Or.inr rfl) (pe_ix ix_list (pv 2) (xix (xv 6) xint) (fun _ _ => rfl)))
    (xone (xfor PassesOwn.never rfl (xi_rng2 (pi_range2 (by rfl) Z.z_range (xcons (xix (xv 6) xint) (xcons (xv 0) xnil)))) (pg_name (i := 8) sc_l_least.nd rfl (by first | exact Or.inl rfl | exact Or.inr rfl)) (tg_name 8) (xone (xifs (xtc op_notN g_notN (xix (xv 7) (xv 8)) xnon (nomark _)) (xseq (xset (i := 9) sc_l_least.nd rfl (by first | exact Or.inl rfl | exact Or.inr rfl) (xop op_addU g_add (xix (xv 6) xint) (xix (xv 7) (xv 8))))
    (xone (xifs (PW.pt (xor (xtc op_isN g_isN (xix (xv 4) (xv 8)) xnon (nomark _)) (pw_or1 (xtc op_lt (g_cmp (p := ltP)) (xv 9) (xix (xv 4) (xv 8)) (nomark _))))) (xone (xseta (ps_asg (xv 9) (pg_sub (pv 4) (xv 8) set_list)))) xnx))) xnx))))))))
    (xone (xfrz 2 (xretv (pv 2)))))))
abbrev s_l_pairs : Stmt := topS 21
theorem sc_l_pairs : FnScope ["widths", "least", "rows", "groups", "start", "goal", "pairs", "group", "r"] ["widths", "least"] (defScope s_l_pairs) := ⟨rfl, rfl, rfl, by decide +kernel, rfl, by decide +kernel, by decide +kernel⟩
theorem ok_l_pairs {f : Addr} {fd : FuncData} (F : Fun K "_law_pairs" "_law_pairs" s_l_pairs f fd) (Z : Zs mg) (C_l_rows : Cal P w K mg base 1 "_law_rows" ["widths"] (spP ⟨K, c, P, w⟩ [true] d_l_rows)) : FnOk P w K mg base CX0 2 f fd ["widths", "least"] (spP ⟨K, c, P, w⟩ [true, true] d_l_pairs) :=
  fun_okd (c := c) (Φ := phi_l_pairs) F sc_l_pairs rfl rfl fun b cdv A outer s H E hr => (xseq (xset (i := 2) sc_l_pairs.nd rfl (by first | exact Or.inl rfl | exact Or.inr rfl) (xfz (xcallC C_l_rows (hr.mono (by decide)) (by rfl) (xcons (xv 0) xnil))))
    (xseq (xlcs2 (ps_setLc (i := 3) (own := [("r", 8)]) rfl sc_l_pairs.nd rfl rfl (sw_true rfl rfl rfl (by decide +kernel)) (xi_seq (xv 0)) (blkOk_by (own := [("r", 8)]) (N := ["widths", "least", "rows", "groups", "start", "goal", "pairs", "group", "r"]) (sc := defScope s_l_pairs) (by decide +kernel)) (fun _ _ _ _ _ => (pg_name (i := 8) sc_l_pairs.nd rfl (by first | exact Or.inl rfl | exact Or.inr rfl))) (fun _ _ _ _ _ => xyes) (fun _ _ _ _ _ => (xlst xnil))) (tg_name 8) (by decide))
    (xseq (xfor PassesOwn.never rfl (xi_rng1 (pi_range1 (by rfl) Z.z_range (xcons (xcb call_len g_len (by rfl) Z.z_len bt_len (xcons (xv 2) xnil)) xnil))) (pg_name (i := 4) sc_l_pairs.nd rfl (by first | exact Or.inl rfl | exact Or.inr rfl)) (tg_name 4) (xone (xfor PassesOwn.never rfl (xi_rng2 (pi_range2 (by rfl) Z.z_range (xcons (xop op_addU g_add (xv 4) xint) (xcons (xcb call_len g_len (by rfl) Z.z_len bt_len (xcons (xv 2) xnil)) xnil)))) (pg_name (i := 5) sc_l_pairs.nd rfl (by first | exact Or.inl rfl | exact Or.inr rfl)) (tg_name 5) (xone (xifs (xtc op_notN g_notN (xix (xix (xv 1) (xv 4)) (xv 5)) xnon (nomark _)) (xone (xapp2 (pe_bm PySem.F.plainAttrs_list PySem.F.slot_list_append PySem.F.type_list_append mt_append (pe_ix ix_list (pv 3) (xop op_sub g_sub (xix (xv 2) (xv 5)) (xix (xv 2) (xv 4))) (fun _ _ => rfl)) (pa_cons (xtup (xcons (xv 4) (xcons (xv 5) xnil))) pa_nil)))) xnx)))))
    (xseq (xset (i := 6) sc_l_pairs.nd rfl (by first | exact Or.inl rfl | exact Or.inr rfl) (xfz (xlst xnil)))
    (xseq (xfrz 3 (xfor PassesOwn.never rfl (xi_seq (xv 3)) (pg_name (i := 7) sc_l_pairs.nd rfl (by first | exact Or.inl rfl | exact Or.inr rfl)) (tg_name 7) (xone (xset (i := 6) sc_l_pairs.nd rfl (by first | exact Or.inl rfl | exact Or.inr rfl) (xfz (xop op_addU g_add (xv 6) (xv 7)))))))
    (xone (xretv (pv 6))))))))
abbrev s_l_world_of : Stmt := topS 22
theorem sc_l_world_of : FnScope ["widths", "roads", "size", "least"] ["widths", "roads"] (defScope s_l_world_of) := ⟨rfl, rfl, rfl, by decide +kernel, rfl, by decide +kernel, by decide +kernel⟩
theorem ok_l_world_of {f : Addr} {fd : FuncData} (F : Fun K "_law_world_of" "_law_world_of" s_l_world_of f fd) (Z : Zs mg) (C_l_least : Cal P w K mg base 1 "_law_least" ["size", "roads"] (spP ⟨K, c, P, w⟩ [true, true] d_l_least)) (C_l_ends : Cal P w K mg base 1 "_law_ends" ["size", "roads"] (spP ⟨K, c, P, w⟩ [true, true] d_l_ends)) (C_l_costs : Cal P w K mg base 1 "_law_costs" ["roads"] (spP ⟨K, c, P, w⟩ [true] d_l_costs)) (C_l_pairs : Cal P w K mg base 2 "_law_pairs" ["widths", "least"] (spP ⟨K, c, P, w⟩ [true, true] d_l_pairs)) : FnOk P w K mg base CX0 3 f fd ["widths", "roads"] (spP ⟨K, c, P, w⟩ [true, true] d_l_world_of) :=
  fun_okd (c := c) (Φ := phi_l_world_of) F sc_l_world_of rfl rfl fun b cdv A outer s H E hr => (xseq (xset (i := 2) sc_l_world_of.nd rfl (by first | exact Or.inl rfl | exact Or.inr rfl) (xcb (cr_sum rfl) g_sum (by rfl) Z.z_sum bt_sum (xcons (xv 0) xnil)))
    (xseq (xset (i := 3) sc_l_world_of.nd rfl (by first | exact Or.inl rfl | exact Or.inr rfl) (xfz (xcallC C_l_least (hr.mono (by decide)) (by rfl) (xcons (xv 2) (xcons (xv 1) xnil)))))
    (xone (xret (xtup (xcons (xv 0) (xcons (xv 1) (xcons (xfz (xcallC C_l_ends (hr.mono (by decide)) (by rfl) (xcons (xv 2) (xcons (xv 1) xnil)))) (xcons (xcallC C_l_costs (hr.mono (by decide)) (by rfl) (xcons (xv 1) xnil)) (xcons (xv 3) (xcons (xfz (xcallC C_l_pairs (hr.mono (by decide)) (by rfl) (xcons (xv 0) (xcons (xv 3) xnil)))) xnil)))))))))))
abbrev s_l_world : Stmt := topS 23
theorem sc_l_world : FnScope ["cell", "small", "draws", "widths"] ["cell", "small"] (defScope s_l_world) := ⟨rfl, rfl, rfl, by decide +kernel, rfl, by decide +kernel, by decide +kernel⟩
theorem ok_l_world {f : Addr} {fd : FuncData} (F : Fun K "_law_world" "_law_world" s_l_world f fd) (Z : Zs mg) (C_l_draws : Cal P w K mg base 1 "_law_draws" ["cell", "many"] (spP ⟨K, c, P, w⟩ [true, true] d_l_draws)) (C_l_widths : Cal P w K mg base 1 "_law_widths" ["draws", "small"] (spP ⟨K, c, P, w⟩ [true, true] d_l_widths)) (C_l_world_of : Cal P w K mg base 3 "_law_world_of" ["widths", "roads"] (spP ⟨K, c, P, w⟩ [true, true] d_l_world_of)) (C_l_roads : Cal P w K mg base 2 "_law_roads" ["widths", "draws"] (spP ⟨K, c, P, w⟩ [true, true] d_l_roads)) : FnOk P w K mg base CX0 4 f fd ["cell", "small"] (spP ⟨K, c, P, w⟩ [true, true] d_l_world) :=
  fun_okd (c := c) (Φ := phi_l_world) F sc_l_world rfl rfl fun b cdv A outer s H E hr => (xseq (xset (i := 2) sc_l_world.nd rfl (by first | exact Or.inl rfl | exact Or.inr rfl) (xfz (xcallC C_l_draws (hr.mono (by decide)) (by rfl) (xcons (xv 0) (xcons xint xnil)))))
    (xseq (xset (i := 3) sc_l_world.nd rfl (by first | exact Or.inl rfl | exact Or.inr rfl) (xfz (xcallC C_l_widths (hr.mono (by decide)) (by rfl) (xcons (xv 2) (xcons (xv 1) xnil)))))
    (xone (xret (xcallC C_l_world_of (hr.mono (by decide)) (by rfl) (xcons (xv 3) (xcons (xfz (xcallC C_l_roads (hr.mono (by decide)) (by rfl) (xcons (xv 3) (xcons (xv 2) xnil)))) xnil)))))))
abbrev s_l_conflict : Stmt := topS 24
theorem sc_l_conflict : FnScope ["first", "second", "k", "j", "later", "place"] ["first", "second"] (defScope s_l_conflict) := ⟨rfl, rfl, rfl, by decide +kernel, rfl, by decide +kernel, by decide +kernel⟩
theorem ok_l_conflict {f : Addr} {fd : FuncData} (F : Fun K "_law_conflict" "_law_conflict" s_l_conflict f fd) (Z : Zs mg) : FnOk P w K mg base CX0 1 f fd ["first", "second"] (spP ⟨K, c, P, w⟩ [true, true] d_l_conflict) :=
  fun_okd (c := c) (Φ := phi_l_conflict) F sc_l_conflict rfl rfl fun b cdv A outer s H E hr => (xseq (xfor PassesOwn.never rfl (xi_rng1 (pi_range1 (by rfl) Z.z_range (xcons (xop op_sub g_sub (xcb call_len g_len (by rfl) Z.z_len bt_len (xcons (xv 0) xnil)) xint) xnil))) (pg_name (i := 2) sc_l_conflict.nd rfl (by first | exact Or.inl rfl | exact Or.inr rfl)) (tg_name 2) (xone (xfor PassesOwn.never rfl (xi_rng1 (pi_range1 (by rfl) Z.z_range (xcons (xop op_sub g_sub (xcb call_len g_len (by rfl) Z.z_len bt_len (xcons (xv 1) xnil)) xint) xnil))) (pg_name (i := 3) sc_l_conflict.nd rfl (by first | exact Or.inl rfl | exact Or.inr rfl)) (tg_name 3) (xone (xifs (PW.pt (xand (xtc (op_eqD hr.units) g_eq (xix (xv 0) (xv 2)) (xix (xv 1) (xv 3)) (nomark _)) (pw_and1 (xtc (op_neD hr.units) g_ne (xix (xv 0) (xop op_addU g_add (xv 2) xint)) (xix (xv 1) (xop op_addU g_add (xv 3) xint)) (nomark _))))) (xseq (by first | exact (xlcsz (ps_setLc (i := 4) (own := [("place", 5)]) rfl sc_l_conflict.nd rfl rfl (sw_true rfl rfl rfl (by decide +kernel)) (xi_seq (xfz (xsl (xv 0) (xsm (xop op_addU g_add (xv 2) xint)) xno))) (blkOk_by (own := [("place", 5)]) (N := ["first", "second", "k", "j", "later", "place"]) (sc := defScope s_l_conflict) (by decide +kernel)) (fun _ _ _ _ _ => (pg_name (i := 5) sc_l_conflict.nd rfl (by first | exact Or.inl rfl | exact Or.inr rfl))) (fun _ _ _ _ _ => (pts_one (xtc op_in_seq g_in (xv 5) (xsl (xv 1) (xsm (xop op_addU g_add (xv 3) xint)) xno) (by rfl)))) (fun _ _ _ _ _ => (xv 5))) (tg_name 5) (by decide)) | exact (xset (i := 4) sc_l_conflict.nd rfl (by first | exact Or.inl rfl | exact Or.inr rfl) (xfz (xlc (pe_lc (own := [("place", 5)]) rfl sc_l_conflict.nd (xi_seq (xfz (xsl (xv 0) (xsm (xop op_addU g_add (xv 2) xint)) xno))) (blkOk_by (own := [("place", 5)]) (N := ["first", "second", "k", "j", "later", "place"]) (sc := defScope s_l_conflict) (by decide +kernel)) (fun _ _ _ _ _ => (pg_name (i := 5) sc_l_conflict.nd rfl (by first | exact Or.inl rfl | exact Or.inr rfl))) (fun _ _ _ _ _ => (pts_one (xtc op_in_seq g_in (xv 5) (xsl (xv 1) (xsm (xop op_addU g_add (xv 3) xint)) xno) (by rfl)))) (fun _ _ _ _ _ => (xv 5))) (tg_name 5) (by decide)))))
    (xone (xifs (xtc op_gt (g_cmp (p := gtP)) (xcb call_len g_len (by rfl) Z.z_len bt_len (xcons (xv 4) xnil)) xint (nomark _)) (xone (xret (xtup (xcons (xix (xv 0) (xv 2)) (xcons (xix (xv 4) xint) xnil))))) xnx))) xnx)))))
    (xone (xret xnon)))
abbrev s_l_same : Stmt := topS 25
theorem sc_l_same : FnScope ["told", "due", "k"] ["told", "due"] (defScope s_l_same) := ⟨rfl, rfl, rfl, by decide +kernel, rfl, by decide +kernel, by decide +kernel⟩
theorem ok_l_same {f : Addr} {fd : FuncData} (F : Fun K "_law_same" "_law_same" s_l_same f fd) (Z : Zs mg) (hm : mg "_law_same" = some (.ref f)) (hb : Binds K fd ["told", "due"] []) : ∀ n : Nat, FnOk P w K mg base CX0 (0 + 1 + n) f fd ["told", "due"] (spP ⟨K, c, P, w⟩ [true, true] (r_l_same n))
  | 0 => fnok_none rfl
  | n + 1 => by
    have R : Cal P w K mg base (0 + 1 + n) "_law_same" ["told", "due"] (spP ⟨K, c, P, w⟩ [true, true] (r_l_same n)) := ⟨f, fd, hm, F.kp, hb, ok_l_same F Z hm hb n⟩
    exact fun_okd (c := c) (k := 0 + 1 + n) (Φ := phi_l_same (r_l_same n)) F sc_l_same rfl rfl fun b cdv A outer s H E hr => (xseq (xifs (xtc op_isN g_isN (xv 1) xnon (nomark _)) (xone (xret (xcmp op_isN g_isN (xv 0) xnon (nomark _)))) xnx)
    (xseq (xifs (xtru (xisi (by rfl) Z.z_isinstance (by rfl) Z.z_bool bt_bool (xv 1))) (xone (xret (xandV (xisi (by rfl) Z.z_isinstance (by rfl) Z.z_bool bt_bool (xv 0)) (pe_one (xcmp (op_eqD hr.units) g_eq (xv 0) (xv 1) (nomark _)))))) xnx)
    (xseq (xifs (xtru (xisi (by rfl) Z.z_isinstance (by rfl) Z.z_int bt_int (xv 1))) (xone (xret (xandV (xisi (by rfl) Z.z_isinstance (by rfl) Z.z_int bt_int (xv 0)) (xandV (xnotV (xisi (by rfl) Z.z_isinstance (by rfl) Z.z_bool bt_bool (xv 0))) (pe_one (xcmp (op_eqD hr.units) g_eq (xv 0) (xv 1) (nomark _))))))) xnx)
    (xseq (xifs (xtru (xisi (by rfl) Z.z_isinstance (by rfl) Z.z_str bt_str (xv 1))) (xone (xret (xandV (xisi (by rfl) Z.z_isinstance (by rfl) Z.z_str bt_str (xv 0)) (pe_one (xcmp (op_eqD hr.units) g_eq (xv 0) (xv 1) (nomark _)))))) xnx)
    (xseq (xifs (xtru (xisi (by rfl) Z.z_isinstance (by rfl) Z.z_list bt_list (xv 1))) (xone (xifs (PW.pt (xor (xnot (xtru (xisi (by rfl) Z.z_isinstance (by rfl) Z.z_list bt_list (xv 0)))) (pw_or1 (xtc (op_neD hr.units) g_ne (xcb call_len g_len (by rfl) Z.z_len bt_len (xcons (xv 0) xnil)) (xcb call_len g_len (by rfl) Z.z_len bt_len (xcons (xv 1) xnil)) (nomark _))))) (xone (xret xbl)) xnx)) (xone (xifs (PW.pt (xor (xnot (xtru (xisi (by rfl) Z.z_isinstance (by rfl) Z.z_tuple bt_tuple (xv 0)))) (pw_or1 (xtc (op_neD hr.units) g_ne (xcb call_len g_len (by rfl) Z.z_len bt_len (xcons (xv 0) xnil)) (xcb call_len g_len (by rfl) Z.z_len bt_len (xcons (xv 1) xnil)) (nomark _))))) (xone (xret xbl)) xnx)))
    (xseq (xfor PassesOwn.never rfl (xi_rng1 (pi_range1 (by rfl) Z.z_range (xcons (xcb call_len g_len (by rfl) Z.z_len bt_len (xcons (xv 1) xnil)) xnil))) (pg_name (i := 2) sc_l_same.nd rfl (by first | exact Or.inl rfl | exact Or.inr rfl)) (tg_name 2) (xone (xifs (xnot (xtru (xcallC R (hr.mono (by omega)) (by rfl) (xcons (xix (xv 0) (xv 2)) (xcons (xix (xv 1) (xv 2)) xnil))))) (xone (xret xbl)) xnx)))
    (xone (xret xbl))))))))
abbrev s_l_walk : Stmt := topS 26
theorem sc_l_walk : FnScope ["world", "draws", "at", "start", "route", "k", "places"] ["world", "draws", "at", "start"] (defScope s_l_walk) := ⟨rfl, rfl, rfl, by decide +kernel, rfl, by decide +kernel, by decide +kernel⟩
theorem ok_l_walk {f : Addr} {fd : FuncData} (F : Fun K "_law_walk" "_law_walk" s_l_walk f fd) (Z : Zs mg) : FnOk P w K mg base CX0 1 f fd ["world", "draws", "at", "start"] (spP ⟨K, c, P, w⟩ [true, true, true, true] d_l_walk) :=
  fun_okd (c := c) (Φ := phi_l_walk) F sc_l_walk rfl rfl fun b cdv A outer s H E hr => (xseq (xset (i := 4) sc_l_walk.nd rfl (by first | exact Or.inl rfl | exact Or.inr rfl) (xtup (xcons (xv 3) xnil)))
    (xseq (xfor PassesOwn.never rfl (xi_rng1 (pi_range1 (by rfl) Z.z_range (xcons xint xnil))) (pg_name (i := 5) sc_l_walk.nd rfl (by first | exact Or.inl rfl | exact Or.inr rfl)) (tg_name 5) (xseq (xset (i := 6) sc_l_walk.nd rfl (by first | exact Or.inl rfl | exact Or.inr rfl) (xix (xix (xv 0) xint) (xix (xv 4) (xneg xint))))
    (xseq (xifs (PW.pt (xor (xtc (op_eqD hr.units) g_eq (xcb call_len g_len (by rfl) Z.z_len bt_len (xcons (xv 6) xnil)) xint (nomark _)) (pw_or1 (xtc (op_eqD hr.units) g_eq (xop op_mod g_mod (xop op_fdiv g_fdiv (xct call_int1 g_int (by rfl) Z.z_int bt_int (xcons (xix (xv 1) (xop op_addU g_add (xv 2) (xv 5))) xnil)) xint) xint) xint (nomark _))))) (xone (xretv (pv 4))) xnx)
    (xone (xset (i := 4) sc_l_walk.nd rfl (by first | exact Or.inl rfl | exact Or.inr rfl) (xop op_addU g_add (xv 4) (xtup (xcons (xix (xv 6) (xop op_mod g_mod (xct call_int1 g_int (by rfl) Z.z_int bt_int (xcons (xix (xv 1) (xop op_addU g_add (xv 2) (xv 5))) xnil)) (xcb call_len g_len (by rfl) Z.z_len bt_len (xcons (xv 6) xnil)))) xnil))))))))
    (xone (xretv (pv 4)))))
abbrev s_l_forked : Stmt := topS 27
theorem sc_l_forked : FnScope ["world", "forked", "pair", "ends", "place"] ["world"] (defScope s_l_forked) := ⟨rfl, rfl, rfl, by decide +kernel, rfl, by decide +kernel, by decide +kernel⟩
theorem ok_l_forked {f : Addr} {fd : FuncData} (F : Fun K "_law_forked" "_law_forked" s_l_forked f fd) (Z : Zs mg) : FnOk P w K mg base CX0 1 f fd ["world"] (spP ⟨K, c, P, w⟩ [true] d_l_forked) :=
  fun_okd (c := c) (Φ := phi_l_forked) F sc_l_forked rfl rfl fun b cdv A outer s H E hr => (xseq (xset (i := 1) sc_l_forked.nd rfl (by first | exact Or.inl rfl | exact Or.inr rfl) (xlst xnil))
    (xseq (xfor PassesOwn.never rfl (xi_seq (xix (xv 0) xint)) (pg_name (i := 2) sc_l_forked.nd rfl (by first | exact Or.inl rfl | exact Or.inr rfl)) (tg_name 2) (xseq (by first | exact (xlcsz (ps_setLc (i := 3) (own := [("place", 4)]) rfl sc_l_forked.nd rfl rfl (sw_true rfl rfl rfl (by decide +kernel)) (xi_seq (xix (xix (xv 0) xint) (xix (xv 2) xint))) (blkOk_by (own := [("place", 4)]) (N := ["world", "forked", "pair", "ends", "place"]) (sc := defScope s_l_forked) (by decide +kernel)) (fun _ _ _ _ _ => (pg_name (i := 4) sc_l_forked.nd rfl (by first | exact Or.inl rfl | exact Or.inr rfl))) (fun _ _ _ _ _ => (pts_one (xtc op_notN g_notN (xix (xix (xix (xv 0) xint) (xv 4)) (xix (xv 2) xint)) xnon (nomark _)))) (fun _ _ _ _ _ => (xv 4))) (tg_name 4) (by decide)) | exact (xset (i := 3) sc_l_forked.nd rfl (by first | exact Or.inl rfl | exact Or.inr rfl) (xfz (xlc (pe_lc (own := [("place", 4)]) rfl sc_l_forked.nd (xi_seq (xix (xix (xv 0) xint) (xix (xv 2) xint))) (blkOk_by (own := [("place", 4)]) (N := ["world", "forked", "pair", "ends", "place"]) (sc := defScope s_l_forked) (by decide +kernel)) (fun _ _ _ _ _ => (pg_name (i := 4) sc_l_forked.nd rfl (by first | exact Or.inl rfl | exact Or.inr rfl))) (fun _ _ _ _ _ => (pts_one (xtc op_notN g_notN (xix (xix (xix (xv 0) xint) (xv 4)) (xix (xv 2) xint)) xnon (nomark _)))) (fun _ _ _ _ _ => (xv 4))) (tg_name 4) (by decide)))))
    (xone (xifs (xtc op_gt (g_cmp (p := gtP)) (xcb call_len g_len (by rfl) Z.z_len bt_len (xcons (xv 3) xnil)) xint (nomark _)) (xone (xapp (pe_bm PySem.F.plainAttrs_list PySem.F.slot_list_append PySem.F.type_list_append mt_append (pv 1) (pa_cons (xv 2) pa_nil)))) xnx))))
    (xone (xretv (pv 1)))))
abbrev s_l_led : Stmt := topS 28
theorem sc_l_led : FnScope ["world", "draws", "start", "goal", "route", "k", "places", "place"] ["world", "draws", "start", "goal"] (defScope s_l_led) := ⟨rfl, rfl, rfl, by decide +kernel, rfl, by decide +kernel, by decide +kernel⟩
theorem ok_l_led {f : Addr} {fd : FuncData} (F : Fun K "_law_led" "_law_led" s_l_led f fd) (Z : Zs mg) : FnOk P w K mg base CX0 1 f fd ["world", "draws", "start", "goal"] (spP ⟨K, c, P, w⟩ [true, true, true, true] d_l_led) :=
  fun_okd (c := c) (Φ := phi_l_led) F sc_l_led rfl rfl fun b cdv A outer s H E hr => (xseq (xset (i := 4) sc_l_led.nd rfl (by first | exact Or.inl rfl | exact Or.inr rfl) (xtup (xcons (xv 2) xnil)))
    (xseq (xfor PassesOwn.never rfl (xi_rng1 (pi_range1 (by rfl) Z.z_range (xcons xint xnil))) (pg_name (i := 5) sc_l_led.nd rfl (by first | exact Or.inl rfl | exact Or.inr rfl)) (tg_name 5) (xone (xifs (xtc (op_neD hr.units) g_ne (xix (xv 4) (xneg xint)) (xv 3) (nomark _)) (xseq (by first | exact (xlcsz (ps_setLc (i := 6) (own := [("place", 7)]) rfl sc_l_led.nd rfl rfl (sw_true rfl rfl rfl (by decide +kernel)) (xi_seq (xix (xix (xv 0) xint) (xix (xv 4) (xneg xint)))) (blkOk_by (own := [("place", 7)]) (N := ["world", "draws", "start", "goal", "route", "k", "places", "place"]) (sc := defScope s_l_led) (by decide +kernel)) (fun _ _ _ _ _ => (pg_name (i := 7) sc_l_led.nd rfl (by first | exact Or.inl rfl | exact Or.inr rfl))) (fun _ _ _ _ _ => (pts_one (xtc op_notN g_notN (xix (xix (xix (xv 0) xint) (xv 7)) (xv 3)) xnon (nomark _)))) (fun _ _ _ _ _ => (xv 7))) (tg_name 7) (by decide)) | exact (xset (i := 6) sc_l_led.nd rfl (by first | exact Or.inl rfl | exact Or.inr rfl) (xfz (xlc (pe_lc (own := [("place", 7)]) rfl sc_l_led.nd (xi_seq (xix (xix (xv 0) xint) (xix (xv 4) (xneg xint)))) (blkOk_by (own := [("place", 7)]) (N := ["world", "draws", "start", "goal", "route", "k", "places", "place"]) (sc := defScope s_l_led) (by decide +kernel)) (fun _ _ _ _ _ => (pg_name (i := 7) sc_l_led.nd rfl (by first | exact Or.inl rfl | exact Or.inr rfl))) (fun _ _ _ _ _ => (pts_one (xtc op_notN g_notN (xix (xix (xix (xv 0) xint) (xv 7)) (xv 3)) xnon (nomark _)))) (fun _ _ _ _ _ => (xv 7))) (tg_name 7) (by decide)))))
    (xone (xset (i := 4) sc_l_led.nd rfl (by first | exact Or.inl rfl | exact Or.inr rfl) (xop op_addU g_add (xv 4) (xtup (xcons (xix (xv 6) (xop op_mod g_mod (xct call_int1 g_int (by rfl) Z.z_int bt_int (xcons (xix (xv 1) (xv 5)) xnil)) (xcb call_len g_len (by rfl) Z.z_len bt_len (xcons (xv 6) xnil)))) xnil)))))) xnx)))
    (xone (xretv (pv 4)))))
abbrev s_l_ways : Stmt := topS 29
theorem sc_l_ways : FnScope ["world", "cell", "plan", "rows", "forked", "low", "size", "pair", "many", "draws", "first", "ways", "k", "some", "pick", "way", "draw"] ["world", "cell", "plan"] (defScope s_l_ways) := ⟨rfl, rfl, rfl, by decide +kernel, rfl, by decide +kernel, by decide +kernel⟩
theorem ok_l_ways {f : Addr} {fd : FuncData} (F : Fun K "_law_ways" "_law_ways" s_l_ways f fd) (Z : Zs mg) (C_l_rows : Cal P w K mg base 1 "_law_rows" ["widths"] (spP ⟨K, c, P, w⟩ [true] d_l_rows)) (C_l_forked : Cal P w K mg base 1 "_law_forked" ["world"] (spP ⟨K, c, P, w⟩ [true] d_l_forked)) (C_l_draws : Cal P w K mg base 1 "_law_draws" ["cell", "many"] (spP ⟨K, c, P, w⟩ [true, true] d_l_draws)) (C_l_walk : Cal P w K mg base 1 "_law_walk" ["world", "draws", "at", "start"] (spP ⟨K, c, P, w⟩ [true, true, true, true] d_l_walk)) (C_l_led : Cal P w K mg base 1 "_law_led" ["world", "draws", "start", "goal"] (spP ⟨K, c, P, w⟩ [true, true, true, true] d_l_led)) : FnOk P w K mg base CX0 2 f fd ["world", "cell", "plan"] (spP ⟨K, c, P, w⟩ [true, true, true] d_l_ways) :=
  fun_okd (c := c) (Φ := phi_l_ways) F sc_l_ways rfl rfl fun b cdv A outer s H E hr => (xseq (xset (i := 3) sc_l_ways.nd rfl (by first | exact Or.inl rfl | exact Or.inr rfl) (xfz (xcallC C_l_rows (hr.mono (by decide)) (by rfl) (xcons (xix (xv 0) xint) xnil))))
    (xseq (xset (i := 4) sc_l_ways.nd rfl (by first | exact Or.inl rfl | exact Or.inr rfl) (xfz (xcallC C_l_forked (hr.mono (by decide)) (by rfl) (xcons (xv 0) xnil))))
    (xseq (xset (i := 5) sc_l_ways.nd rfl (by first | exact Or.inl rfl | exact Or.inr rfl) (xop op_mod g_mod (xct call_int1 g_int (by rfl) Z.z_int bt_int (xcons (xix (xv 2) xint) xnil)) (xcb call_len g_len (by rfl) Z.z_len bt_len (xcons (xix (xv 0) xint) xnil))))
    (xseq (xset (i := 6) sc_l_ways.nd rfl (by first | exact Or.inl rfl | exact Or.inr rfl) (xop op_addU g_add xint (xop op_mod g_mod (xct call_int1 g_int (by rfl) Z.z_int bt_int (xcons (xix (xv 2) xint) xnil)) (xop op_sub g_sub (xcb call_len g_len (by rfl) Z.z_len bt_len (xcons (xix (xv 0) xint) xnil)) (xv 5)))))
    (xseq (xset (i := 7) sc_l_ways.nd rfl (by first | exact Or.inl rfl | exact Or.inr rfl) xnon)
    (xseq (xifs (PW.pt (xand (xtc op_gt (g_cmp (p := gtP)) (xcb call_len g_len (by rfl) Z.z_len bt_len (xcons (xv 4) xnil)) xint (nomark _)) (pw_and1 (xtc op_gt (g_cmp (p := gtP)) (xop op_mod g_mod (xct call_int1 g_int (by rfl) Z.z_int bt_int (xcons (xix (xv 2) xint) xnil)) xint) xint (nomark _))))) (xseq (xset (i := 7) sc_l_ways.nd rfl (by first | exact Or.inl rfl | exact Or.inr rfl) (xix (xv 4) (xop op_mod g_mod (xct call_int1 g_int (by rfl) Z.z_int bt_int (xcons (xix (xv 2) xint) xnil)) (xcb call_len g_len (by rfl) Z.z_len bt_len (xcons (xv 4) xnil)))))
    (xseq (xset (i := 5) sc_l_ways.nd rfl (by first | exact Or.inl rfl | exact Or.inr rfl) (xix (xv 3) (xix (xv 7) xint)))
    (xone (xset (i := 6) sc_l_ways.nd rfl (by first | exact Or.inl rfl | exact Or.inr rfl) (xop op_addU g_add (xop op_sub g_sub (xix (xv 3) (xix (xv 7) xint)) (xv 5)) xint))))) xnx)
    (xseq (xset (i := 8) sc_l_ways.nd rfl (by first | exact Or.inl rfl | exact Or.inr rfl) (xop op_mod g_mod (xct call_int1 g_int (by rfl) Z.z_int bt_int (xcons (xix (xv 2) xint) xnil)) xint))
    (xseq (xifs (xtc (op_eqD hr.units) g_eq (xop op_mod g_mod (xct call_int1 g_int (by rfl) Z.z_int bt_int (xcons (xix (xv 2) xint) xnil)) xint) xint (nomark _)) (xone (xset (i := 8) sc_l_ways.nd rfl (by first | exact Or.inl rfl | exact Or.inr rfl) (xop op_addU g_add xint (xop op_mod g_mod (xct call_int1 g_int (by rfl) Z.z_int bt_int (xcons (xix (xv 2) xint) xnil)) xint)))) xnx)
    (xseq (xset (i := 9) sc_l_ways.nd rfl (by first | exact Or.inl rfl | exact Or.inr rfl) (xfz (xcallC C_l_draws (hr.mono (by decide)) (by rfl) (xcons (xv 1) (xcons (xop op_mulU g_mul xint (xv 8)) xnil)))))
    (xseq (xset (i := 10) sc_l_ways.nd rfl (by first | exact Or.inl rfl | exact Or.inr rfl) (xcb (cr_sum rfl) g_sum (by rfl) Z.z_sum bt_sum (xcons (xsl (xix (xv 0) xint) xno (xsm (xv 5))) xnil)))
    (xseq (xset (i := 11) sc_l_ways.nd rfl (by first | exact Or.inl rfl | exact Or.inr rfl) (xlst xnil))
    (xseq (xfor PassesOwn.never rfl (xi_rng1 (pi_range1 (by rfl) Z.z_range (xcons (xv 8) xnil))) (pg_name (i := 12) sc_l_ways.nd rfl (by first | exact Or.inl rfl | exact Or.inr rfl)) (tg_name 12) (xseq (xset (i := 13) sc_l_ways.nd rfl (by first | exact Or.inl rfl | exact Or.inr rfl) (xfz (xsl (xv 9) (xsm (xop op_mulU g_mul xint (xv 12))) (xsm (xop op_addU g_add (xop op_mulU g_mul xint (xv 12)) xint)))))
    (xseq (xset (i := 14) sc_l_ways.nd rfl (by first | exact Or.inl rfl | exact Or.inr rfl) (xct call_int1 g_int (by rfl) Z.z_int bt_int (xcons (xix (xv 13) xint) xnil)))
    (xseq (xset (i := 15) sc_l_ways.nd rfl (by first | exact Or.inl rfl | exact Or.inr rfl) (xcallC C_l_walk (hr.mono (by decide)) (by rfl) (xcons (xv 0) (xcons (xfz (xlc (pe_lc (own := [("draw", 16)]) rfl sc_l_ways.nd (xi_seq (xv 13)) (blkOk_by (own := [("draw", 16)]) (N := ["world", "cell", "plan", "rows", "forked", "low", "size", "pair", "many", "draws", "first", "ways", "k", "some", "pick", "way", "draw"]) (sc := defScope s_l_ways) (by decide +kernel)) (fun _ _ _ _ _ => (pg_name (i := 16) sc_l_ways.nd rfl (by first | exact Or.inl rfl | exact Or.inr rfl))) (fun _ _ _ _ _ => xyes) (fun _ _ _ _ _ => (xop op_addU g_add xint (xop op_mod g_mod (xct call_int1 g_int (by rfl) Z.z_int bt_int (xcons (xv 16) xnil)) xint)))) (tg_name 16) (by decide))) (xcons xint (xcons (xop op_addU g_add (xv 10) (xop op_mod g_mod (xct call_int1 g_int (by rfl) Z.z_int bt_int (xcons (xix (xv 13) xint) xnil)) (xix (xix (xv 0) xint) (xv 5)))) xnil))))))
    (xseq (xifs (PW.pt (xand (xtc op_notN g_notN (xv 7) xnon (nomark _)) (pw_and1 (xtc (op_eqD hr.units) g_eq (xop op_mod g_mod (xop op_fdiv g_fdiv (xv 14) xint) xint) xint (nomark _))))) (xone (xset (i := 15) sc_l_ways.nd rfl (by first | exact Or.inl rfl | exact Or.inr rfl) (xcallC C_l_led (hr.mono (by decide)) (by rfl) (xcons (xv 0) (xcons (xv 13) (xcons (xix (xv 7) xint) (xcons (xix (xv 7) xint) xnil))))))) xnx)
    (xone (xifs (PW.pt (xand (xtc (op_eqD hr.units) g_eq (xop op_mod g_mod (xv 14) xint) xint (nomark _)) (pw_and1 (xtc op_gt (g_cmp (p := gtP)) (xcb call_len g_len (by rfl) Z.z_len bt_len (xcons (xv 11) xnil)) xint (nomark _))))) (xone (xapp (pe_bm PySem.F.plainAttrs_list PySem.F.slot_list_append PySem.F.type_list_append mt_append (pv 11) (pa_cons (xix (xv 11) (xop op_mod g_mod (xop op_fdiv g_fdiv (xv 14) xint) (xcb call_len g_len (by rfl) Z.z_len bt_len (xcons (xv 11) xnil)))) pa_nil)))) (xone (xifs (xtc op_ge (g_cmp (p := geP)) (xcb call_len g_len (by rfl) Z.z_len bt_len (xcons (xv 15) xnil)) (xv 6) (nomark _)) (xone (xapp (pe_bm PySem.F.plainAttrs_list PySem.F.slot_list_append PySem.F.type_list_append mt_append (pv 11) (pa_cons (xfz (xsl (xv 15) xno (xsm (xv 6)))) pa_nil)))) xnx)))))))))
    (xone (xretv (pv 11)))))))))))))))
abbrev s_l_values : Stmt := topS 30
theorem sc_l_values : FnScope ["cell", "many", "draws", "most", "k"] ["cell", "many"] (defScope s_l_values) := ⟨rfl, rfl, rfl, by decide +kernel, rfl, by decide +kernel, by decide +kernel⟩
theorem ok_l_values {f : Addr} {fd : FuncData} (F : Fun K "_law_values" "_law_values" s_l_values f fd) (Z : Zs mg) (C_l_draws : Cal P w K mg base 1 "_law_draws" ["cell", "many"] (spP ⟨K, c, P, w⟩ [true, true] d_l_draws)) : FnOk P w K mg base CX0 2 f fd ["cell", "many"] (spP ⟨K, c, P, w⟩ [true, true] d_l_values) :=
  fun_okd (c := c) (Φ := phi_l_values) F sc_l_values rfl rfl fun b cdv A outer s H E hr => (xseq (xset (i := 2) sc_l_values.nd rfl (by first | exact Or.inl rfl | exact Or.inr rfl) (xfz (xcallC C_l_draws (hr.mono (by decide)) (by rfl) (xcons (xv 0) (xcons (xop op_addU g_add (xop op_mulU g_mul xint (xv 1)) xint) xnil)))))
    (xseq (xset (i := 3) sc_l_values.nd rfl (by first | exact Or.inl rfl | exact Or.inr rfl) (xix (xlst (xcons xint (xcons xint (xcons xint xnil)))) (xop op_mod g_mod (xct call_int1 g_int (by rfl) Z.z_int bt_int (xcons (xix (xv 2) xint) xnil)) xint)))
    (xone (xret (xlc (pe_lc (own := [("k", 4)]) rfl sc_l_values.nd (xi_rng1 (pi_range1 (by rfl) Z.z_range (xcons (xv 1) xnil))) (blkOk_by (own := [("k", 4)]) (N := ["cell", "many", "draws", "most", "k"]) (sc := defScope s_l_values) (by decide +kernel)) (fun _ _ _ _ _ => (pg_name (i := 4) sc_l_values.nd rfl (by first | exact Or.inl rfl | exact Or.inr rfl))) (fun _ _ _ _ _ => xyes) (fun _ _ _ _ _ => (xop op_mod g_mod (xct call_int1 g_int (by rfl) Z.z_int bt_int (xcons (xop op_addU g_add (xop op_mulU g_mul (xix (xv 2) (xop op_addU g_add (xop op_mulU g_mul xint (xv 4)) xint)) xint) (xix (xv 2) (xop op_addU g_add (xop op_mulU g_mul xint (xv 4)) xint))) xnil)) (xv 3)))) (tg_name 4) (by decide))))))
abbrev s_l_before : Stmt := topS 31
theorem sc_l_before : FnScope ["ways", "before", "i", "line", "j", "right", "k"] ["ways"] (defScope s_l_before) := ⟨rfl, rfl, rfl, by decide +kernel, rfl, by decide +kernel, by decide +kernel⟩
theorem ok_l_before {f : Addr} {fd : FuncData} (F : Fun K "_law_before" "_law_before" s_l_before f fd) (Z : Zs mg) (C_l_conflict : Cal P w K mg base 1 "_law_conflict" ["first", "second"] (spP ⟨K, c, P, w⟩ [true, true] d_l_conflict)) : FnOk P w K mg base CX0 2 f fd ["ways"] (spP ⟨K, c, P, w⟩ [true] d_l_before) :=
  fun_okd (c := c) (Φ := phi_l_before) F sc_l_before rfl rfl fun b cdv A outer s H E hr => (xseq (xset (i := 1) sc_l_before.nd rfl (by first | exact Or.inl rfl | exact Or.inr rfl) (xlst xnil))
    (xseq (xfor PassesOwn.never rfl (xi_rng1 (pi_range1 (by rfl) Z.z_range (xcons (xcb call_len g_len (by rfl) Z.z_len bt_len (xcons (xv 0) xnil)) xnil))) (pg_name (i := 2) sc_l_before.nd rfl (by first | exact Or.inl rfl | exact Or.inr rfl)) (tg_name 2) (xseq (xset (i := 3) sc_l_before.nd rfl (by first | exact Or.inl rfl | exact Or.inr rfl) (xlst xnil))
    (xseq (xfor PassesOwn.never rfl (xi_rng1 (pi_range1 (by rfl) Z.z_range (xcons (xcb call_len g_len (by rfl) Z.z_len bt_len (xcons (xv 0) xnil)) xnil))) (pg_name (i := 4) sc_l_before.nd rfl (by first | exact Or.inl rfl | exact Or.inr rfl)) (tg_name 4) (xseq (by first | exact (xlcsz (ps_setLc (i := 5) (own := [("k", 6)]) rfl sc_l_before.nd rfl rfl (sw_true rfl rfl rfl (by decide +kernel)) (xi_rng1 (pi_range1 (by rfl) Z.z_range (xcons (xcb call_len g_len (by rfl) Z.z_len bt_len (xcons (xix (xv 0) (xv 2)) xnil)) xnil))) (blkOk_by (own := [("k", 6)]) (N := ["ways", "before", "i", "line", "j", "right", "k"]) (sc := defScope s_l_before) (by decide +kernel)) (fun _ _ _ _ _ => (pg_name (i := 6) sc_l_before.nd rfl (by first | exact Or.inl rfl | exact Or.inr rfl))) (fun _ _ _ _ _ => (pts_one (xtc op_gt (g_cmp (p := gtP)) (xix (xix (xv 0) (xv 2)) (xv 6)) (xix (xix (xv 0) (xv 4)) (xv 6)) (nomark _)))) (fun _ _ _ _ _ => (xv 6))) (tg_name 6) (by decide)) | exact (xset (i := 5) sc_l_before.nd rfl (by first | exact Or.inl rfl | exact Or.inr rfl) (xfz (xlc (pe_lc (own := [("k", 6)]) rfl sc_l_before.nd (xi_rng1 (pi_range1 (by rfl) Z.z_range (xcons (xcb call_len g_len (by rfl) Z.z_len bt_len (xcons (xix (xv 0) (xv 2)) xnil)) xnil))) (blkOk_by (own := [("k", 6)]) (N := ["ways", "before", "i", "line", "j", "right", "k"]) (sc := defScope s_l_before) (by decide +kernel)) (fun _ _ _ _ _ => (pg_name (i := 6) sc_l_before.nd rfl (by first | exact Or.inl rfl | exact Or.inr rfl))) (fun _ _ _ _ _ => (pts_one (xtc op_gt (g_cmp (p := gtP)) (xix (xix (xv 0) (xv 2)) (xv 6)) (xix (xix (xv 0) (xv 4)) (xv 6)) (nomark _)))) (fun _ _ _ _ _ => (xv 6))) (tg_name 6) (by decide)))))
    (xone (xifs (xtc (op_eqD hr.units) g_eq (xix (xv 0) (xv 2)) (xix (xv 0) (xv 4)) (nomark _)) (xone (xapp (pe_bm PySem.F.plainAttrs_list PySem.F.slot_list_append PySem.F.type_list_append mt_append (pv 3) (pa_cons (xcmp op_lt (g_cmp (p := ltP)) (xv 2) (xv 4) (nomark _)) pa_nil)))) (xone (xapp (pe_bm PySem.F.plainAttrs_list PySem.F.slot_list_append PySem.F.type_list_append mt_append (pv 3) (pa_cons (xandV (xcmp (op_eqD hr.units) g_eq (xcb call_len g_len (by rfl) Z.z_len bt_len (xcons (xv 5) xnil)) xint (nomark _)) (pe_one (xcmp op_isN g_isN (xcallC C_l_conflict (hr.mono (by decide)) (by rfl) (xcons (xix (xv 0) (xv 2)) (xcons (xix (xv 0) (xv 4)) xnil))) xnon (nomark _)))) pa_nil))))))))
    (xone (xfrz 3 (xapp (pe_bm PySem.F.plainAttrs_list PySem.F.slot_list_append PySem.F.type_list_append mt_append (pv 1) (pa_cons (xv 3) pa_nil))))))))
    (xone (xretv (pv 1)))))
abbrev s_l_scores : Stmt := topS 32
theorem sc_l_scores : FnScope ["before", "values", "scores", "turn", "j", "i"] ["before", "values"] (defScope s_l_scores) := ⟨rfl, rfl, rfl, by decide +kernel, rfl, by decide +kernel, by decide +kernel⟩
theorem ok_l_scores {f : Addr} {fd : FuncData} (F : Fun K "_law_scores" "_law_scores" s_l_scores f fd) (Z : Zs mg) : FnOk P w K mg base CX0 1 f fd ["before", "values"] (spP ⟨K, c, P, w⟩ [true, true] d_l_scores) :=
  fun_okd (c := c) (Φ := phi_l_scores) F sc_l_scores rfl rfl fun b cdv A outer s H E hr => (xseq (xset (i := 2) sc_l_scores.nd rfl (by first | exact Or.inl rfl | exact Or.inr rfl) (xct call_list_of g_listOf (by rfl) Z.z_list bt_list (xcons (xv 1) xnil)))
    (xseq (xfor PassesOwn.never rfl (xi_rng1 (pi_range1 (by rfl) Z.z_range (xcons (xcb call_len g_len (by rfl) Z.z_len bt_len (xcons (xv 1) xnil)) xnil))) (pg_name (i := 3) sc_l_scores.nd rfl (by first | exact Or.inl rfl | exact Or.inr rfl)) (tg_name 3) (xone (xfor PassesOwn.never rfl (xi_rng1 (pi_range1 (by rfl) Z.z_range (xcons (xcb call_len g_len (by rfl) Z.z_len bt_len (xcons (xv 1) xnil)) xnil))) (pg_name (i := 4) sc_l_scores.nd rfl (by first | exact Or.inl rfl | exact Or.inr rfl)) (tg_name 4) (xone (xfor PassesOwn.never rfl (xi_rng1 (pi_range1 (by rfl) Z.z_range (xcons (xcb call_len g_len (by rfl) Z.z_len bt_len (xcons (xv 1) xnil)) xnil))) (pg_name (i := 5) sc_l_scores.nd rfl (by first | exact Or.inl rfl | exact Or.inr rfl)) (tg_name 5) (xone (xifs (PW.pt (xand (xtru (xix (xix (xv 0) (xv 5)) (xv 4))) (pw_and1 (xtc op_gt (g_cmp (p := gtP)) (xop op_addU g_add (xix (xv 2) (xv 5)) (xix (xv 1) (xv 4))) (xix (xv 2) (xv 4)) (nomark _))))) (xone (xseti (ps_asg (xop op_addU g_add (xix (xv 2) (xv 5)) (xix (xv 1) (xv 4))) (pg_sub (pv 2) (xv 4) set_list)))) xnx)))))))
    (xone (xretv (pv 2)))))
abbrev s_l_chosen : Stmt := topS 33
theorem sc_l_chosen : FnScope ["before", "values", "scores", "at", "chosen", "turn", "ahead", "i"] ["before", "values", "scores"] (defScope s_l_chosen) := ⟨rfl, rfl, rfl, by decide +kernel, rfl, by decide +kernel, by decide +kernel⟩
theorem ok_l_chosen {f : Addr} {fd : FuncData} (F : Fun K "_law_chosen" "_law_chosen" s_l_chosen f fd) (Z : Zs mg) : FnOk P w K mg base CX0 1 f fd ["before", "values", "scores"] (spP ⟨K, c, P, w⟩ [true, true, true] d_l_chosen) :=
  fun_okd (c := c) (Φ := phi_l_chosen) F sc_l_chosen rfl rfl fun b cdv A outer s H E hr => (xseq (xifs (xtc (op_eqD hr.units) g_eq (xcb call_len g_len (by rfl) Z.z_len bt_len (xcons (xv 2) xnil)) xint (nomark _)) (xone (xret (xlst xnil))) xnx)
    (xseq (xset (i := 3) sc_l_chosen.nd rfl (by first | exact Or.inl rfl | exact Or.inr rfl) (xidx (pe_idx (xv 2) (xcons (xcb (cr_max rfl) g_max (by rfl) Z.z_max bt_max (xcons (xv 2) xnil)) xnil))))
    (xseq (xset (i := 4) sc_l_chosen.nd rfl (by first | exact Or.inl rfl | exact Or.inr rfl) (xlst (xcons (xv 3) xnil)))
    (xseq (xfor PassesOwn.never rfl (xi_rng1 (pi_range1 (by rfl) Z.z_range (xcons (xcb call_len g_len (by rfl) Z.z_len bt_len (xcons (xv 2) xnil)) xnil))) (pg_name (i := 5) sc_l_chosen.nd rfl (by first | exact Or.inl rfl | exact Or.inr rfl)) (tg_name 5) (xseq (by first | exact (xlcsz (ps_setLc (i := 6) (own := [("i", 7)]) rfl sc_l_chosen.nd rfl rfl (sw_true rfl rfl rfl (by decide +kernel)) (xi_rng1 (pi_range1 (by rfl) Z.z_range (xcons (xcb call_len g_len (by rfl) Z.z_len bt_len (xcons (xv 2) xnil)) xnil))) (blkOk_by (own := [("i", 7)]) (N := ["before", "values", "scores", "at", "chosen", "turn", "ahead", "i"]) (sc := defScope s_l_chosen) (by decide +kernel)) (fun _ _ _ _ _ => (pg_name (i := 7) sc_l_chosen.nd rfl (by first | exact Or.inl rfl | exact Or.inr rfl))) (fun _ _ _ _ _ => (pts_one (PW.pt (xand (xtru (xix (xix (xv 0) (xv 7)) (xv 3))) (pw_and1 (xtc (op_eqD hr.units) g_eq (xix (xv 2) (xv 7)) (xop op_sub g_sub (xix (xv 2) (xv 3)) (xix (xv 1) (xv 3))) (nomark _))))))) (fun _ _ _ _ _ => (xv 7))) (tg_name 7) (by decide)) | exact (xset (i := 6) sc_l_chosen.nd rfl (by first | exact Or.inl rfl | exact Or.inr rfl) (xfz (xlc (pe_lc (own := [("i", 7)]) rfl sc_l_chosen.nd (xi_rng1 (pi_range1 (by rfl) Z.z_range (xcons (xcb call_len g_len (by rfl) Z.z_len bt_len (xcons (xv 2) xnil)) xnil))) (blkOk_by (own := [("i", 7)]) (N := ["before", "values", "scores", "at", "chosen", "turn", "ahead", "i"]) (sc := defScope s_l_chosen) (by decide +kernel)) (fun _ _ _ _ _ => (pg_name (i := 7) sc_l_chosen.nd rfl (by first | exact Or.inl rfl | exact Or.inr rfl))) (fun _ _ _ _ _ => (pts_one (PW.pt (xand (xtru (xix (xix (xv 0) (xv 7)) (xv 3))) (pw_and1 (xtc (op_eqD hr.units) g_eq (xix (xv 2) (xv 7)) (xop op_sub g_sub (xix (xv 2) (xv 3)) (xix (xv 1) (xv 3))) (nomark _))))))) (fun _ _ _ _ _ => (xv 7))) (tg_name 7) (by decide)))))
    (xone (xifs (xtc op_gt (g_cmp (p := gtP)) (xcb call_len g_len (by rfl) Z.z_len bt_len (xcons (xv 6) xnil)) xint (nomark _)) (xseq (xset (i := 3) sc_l_chosen.nd rfl (by first | exact Or.inl rfl | exact Or.inr rfl) (xix (xv 6) xint))
    (xone (xapp (pe_bm PySem.F.plainAttrs_list PySem.F.slot_list_append PySem.F.type_list_append mt_append (pv 4) (pa_cons (xv 3) pa_nil))))) xnx))))
    (xone (xret (xcb cr_sorted g_sorted (by rfl) Z.z_sorted bt_sorted (xcons (xv 4) xnil))))))))
abbrev s_l_spoilt_lot : Stmt := topS 34
theorem sc_l_spoilt_lot : FnScope ["chosen", "values", "picks", "kind", "size", "at", "other", "rest", "k", "entry"] ["chosen", "values", "picks"] (defScope s_l_spoilt_lot) := ⟨rfl, rfl, rfl, by decide +kernel, rfl, by decide +kernel, by decide +kernel⟩
theorem ok_l_spoilt_lot {f : Addr} {fd : FuncData} (F : Fun K "_law_spoilt_lot" "_law_spoilt_lot" s_l_spoilt_lot f fd) (Z : Zs mg) : FnOk P w K mg base CX0 1 f fd ["chosen", "values", "picks"] (spP ⟨K, c, P, w⟩ [true, true, true] d_l_spoilt_lot) :=
  fun_okd (c := c) (Φ := phi_l_spoilt_lot) F sc_l_spoilt_lot rfl rfl fun b cdv A outer s H E hr => (xseq (xset (i := 3) sc_l_spoilt_lot.nd rfl (by first | exact Or.inl rfl | exact Or.inr rfl) (xop op_mod g_mod (xct call_int1 g_int (by rfl) Z.z_int bt_int (xcons (xix (xv 2) xint) xnil)) xint))
    (xseq (xset (i := 4) sc_l_spoilt_lot.nd rfl (by first | exact Or.inl rfl | exact Or.inr rfl) (xcb call_len g_len (by rfl) Z.z_len bt_len (xcons (xv 1) xnil)))
    (xseq (xset (i := 5) sc_l_spoilt_lot.nd rfl (by first | exact Or.inl rfl | exact Or.inr rfl) (xop op_mod g_mod (xct call_int1 g_int (by rfl) Z.z_int bt_int (xcons (xix (xv 2) xint) xnil)) (xop op_addU g_add (xcb call_len g_len (by rfl) Z.z_len bt_len (xcons (xv 0) xnil)) xint)))
    (xseq (xset (i := 6) sc_l_spoilt_lot.nd rfl (by first | exact Or.inl rfl | exact Or.inr rfl) (xop op_mod g_mod (xct call_int1 g_int (by rfl) Z.z_int bt_int (xcons (xix (xv 2) xint) xnil)) (xop op_addU g_add (xv 4) xint)))
    (xseq (by first | exact (xlcsz (ps_setLc (i := 7) (own := [("k", 8)]) rfl sc_l_spoilt_lot.nd rfl rfl (sw_true rfl rfl rfl (by decide +kernel)) (xi_rng1 (pi_range1 (by rfl) Z.z_range (xcons (xv 4) xnil))) (blkOk_by (own := [("k", 8)]) (N := ["chosen", "values", "picks", "kind", "size", "at", "other", "rest", "k", "entry"]) (sc := defScope s_l_spoilt_lot) (by decide +kernel)) (fun _ _ _ _ _ => (pg_name (i := 8) sc_l_spoilt_lot.nd rfl (by first | exact Or.inl rfl | exact Or.inr rfl))) (fun _ _ _ _ _ => (pts_one (PW.pt (xand (xtc op_notIn_seq g_nin (xv 8) (xv 0) (by rfl)) (pw_and1 (xtc op_gt (g_cmp (p := gtP)) (xix (xv 1) (xv 8)) xint (nomark _))))))) (fun _ _ _ _ _ => (xv 8))) (tg_name 8) (by decide)) | exact (xset (i := 7) sc_l_spoilt_lot.nd rfl (by first | exact Or.inl rfl | exact Or.inr rfl) (xfz (xlc (pe_lc (own := [("k", 8)]) rfl sc_l_spoilt_lot.nd (xi_rng1 (pi_range1 (by rfl) Z.z_range (xcons (xv 4) xnil))) (blkOk_by (own := [("k", 8)]) (N := ["chosen", "values", "picks", "kind", "size", "at", "other", "rest", "k", "entry"]) (sc := defScope s_l_spoilt_lot) (by decide +kernel)) (fun _ _ _ _ _ => (pg_name (i := 8) sc_l_spoilt_lot.nd rfl (by first | exact Or.inl rfl | exact Or.inr rfl))) (fun _ _ _ _ _ => (pts_one (PW.pt (xand (xtc op_notIn_seq g_nin (xv 8) (xv 0) (by rfl)) (pw_and1 (xtc op_gt (g_cmp (p := gtP)) (xix (xv 1) (xv 8)) xint (nomark _))))))) (fun _ _ _ _ _ => (xv 8))) (tg_name 8) (by decide)))))
    (xseq (xifs (xtc (op_eqD hr.units) g_eq (xv 3) xint (nomark _)) (xone (xret (xop op_addU g_add (xsl (xv 0) xno (xsm (xv 5))) (xsl (xv 0) (xsm (xop op_addU g_add (xv 5) xint)) xno)))) xnx)
    (xseq (xifs (xtc (op_eqD hr.units) g_eq (xv 3) xint (nomark _)) (xone (xret (xcb cr_sorted g_sorted (by rfl) Z.z_sorted bt_sorted (xcons (xop op_addU g_add (xv 0) (xlst (xcons (xv 6) xnil))) xnil)))) xnx)
    (xseq (xifs (xtc (op_eqD hr.units) g_eq (xv 3) xint (nomark _)) (xone (xret (xop op_addU g_add (xsl (xv 0) xno (xsm (xop op_addU g_add (xv 5) xint))) (xsl (xv 0) (xsm (xv 5)) xno)))) xnx)
    (xseq (xifs (xtc (op_eqD hr.units) g_eq (xv 3) xint (nomark _)) (xone (xret (xop op_addU g_add (xlst (xcons (xop op_sub g_sub xint xint) xnil)) (xv 0)))) xnx)
    (xseq (xifs (xtc (op_eqD hr.units) g_eq (xv 3) xint (nomark _)) (xone (xret (xop op_addU g_add (xv 0) (xlst (xcons (xop op_addU g_add (xv 4) (xop op_mulU g_mul (xv 6) (xop op_pow g_pow xint xint))) xnil))))) xnx)
    (xseq (xifs (xtc (op_eqD hr.units) g_eq (xv 3) xint (nomark _)) (xone (xret (xop op_addU g_add (xop op_addU g_add (xop op_addU g_add (xsl (xv 0) xno (xsm (xv 5))) (xsl (xv 0) (xsm (xop op_addU g_add (xv 5) xint)) (xsm (xop op_addU g_add (xv 5) xint)))) (xsl (xv 0) (xsm (xv 5)) (xsm (xop op_addU g_add (xv 5) xint)))) (xsl (xv 0) (xsm (xop op_addU g_add (xv 5) xint)) xno)))) xnx)
    (xseq (xifs (xtc (op_eqD hr.units) g_eq (xv 3) xint (nomark _)) (xone (xret (xop op_addU g_add (xop op_addU g_add (xsl (xv 0) xno (xsm (xv 5))) (xlst (xcons (xv 6) xnil))) (xsl (xv 0) (xsm (xop op_addU g_add (xv 5) xint)) xno)))) xnx)
    (xseq (xifs (xtc (op_eqD hr.units) g_eq (xv 3) xint (nomark _)) (xone (xret (xop op_addU g_add (xop op_addU g_add (xsl (xv 0) xno (xsm (xv 5))) (xlst (xcons (xv 6) xnil))) (xsl (xv 0) (xsm (xv 5)) xno)))) xnx)
    (xseq (xifs (xtc (op_eqD hr.units) g_eq (xv 3) xint (nomark _)) (xone (xret (xop op_addU g_add (xlc (pe_lc (own := [("entry", 9)]) rfl sc_l_spoilt_lot.nd (xi_seq (xfz (xsl (xv 0) xno (xsm (xv 5))))) (blkOk_by (own := [("entry", 9)]) (N := ["chosen", "values", "picks", "kind", "size", "at", "other", "rest", "k", "entry"]) (sc := defScope s_l_spoilt_lot) (by decide +kernel)) (fun _ _ _ _ _ => (pg_name (i := 9) sc_l_spoilt_lot.nd rfl (by first | exact Or.inl rfl | exact Or.inr rfl))) (fun _ _ _ _ _ => xyes) (fun _ _ _ _ _ => (xop op_sub g_sub (xv 9) (xv 4)))) (tg_name 9) (by decide)) (xsl (xv 0) (xsm (xv 5)) xno)))) xnx)
    (xseq (xifs (xtc op_gt (g_cmp (p := gtP)) (xcb call_len g_len (by rfl) Z.z_len bt_len (xcons (xv 7) xnil)) xint (nomark _)) (xone (xret (xcb cr_sorted g_sorted (by rfl) Z.z_sorted bt_sorted (xcons (xop op_addU g_add (xv 0) (xlst (xcons (xix (xv 7) (xop op_mod g_mod (xv 6) (xcb call_len g_len (by rfl) Z.z_len bt_len (xcons (xv 7) xnil)))) xnil))) xnil)))) xnx)
    (xone (xretv (pv 0))))))))))))))))))
abbrev s_l_spoilt_scores : Stmt := topS 35
theorem sc_l_spoilt_scores : FnScope ["scores", "values", "picks", "kind", "more", "at", "fresh", "score"] ["scores", "values", "picks"] (defScope s_l_spoilt_scores) := ⟨rfl, rfl, rfl, by decide +kernel, rfl, by decide +kernel, by decide +kernel⟩
theorem ok_l_spoilt_scores {f : Addr} {fd : FuncData} (F : Fun K "_law_spoilt_scores" "_law_spoilt_scores" s_l_spoilt_scores f fd) (Z : Zs mg) : FnOk P w K mg base CX0 1 f fd ["scores", "values", "picks"] (spP ⟨K, c, P, w⟩ [true, true, true] d_l_spoilt_scores) :=
  fun_okd (c := c) (Φ := phi_l_spoilt_scores) F sc_l_spoilt_scores rfl rfl fun b cdv A outer s H E hr => (xseq (xset (i := 3) sc_l_spoilt_scores.nd rfl (by first | exact Or.inl rfl | exact Or.inr rfl) (xop op_mod g_mod (xct call_int1 g_int (by rfl) Z.z_int bt_int (xcons (xix (xv 2) xint) xnil)) xint))
    (xseq (xset (i := 4) sc_l_spoilt_scores.nd rfl (by first | exact Or.inl rfl | exact Or.inr rfl) (xop op_addU g_add xint (xop op_mod g_mod (xct call_int1 g_int (by rfl) Z.z_int bt_int (xcons (xix (xv 2) xint) xnil)) xint)))
    (xseq (xifs (xtc (op_eqD hr.units) g_eq (xv 3) xint (nomark _)) (xone (xret (xop op_addU g_add (xv 0) (xlst (xcons (xop op_mod g_mod (xct call_int1 g_int (by rfl) Z.z_int bt_int (xcons (xix (xv 2) xint) xnil)) xint) xnil))))) xnx)
    (xseq (xifs (xtc (op_eqD hr.units) g_eq (xv 3) xint (nomark _)) (xone (xret (xsl (xv 0) xno (xsm (xneg xint))))) xnx)
    (xseq (xifs (xtc (op_eqD hr.units) g_eq (xv 3) xint (nomark _)) (xone (xret (xlc (pe_lc (own := [("score", 7)]) rfl sc_l_spoilt_scores.nd (xi_seq (xv 0)) (blkOk_by (own := [("score", 7)]) (N := ["scores", "values", "picks", "kind", "more", "at", "fresh", "score"]) (sc := defScope s_l_spoilt_scores) (by decide +kernel)) (fun _ _ _ _ _ => (pg_name (i := 7) sc_l_spoilt_scores.nd rfl (by first | exact Or.inl rfl | exact Or.inr rfl))) (fun _ _ _ _ _ => xyes) (fun _ _ _ _ _ => (xop op_addU g_add (xv 7) (xv 4)))) (tg_name 7) (by decide)))) xnx)
    (xseq (xifs (xtc (op_eqD hr.units) g_eq (xcb call_len g_len (by rfl) Z.z_len bt_len (xcons (xv 0) xnil)) xint (nomark _)) (xone (xret (xlst xnil))) xnx)
    (xseq (xset (i := 5) sc_l_spoilt_scores.nd rfl (by first | exact Or.inl rfl | exact Or.inr rfl) (xop op_mod g_mod (xct call_int1 g_int (by rfl) Z.z_int bt_int (xcons (xix (xv 2) xint) xnil)) (xcb call_len g_len (by rfl) Z.z_len bt_len (xcons (xv 0) xnil))))
    (xseq (xset (i := 6) sc_l_spoilt_scores.nd rfl (by first | exact Or.inl rfl | exact Or.inr rfl) (xct call_list_of g_listOf (by rfl) Z.z_list bt_list (xcons (xv 0) xnil)))
    (xseq (xifs (xtc (op_eqD hr.units) g_eq (xv 3) xint (nomark _)) (xone (xseti (ps_asg (xop op_addU g_add (xix (xv 0) (xv 5)) (xv 4)) (pg_sub (pv 6) (xv 5) set_list)))) (xone (xifs (xtc (op_eqD hr.units) g_eq (xv 3) xint (nomark _)) (xone (xseti (ps_asg (xop op_sub g_sub (xix (xv 0) (xv 5)) (xv 4)) (pg_sub (pv 6) (xv 5) set_list)))) (xone (xifs (xtc (op_eqD hr.units) g_eq (xv 3) xint (nomark _)) (xone (xseti (ps_asg (xop op_sub g_sub (xix (xv 1) (xv 5)) (xv 4)) (pg_sub (pv 6) (xv 5) set_list)))) (xone (xifs (xtc (op_eqD hr.units) g_eq (xv 3) xint (nomark _)) (xone (xseti (ps_asg (xix (xv 1) (xv 5)) (pg_sub (pv 6) (xv 5) set_list)))) (xone (xifs (xtc (op_eqD hr.units) g_eq (xv 3) xint (nomark _)) (xone (xseti (ps_asg (xcb (cr_max rfl) g_max (by rfl) Z.z_max bt_max (xcons (xv 0) xnil)) (pg_sub (pv 6) (xv 5) set_list)))) (xone (xifs (xtc (op_eqD hr.units) g_eq (xv 3) xint (nomark _)) (xone (xret (xlc (pe_lc (own := [("score", 7)]) rfl sc_l_spoilt_scores.nd (xi_seq (xv 0)) (blkOk_by (own := [("score", 7)]) (N := ["scores", "values", "picks", "kind", "more", "at", "fresh", "score"]) (sc := defScope s_l_spoilt_scores) (by decide +kernel)) (fun _ _ _ _ _ => (pg_name (i := 7) sc_l_spoilt_scores.nd rfl (by first | exact Or.inl rfl | exact Or.inr rfl))) (fun _ _ _ _ _ => xyes) (fun _ _ _ _ _ => xint)) (tg_name 7) (by decide)))) xnx)))))))))))
    (xone (xretv (pv 6))))))))))))
abbrev s_l_raised : Stmt := topS 36
theorem sc_l_raised : FnScope ["scores", "values", "other", "total", "most", "entry", "score"] ["scores", "values", "other"] (defScope s_l_raised) := ⟨rfl, rfl, rfl, by decide +kernel, rfl, by decide +kernel, by decide +kernel⟩
theorem ok_l_raised {f : Addr} {fd : FuncData} (F : Fun K "_law_raised" "_law_raised" s_l_raised f fd) (Z : Zs mg) : FnOk P w K mg base CX0 1 f fd ["scores", "values", "other"] (spP ⟨K, c, P, w⟩ [true, true, true] d_l_raised) :=
  fun_okd (c := c) (Φ := phi_l_raised) F sc_l_raised rfl rfl fun b cdv A outer s H E hr => (xseq (xset (i := 3) sc_l_raised.nd rfl (by first | exact Or.inl rfl | exact Or.inr rfl) (xcb (cr_sum rfl) g_sum (by rfl) Z.z_sum bt_sum (xcons (xlc (pe_lc (own := [("entry", 5)]) rfl sc_l_raised.nd (xi_seq (xv 2)) (blkOk_by (own := [("entry", 5)]) (N := ["scores", "values", "other", "total", "most", "entry", "score"]) (sc := defScope s_l_raised) (by decide +kernel)) (fun _ _ _ _ _ => (pg_name (i := 5) sc_l_raised.nd rfl (by first | exact Or.inl rfl | exact Or.inr rfl))) (fun _ _ _ _ _ => (pts_one (xtchain op_le op_lt (g_cmp (p := leP)) (g_cmp (p := ltP)) xint (xv 5) (xcb call_len g_len (by rfl) Z.z_len bt_len (xcons (xv 1) xnil))))) (fun _ _ _ _ _ => (xix (xv 1) (xv 5)))) (tg_name 5) (by decide)) xnil)))
    (xseq (xset (i := 4) sc_l_raised.nd rfl (by first | exact Or.inl rfl | exact Or.inr rfl) (xcb (cr_max rfl) g_max (by rfl) Z.z_max bt_max (xcons (xop op_addU g_add (xlst (xcons xint xnil)) (xv 0)) xnil)))
    (xseq (xifs (xtc op_gt (g_cmp (p := gtP)) (xv 3) (xv 4) (nomark _)) (xone (xret (xlc (pe_lc (own := [("score", 6)]) rfl sc_l_raised.nd (xi_seq (xv 0)) (blkOk_by (own := [("score", 6)]) (N := ["scores", "values", "other", "total", "most", "entry", "score"]) (sc := defScope s_l_raised) (by decide +kernel)) (fun _ _ _ _ _ => (pg_name (i := 6) sc_l_raised.nd rfl (by first | exact Or.inl rfl | exact Or.inr rfl))) (fun _ _ _ _ _ => xyes) (fun _ _ _ _ _ => (xop op_sub g_sub (xop op_addU g_add (xv 6) (xv 3)) (xv 4)))) (tg_name 6) (by decide)))) xnx)
    (xone (xretv (pv 0))))))
abbrev s_l_due : Stmt := topS 37
theorem sc_l_due : FnScope ["before", "values", "chosen", "scores", "k", "i", "j", "early"] ["before", "values", "chosen", "scores"] (defScope s_l_due) := ⟨rfl, rfl, rfl, by decide +kernel, rfl, by decide +kernel, by decide +kernel⟩
theorem ok_l_due {f : Addr} {fd : FuncData} (F : Fun K "_law_due" "_law_due" s_l_due f fd) (Z : Zs mg) : FnOk P w K mg base CX0 1 f fd ["before", "values", "chosen", "scores"] (spP ⟨K, c, P, w⟩ [true, true, true, true] d_l_due) :=
  fun_okd (c := c) (Φ := phi_l_due) F sc_l_due rfl rfl fun b cdv A outer s H E hr => (xseq (xfor PassesOwn.never rfl (xi_rng1 (pi_range1 (by rfl) Z.z_range (xcons (xcb call_len g_len (by rfl) Z.z_len bt_len (xcons (xv 2) xnil)) xnil))) (pg_name (i := 4) sc_l_due.nd rfl (by first | exact Or.inl rfl | exact Or.inr rfl)) (tg_name 4) (xone (xifs (PW.pt (xor (xtc op_lt (g_cmp (p := ltP)) (xix (xv 2) (xv 4)) xint (nomark _)) (xor (xtc op_ge (g_cmp (p := geP)) (xix (xv 2) (xv 4)) (xcb call_len g_len (by rfl) Z.z_len bt_len (xcons (xv 1) xnil)) (nomark _)) (pw_or1 (PW.pt (xand (xtc op_gt (g_cmp (p := gtP)) (xv 4) xint (nomark _)) (pw_and1 (xtc op_ge (g_cmp (p := geP)) (xix (xv 2) (xop op_sub g_sub (xv 4) xint)) (xix (xv 2) (xv 4)) (nomark _))))))))) (xone (xret xbl)) xnx)))
    (xseq (xfor PassesOwn.never rfl (xi_rng1 (pi_range1 (by rfl) Z.z_range (xcons (xcb call_len g_len (by rfl) Z.z_len bt_len (xcons (xv 2) xnil)) xnil))) (pg_name (i := 4) sc_l_due.nd rfl (by first | exact Or.inl rfl | exact Or.inr rfl)) (tg_name 4) (xone (xfor PassesOwn.never rfl (xi_seq (xfz (xsl (xv 2) xno (xsm (xv 4))))) (pg_name (i := 5) sc_l_due.nd rfl (by first | exact Or.inl rfl | exact Or.inr rfl)) (tg_name 5) (xone (xifs (PW.pt (xand (xnot (xtru (xix (xix (xv 0) (xv 5)) (xix (xv 2) (xv 4))))) (pw_and1 (xnot (xtru (xix (xix (xv 0) (xix (xv 2) (xv 4))) (xv 5))))))) (xone (xret xbl)) xnx)))))
    (xseq (xifs (xtc (op_neD hr.units) g_ne (xcb call_len g_len (by rfl) Z.z_len bt_len (xcons (xv 3) xnil)) (xcb call_len g_len (by rfl) Z.z_len bt_len (xcons (xv 1) xnil)) (nomark _)) (xone (xret xbl)) xnx)
    (xseq (xfor PassesOwn.never rfl (xi_rng1 (pi_range1 (by rfl) Z.z_range (xcons (xcb call_len g_len (by rfl) Z.z_len bt_len (xcons (xv 1) xnil)) xnil))) (pg_name (i := 6) sc_l_due.nd rfl (by first | exact Or.inl rfl | exact Or.inr rfl)) (tg_name 6) (xseq (by first | exact (xlcsz (ps_setLc (i := 7) (own := [("i", 5)]) rfl sc_l_due.nd rfl rfl (sw_true rfl rfl rfl (by decide +kernel)) (xi_rng1 (pi_range1 (by rfl) Z.z_range (xcons (xcb call_len g_len (by rfl) Z.z_len bt_len (xcons (xv 1) xnil)) xnil))) (blkOk_by (own := [("i", 5)]) (N := ["before", "values", "chosen", "scores", "k", "i", "j", "early"]) (sc := defScope s_l_due) (by decide +kernel)) (fun _ _ _ _ _ => (pg_name (i := 5) sc_l_due.nd rfl (by first | exact Or.inl rfl | exact Or.inr rfl))) (fun _ _ _ _ _ => (pts_one (PW.pt (xand (xtru (xix (xix (xv 0) (xv 5)) (xv 6))) (pw_and1 (xtc op_gt (g_cmp (p := gtP)) (xix (xv 3) (xv 5)) (xop op_sub g_sub (xix (xv 3) (xv 6)) (xix (xv 1) (xv 6))) (nomark _))))))) (fun _ _ _ _ _ => (xix (xv 3) (xv 5)))) (tg_name 5) (by decide)) | exact (xset (i := 7) sc_l_due.nd rfl (by first | exact Or.inl rfl | exact Or.inr rfl) (xfz (xlc (pe_lc (own := [("i", 5)]) rfl sc_l_due.nd (xi_rng1 (pi_range1 (by rfl) Z.z_range (xcons (xcb call_len g_len (by rfl) Z.z_len bt_len (xcons (xv 1) xnil)) xnil))) (blkOk_by (own := [("i", 5)]) (N := ["before", "values", "chosen", "scores", "k", "i", "j", "early"]) (sc := defScope s_l_due) (by decide +kernel)) (fun _ _ _ _ _ => (pg_name (i := 5) sc_l_due.nd rfl (by first | exact Or.inl rfl | exact Or.inr rfl))) (fun _ _ _ _ _ => (pts_one (PW.pt (xand (xtru (xix (xix (xv 0) (xv 5)) (xv 6))) (pw_and1 (xtc op_gt (g_cmp (p := gtP)) (xix (xv 3) (xv 5)) (xop op_sub g_sub (xix (xv 3) (xv 6)) (xix (xv 1) (xv 6))) (nomark _))))))) (fun _ _ _ _ _ => (xix (xv 3) (xv 5)))) (tg_name 5) (by decide)))))
    (xone (xifs (PW.pt (xor (xtc op_lt (g_cmp (p := ltP)) (xix (xv 3) (xv 6)) (xix (xv 1) (xv 6)) (nomark _)) (pw_or1 (xtc op_gt (g_cmp (p := gtP)) (xcb call_len g_len (by rfl) Z.z_len bt_len (xcons (xv 7) xnil)) xint (nomark _))))) (xone (xret xbl)) xnx))))
    (xone (xret (xcmp (op_eqD hr.units) g_eq (xcb (cr_sum rfl) g_sum (by rfl) Z.z_sum bt_sum (xcons (xlc (pe_lc (own := [("k", 4)]) rfl sc_l_due.nd (xi_seq (xv 2)) (blkOk_by (own := [("k", 4)]) (N := ["before", "values", "chosen", "scores", "k", "i", "j", "early"]) (sc := defScope s_l_due) (by decide +kernel)) (fun _ _ _ _ _ => (pg_name (i := 4) sc_l_due.nd rfl (by first | exact Or.inl rfl | exact Or.inr rfl))) (fun _ _ _ _ _ => xyes) (fun _ _ _ _ _ => (xix (xv 1) (xv 4)))) (tg_name 4) (by decide)) xnil)) (xcb (cr_max rfl) g_max (by rfl) Z.z_max bt_max (xcons (xop op_addU g_add (xlst (xcons xint xnil)) (xv 3)) xnil)) (nomark _))))))))
abbrev s_LAW : Stmt := topS 38
theorem sc_LAW : FnScope ["script", "world", "ways", "values", "before", "scores", "chosen", "picks", "mode", "other", "fresh", "due", "given", "handed", "told", "mixed", "way", "k"] ["script"] (defScope s_LAW) := ⟨rfl, rfl, rfl, by decide +kernel, rfl, by decide +kernel, by decide +kernel⟩
theorem ok_LAW {f : Addr} {fd : FuncData} (F : Fun K "law" "law" s_LAW f fd) (Z : Zs mg) (C_l_world : Cal P w K mg base 4 "_law_world" ["cell", "small"] (spP ⟨K, c, P, w⟩ [true, true] d_l_world)) (C_l_ways : Cal P w K mg base 2 "_law_ways" ["world", "cell", "plan"] (spP ⟨K, c, P, w⟩ [true, true, true] d_l_ways)) (C_l_values : Cal P w K mg base 2 "_law_values" ["cell", "many"] (spP ⟨K, c, P, w⟩ [true, true] d_l_values)) (C_l_before : Cal P w K mg base 2 "_law_before" ["ways"] (spP ⟨K, c, P, w⟩ [true] d_l_before)) (C_l_scores : Cal P w K mg base 1 "_law_scores" ["before", "values"] (spP ⟨K, c, P, w⟩ [true, true] d_l_scores)) (C_l_chosen : Cal P w K mg base 1 "_law_chosen" ["before", "values", "scores"] (spP ⟨K, c, P, w⟩ [true, true, true] d_l_chosen)) (C_l_draws : Cal P w K mg base 1 "_law_draws" ["cell", "many"] (spP ⟨K, c, P, w⟩ [true, true] d_l_draws)) (C_l_due : Cal P w K mg base 1 "_law_due" ["before", "values", "chosen", "scores"] (spP ⟨K, c, P, w⟩ [true, true, true, true] d_l_due)) (C_lot_holds : Cal P w K mg base 6 "lot_holds" ["routes", "worths", "lot", "marks"] (spP ⟨K, c, P, w⟩ [true, true, true, true] d_lot_holds)) (C_l_same : Cal P w K mg base 7 "_law_same" ["told", "due"] (spP ⟨K, c, P, w⟩ [true, true] d_l_same)) (C_l_cell : Cal P w K mg base 1 "_law_cell" ["script", "k"] (spP ⟨K, c, P, w⟩ [false, true] d_l_cell)) (C_l_spoilt_lot : Cal P w K mg base 1 "_law_spoilt_lot" ["chosen", "values", "picks"] (spP ⟨K, c, P, w⟩ [true, true, true] d_l_spoilt_lot)) (C_l_spoilt_scores : Cal P w K mg base 1 "_law_spoilt_scores" ["scores", "values", "picks"] (spP ⟨K, c, P, w⟩ [true, true, true] d_l_spoilt_scores)) (C_l_raised : Cal P w K mg base 1 "_law_raised" ["scores", "values", "other"] (spP ⟨K, c, P, w⟩ [true, true, true] d_l_raised)) (CK_lot_holds : CalK P w K mg base 6 "lot_holds" ["routes", "worths", "lot", "marks"] (spP ⟨K, c, P, w⟩ [true, true, true, true] d_lot_holds)) : FnOk P w K mg base CX0 8 f fd ["script"] (spP ⟨K, c, P, w⟩ [false] d_LAW) :=
  fun_okd (c := c) (Φ := phi_LAW) F sc_LAW rfl rfl fun b cdv A outer s H E hr => (xseq (xset (i := 1) sc_LAW.nd rfl (by first | exact Or.inl rfl | exact Or.inr rfl) (xcallC C_l_world (hr.mono (by decide)) (by rfl) (xcons (xcallC C_l_cell (hr.mono (by decide)) (by rfl) (xcons (xv 0) (xcons xint xnil))) (xcons xbl xnil))))
    (xseq (xset (i := 2) sc_LAW.nd rfl (by first | exact Or.inl rfl | exact Or.inr rfl) (xfz (xcallC C_l_ways (hr.mono (by decide)) (by rfl) (xcons (xv 1) (xcons (xcallC C_l_cell (hr.mono (by decide)) (by rfl) (xcons (xv 0) (xcons xint xnil))) (xcons (xfz (xcallC C_l_draws (hr.mono (by decide)) (by rfl) (xcons (xcallC C_l_cell (hr.mono (by decide)) (by rfl) (xcons (xv 0) (xcons xint xnil))) (xcons xint xnil)))) xnil))))))
    (xseq (xset (i := 3) sc_LAW.nd rfl (by first | exact Or.inl rfl | exact Or.inr rfl) (xfz (xcallC C_l_values (hr.mono (by decide)) (by rfl) (xcons (xcallC C_l_cell (hr.mono (by decide)) (by rfl) (xcons (xv 0) (xcons xint xnil))) (xcons (xcb call_len g_len (by rfl) Z.z_len bt_len (xcons (xv 2) xnil)) xnil)))))
    (xseq (xset (i := 4) sc_LAW.nd rfl (by first | exact Or.inl rfl | exact Or.inr rfl) (xfz (xcallC C_l_before (hr.mono (by decide)) (by rfl) (xcons (xv 2) xnil))))
    (xseq (xset (i := 5) sc_LAW.nd rfl (by first | exact Or.inl rfl | exact Or.inr rfl) (xfz (xcallC C_l_scores (hr.mono (by decide)) (by rfl) (xcons (xv 4) (xcons (xv 3) xnil)))))
    (xseq (xset (i := 6) sc_LAW.nd rfl (by first | exact Or.inl rfl | exact Or.inr rfl) (xfz (xcallC C_l_chosen (hr.mono (by decide)) (by rfl) (xcons (xv 4) (xcons (xv 3) (xcons (xv 5) xnil))))))
    (xseq (xset (i := 7) sc_LAW.nd rfl (by first | exact Or.inl rfl | exact Or.inr rfl) (xfz (xcallC C_l_draws (hr.mono (by decide)) (by rfl) (xcons (xcallC C_l_cell (hr.mono (by decide)) (by rfl) (xcons (xv 0) (xcons xint xnil))) (xcons xint xnil)))))
    (xseq (xset (i := 8) sc_LAW.nd rfl (by first | exact Or.inl rfl | exact Or.inr rfl) (xop op_mod g_mod (xct call_int1 g_int (by rfl) Z.z_int bt_int (xcons (xix (xv 7) xint) xnil)) xint))
    (xseq (xset (i := 9) sc_LAW.nd rfl (by first | exact Or.inl rfl | exact Or.inr rfl) (xv 6))
    (xseq (xset (i := 10) sc_LAW.nd rfl (by first | exact Or.inl rfl | exact Or.inr rfl) (xv 5))
    (xseq (xifs (xtchain op_lt op_lt (g_cmp (p := ltP)) (g_cmp (p := ltP)) xint (xv 8) xint) (xone (xset (i := 9) sc_LAW.nd rfl (by first | exact Or.inl rfl | exact Or.inr rfl) (xfz (xcallC C_l_spoilt_lot (hr.mono (by decide)) (by rfl) (xcons (xv 6) (xcons (xv 3) (xcons (xfz (xsl (xv 7) xno (xsm xint))) xnil))))))) xnx)
    (xseq (xifs (xtc op_gt (g_cmp (p := gtP)) (xv 8) xint (nomark _)) (xone (xset (i := 10) sc_LAW.nd rfl (by first | exact Or.inl rfl | exact Or.inr rfl) (xfz (xcallC C_l_spoilt_scores (hr.mono (by decide)) (by rfl) (xcons (xv 5) (xcons (xv 3) (xcons (xfz (xsl (xv 7) (xsm xint) (xsm xint))) xnil))))))) (xone (xifs (xtc op_gt (g_cmp (p := gtP)) (xop op_mod g_mod (xct call_int1 g_int (by rfl) Z.z_int bt_int (xcons (xix (xv 7) xint) xnil)) xint) xint (nomark _)) (xone (xset (i := 10) sc_LAW.nd rfl (by first | exact Or.inl rfl | exact Or.inr rfl) (xfz (xcallC C_l_raised (hr.mono (by decide)) (by rfl) (xcons (xv 5) (xcons (xv 3) (xcons (xv 9) xnil))))))) xnx)))
    (xseq (xset (i := 11) sc_LAW.nd rfl (by first | exact Or.inl rfl | exact Or.inr rfl) (xcallC C_l_due (hr.mono (by decide)) (by rfl) (xcons (xv 4) (xcons (xv 3) (xcons (xv 9) (xcons (xv 10) xnil))))))
    (xseq (by first | exact (xlcsz (ps_setLc (i := 12) (own := [("way", 16)]) rfl sc_LAW.nd rfl rfl (sw_true rfl rfl rfl (by decide +kernel)) (xi_seq (xv 2)) (blkOk_by (own := [("way", 16)]) (N := ["script", "world", "ways", "values", "before", "scores", "chosen", "picks", "mode", "other", "fresh", "due", "given", "handed", "told", "mixed", "way", "k"]) (sc := defScope s_LAW) (by decide +kernel)) (fun _ _ _ _ _ => (pg_name (i := 16) sc_LAW.nd rfl (by first | exact Or.inl rfl | exact Or.inr rfl))) (fun _ _ _ _ _ => xyes) (fun _ _ _ _ _ => (xfz (xct call_list_of g_listOf (by rfl) Z.z_list bt_list (xcons (xv 16) xnil))))) (tg_name 16) (by decide)) | exact (xset (i := 12) sc_LAW.nd rfl (by first | exact Or.inl rfl | exact Or.inr rfl) (xfz (xlc (pe_lc (own := [("way", 16)]) rfl sc_LAW.nd (xi_seq (xv 2)) (blkOk_by (own := [("way", 16)]) (N := ["script", "world", "ways", "values", "before", "scores", "chosen", "picks", "mode", "other", "fresh", "due", "given", "handed", "told", "mixed", "way", "k"]) (sc := defScope s_LAW) (by decide +kernel)) (fun _ _ _ _ _ => (pg_name (i := 16) sc_LAW.nd rfl (by first | exact Or.inl rfl | exact Or.inr rfl))) (fun _ _ _ _ _ => xyes) (fun _ _ _ _ _ => (xfz (xct call_list_of g_listOf (by rfl) Z.z_list bt_list (xcons (xv 16) xnil))))) (tg_name 16) (by decide)))))
    (xseq (xset (i := 13) sc_LAW.nd rfl (by first | exact Or.inl rfl | exact Or.inr rfl) (xfz (xlst (xcons (xfz (xct call_list_of g_listOf (by rfl) Z.z_list bt_list (xcons (xv 3) xnil))) (xcons (xfz (xct call_list_of g_listOf (by rfl) Z.z_list bt_list (xcons (xv 9) xnil))) (xcons (xfz (xct call_list_of g_listOf (by rfl) Z.z_list bt_list (xcons (xv 10) xnil))) xnil))))))
    (xseq (xset (i := 14) sc_LAW.nd rfl (by first | exact Or.inl rfl | exact Or.inr rfl) (xcallC C_lot_holds (hr.mono (by decide)) (by rfl) (xcons (xv 12) (xcons (xix (xv 13) xint) (xcons (xix (xv 13) xint) (xcons (xix (xv 13) xint) xnil))))))
    (xseq (xifs (PW.pt (xor (xnot (xtru (xcallC C_l_same (hr.mono (by decide)) (by rfl) (xcons (xv 14) (xcons (xv 11) xnil))))) (xor (xtc (op_neD hr.units) g_ne (xv 12) (xlc (pe_lc (own := [("way", 16)]) rfl sc_LAW.nd (xi_seq (xv 2)) (blkOk_by (own := [("way", 16)]) (N := ["script", "world", "ways", "values", "before", "scores", "chosen", "picks", "mode", "other", "fresh", "due", "given", "handed", "told", "mixed", "way", "k"]) (sc := defScope s_LAW) (by decide +kernel)) (fun _ _ _ _ _ => (pg_name (i := 16) sc_LAW.nd rfl (by first | exact Or.inl rfl | exact Or.inr rfl))) (fun _ _ _ _ _ => xyes) (fun _ _ _ _ _ => (xfz (xct call_list_of g_listOf (by rfl) Z.z_list bt_list (xcons (xv 16) xnil))))) (tg_name 16) (by decide)) (nomark _)) (pw_or1 (xtc (op_neD hr.units) g_ne (xv 13) (xlst (xcons (xv 3) (xcons (xv 9) (xcons (xv 10) xnil)))) (nomark _)))))) (xone (xret xbl)) xnx)
    (xseq (xifs (xnot (xtru (xcallC C_l_same (hr.mono (by decide)) (by rfl) (xcons (xcallK CK_lot_holds (hr.mono (by decide)) (by rfl) (xk_cons (xv 12) (xk_cons (xfz (xct call_list_of g_listOf (by rfl) Z.z_list bt_list (xcons (xv 3) xnil))) (xk_cons (xfz (xct call_list_of g_listOf (by rfl) Z.z_list bt_list (xcons (xv 6) xnil))) (xk_cons (xfz (xct call_list_of g_listOf (by rfl) Z.z_list bt_list (xcons (xv 5) xnil))) xk_nil))))) (xcons xbl xnil))))) (xone (xret xbl)) xnx)
    (xseq (xifs (xnot (xtru (xcallC C_l_same (hr.mono (by decide)) (by rfl) (xcons (xcallC C_lot_holds (hr.mono (by decide)) (by rfl) (xcons (xct call_tuple_ofF g_tupOf (by rfl) Z.z_tuple bt_tuple (xcons (xv 2) xnil)) (xcons (xct call_tuple_ofF g_tupOf (by rfl) Z.z_tuple bt_tuple (xcons (xv 3) xnil)) (xcons (xct call_tuple_ofF g_tupOf (by rfl) Z.z_tuple bt_tuple (xcons (xv 9) xnil)) (xcons (xct call_tuple_ofF g_tupOf (by rfl) Z.z_tuple bt_tuple (xcons (xv 10) xnil)) xnil))))) (xcons (xv 11) xnil))))) (xone (xret xbl)) xnx)
    (xseq (by first | exact (xlcsz (ps_setLc (i := 15) (own := [("k", 17)]) rfl sc_LAW.nd rfl rfl (sw_true rfl rfl rfl (by decide +kernel)) (xi_rng1 (pi_range1 (by rfl) Z.z_range (xcons (xcb call_len g_len (by rfl) Z.z_len bt_len (xcons (xv 2) xnil)) xnil))) (blkOk_by (own := [("k", 17)]) (N := ["script", "world", "ways", "values", "before", "scores", "chosen", "picks", "mode", "other", "fresh", "due", "given", "handed", "told", "mixed", "way", "k"]) (sc := defScope s_LAW) (by decide +kernel)) (fun _ _ _ _ _ => (pg_name (i := 17) sc_LAW.nd rfl (by first | exact Or.inl rfl | exact Or.inr rfl))) (fun _ _ _ _ _ => xyes) (fun _ _ _ _ _ => (xfz (xif (xtc (op_eqD hr.units) g_eq (xop op_mod g_mod (xv 17) xint) xint (nomark _)) (xct call_list_of g_listOf (by rfl) Z.z_list bt_list (xcons (xix (xv 2) (xv 17)) xnil)) (xix (xv 2) (xv 17)))))) (tg_name 17) (by decide)) | exact (xset (i := 15) sc_LAW.nd rfl (by first | exact Or.inl rfl | exact Or.inr rfl) (xfz (xlc (pe_lc (own := [("k", 17)]) rfl sc_LAW.nd (xi_rng1 (pi_range1 (by rfl) Z.z_range (xcons (xcb call_len g_len (by rfl) Z.z_len bt_len (xcons (xv 2) xnil)) xnil))) (blkOk_by (own := [("k", 17)]) (N := ["script", "world", "ways", "values", "before", "scores", "chosen", "picks", "mode", "other", "fresh", "due", "given", "handed", "told", "mixed", "way", "k"]) (sc := defScope s_LAW) (by decide +kernel)) (fun _ _ _ _ _ => (pg_name (i := 17) sc_LAW.nd rfl (by first | exact Or.inl rfl | exact Or.inr rfl))) (fun _ _ _ _ _ => xyes) (fun _ _ _ _ _ => (xfz (xif (xtc (op_eqD hr.units) g_eq (xop op_mod g_mod (xv 17) xint) xint (nomark _)) (xct call_list_of g_listOf (by rfl) Z.z_list bt_list (xcons (xix (xv 2) (xv 17)) xnil)) (xix (xv 2) (xv 17)))))) (tg_name 17) (by decide)))))
    (xone (xret (xcallC C_l_same (hr.mono (by decide)) (by rfl) (xcons (xcallC C_lot_holds (hr.mono (by decide)) (by rfl) (xcons (xv 15) (xcons (xix (xv 13) xint) (xcons (xix (xv 13) xint) (xcons (xix (xv 13) xint) xnil))))) (xcons (xv 11) xnil)))))))))))))))))))))))))
end
end Lw

set_option Elab.async false
set_option linter.all false
/-! heaviest chains of a strict order on the indexes below n -/
namespace Lot
theorem countP_lt {p q : Nat → Bool} : ∀ {l : List Nat}, (∀ x ∈ l, p x = true → q x = true) → (∃ x ∈ l, q x = true ∧ p x = false) → l.countP p < l.countP q
  | [], _, h => by obtain ⟨x, hx, _⟩ := h; cases hx
  | a :: l, h1, h2 => by
    have hle : l.countP p ≤ l.countP q := List.countP_mono_left fun x hx hp => h1 x (List.mem_cons_of_mem _ hx) hp
    rw [List.countP_cons, List.countP_cons]
    obtain ⟨x, hx, hq, hp⟩ := h2
    rcases List.mem_cons.mp hx with e | hx
    · subst e
      rw [if_pos hq, if_neg (by rw [hp]; decide)]
      omega
    · have ih := countP_lt (l := l) (fun x hx hp => h1 x (List.mem_cons_of_mem _ hx) hp) ⟨x, hx, hq, hp⟩
      have := h1 a List.mem_cons_self
      by_cases hpa : p a = true
      · rw [if_pos hpa, if_pos (this hpa)]; omega
      · rw [if_neg hpa]; split <;> omega
structure Ord (n : Nat) (B : Nat → Nat → Bool) : Prop where
  irr : ∀ i, i < n → B i i = false
  tr : ∀ i j k, i < n → j < n → k < n → B i j = true → B j k = true → B i k = true
def rk (n : Nat) (B : Nat → Nat → Bool) (j : Nat) : Nat := (List.range n).countP fun i => B i j
theorem rk_lt {n : Nat} {B : Nat → Nat → Bool} (O : Ord n B) {i j : Nat} (hi : i < n) (hj : j < n) (h : B i j = true) : rk n B i < rk n B j :=
  countP_lt (fun x hx hp => O.tr x i j (List.mem_range.mp hx) hi hj hp h) ⟨i, List.mem_range.mpr hi, h, O.irr i hi⟩
theorem rk_n {n : Nat} {B : Nat → Nat → Bool} (O : Ord n B) {j : Nat} (hj : j < n) : rk n B j < n := by
  have z := countP_lt (p := fun i => B i j) (q := fun _ => true) (l := List.range n) (fun _ _ _ => rfl) ⟨j, List.mem_range.mpr hj, rfl, O.irr j hj⟩
  have e : (List.range n).countP (fun _ => true) = n := by simp
  rw [e] at z
  exact z
/-- the greatest of 0 and the entries -/
theorem top_of : ∀ (l : List Int), ∃ m : Int, 0 ≤ m ∧ (∀ x ∈ l, x ≤ m) ∧ (m = 0 ∨ m ∈ l)
  | [] => ⟨0, by omega, by simp, .inl rfl⟩
  | a :: l => by
    obtain ⟨m, h1, h2, h3⟩ := top_of l
    by_cases h : a ≤ m
    · refine ⟨m, h1, fun x hx => ?_, h3.imp id fun z => List.mem_cons_of_mem _ z⟩
      rcases List.mem_cons.mp hx with e | hx
      · omega
      · exact h2 x hx
    · refine ⟨a, by omega, fun x hx => ?_, .inr List.mem_cons_self⟩
      rcases List.mem_cons.mp hx with e | hx
      · omega
      · have := h2 x hx; omega
/-- the marks -/
structure Mk (n : Nat) (B : Nat → Nat → Bool) (v S : Nat → Int) (j : Nat) : Prop where
  lo : v j ≤ S j
  up : ∀ i, i < n → B i j = true → S i + v j ≤ S j
  eq : S j = v j ∨ ∃ i, i < n ∧ B i j = true ∧ S j = S i + v j
theorem marks_upto {n : Nat} {B : Nat → Nat → Bool} (O : Ord n B) (v : Nat → Int) : ∀ k, ∃ S : Nat → Int, ∀ j, j < n → rk n B j < k → Mk n B v S j
  | 0 => ⟨fun _ => 0, fun j _ h => absurd h (Nat.not_lt_zero _)⟩
  | k + 1 => by
    obtain ⟨S, hS⟩ := marks_upto O v k
    have ht : ∀ j, ∃ m : Int, 0 ≤ m ∧ (∀ x ∈ ((List.range n).filter fun i => B i j).map S, x ≤ m) ∧ (m = 0 ∨ m ∈ ((List.range n).filter fun i => B i j).map S) := fun j => top_of _
    refine ⟨fun j => if rk n B j < k then S j else v j + Classical.choose (ht j), fun j hj hk => ?_⟩
    have low : ∀ i, rk n B i < k → (if rk n B i < k then S i else v i + Classical.choose (ht i)) = S i := fun i h => if_pos h
    by_cases hjk : rk n B j < k
    · obtain ⟨a1, a2, a3⟩ := hS j hj hjk
      refine ⟨by rw [low j hjk]; exact a1, fun i hi hb => ?_, ?_⟩
      · rw [low j hjk, low i (Nat.lt_trans (rk_lt O hi hj hb) hjk)]; exact a2 i hi hb
      · rw [low j hjk]
        rcases a3 with a3 | ⟨i, hi, hb, e⟩
        · exact .inl a3
        · exact .inr ⟨i, hi, hb, by rw [low i (Nat.lt_trans (rk_lt O hi hj hb) hjk)]; exact e⟩
    · obtain ⟨b1, b2, b3⟩ := Classical.choose_spec (ht j)
      have ej : (if rk n B j < k then S j else v j + Classical.choose (ht j)) = v j + Classical.choose (ht j) := if_neg hjk
      have pre : ∀ i, i < n → B i j = true → rk n B i < k := fun i hi hb => by
        have := rk_lt O hi hj hb; omega
      refine ⟨by rw [ej]; omega, fun i hi hb => ?_, ?_⟩
      · rw [ej, low i (pre i hi hb)]
        have := b2 (S i) (List.mem_map.mpr ⟨i, List.mem_filter.mpr ⟨List.mem_range.mpr hi, hb⟩, rfl⟩)
        omega
      · rw [ej]
        rcases b3 with b3 | b3
        · exact .inl (by rw [b3]; omega)
        · obtain ⟨i, hi, e⟩ := List.mem_map.mp b3
          obtain ⟨h1, h2⟩ := List.mem_filter.mp hi
          exact .inr ⟨i, List.mem_range.mp h1, h2, by rw [low i (pre i (List.mem_range.mp h1) h2), e]; omega⟩
theorem marks {n : Nat} {B : Nat → Nat → Bool} (O : Ord n B) (v : Nat → Int) : ∃ S : Nat → Int, ∀ j, j < n → Mk n B v S j := by
  obtain ⟨S, h⟩ := marks_upto O v n
  exact ⟨S, fun j hj => h j hj (rk_n O hj)⟩

/-! ### the rounds -/
def at0 (s : List Int) (j : Nat) : Int := s.getD j 0
/-- never above the marks, never below the worths -/
structure In (n : Nat) (v S : Nat → Int) (s : List Int) : Prop where
  len : s.length = n
  lo : ∀ j, j < n → v j ≤ at0 s j
  hi : ∀ j, j < n → at0 s j ≤ S j
/-- those of rank below t are settled -/
def Set' (n : Nat) (B : Nat → Nat → Bool) (S : Nat → Int) (t : Nat) (s : List Int) : Prop := ∀ j, j < n → rk n B j < t → at0 s j = S j
theorem at0_set {s : List Int} {j k : Nat} {x : Int} (hj : j < s.length) : at0 (s.set j x) k = if k = j then x else at0 s k := by
  unfold at0
  rw [List.getD_eq_getElem?_getD, List.getD_eq_getElem?_getD]
  by_cases h : k = j
  · subst h; rw [List.getElem?_set_self hj, if_pos rfl]; rfl
  · rw [List.getElem?_set_ne (fun e => h e.symm), if_neg h]
/-- within the round t: the j' below j are looked at, and of j the i' below i -/
structure Mid (n : Nat) (B : Nat → Nat → Bool) (v S : Nat → Int) (t j i : Nat) (s : List Int) : Prop where
  inn : In n v S s
  set : Set' n B S t s
  done : ∀ j', j' < j → j' < n → rk n B j' ≤ t → at0 s j' = S j'
  part : rk n B j ≤ t → ∀ i', i' < i → i' < n → B i' j = true → S i' + v j ≤ at0 s j
theorem Mid.start {n : Nat} {B : Nat → Nat → Bool} {v S : Nat → Int} {t : Nat} {s : List Int} (h : In n v S s) (k : Set' n B S t s) : Mid n B v S t 0 0 s := ⟨h, k, fun _ z => absurd z (Nat.not_lt_zero _), fun _ _ z => absurd z (Nat.not_lt_zero _)⟩
theorem Mid.skip {n : Nat} {B : Nat → Nat → Bool} {v S : Nat → Int} (O : Ord n B) {t j i : Nat} {s : List Int} (hj : j < n) (hi : i < n) (h : Mid n B v S t j i s) (hb : B i j = false ∨ at0 s i + v j ≤ at0 s j) : Mid n B v S t j (i + 1) s := by
  refine ⟨h.inn, h.set, h.done, fun hr i' h1 h2 h3 => ?_⟩
  by_cases e : i' = i
  · subst e
    rcases hb with hb | hb
    · rw [h3] at hb; cases hb
    · have := h.set i' hi (by have := rk_lt O hi hj h3; omega)
      omega
  · exact h.part hr i' (by omega) h2 h3
theorem Mid.raise {n : Nat} {B : Nat → Nat → Bool} {v S : Nat → Int} (O : Ord n B) (M : ∀ j, j < n → Mk n B v S j) {t j i : Nat} {s : List Int} (hj : j < n) (hi : i < n) (h : Mid n B v S t j i s) (hb : B i j = true) (hg : at0 s j < at0 s i + v j) : Mid n B v S t j (i + 1) (s.set j (at0 s i + v j)) := by
  have hl : j < s.length := by rw [h.inn.len]; exact hj
  have a1 := h.inn.hi i hi
  have a2 := (M j hj).up i hi hb
  have a3 := h.inn.hi j hj
  have a4 := h.inn.lo j hj
  refine ⟨⟨by rw [List.length_set]; exact h.inn.len, fun k hk => ?_, fun k hk => ?_⟩, fun k hk hr => ?_, fun k h1 hk hr => ?_, fun hr i' h1 h2 h3 => ?_⟩
  · rw [at0_set hl]; split
    · rename_i e; subst e; omega
    · exact h.inn.lo k hk
  · rw [at0_set hl]; split
    · rename_i e; subst e; omega
    · exact h.inn.hi k hk
  · rw [at0_set hl]; split
    · rename_i e; subst e
      have := h.set k hk hr; omega
    · exact h.set k hk hr
  · rw [at0_set hl, if_neg (by omega)]; exact h.done k h1 hk hr
  · rw [at0_set hl, if_pos rfl]
    by_cases e : i' = i
    · subst e
      have := h.set i' hi (by have := rk_lt O hi hj h3; omega)
      omega
    · have := h.part hr i' (by omega) h2 h3; omega
theorem Mid.next {n : Nat} {B : Nat → Nat → Bool} {v S : Nat → Int} (M : ∀ j, j < n → Mk n B v S j) {t j : Nat} {s : List Int} (hj : j < n) (h : Mid n B v S t j n s) : Mid n B v S t (j + 1) 0 s := by
  refine ⟨h.inn, h.set, fun k h1 hk hr => ?_, fun _ _ z => absurd z (Nat.not_lt_zero _)⟩
  by_cases e : k = j
  · subst e
    have a1 := h.inn.hi k hk
    have a2 := h.inn.lo k hk
    rcases (M k hk).eq with z | ⟨i, hi, hb, z⟩
    · omega
    · have := h.part hr i hi hi hb; omega
  · exact h.done k (by omega) hk hr
theorem Mid.round {n : Nat} {B : Nat → Nat → Bool} {v S : Nat → Int} {t i : Nat} {s : List Int} (h : Mid n B v S t n i s) : In n v S s ∧ Set' n B S (t + 1) s := ⟨h.inn, fun j hj hr => h.done j hj hj (by omega)⟩

/-! ### the way back -/
def vs (v : Nat → Int) (l : List Nat) : Int := (l.map v).sum
structure Chain (n : Nat) (B : Nat → Nat → Bool) (v S : Nat → Int) (a0 at_ : Nat) (l : List Nat) : Prop where
  lt : ∀ x ∈ l, x < n
  mem : at_ ∈ l
  cmp : ∀ x ∈ l, x = at_ ∨ B at_ x = true
  pw : l.Pairwise fun a b => B b a = true
  sum : S a0 = vs v l - v at_ + S at_
  rank : rk n B at_ + l.length ≤ n
theorem Chain.one {n : Nat} {B : Nat → Nat → Bool} (O : Ord n B) {v S : Nat → Int} {a : Nat} (ha : a < n) : Chain n B v S a a [a] :=
  ⟨fun x hx => by rw [List.mem_singleton] at hx; omega, by simp, fun x hx => .inl (List.mem_singleton.mp hx), List.pairwise_singleton _ _, by simp [vs], by have := rk_n O ha; simp; omega⟩
theorem Chain.snoc {n : Nat} {B : Nat → Nat → Bool} (O : Ord n B) {v S : Nat → Int} {a0 a b : Nat} {l : List Nat} (h : Chain n B v S a0 a l) (hb : b < n) (hB : B b a = true) (hS : S b = S a - v a) : Chain n B v S a0 b (l ++ [b]) := by
  have ha := h.lt a h.mem
  have all : ∀ x ∈ l, B b x = true := fun x hx => by
    rcases h.cmp x hx with e | e
    · subst e; exact hB
    · exact O.tr b a x hb ha (h.lt x hx) hB e
  refine ⟨fun x hx => ?_, by simp, fun x hx => ?_, ?_, ?_, ?_⟩
  · rcases List.mem_append.mp hx with hx | hx
    · exact h.lt x hx
    · rw [List.mem_singleton] at hx; omega
  · rcases List.mem_append.mp hx with hx | hx
    · exact .inr (all x hx)
    · exact .inl (List.mem_singleton.mp hx)
  · rw [List.pairwise_append]
    exact ⟨h.pw, List.pairwise_singleton _ _, fun x hx y hy => by rw [List.mem_singleton] at hy; subst hy; exact all x hx⟩
  · have e : vs v (l ++ [b]) = vs v l + v b := by simp [vs]
    have := h.sum
    rw [e]; omega
  · have := rk_lt O hb ha hB
    have := h.rank
    rw [List.length_append]; simp; omega
theorem Chain.comp {n : Nat} {B : Nat → Nat → Bool} {v S : Nat → Int} {a0 a : Nat} {l : List Nat} (h : Chain n B v S a0 a l) {x y : Nat} (hx : x ∈ l) (hy : y ∈ l) (hne : x ≠ y) : B x y = true ∨ B y x = true := by
  obtain ⟨i, hi, rfl⟩ := List.mem_iff_getElem.mp hx
  obtain ⟨j, hj, rfl⟩ := List.mem_iff_getElem.mp hy
  rcases Nat.lt_trichotomy i j with z | z | z
  · exact .inr (List.pairwise_iff_getElem.mp h.pw i j hi hj z)
  · subst z; exact absurd rfl hne
  · exact .inl (List.pairwise_iff_getElem.mp h.pw j i hj hi z)
theorem Chain.nodup {n : Nat} {B : Nat → Nat → Bool} (O : Ord n B) {v S : Nat → Int} {a0 a : Nat} {l : List Nat} (h : Chain n B v S a0 a l) : l.Nodup := by
  refine List.pairwise_iff_getElem.mpr fun i j hi hj hij e => ?_
  have z := List.pairwise_iff_getElem.mp h.pw i j hi hj hij
  rw [e, O.irr _ (h.lt _ (List.getElem_mem hj))] at z
  cases z
end Lot

set_option Elab.async false
set_option linter.all false
set_option maxRecDepth 100000
namespace Lw
open PySem PySem.Spec PyProof.Rows L2 Fx
theorem cell_ok (ns : List Int) (k : Nat) : W (d_l_cell [.scr ns, .int k]) fun r => ∃ v, r = .at .f (.int v) := by
  unfold d_l_cell phi_l_cell
  simp [ro0, ro1, lenR, W_ite, ixR]
  intro h
  exact w_atI (by omega) (by omega) fun _ _ _ => trivial
theorem draws_ok (cell : Int) (many : Nat) (h : many ≤ 1000) : W (d_l_draws [.int cell, .int many]) fun r => ∃ ns, r = .own (iL ns) ∧ ns.length = many ∧ ∀ n ∈ ns, 0 ≤ n := by
  unfold d_l_draws phi_l_draws
  rw [e_run, W_bind]
  refine w_seq (fun ρ => ρ = [some (.at .f (I cell)), some (.at .f (N many)), some (.at .f (I 0)), none, none, none]) (by simp [ro0, ro1]) ?_
  rintro _ rfl
  refine w_seq (fun ρ => ∃ rest, ρ = [some (.at .f (I cell)), some (.at .f (N many)), some (.at .f (I rest)), none, none, none]) (by simp [W_ite]) ?_
  rintro _ ⟨rest, rfl⟩
  refine w_seq (fun ρ => ρ = [some (.at .f (I cell)), some (.at .f (N many)), some (.at .f (I rest)), some (.own []), none, none]) (by simp [lstR, mkL, supAll]) ?_
  rintro _ rfl
  refine w_seq (fun ρ => ∃ (x y : Option Res) (rest : Int) (ns : List Int), ρ = [some (.at .f (I cell)), some (.at .f (N many)), some (.at .f (I rest)), some (.own (iL ns)), x, y] ∧ ns.length = many ∧ ∀ n ∈ ns, 0 ≤ n) ?_ ?_
  · refine w_for (items := rngItems 0 many) (by simp [rng1R]; omega) ?_
    refine w_loop (fun i ρ => ∃ (x y : Option Res) (rest : Int) (ns : List Int), ρ = [some (.at .f (I cell)), some (.at .f (N many)), some (.at .f (I rest)), some (.own (iL ns)), x, y] ∧ ns.length = i ∧ ∀ n ∈ ns, 0 ≤ n) (fun _ => False) ⟨none, none, rest, [], rfl, rfl, by simp⟩ ?_ ?_ (fun _ h => h.elim)
    · rintro i hi _ ⟨x, y, rest, ns, rfl, hl, hp⟩
      simp [W_ite]
      refine ⟨fun hr => ⟨by simp at hi; omega, _, _, _, ns ++ [rest % 1000], ⟨rfl, by simp, rfl, rfl⟩, by simp [hl], fun n hn => ?_⟩, fun hr => ?_⟩
      · rcases List.mem_append.mp hn with hn | hn
        · exact hp n hn
        · rw [List.mem_singleton] at hn; omega
      · refine ⟨by omega, by omega, by simp at hi; omega, _, _, _, ns ++ [_], ⟨rfl, by rw [iL_app]; rfl, rfl, rfl⟩, by simp [hl], fun n hn => ?_⟩
        rcases List.mem_append.mp hn with hn | hn
        · exact hp n hn
        · rw [List.mem_singleton] at hn; omega
    · rintro ρ ⟨x, y, rest, ns, rfl, hl, hp⟩
      exact ⟨_, rfl, x, y, rest, ns, rfl, by simpa using hl, hp⟩
  · rintro _ ⟨x, y, rest, ns, rfl, hl, hp⟩
    simp
    exact ⟨ns, rfl, hl, hp⟩
end Lw

set_option Elab.async false
set_option linter.all false
set_option maxRecDepth 100000
namespace Lw
open PySem PySem.Spec PyProof.Rows L2 Fx
theorem dint (x : Int) : 0 ≤ x % 12 ∧ x % 12 < 12 := by omega
/-- the widths of a net -/
structure Wd (ws : List Int) : Prop where
  ne : 1 ≤ ws.length
  le : ws.length ≤ 12
  pos : ∀ w ∈ ws, 1 ≤ w ∧ w ≤ 8
  sm : ∃ B : Int, (∀ w ∈ ws, w ≤ B) ∧ ((ws.length : Int) - 1) * (2 * B - 1) ≤ 55
theorem ints_of_P {P : Int → Prop} : ∀ (ds : List D), (∀ (i : Nat) (hi : i < ds.length), ∃ v, ds[i] = .int v ∧ P v) → ∃ ns, ds = iL ns ∧ ns.length = ds.length ∧ ∀ n ∈ ns, P n
  | [], _ => ⟨[], rfl, rfl, by simp⟩
  | d :: ds, h => by
    obtain ⟨v, h1, h2⟩ := h 0 (by simp)
    obtain ⟨ns, h3, h4, h5⟩ := ints_of_P ds fun i hi => h (i + 1) (by simpa using hi)
    simp at h1
    exact ⟨v :: ns, by rw [h1, h3]; rfl, by simp [h4], fun n hn => by
      rcases List.mem_cons.mp hn with rfl | hn
      · exact h2
      · exact h5 n hn⟩
theorem widths_ok (ns : List Int) (small : Bool) (hl : ns.length = 70) (hp : ∀ n ∈ ns, 0 ≤ n) : W (d_l_widths [.lst (iL ns), .bl small]) fun r => ∃ ws, r = .own (iL ws) ∧ Wd ws := by
  unfold d_l_widths phi_l_widths
  rw [e_run, W_bind]
  refine w_seq (fun ρ => ∃ form, 0 ≤ form ∧ form < 12 ∧ ρ = [some (.at .f (.lst (iL ns))), some (.at .f (.bl small)), some (.at .f (I form)), none, none]) ?_ ?_
  · simp [ro0, ro1, ixR]
    exact w_atI (by omega) (by simp [hl]) fun n hn e => by simp; omega
  rintro _ ⟨form, hf0, hf1, rfl⟩
  refine w_seq (fun ρ => ∃ rows, ρ = [some (.at .f (.lst (iL ns))), some (.at .f (.bl small)), some (.at .f (I form)), some (.at .f (I rows)), none]) ?_ ?_
  · simp [ro0, ro1, ixR]
    exact w_atI (by omega) (by simp [hl]) fun n hn e => by simp
  rintro _ ⟨rows, rfl⟩
  have tail : ∀ (n : Nat) (f : Int → Int) (B : Int) (φ : Ro → Option Res), n ≤ 12 → 1 ≤ n → (∀ v, 0 ≤ v → 1 ≤ f v ∧ f v ≤ B) → B ≤ 8 → ((n : Int) - 1) * (2 * B - 1) ≤ 55 →
      (∀ i : Nat, i < n → W (φ [some (.at .f (.lst (iL ns))), some (.at .f (.bl small)), some (.at .f (I form)), some (.at .f (I rows)), some (.at .f (.int i))]) fun r => ∃ v, 0 ≤ v ∧ r = .at .f (.int (f v))) →
      W (lcD (gaN 4) fYes φ (wipeR [some (.at .f (.lst (iL ns))), some (.at .f (.bl small)), some (.at .f (I form)), some (.at .f (I rows)), none] [4]) (rngItems 0 n)) fun ds => ∃ ws, ds = iL ws ∧ Wd ws := by
    intro n f B φ hn hn1 hB hB8 hs hφ
    refine w_lc (P := fun i d => ∃ v, d = .int v ∧ 1 ≤ v ∧ v ≤ B) (fun i hi => ?_) fun ds hd hP => ?_
    · rw [rng_len] at hi
      obtain ⟨r, h1, v, h2, h3⟩ := hφ i hi
      simp [wipeR]
      exact ⟨r, h1, _, h3, f v, rfl, hB v h2⟩
    · obtain ⟨ws, h1, h2, h3⟩ := ints_of_P (P := fun v => 1 ≤ v ∧ v ≤ B) ds hP
      rw [hd, rng_len] at h2
      exact ⟨ws, h1, ⟨by omega, by omega, fun w hw => ⟨(h3 w hw).1, by have := (h3 w hw).2; omega⟩, B, fun w hw => (h3 w hw).2, by rw [h2]; exact hs⟩⟩
  have item : ∀ (f : Int → Int) (i : Nat) (Q : Res → Prop), i < 12 → (∀ v, 0 ≤ v → Q (.at .f (.int (f v)))) → W (atI (iL ns) (2 + (i : Int))) fun a => ∃ v, a = .int v ∧ Q (.at .f (.int (f v))) := fun f i Q hi q =>
    w_atI (by omega) (by simp [hl]; omega) fun n hn e => ⟨_, iL_get hn, q _ (hp _ (List.getElem_mem _))⟩
  have at_ : ∀ (i : Nat), i < 12 → W (atI (iL ns) (2 + (i : Int))) fun a => ∃ v, 0 ≤ v ∧ a = .int v := fun i hi =>
    w_atI (by omega) (by simp [hl]; omega) fun n hn e => ⟨_, hp _ (List.getElem_mem _), iL_get hn⟩
  have main : ∀ (n : Int) (f : Int → Int) (B : Int) (φ : Ro → Option Res), n ≤ 12 → 1 ≤ n → (∀ v, 0 ≤ v → 1 ≤ f v ∧ f v ≤ B) → B ≤ 8 → (n - 1) * (2 * B - 1) ≤ 55 →
      (∀ (i : Nat) (v : Int), 0 ≤ v → i < 12 → atI (iL ns) (2 + (i : Int)) = some (.int v) → φ [some (.at .f (.lst (iL ns))), some (.at .f (.bl small)), some (.at .f (I form)), some (.at .f (I rows)), some (.at .f (.int i))] = some (.at .f (.int (f v)))) →
      (-1000000 ≤ n ∧ n ≤ 1000000) ∧ n ≤ 100000 ∧ W (lcD (gaN 4) fYes φ (wipeR [some (.at .f (.lst (iL ns))), some (.at .f (.bl small)), some (.at .f (I form)), some (.at .f (I rows)), none] [4]) (rngItems 0 n.toNat)) fun ds => ∃ ws, ds = iL ws ∧ Wd ws := by
    intro n f B φ hn hn1 hB hB8 hs hφ
    have e : ((n.toNat : Nat) : Int) = n := by omega
    refine ⟨⟨by omega, by omega⟩, by omega, tail n.toNat f B φ (by omega) (by omega) hB hB8 (by rw [e]; exact hs) fun i hi => ?_⟩
    obtain ⟨a, h1, v, h2, rfl⟩ := at_ i (by omega)
    rw [hφ i v h2 (by omega) h1]
    exact W_some.mpr ⟨v, h2, rfl⟩
  cases small with
  | true =>
    simp [W_ite, rng1R, truD]
    exact main _ (fun v => 1 + (v % 5 + 1) / 2) 3 _ (by omega) (by omega) (fun v hv => by omega) (by omega) (by omega) fun i v hv hi e => by simp [ixR, e]
  | false =>
    simp [W_ite, rng1R, truD]
    refine ⟨fun h => ?_, fun h => ⟨fun h => ?_, fun h => ⟨fun h => ?_, fun h => ?_⟩⟩⟩
    · exact main _ (fun v => 1 + (v % 5 + 1) / 2) 3 _ (by omega) (by omega) (fun v hv => by omega) (by omega) (by omega) fun i v hv hi e => by simp [ixR, e]
    · exact main _ (fun v => 1 + v % 8) 8 _ (by omega) (by omega) (fun v hv => by omega) (by omega) (by omega) fun i v hv hi e => by simp [ixR, e]
    · simp [lstR, mkL, supAll, ixR]
      refine w_atI (by omega) (by simp; omega) fun n hn e => ?_
      have hn : n < 5 := by simpa using hn
      have : n = 0 ∨ n = 1 ∨ n = 2 ∨ n = 3 ∨ n = 4 := by omega
      have m := fun (n : Int) (a : n ≤ 8) (b : 1 ≤ n) => (main n (fun v => 1 + v % 4) 4 (f2 addR (fC (.int 1)) (f2 modR (fA intR (fCons (f2 ixR (fVar 0) (f2 addR (fC (.int 2)) (fVar 4))) fNil)) (fC (.int 4)))) (by omega) b (fun v hv => by omega) (by omega) (by omega) fun i v hv hi e => by simp [ixR, e])
      rcases this with rfl | rfl | rfl | rfl | rfl
      · exact W_some.mpr (m 1 (by decide) (by decide))
      · exact W_some.mpr (m 5 (by decide) (by decide))
      · exact W_some.mpr (m 6 (by decide) (by decide))
      · exact W_some.mpr (m 7 (by decide) (by decide))
      · exact W_some.mpr (m 8 (by decide) (by decide))
    · exact main _ (fun v => 1 + (v % 7 + 1) / 2) 4 _ (by omega) (by omega) (fun v hv => by omega) (by omega) (by omega) fun i v hv hi e => by simp [ixR, e]
end Lw

set_option Elab.async false
set_option linter.all false
set_option maxRecDepth 100000
namespace Lw
open PySem PySem.Spec PyProof.Rows L2 Fx
theorem price_ok (mode part : Int) : W (d_l_price [.int mode, .int part]) fun r => ∃ v, r = .at .f (.int v) := by
  unfold d_l_price phi_l_price
  simp [ro0, ro1, W_ite]
def fst : List Int → Nat → Int
  | w :: ws, r + 1 => w + fst ws r
  | _, _ => 0
theorem fst_0 {ws : List Int} : fst ws 0 = 0 := by cases ws <;> rfl
theorem fst_succ : ∀ {ws : List Int} {r : Nat} (h : r < ws.length), fst ws (r + 1) = fst ws r + ws[r]
  | [], _, h => absurd h (by simp)
  | w :: ws, 0, _ => by show w + fst ws 0 = fst (w :: ws) 0 + w; rw [fst_0, fst_0]; omega
  | w :: ws, r + 1, h => by
    have h' : r < ws.length := by simpa using h
    show w + fst ws (r + 1) = (w + fst ws r) + ws[r]
    rw [fst_succ h']; omega
structure Road where
  s : Int
  e : Int
  p : Int
def roadD (x : Road) : D := .tup [.int x.s, .int x.e, .int x.p]
def RdOk (ws : List Int) (x : Road) : Prop := ∃ r : Nat, r + 1 < ws.length ∧ fst ws r ≤ x.s ∧ x.s < fst ws (r + 1) ∧ fst ws (r + 1) ≤ x.e ∧ x.e < fst ws (r + 2)
theorem roads_ok (ws ns : List Int) (hw : Wd ws) (hl : ns.length = 70) (hp : ∀ n ∈ ns, 0 ≤ n) : W (d_l_roads [.lst (iL ws), .lst (iL ns)]) fun r => ∃ rs : List Road, r = .own (rs.map roadD) ∧ (∀ x ∈ rs, RdOk ws x) ∧ rs.length ≤ 55 := by
  unfold d_l_roads phi_l_roads
  obtain ⟨B, hB, hs⟩ := hw.sm
  rw [e_run, W_bind]
  have wI : ∀ (i : Nat) (h : i < ws.length), 1 ≤ ws[i] ∧ ws[i] ≤ B := fun i h => ⟨(hw.pos _ (List.getElem_mem h)).1, hB _ (List.getElem_mem h)⟩
  have wat : ∀ (x : Int) (i : Nat) (h : i < ws.length), x = i → atI (iL ws) x = some (.int ws[i]) := fun x i h e => by
    rw [atI_nat e (by rw [iL_len]; exact h), iL_get?, List.getElem?_eq_getElem h]; rfl
  refine w_seq (fun ρ => ∃ mode : Int, ρ = [some (.at .f (.lst (iL ws))), some (.at .f (.lst (iL ns))), some (.at .f (I mode)), none, none, none, none, none, none, none, none]) ?_ ?_
  · simp [ro0, ro1, ixR]
    exact w_atI (by omega) (by simp [hl]) fun n hn e => by simp
  rintro _ ⟨mode, rfl⟩
  refine w_seq (fun ρ => ρ = [some (.at .f (.lst (iL ws))), some (.at .f (.lst (iL ns))), some (.at .f (I mode)), some (.own []), none, none, none, none, none, none, none]) (by simp [lstR, mkL, supAll]) ?_
  rintro _ rfl
  refine w_seq (fun ρ => ρ = [some (.at .f (.lst (iL ws))), some (.at .f (.lst (iL ns))), some (.at .f (I mode)), some (.own []), some (.at .f (I 0)), none, none, none, none, none, none]) (by simp) ?_
  rintro _ rfl
  refine w_seq (fun ρ => ρ = [some (.at .f (.lst (iL ws))), some (.at .f (.lst (iL ns))), some (.at .f (I mode)), some (.own []), some (.at .f (I 0)), some (.at .f (I 15)), none, none, none, none, none]) (by simp) ?_
  rintro _ rfl
  let J : Nat → Ro → Prop := fun r ρ => ∃ (at_ : Int) (rs : List Road) (x6 x7 x8 x9 x10 : Option Res), ρ = [some (.at .f (.lst (iL ws))), some (.at .f (.lst (iL ns))), some (.at .f (I mode)), some (.own (rs.map roadD)), some (.at .f (I (fst ws r))), some (.at .f (I at_)), x6, x7, x8, x9, x10] ∧
    15 ≤ at_ ∧ at_ ≤ 15 + r * (2 * B - 1) ∧ (rs.length : Int) ≤ at_ - 15 ∧ ∀ x ∈ rs, RdOk ws x
  refine w_seq (J (ws.length - 1)) ?_ ?_
  · refine w_for (items := rngItems 0 (ws.length - 1)) ?_ ?_
    · have := hw.le
      have := hw.ne
      simp [rng1R, lenR]
      omega
    · refine w_loop J (fun _ => False) ⟨15, [], none, none, none, none, none, by rw [fst_0]; rfl, by omega, by omega, by simp, by simp⟩ ?_ ?_ (fun _ h => h.elim)
      · rintro r hr _ ⟨at_, rs, x6, x7, x8, x9, x10, rfl, ha, ha2, hrs, hok⟩
        rw [rng_len] at hr
        have h1 : r < ws.length := by omega
        have h2 : r + 1 < ws.length := by omega
        simp only [rng_get, e_gaN, W_some, List.set_cons_succ, List.set_cons_zero, Int.zero_add]
        refine w_seq (fun ρ => ρ = [some (.at .f (.lst (iL ws))), some (.at .f (.lst (iL ns))), some (.at .f (I mode)), some (.own (rs.map roadD)), some (.at .f (I (fst ws r))), some (.at .f (I at_)), some (.at .f (.int r)), some (.at .f (I 0)), x8, x9, x10]) (by simp) ?_
        rintro _ rfl
        refine w_seq (fun ρ => ρ = [some (.at .f (.lst (iL ws))), some (.at .f (.lst (iL ns))), some (.at .f (I mode)), some (.own (rs.map roadD)), some (.at .f (I (fst ws r))), some (.at .f (I at_)), some (.at .f (.int r)), some (.at .f (I 0)), some (.at .f (I 0)), x9, x10]) (by simp) ?_
        rintro _ rfl
        refine w_seq (fun ρ => ρ = [some (.at .f (.lst (iL ws))), some (.at .f (.lst (iL ns))), some (.at .f (I mode)), some (.own (rs.map roadD)), some (.at .f (I (fst ws r))), some (.at .f (I at_)), some (.at .f (.int r)), some (.at .f (I 0)), some (.at .f (I 0)), some (.at .f (I (fst ws (r + 1)))), x10]) ?_ ?_
        · simp [ixR, wat r r h1 rfl, fst_succ h1]
        rintro _ rfl
        obtain ⟨w, ew⟩ : ∃ w, ws[r]'h1 = w := ⟨_, rfl⟩
        obtain ⟨w', ew'⟩ : ∃ w, ws[r + 1]'h2 = w := ⟨_, rfl⟩
        have b1 := wI r h1
        have b2 := wI (r + 1) h2
        have c1 := hw.pos _ (List.getElem_mem h1)
        have c2 := hw.pos _ (List.getElem_mem h2)
        have a1 := wat r r h1 rfl
        have a2 := wat (r + 1) (r + 1) h2 (by omega)
        have f1 := fst_succ h1
        have f2' := fst_succ h2
        rw [ew] at b1 c1 a1 f1
        rw [ew'] at b2 c2 a2 f2'
        obtain ⟨n, en⟩ : ∃ n, n = w + w' - 1 := ⟨_, rfl⟩
        have f3 : fst ws (r + 2) = fst ws (r + 1) + w' := f2'
        let L : Nat → Ro → Prop := fun i ρ => ∃ (rs : List Road) (a b : Int) (x10 : Option Res), ρ = [some (.at .f (.lst (iL ws))), some (.at .f (.lst (iL ns))), some (.at .f (I mode)), some (.own (rs.map roadD)), some (.at .f (I (fst ws r))), some (.at .f (I (at_ + i))), some (.at .f (.int r)), some (.at .f (I a)), some (.at .f (I b)), some (.at .f (I (fst ws (r + 1)))), x10] ∧
          (rs.length : Int) ≤ at_ + i - 15 ∧ (∀ x ∈ rs, RdOk ws x) ∧ a + b = i ∧ 0 ≤ a ∧ a < w ∧ 0 ≤ b ∧ ((i : Int) < n → b < w')
        refine w_seq (L n.toNat) ?_ ?_
        · have hn : ((n.toNat : Nat) : Int) = n := by omega
          refine w_for (items := rngItems 0 n.toNat) ?_ ?_
          · simp [rng1R, ixR, a1, a2, ← en]
            omega
          · refine w_loop L (fun _ => False) ⟨rs, 0, 0, x10, by simp, by omega, hok, by omega, by omega, by omega, by omega, by omega⟩ ?_ ?_ (fun _ h => h.elim)
            · rintro i hi _ ⟨rs, a, b, x10, rfl, k1, k2, k3, k4, k5, k6, k7⟩
              simp only [rng_get, e_gaN, W_some, List.set_cons_succ, List.set_cons_zero, Int.zero_add]
              rw [rng_len] at hi
              have hat : at_ + i < 70 := by
                have e1 : (r : Int) * (2 * B - 1) + (2 * B - 1) = ((r : Int) + 1) * (2 * B - 1) := by rw [Int.add_mul, Int.one_mul]
                have e2 : ((r : Int) + 1) * (2 * B - 1) ≤ ((ws.length : Int) - 1) * (2 * B - 1) := Int.mul_le_mul_of_nonneg_right (by omega) (by omega)
                omega
              obtain ⟨m, hm⟩ : ∃ m : Nat, at_ + i = m := ⟨(at_ + i).toNat, by omega⟩
              have hml : m < ns.length := by omega
              have a3 : atI (iL ns) (at_ + i) = some (.int ns[m]) := by
                rw [atI_nat hm (by rw [iL_len]; exact hml), iL_get?, List.getElem?_eq_getElem hml]; rfl
              obtain ⟨v, ev⟩ : ∃ v, ns[m] = v := ⟨_, rfl⟩
              have hv : 0 ≤ v := by rw [← ev]; exact hp _ (List.getElem_mem hml)
              rw [ev] at a3
              refine w_seq (fun ρ => ∃ rs : List Road, ρ = [some (.at .f (.lst (iL ws))), some (.at .f (.lst (iL ns))), some (.at .f (I mode)), some (.own (rs.map roadD)), some (.at .f (I (fst ws r))), some (.at .f (I (at_ + i))), some (.at .f (.int r)), some (.at .f (I a)), some (.at .f (I b)), some (.at .f (I (fst ws (r + 1)))), some (.at .f (.int i))] ∧ (rs.length : Int) ≤ at_ + (i + 1) - 15 ∧ ∀ x ∈ rs, RdOk ws x) ?_ ?_
              · simp [ixR, a3, W_ite, fits, isF]
                refine ⟨fun _ => ?_, fun _ => ⟨rs, rfl, by omega, k2⟩⟩
                obtain ⟨_, hpr, p, rfl⟩ := price_ok mode (v / 20 % 50)
                rw [hpr]
                simp [tupR, supAll]
                refine ⟨by omega, rs ++ [⟨fst ws r + a, fst ws (r + 1) + b, p⟩], by simp [roadD], by simp; omega, fun x hx => ?_⟩
                rcases List.mem_append.mp hx with hx | hx
                · exact k2 x hx
                · rw [List.mem_singleton] at hx
                  subst hx
                  exact ⟨r, h2, by simp; omega, by simp; omega, by simp; omega, by simp; omega⟩
              · rintro _ ⟨rs, rfl, k8, k9⟩
                have LI : ∀ a' b' : Int, a' + b' = i + 1 → 0 ≤ a' → a' < w → 0 ≤ b' → ((i : Int) + 1 < n → b' < w') → L (i + 1) [some (.at .f (.lst (iL ws))), some (.at .f (.lst (iL ns))), some (.at .f (I mode)), some (.own (rs.map roadD)), some (.at .f (I (fst ws r))), some (.at .f (.int (at_ + i + 1))), some (.at .f (.int r)), some (.at .f (.int a')), some (.at .f (.int b')), some (.at .f (I (fst ws (r + 1)))), some (.at .f (.int i))] := fun a' b' q1 q2 q3 q4 q5 =>
                  ⟨rs, a', b', some (.at .f (.int i)), by rw [show at_ + ((i + 1 : Nat) : Int) = at_ + i + 1 by omega], by omega, k9, by omega, q2, q3, q4, fun z => q5 (by omega)⟩
                simp [ixR, a1, a2, a3, W_ite]
                exact ⟨fun z => ⟨fun _ => LI _ _ (by omega) (by omega) (by omega) (by omega) (by omega), fun _ => ⟨fun _ => LI _ _ (by omega) (by omega) (by omega) (by omega) (by omega), fun _ => LI _ _ (by omega) (by omega) (by omega) (by omega) (by omega)⟩⟩, fun z => LI _ _ (by omega) (by omega) (by omega) (by omega) (by omega)⟩
            · rintro ρ h
              rw [rng_len] at h
              exact ⟨ρ, rfl, h⟩
        · rintro _ ⟨rs, a, b, x10, rfl, k1, k2, k3, k4, k5, k6, k7⟩
          have e1 : ((r : Int) + 1) * (2 * B - 1) = (r : Int) * (2 * B - 1) + (2 * B - 1) := by rw [Int.add_mul, Int.one_mul]
          simp
          refine ⟨at_ + max n 0, rs, _, _, _, _, _, rfl, by omega, ?_, by omega, k2⟩
          rw [show ((r + 1 : Nat) : Int) = (r : Int) + 1 by omega, e1]
          omega
      · rintro ρ h
        rw [rng_len] at h
        exact ⟨ρ, rfl, h⟩
  · rintro _ ⟨at_, rs, x6, x7, x8, x9, x10, rfl, ha, ha2, hrs, hok⟩
    simp
    refine ⟨rs, rfl, hok, ?_⟩
    have := hw.ne
    have e : ((ws.length - 1 : Nat) : Int) = (ws.length : Int) - 1 := by omega
    rw [e] at ha2
    omega
end Lw

set_option Elab.async false
set_option linter.all false
set_option maxRecDepth 100000
namespace Lw
open PySem PySem.Spec PyProof.Rows L2 Fx
def RowAt (ws : List Int) (q : Nat) (p : Int) : Prop := q < ws.length ∧ fst ws q ≤ p ∧ p < fst ws (q + 1)
theorem fst_mono {ws : List Int} (hp : ∀ w ∈ ws, 1 ≤ w ∧ w ≤ 8) : ∀ {i j : Nat}, i ≤ j → j ≤ ws.length → fst ws i ≤ fst ws j := by
  intro i j hij hj
  induction j with
  | zero => have : i = 0 := by omega
            subst this; exact Int.le_refl _
  | succ j ih =>
    by_cases h : i = j + 1
    · subst h; exact Int.le_refl _
    · have h1 := ih (by omega) (by omega)
      have h2 := fst_succ (ws := ws) (r := j) (by omega)
      have h3 := (hp _ (List.getElem_mem (show j < ws.length by omega))).1
      omega
theorem RowAt.uniq {ws : List Int} (hp : ∀ w ∈ ws, 1 ≤ w ∧ w ≤ 8) {q r : Nat} {p : Int} (h : RowAt ws q p) (k : RowAt ws r p) : q = r := by
  obtain ⟨a1, a2, a3⟩ := h
  obtain ⟨b1, b2, b3⟩ := k
  rcases Nat.lt_trichotomy q r with h | h | h
  · have := fst_mono hp (i := q + 1) (j := r) (by omega) (by omega)
    omega
  · exact h
  · have := fst_mono hp (i := r + 1) (j := q) (by omega) (by omega)
    omega
theorem rows_ok (ws : List Int) (hw : Wd ws) : W (d_l_rows [.lst (iL ws)]) fun r => ∃ rs : List Int, r = .at .f (.lst (iL rs)) ∧ (rs.length : Int) = fst ws ws.length ∧ ∀ (p : Nat) (h : p < rs.length), ∃ q : Nat, rs[p] = q ∧ RowAt ws q p := by
  unfold d_l_rows phi_l_rows
  rw [e_run, W_bind]
  refine w_seq (fun ρ => ρ = [some (.at .f (.lst (iL ws))), some (.at .f (.lst [])), none]) (by simp [ro0, ro1, lstR, mkL, supAll]) ?_
  rintro _ rfl
  let J : Nat → Ro → Prop := fun r ρ => ∃ (rs : List Int) (x : Option Res), ρ = [some (.at .f (.lst (iL ws))), some (.at .f (.lst (iL rs))), x] ∧ (rs.length : Int) = fst ws r ∧ fst ws r ≤ r * 8 ∧ ∀ (p : Nat) (h : p < rs.length), ∃ q : Nat, rs[p] = q ∧ RowAt ws q p
  refine w_seq (J ws.length) ?_ ?_
  · have := hw.le
    refine w_for (items := rngItems 0 ws.length) ?_ ?_
    · simp [rng1R, lenR]
      omega
    · refine w_loop J (fun _ => False) ⟨[], none, by simp, by rw [fst_0]; rfl, by rw [fst_0]; omega, by simp⟩ ?_ ?_ (fun _ h => h.elim)
      · rintro r hr _ ⟨rs, x, rfl, k1, k2, k3⟩
        rw [rng_len] at hr
        obtain ⟨w, ew⟩ : ∃ w, ws[r]'hr = w := ⟨_, rfl⟩
        have c1 := hw.pos _ (List.getElem_mem hr)
        have f1 := fst_succ hr
        rw [ew] at c1 f1
        have a1 : atI (iL ws) r = some (.int w) := by
          rw [atI_nat rfl (by rw [iL_len]; exact hr), iL_get?, List.getElem?_eq_getElem hr, ew]; rfl
        have e1 : (List.replicate w.toNat [D.int (r : Int)]).flatten = iL (List.replicate w.toNat (r : Int)) := by
          unfold iL
          rw [List.map_replicate]
          induction w.toNat with
          | zero => rfl
          | succ n ih => rw [List.replicate_succ, List.replicate_succ, List.flatten_cons, ih]; rfl
        simp [ixR, a1, lstR, mkL, supAll, mulR, addR, e1]
        refine ⟨⟨by omega, by omega⟩, by omega, rs ++ List.replicate w.toNat (r : Int), _, by rw [iL_app], ?_, by omega, fun p hp => ?_⟩
        · rw [List.length_append, List.length_replicate]; omega
        · rw [List.length_append, List.length_replicate] at hp
          by_cases h : p < rs.length
          · obtain ⟨q, h1, h2⟩ := k3 p h
            exact ⟨q, by rw [List.getElem_append_left h]; exact h1, h2⟩
          · refine ⟨r, by rw [List.getElem_append_right (by omega), List.getElem_replicate], hr, by omega, by omega⟩
      · rintro ρ h
        rw [rng_len] at h
        exact ⟨ρ, rfl, h⟩
  · rintro _ ⟨rs, x, rfl, k1, k2, k3⟩
    simp
    exact ⟨rs, rfl, k1, k3⟩

/-- a table of lists of ints -/
def rowsD (es : List (List Int)) : List (List D) := es.map iL
theorem lcD2_const {γ : Res → Ro → Option Ro} {φ : Ro → Option Res} {ρ : Ro} {ds : List D} : ∀ {items : List Res}, (∀ x ∈ items, ∃ ρ1, γ x ρ = some ρ1 ∧ φ ρ1 = some (.own ds)) → lcD2 γ fYes φ ρ items = some (List.replicate items.length ds)
  | [], _ => rfl
  | x :: xs, h => by
    obtain ⟨ρ1, h1, h2⟩ := h x List.mem_cons_self
    have ih := lcD2_const (items := xs) fun y hy => h y (List.mem_cons_of_mem _ hy)
    unfold lcD2
    rw [h1, Option.bind_some]
    show ((some true).bind fun k => if k then (φ ρ1).bind _ else _) = _
    rw [Option.bind_some, if_pos rfl, h2, Option.bind_some]
    show ((some ds).bind _) = _
    rw [Option.bind_some, ih]
    rfl
@[simp] theorem e_new2 {i : Nat} {ι : Ro → Option (List Res)} {vs : List Nat} {γ : Res → Ro → Option Ro} {α : Ro → Option Bool} {φ : Ro → Option Res} {ρ : Ro} : sNew2 i ι vs γ α φ ρ =
  (ι ρ).bind fun items => if items.length ≤ 100000 then (lcD2 γ α φ (wipeR ρ vs) items).bind fun dss => if noAli i ρ then some (.nx (ρ.set i (some (.own2 dss)))) else none else none := rfl
/-- roads of a net of the size n -/
def Rin (n : Nat) (rs : List Road) : Prop := rs.length ≤ 55 ∧ ∀ x ∈ rs, 0 ≤ x.s ∧ x.s < n ∧ 0 ≤ x.e ∧ x.e < n
/-- the ends of the roads of each place -/
structure EndsOk (n : Nat) (rs : List Road) (es : List (List Int)) : Prop where
  len : es.length = n
  at_ : ∀ (p : Nat) (h : p < es.length) (e : Int), e ∈ es[p] ↔ ∃ x ∈ rs, x.s = p ∧ x.e = e
theorem rowOf_nat {dss : List (List D)} {l : Lv} {i : Int} {j : Nat} (e : i = j) (h : j < dss.length) : rowOf dss (.at l (.int i)) = some (j, dss[j]) := by
  subst e
  unfold rowOf ixN
  simp [h]
theorem ends_ok (n : Nat) (rs : List Road) (hn : n ≤ 1000) (h : Rin n rs) : W (d_l_ends [.int n, .lst (rs.map roadD)]) fun r => ∃ es : List (List Int), r = .at .f (.lst (es.map fun l => .lst (iL l))) ∧ (∀ l ∈ es, l.length ≤ 55) ∧ EndsOk n rs es := by
  unfold d_l_ends phi_l_ends
  rw [e_run, W_bind]
  refine w_seq (fun ρ => ρ = [some (.at .f (.int n)), some (.at .f (.lst (rs.map roadD))), some (.own2 (List.replicate n [])), none, none]) ?_ ?_
  · have : lcD2 (gaN 4) fYes (fA lstR fNil) [some (.at .f (.int n)), some (.at .f (.lst (rs.map roadD))), none, none, none] (rngItems 0 n) = some (List.replicate (rngItems 0 n).length []) :=
      lcD2_const fun x hx => ⟨_, rfl, by simp [lstR, mkL, supAll]⟩
    simp [ro0, ro1, rng1R, wipeR, this, noAli]
    omega
  rintro _ rfl
  let J : Nat → Ro → Prop := fun i ρ => ∃ (es : List (List Int)) (x y : Option Res), ρ = [some (.at .f (.int n)), some (.at .f (.lst (rs.map roadD))), some (.own2 (rowsD es)), x, y] ∧ EndsOk n (rs.take i) es ∧ ∀ l ∈ es, l.length ≤ i
  refine w_seq (J rs.length) ?_ ?_
  · refine w_for (items := (rs.map roadD).map fun d => .at .f d) (by simp [seqItems]) ?_
    refine w_loop J (fun _ => False) ⟨List.replicate n [], none, none, by simp [rowsD], ⟨by simp, fun p hp e => by simp⟩, fun l hl => by rw [(List.mem_replicate.mp hl).2]; simp⟩ ?_ ?_ (fun _ h => h.elim)
    · rintro i hi _ ⟨es, x, y, rfl, k1, k2⟩
      simp at hi
      obtain ⟨q, eq⟩ : ∃ q, rs[i] = q := ⟨_, rfl⟩
      have hq := h.2 _ (List.getElem_mem hi)
      rw [eq] at hq
      obtain ⟨p, hp⟩ : ∃ p : Nat, q.s = p := ⟨q.s.toNat, by omega⟩
      have hpl : p < es.length := by rw [k1.len]; omega
      have a0 : atI [D.int q.s, D.int q.e, D.int q.p] 0 = some (.int q.s) := rfl
      have a1 : atI [D.int q.s, D.int q.e, D.int q.p] 1 = some (.int q.e) := rfl
      have a2 : rowOf (rowsD es) (.at .f (.int q.s)) = some (p, iL es[p]) := by
        rw [rowOf_nat hp (by unfold rowsD; rw [List.length_map]; exact hpl)]
        simp [rowsD]
      simp [eq, roadD, ixR, a0, a1, a2]
      have hl := k2 _ (List.getElem_mem hpl)
      have := h.1
      refine ⟨by omega, es.set p (es[p] ++ [q.e]), some (.at .f (.tup [.int q.s, .int q.e, .int q.p])), y, by simp [rowsD, List.map_set], ⟨by rw [List.length_set]; exact k1.len, fun p' hp' e => ?_⟩, fun l hl' => ?_⟩
      · rw [List.length_set] at hp'
        rw [List.take_succ_eq_append_getElem hi, eq]
        have k := k1.at_ p' hp' e
        by_cases hpp : p = p'
        · subst hpp
          rw [List.getElem_set_self]
          simp only [List.mem_append, List.mem_singleton, k]
          constructor
          · rintro (⟨x, h1, h2⟩ | rfl)
            · exact ⟨x, .inl h1, h2⟩
            · exact ⟨q, .inr rfl, hp, rfl⟩
          · rintro ⟨x, h1 | rfl, h2, h3⟩
            · exact .inl ⟨x, h1, h2, h3⟩
            · exact .inr h3.symm
        · rw [List.getElem_set_ne hpp, k]
          simp only [List.mem_append, List.mem_singleton]
          constructor
          · rintro ⟨x, h1, h2⟩
            exact ⟨x, .inl h1, h2⟩
          · rintro ⟨x, h1 | rfl, h2, h3⟩
            · exact ⟨x, h1, h2, h3⟩
            · exact absurd (by omega : p = p') hpp
      · rcases List.mem_or_eq_of_mem_set hl' with hm | rfl
        · have := k2 l hm; omega
        · rw [List.length_append]; simp; omega
    · rintro ρ hJ
      exact ⟨ρ, rfl, by simpa using hJ⟩
  · rintro _ ⟨es, x, y, rfl, k1, k2⟩
    simp [frzSlot, frzR]
    have h55 := h.1
    refine ⟨es, by simp [rowsD], fun l hl => by have := k2 l hl; omega, ?_⟩
    rwa [List.take_length] at k1
end Lw

set_option Elab.async false
set_option linter.all false
set_option maxRecDepth 100000
namespace Lw
open PySem PySem.Spec PyProof.Rows L2 Fx
theorem putD_len (kvs : List (List Key × D)) (k : List Key) (v : D) : (putD kvs k v).length ≤ kvs.length + 1 := by
  unfold putD
  split
  · rw [List.length_map]; omega
  · rw [List.length_append]; simp
theorem costs_ok (n : Nat) (rs : List Road) (h : Rin n rs) : W (d_l_costs [.lst (rs.map roadD)]) fun r => ∃ ks xs, r = .at .f (.dct ks xs) := by
  unfold d_l_costs phi_l_costs
  rw [e_run, W_bind]
  refine w_seq (fun ρ => ρ = [some (.at .f (.lst (rs.map roadD))), some (.ownT []), none]) (by simp [ro0, ro1]) ?_
  rintro _ rfl
  let J : Nat → Ro → Prop := fun i ρ => ∃ (kvs : List (List Key × D)) (x : Option Res), ρ = [some (.at .f (.lst (rs.map roadD))), some (.ownT kvs), x] ∧ kvs.length ≤ i
  have h55 := h.1
  refine w_seq (J rs.length) ?_ ?_
  · refine w_for (items := (rs.map roadD).map fun d => .at .f d) (by simp [seqItems]) ?_
    refine w_loop J (fun _ => False) ⟨[], none, rfl, by simp⟩ ?_ ?_ (fun _ h => h.elim)
    · rintro i hi _ ⟨kvs, x, rfl, k1⟩
      simp at hi
      obtain ⟨q, eq⟩ : ∃ q, rs[i] = q := ⟨_, rfl⟩
      have a0 : atI [D.int q.s, D.int q.e, D.int q.p] 0 = some (.int q.s) := rfl
      have a1 : atI [D.int q.s, D.int q.e, D.int q.p] 1 = some (.int q.e) := rfl
      have a2 : atI [D.int q.s, D.int q.e, D.int q.p] 2 = some (.int q.p) := rfl
      simp [eq, roadD, ixR, a0, a1, a2, ktpR, supAll, tkey, keysD, keyD]
      exact ⟨by omega, _, _, rfl, by have := putD_len kvs [.inl q.s, .inl q.e] (.int q.p); omega⟩
    · rintro ρ hJ
      exact ⟨ρ, rfl, by simpa using hJ⟩
  · rintro _ ⟨kvs, x, rfl, k1⟩
    simp [frzSlot, frzR]
/-- None or a price -/
def oD : Option Int → D
  | none => .non
  | some i => .int i
def tabD (T : List (List (Option Int))) : List (List D) := T.map fun l => l.map oD
/-- the least prices: what the walks rest on -/
structure LeastOk (n : Nat) (rs : List Road) (T : List (List (Option Int))) : Prop where
  len : T.length = n
  row : ∀ l ∈ T, l.length = n
  nx : ∀ (p g : Nat) (hp : p < T.length) (hg : g < T[p].length), T[p][g] ≠ none → p = g ∨ ∃ x ∈ rs, x.s = p ∧ ∃ (q : Nat) (hq : q < T.length) (hg : g < T[q].length), x.e = q ∧ T[q][g] ≠ none
theorem oD_set (T : List (List (Option Int))) (p g : Nat) (hp : p < T.length) (v : Int) : (tabD T).set p ((T[p].map oD).set g (.int v)) = tabD (T.set p (T[p].set g (some v))) := by
  unfold tabD
  rw [List.map_set, List.map_set]
  rfl
theorem LeastOk.put {n : Nat} {rs : List Road} {T : List (List (Option Int))} (h : LeastOk n rs T) {p g : Nat} (hp : p < T.length) (v : Int) (hn : p = g ∨ ∃ x ∈ rs, x.s = p ∧ ∃ (q : Nat) (hq : q < T.length) (hg : g < T[q].length), x.e = q ∧ T[q][g] ≠ none) : LeastOk n rs (T.set p (T[p].set g (some v))) := by
  have keep : ∀ (a c : Nat) (ha : a < T.length) (hc : c < T[a].length), T[a][c] ≠ none → ∃ (ha' : a < (T.set p (T[p].set g (some v))).length) (hc' : c < (T.set p (T[p].set g (some v)))[a].length), (T.set p (T[p].set g (some v)))[a][c] ≠ none := by
    intro a c ha hc hne
    have ha' : a < (T.set p (T[p].set g (some v))).length := by rw [List.length_set]; exact ha
    by_cases hpa : p = a
    · subst hpa
      have e : (T.set p (T[p].set g (some v)))[p] = T[p].set g (some v) := List.getElem_set_self _
      refine ⟨ha', by rw [e, List.length_set]; exact hc, ?_⟩
      have e2 : (T.set p (T[p].set g (some v)))[p]? = some (T[p].set g (some v)) := by rw [List.getElem?_eq_getElem ha', e]
      by_cases hgc : g = c
      · subst hgc
        simp [e]
      · simp [e, List.getElem_set_ne hgc, hne]
    · have e : (T.set p (T[p].set g (some v)))[a] = T[a] := List.getElem_set_ne hpa _
      exact ⟨ha', by rw [e]; exact hc, by simp [e, hne]⟩
  refine ⟨by rw [List.length_set]; exact h.len, fun l hl => ?_, fun a c ha hc hne => ?_⟩
  · rcases List.mem_or_eq_of_mem_set hl with hm | rfl
    · exact h.row l hm
    · rw [List.length_set]; exact h.row _ (List.getElem_mem hp)
  · have ha0 : a < T.length := by rwa [List.length_set] at ha
    have old : ∀ (hc0 : c < T[a].length), T[a][c] ≠ none → a = c ∨ ∃ x ∈ rs, x.s = a ∧ ∃ (q : Nat) (hq : q < (T.set p (T[p].set g (some v))).length) (hg : c < (T.set p (T[p].set g (some v)))[q].length), x.e = q ∧ (T.set p (T[p].set g (some v)))[q][c] ≠ none := by
      intro hc0 hne0
      rcases h.nx a c ha0 hc0 hne0 with e | ⟨x, hx, h1, q, hq, hg, h2, h3⟩
      · exact .inl e
      · obtain ⟨k1, k2, k3⟩ := keep q c hq hg h3
        exact .inr ⟨x, hx, h1, q, k1, k2, h2, k3⟩
    by_cases hpa : p = a
    · subst hpa
      have e : (T.set p (T[p].set g (some v)))[p] = T[p].set g (some v) := List.getElem_set_self _
      have hc0 : c < T[p].length := by rw [e, List.length_set] at hc; exact hc
      by_cases hgc : g = c
      · subst hgc
        rcases hn with e | ⟨x, hx, h1, q, hq, hg, h2, h3⟩
        · exact .inl e
        · obtain ⟨k1, k2, k3⟩ := keep q g hq hg h3
          exact .inr ⟨x, hx, h1, q, k1, k2, h2, k3⟩
      · refine old hc0 ?_
        intro z
        apply hne
        simp [e, List.getElem_set_ne hgc, z]
    · have e : (T.set p (T[p].set g (some v)))[a] = T[a] := List.getElem_set_ne hpa _
      have hc0 : c < T[a].length := by rw [e] at hc; exact hc
      exact old hc0 (by intro z; apply hne; simp [e, z])
end Lw

set_option Elab.async false
set_option linter.all false
set_option maxRecDepth 100000
namespace Lw
open PySem PySem.Spec PyProof.Rows L2 Fx
theorem rowOf_tab {T : List (List (Option Int))} {l : Lv} {i : Int} {p : Nat} (e : i = p) (h : p < T.length) : rowOf (tabD T) (.at l (.int i)) = some (p, T[p].map oD) := by
  rw [rowOf_nat e (by unfold tabD; rw [List.length_map]; exact h)]
  simp [tabD]
theorem atI_row {l : List (Option Int)} {i : Int} {g : Nat} (e : i = g) (h : g < l.length) : atI (l.map oD) i = some (oD l[g]) := by
  rw [atI_nat e (by rw [List.length_map]; exact h), List.getElem?_map, List.getElem?_eq_getElem h]; rfl
theorem tab_get {T : List (List (Option Int))} {p : Nat} (h : p < T.length) : (tabD T)[p]? = some (T[p].map oD) := by
  unfold tabD
  rw [List.getElem?_map, List.getElem?_eq_getElem h]; rfl
theorem ixN_nat {n g : Nat} {i : Int} (e : i = g) (h : g < n) : ixN n i = some g := by
  subst e
  unfold ixN
  rw [if_pos (by omega), if_pos (by omega)]
  simp
theorem least_ok (n : Nat) (rs : List Road) (hn : n ≤ 1000) (h : Rin n rs) : W (d_l_least [.int n, .lst (rs.map roadD)]) fun r => ∃ T : List (List (Option Int)), r = .at .f (.lst (T.map fun l => .lst (l.map oD))) ∧ LeastOk n rs T := by
  unfold d_l_least phi_l_least
  rw [e_run, W_bind]
  let T0 : List (List (Option Int)) := List.replicate n (List.replicate n none)
  refine w_seq (fun ρ => ρ = [some (.at .f (.int n)), some (.at .f (.lst (rs.map roadD))), some (.own2 (tabD T0)), none, none, none, none, none, none, none]) ?_ ?_
  · have e0 : ∀ m : Nat, (List.replicate m [D.non]).flatten = List.replicate m .non := fun m => by
      induction m with
      | zero => rfl
      | succ m ih => rw [List.replicate_succ, List.flatten_cons, ih]; rfl
    have : lcD2 (gaN 3) fYes (f2 mulR (fA lstR (fCons (fC .non) fNil)) (fVar 0)) [some (.at .f (.int n)), some (.at .f (.lst (rs.map roadD))), none, none, none, none, none, none, none, none] (rngItems 0 n) = some (List.replicate (rngItems 0 n).length (List.replicate n .non)) :=
      lcD2_const fun x hx => ⟨_, rfl, by
        simp [lstR, mkL, supAll, mulR, e0]
        omega⟩
    have e1 : tabD T0 = List.replicate n (List.replicate n .non) := by simp [tabD, T0, oD]
    simp [ro0, ro1, rng1R, wipeR, this, noAli, e1]
    omega
  rintro _ rfl
  let J : Nat → Ro → Prop := fun i ρ => ∃ (T : List (List (Option Int))) (x y : Option Res), ρ = [some (.at .f (.int n)), some (.at .f (.lst (rs.map roadD))), some (.own2 (tabD T)), x, y, none, none, none, none, none] ∧ LeastOk n rs T
  refine w_seq (J n) ?_ ?_
  · refine w_for (items := rngItems 0 n) (by simp [rng1R]; omega) ?_
    refine w_loop J (fun _ => False) ⟨T0, none, none, rfl, ⟨by simp [T0], fun l hl => by rw [(List.mem_replicate.mp hl).2]; simp, fun p g hp hg hne => absurd (by simp [T0]) hne⟩⟩ ?_ ?_ (fun _ h => h.elim)
    · rintro i hi _ ⟨T, x, y, rfl, k⟩
      rw [rng_len] at hi
      have hT : i < T.length := by rw [k.len]; exact hi
      have hg : i < T[i].length := by rw [k.row _ (List.getElem_mem hT)]; exact hi
      simp [rowOf_tab (T := T) (p := i) rfl hT, tab_get hT, ixN_nat (n := T[i].length) (g := i) rfl hg, oD_set T i i hT 0]
      exact ⟨_, _, _, rfl, k.put hT 0 (.inl rfl)⟩
    · rintro ρ hJ
      rw [rng_len] at hJ
      exact ⟨ρ, rfl, hJ⟩
  rintro _ ⟨T, x, y, rfl, k⟩
  let M : Nat → Ro → Prop := fun i ρ => ∃ (T : List (List (Option Int))) (x3 x4 x5 x6 x7 x8 x9 : Option Res), ρ = [some (.at .f (.int n)), some (.at .f (.lst (rs.map roadD))), some (.own2 (tabD T)), x3, x4, x5, x6, x7, x8, x9] ∧ LeastOk n rs T
  refine w_seq (M rs.length) ?_ ?_
  · have h55 := h.1
    refine w_for (items := rngItems 0 rs.length) (by simp [rng1R, lenR]; omega) ?_
    refine w_loop M (fun _ => False) ⟨T, x, y, none, none, none, none, none, rfl, k⟩ ?_ ?_ (fun _ h => h.elim)
    · rintro i hi _ ⟨T, x3, x4, x5, x6, x7, x8, x9, rfl, k⟩
      rw [rng_len] at hi
      have hj : rs.length - 1 - i < rs.length := by omega
      obtain ⟨q, eq⟩ : ∃ q, rs[rs.length - 1 - i] = q := ⟨_, rfl⟩
      have hqm : q ∈ rs := by rw [← eq]; exact List.getElem_mem hj
      have hq := h.2 q hqm
      have ar : atI (rs.map roadD) ((rs.length : Int) - 1 - i) = some (roadD q) := by
        rw [atI_nat (n := rs.length - 1 - i) (by omega) (by rw [List.length_map]; exact hj), List.getElem?_map, List.getElem?_eq_getElem hj, eq]; rfl
      obtain ⟨p, hp⟩ : ∃ p : Nat, q.s = p := ⟨q.s.toNat, by omega⟩
      obtain ⟨e, he⟩ : ∃ p : Nat, q.e = p := ⟨q.e.toNat, by omega⟩
      have hpT : p < T.length := by rw [k.len]; omega
      have heT : e < T.length := by rw [k.len]; omega
      have a0 : atI [D.int q.s, D.int q.e, D.int q.p] 0 = some (.int q.s) := rfl
      have a1 : atI [D.int q.s, D.int q.e, D.int q.p] 1 = some (.int q.e) := rfl
      have a2 : atI [D.int q.s, D.int q.e, D.int q.p] 2 = some (.int q.p) := rfl
      simp only [rng_get, e_gaN, W_some, List.set_cons_succ, List.set_cons_zero, Int.zero_add]
      refine w_seq (fun ρ => ρ = [some (.at .f (.int n)), some (.at .f (.lst (rs.map roadD))), some (.own2 (tabD T)), x3, x4, some (.at .f (.int i)), some (.at .f (roadD q)), x7, x8, x9]) (by simp [ixR, lenR, ar, roadD]) ?_
      rintro _ rfl
      refine w_seq (fun ρ => ρ = [some (.at .f (.int n)), some (.at .f (.lst (rs.map roadD))), some (.own2 (tabD T)), x3, some (.ali 2 p), some (.at .f (.int i)), some (.at .f (roadD q)), x7, x8, x9]) (by simp [ixR, roadD, a0, rowOf_tab hp hpT]) ?_
      rintro _ rfl
      refine w_seq (fun ρ => ρ = [some (.at .f (.int n)), some (.at .f (.lst (rs.map roadD))), some (.own2 (tabD T)), x3, some (.ali 2 p), some (.at .f (.int i)), some (.at .f (roadD q)), some (.ali 2 e), x8, x9]) (by simp [ixR, roadD, a1, rowOf_tab he heT]) ?_
      rintro _ rfl
      refine w_for (items := rngItems q.e (n - q.e).toNat) (by simp [rng2R, ixR, roadD, a1]; omega) ?_
      let L : Nat → Ro → Prop := fun j ρ => ∃ (T : List (List (Option Int))) (x8 x9 : Option Res), ρ = [some (.at .f (.int n)), some (.at .f (.lst (rs.map roadD))), some (.own2 (tabD T)), x3, some (.ali 2 p), some (.at .f (.int i)), some (.at .f (roadD q)), some (.ali 2 e), x8, x9] ∧ LeastOk n rs T
      refine w_loop L (fun _ => False) ⟨T, x8, x9, rfl, k⟩ ?_ ?_ (fun _ h => h.elim)
      · rintro j hj _ ⟨T, x8, x9, rfl, k⟩
        rw [rng_len] at hj
        obtain ⟨g, hg⟩ : ∃ g : Nat, q.e + j = g := ⟨(q.e + j).toNat, by omega⟩
        have hgn : g < n := by omega
        have hpT : p < T.length := by rw [k.len]; omega
        have heT : e < T.length := by rw [k.len]; omega
        have gp : g < T[p].length := by rw [k.row _ (List.getElem_mem hpT)]; exact hgn
        have ge : g < T[e].length := by rw [k.row _ (List.getElem_mem heT)]; exact hgn
        have r1 := atI_row hg ge
        have r2 := atI_row hg gp
        cases hc : T[e][g] with
        | none =>
          rw [hc] at r1
          simp [tab_get heT, ixR, r1, oD, notNR, D.isNon]
          exact ⟨T, _, _, rfl, k⟩
        | some c =>
          rw [hc] at r1
          have put : ∀ v : Int, LeastOk n rs (T.set p (T[p].set g (some v))) := fun v => k.put hpT v (.inr ⟨q, hqm, hp, e, heT, ge, he, by rw [hc]; intro z; cases z⟩)
          cases hc2 : T[p][g] with
          | none =>
            rw [hc2] at r2
            simp [tab_get heT, tab_get hpT, ixR, r1, r2, oD, notNR, isNR, D.isNon, roadD, a2, ixN_nat (n := T[p].length) hg gp, oD_set T p g hpT]
            exact ⟨_, _, _, rfl, put _⟩
          | some c2 =>
            rw [hc2] at r2
            simp [tab_get heT, tab_get hpT, ixR, r1, r2, oD, notNR, isNR, D.isNon, roadD, a2, ixN_nat (n := T[p].length) hg gp, oD_set T p g hpT, W_ite]
            exact ⟨fun _ => ⟨_, _, _, rfl, put _⟩, fun _ => ⟨_, _, _, rfl, k⟩⟩
      · rintro ρ ⟨T, x8, x9, rfl, k⟩
        exact ⟨T, _, _, _, _, _, _, _, rfl, k⟩
    · rintro ρ hJ
      rw [rng_len] at hJ
      exact ⟨ρ, rfl, hJ⟩
  · rintro _ ⟨T, x3, x4, x5, x6, x7, x8, x9, rfl, k⟩
    simp [frzSlot, frzR]
    exact ⟨T, by simp [tabD], k⟩
end Lw

set_option Elab.async false
set_option linter.all false
set_option maxRecDepth 100000
namespace Lw
open PySem PySem.Spec PyProof.Rows L2 Fx
theorem rng2_eq {l m : Lv} {a c : Int} (h : (-1000000 ≤ a ∧ a ≤ 1000000) ∧ (-1000000 ≤ c ∧ c ≤ 1000000)) : rng2R [.at l (.int a), .at m (.int c)] = some (rngItems a (c - a).toNat) := by
  unfold rng2R
  simp only [e_intOf, at_d, Option.bind_some]
  rw [if_pos h]
theorem rng2_nat {l m : Lv} {a : Int} {c k : Nat} (h : -1000000 ≤ a ∧ a ≤ 1000000) (hc : c ≤ 1000000) (e : k = ((c : Int) - a).toNat) : rng2R [.at l (.int a), .at m (.int c)] = some (rngItems a k) := by
  rw [rng2_eq ⟨h, by omega⟩, e]
theorem t2 (i c : Int) (k : Nat) (rows : List Int) (a0 a1 a3 y : Option Res) (h : (-1000000 ≤ i + 1 ∧ i + 1 ≤ 1000000) ∧ (-1000000 ≤ c ∧ c ≤ 1000000)) (hk : k = (c - (i + 1)).toNat) (hrn : (rows.length : Int) = c) : iA rng2R (fCons (f2 addR (fVar 4) (fC (.int 1))) (fCons (fA lenR (fCons (fVar 2) fNil)) fNil)) [a0, a1, some (.at .f (.lst (iL rows))), a3, some (.at .f (.int i)), y, none, none, none] = some (rngItems (i + 1) k) := by
  have e := rng2_eq (l := .f) (m := .f) h
  rw [← hk] at e
  simp [lenR, hrn, e]
theorem mk_ff : Res.mk .f = fun d => Res.at .f d := funext fun d => mk_f
structure Pr where
  s : Nat
  g : Nat
def pD (x : Pr) : D := .tup [.int x.s, .int x.g]
def PrOk (T : List (List (Option Int))) (x : Pr) : Prop := ∃ (hs : x.s < T.length) (hg : x.g < T[x.s].length), T[x.s][x.g] ≠ none
theorem rowOf_any {dss : List (List D)} {l : Lv} {i : Int} (h1 : -(dss.length : Int) ≤ i) (h2 : i < dss.length) : ∃ (j : Nat) (hj : j < dss.length), rowOf dss (.at l (.int i)) = some (j, dss[j]) := by
  by_cases h0 : 0 ≤ i
  · obtain ⟨j, rfl⟩ := Int.eq_ofNat_of_zero_le h0
    exact ⟨j, by omega, rowOf_nat rfl (by omega)⟩
  · obtain ⟨j, hj⟩ := Int.eq_ofNat_of_zero_le (show 0 ≤ i + dss.length by omega)
    have hjl : j < dss.length := by omega
    refine ⟨j, hjl, ?_⟩
    unfold rowOf ixN
    rw [e_intOf]
    show ((if 0 ≤ i then _ else _ : Option Nat).bind _) = _
    rw [if_neg h0, if_pos h1, hj]
    simp [hjl]
theorem flat_set {α : Type} : ∀ (G : List (List α)) (j : Nat) (h : j < G.length) (x : α), (G.set j (G[j] ++ [x])).flatten.length = G.flatten.length + 1
  | [], j, h, _ => absurd h (by simp)
  | l :: G, 0, _, x => by simp; omega
  | l :: G, j + 1, h, x => by
    have ih := flat_set G j (by simpa using h) x
    simp only [List.set_cons_succ, List.getElem_cons_succ, List.flatten_cons, List.length_append]
    omega
theorem len_flat {α : Type} : ∀ (G : List (List α)) (j : Nat) (h : j < G.length), G[j].length ≤ G.flatten.length
  | [], j, h => absurd h (by simp)
  | l :: G, 0, _ => by simp
  | l :: G, j + 1, h => by
    have ih := len_flat G j (by simpa using h)
    simp only [List.getElem_cons_succ, List.flatten_cons, List.length_append]
    omega
theorem fst_le {ws : List Int} (hp : ∀ w ∈ ws, 1 ≤ w ∧ w ≤ 8) : ∀ {i : Nat}, i ≤ ws.length → 0 ≤ fst ws i ∧ fst ws i ≤ 8 * i := by
  intro i hi
  induction i with
  | zero => rw [fst_0]; omega
  | succ i ih =>
    have := ih (by omega)
    have h2 := fst_succ (ws := ws) (r := i) (by omega)
    have h3 := hp _ (List.getElem_mem (show i < ws.length by omega))
    omega
theorem pairs_ok (ws : List Int) (n : Nat) (rs : List Road) (T : List (List (Option Int))) (hw : Wd ws) (hn : (n : Int) = fst ws ws.length) (k : LeastOk n rs T) :
    W (d_l_pairs [.lst (iL ws), .lst (T.map fun l => .lst (l.map oD))]) fun r => ∃ ps : List Pr, r = .at .f (.lst (ps.map pD)) ∧ ps.length ≤ 10000 ∧ ∀ x ∈ ps, PrOk T x := by
  have n96 : n ≤ 96 := by
    have h1 := fst_le hw.pos (Nat.le_refl _)
    have h2 := hw.le
    omega
  unfold d_l_pairs phi_l_pairs
  rw [e_run, W_bind]
  obtain ⟨_, hrow, rows, rfl, hrl, hra⟩ := rows_ok ws hw
  refine w_seq (fun ρ => ρ = [some (.at .f (.lst (iL ws))), some (.at .f (.lst (T.map fun l => .lst (l.map oD)))), some (.at .f (.lst (iL rows))), none, none, none, none, none, none]) (by simp [ro0, ro1, fits, isF, hrow]) ?_
  rintro _ rfl
  have hrn : rows.length = n := by omega
  have hw1 := hw.ne
  have hw2 := hw.le
  refine w_seq (fun ρ => ρ = [some (.at .f (.lst (iL ws))), some (.at .f (.lst (T.map fun l => .lst (l.map oD)))), some (.at .f (.lst (iL rows))), some (.own2 (List.replicate ws.length [])), none, none, none, none, none]) ?_ ?_
  · have : lcD2 (gaN 8) fYes (fA lstR fNil) [some (.at .f (.lst (iL ws))), some (.at .f (.lst (T.map fun l => .lst (l.map oD)))), some (.at .f (.lst (iL rows))), none, none, none, none, none, none] ((iL ws).map fun d => .at .f d) = some (List.replicate ((iL ws).map fun d => Res.at .f d).length []) :=
      lcD2_const fun x hx => ⟨_, rfl, by simp [lstR, mkL, supAll]⟩
    rw [← mk_ff] at this
    simp only [iL_len, List.length_map] at this
    simp [seqItems, wipeR, this, noAli]
    omega
  rintro _ rfl
  let J : Nat → Ro → Prop := fun i ρ => ∃ (G : List (List Pr)) (x y : Option Res), ρ = [some (.at .f (.lst (iL ws))), some (.at .f (.lst (T.map fun l => .lst (l.map oD)))), some (.at .f (.lst (iL rows))), some (.own2 (G.map fun l => l.map pD)), x, y, none, none, none] ∧
    G.length = ws.length ∧ G.flatten.length ≤ i * n ∧ ∀ l ∈ G, ∀ x ∈ l, PrOk T x
  refine w_seq (J n) ?_ ?_
  · refine w_for (items := rngItems 0 n) (by simp [rng1R, lenR, hrn]; omega) ?_
    refine w_loop J (fun _ => False) ⟨List.replicate ws.length [], none, none, by simp, by simp, by simp, fun l hl => by rw [(List.mem_replicate.mp hl).2]; simp⟩ ?_ ?_ (fun _ h => h.elim)
    · rintro i hi _ ⟨G, x, y, rfl, g1, g2, g3⟩
      rw [rng_len] at hi
      simp only [rng_get, e_gaN, W_some, List.set_cons_succ, List.set_cons_zero, Int.zero_add]
      refine w_for (items := rngItems (i + 1) (n - (i + 1))) (t2 _ (n : Int) _ rows _ _ _ _ (by omega) (by omega) (by rw [hrn])) ?_
      let L : Nat → Ro → Prop := fun j ρ => ∃ (G : List (List Pr)) (y : Option Res), ρ = [some (.at .f (.lst (iL ws))), some (.at .f (.lst (T.map fun l => .lst (l.map oD)))), some (.at .f (.lst (iL rows))), some (.own2 (G.map fun l => l.map pD)), some (.at .f (.int i)), y, none, none, none] ∧
        G.length = ws.length ∧ G.flatten.length ≤ i * n + j ∧ ∀ l ∈ G, ∀ x ∈ l, PrOk T x
      refine w_loop L (fun _ => False) ⟨G, y, rfl, g1, g2, g3⟩ ?_ ?_ (fun _ h => h.elim)
      · rintro j hj _ ⟨G, y, rfl, g1, g2, g3⟩
        rw [rng_len] at hj
        obtain ⟨g, hg⟩ : ∃ g : Nat, (i : Int) + 1 + j = g := ⟨i + 1 + j, by omega⟩
        have hgn : g < n := by omega
        have hiT : i < T.length := by rw [k.len]; exact hi
        have hgT : g < T[i].length := by rw [k.row _ (List.getElem_mem hiT)]; exact hgn
        have a0 : atI (T.map fun l => D.lst (l.map oD)) i = some (.lst (T[i].map oD)) := by
          rw [atI_nat rfl (by rw [List.length_map]; exact hiT), List.getElem?_map, List.getElem?_eq_getElem hiT]; rfl
        have a1 := atI_row hg hgT
        obtain ⟨q1, e1, z1⟩ := hra i (by omega)
        obtain ⟨q2, e2, z2⟩ := hra g (by omega)
        have b1 : atI (iL rows) i = some (.int q1) := by
          rw [atI_nat rfl (by rw [iL_len]; omega), iL_get?, List.getElem?_eq_getElem (by omega), e1]; rfl
        have b2 : atI (iL rows) ((i : Int) + 1 + j) = some (.int q2) := by
          rw [atI_nat hg (by rw [iL_len]; omega), iL_get?, List.getElem?_eq_getElem (by omega), e2]; rfl
        have hq1 := z1.1
        have hq2 := z2.1
        have hcnt : i * n + j < 10000 := by
          have : i * n ≤ 96 * 96 := Nat.mul_le_mul (by omega) n96
          omega
        cases hc : T[i][g] with
        | none =>
          rw [hc] at a1
          simp [ixR, a0, a1, oD, notNR, D.isNon]
          exact ⟨G, _, rfl, g1, by omega, g3⟩
        | some v =>
          rw [hc] at a1
          obtain ⟨m, hm, hrow⟩ := rowOf_any (dss := G.map fun l => l.map pD) (l := .f) (i := (q2 : Int) - q1) (by rw [List.length_map, g1]; omega) (by rw [List.length_map, g1]; omega)
          have hm' : m < G.length := by rwa [List.length_map] at hm
          have hmg : (G.map fun l => l.map pD)[m] = G[m].map pD := by simp
          rw [hmg] at hrow
          have hlf := len_flat G m hm'
          simp [ixR, a0, a1, b1, b2, oD, notNR, D.isNon, hrow, tupR, supAll]
          refine ⟨by omega, G.set m (G[m] ++ [⟨i, g⟩]), some (.at .f (.int ((i : Int) + 1 + j))), ?_, by rw [List.length_set]; exact g1, by rw [flat_set G m hm']; omega, fun l hl x hx => ?_⟩
          · rw [List.map_set, List.map_append, hg]
            rfl
          · rcases List.mem_or_eq_of_mem_set hl with hl | rfl
            · exact g3 l hl x hx
            · rcases List.mem_append.mp hx with hx | hx
              · exact g3 _ (List.getElem_mem hm') x hx
              · rw [List.mem_singleton] at hx
                subst hx
                exact ⟨hiT, hgT, by rw [hc]; intro z; cases z⟩
      · rintro ρ ⟨G, y, rfl, g1, g2, g3⟩
        refine ⟨G, _, _, rfl, g1, ?_, g3⟩
        rw [rng_len] at g2
        have : (i + 1) * n = i * n + n := Nat.succ_mul i n
        omega
    · rintro ρ hJ
      rw [rng_len] at hJ
      exact ⟨ρ, rfl, hJ⟩
  rintro _ ⟨G, x, y, rfl, g1, g2, g3⟩
  have hcnt : G.flatten.length ≤ 10000 := by
    have : n * n ≤ 96 * 96 := Nat.mul_le_mul n96 n96
    omega
  refine w_seq (fun ρ => ρ = [some (.at .f (.lst (iL ws))), some (.at .f (.lst (T.map fun l => .lst (l.map oD)))), some (.at .f (.lst (iL rows))), some (.own2 (G.map fun l => l.map pD)), x, y, some (.at .f (.lst [])), none, none]) (by simp [lstR, mkL, supAll]) ?_
  rintro _ rfl
  let Z : Nat → Ro → Prop := fun i ρ => ∃ (r3 x7 : Option Res), ρ = [some (.at .f (.lst (iL ws))), some (.at .f (.lst (T.map fun l => .lst (l.map oD)))), some (.at .f (.lst (iL rows))), r3, x, y, some (.at .f (.lst ((G.take i).flatten.map pD))), x7, none]
  refine w_seq (Z G.length) ?_ ?_
  · rw [e_frz]
    have efz : frzSlot 3 [some (.at .f (.lst (iL ws))), some (.at .f (.lst (T.map fun l => .lst (l.map oD)))), some (.at .f (.lst (iL rows))), some (.own2 (G.map fun l => l.map pD)), x, y, some (.at .f (.lst [])), none, none] =
        [some (.at .f (.lst (iL ws))), some (.at .f (.lst (T.map fun l => .lst (l.map oD)))), some (.at .f (.lst (iL rows))), some (.at .f (.lst (G.map fun l => .lst (l.map pD)))), x, y, some (.at .f (.lst [])), none, none] := by simp [frzSlot, frzR]
    rw [efz]
    refine w_for (items := (G.map fun l => D.lst (l.map pD)).map fun d => .at .f d) (by simp [seqItems]) ?_
    refine w_loop Z (fun _ => False) ⟨some (.at .f (.lst (G.map fun l => .lst (l.map pD)))), none, by simp⟩ ?_ ?_ (fun _ h => h.elim)
    · rintro i hi _ ⟨r3, x7, rfl⟩
      simp at hi
      have e1 : (G.take (i + 1)).flatten = (G.take i).flatten ++ G[i] := by
        rw [List.take_succ_eq_append_getElem hi, List.flatten_append]; simp
      have e2 : (G.take (i + 1)).flatten.length ≤ G.flatten.length := by
        conv => rhs; rw [← List.take_append_drop (i + 1) G, List.flatten_append, List.length_append]
        omega
      rw [e1, List.length_append] at e2
      have e3 : ((G.take i).flatten).length + G[i].length ≤ 100000 := by omega
      rw [List.length_flatten] at e3
      simp [addR, mkL]
      have e4 : (List.length ∘ List.map pD) = (List.length : List Pr → Nat) := funext fun l => List.length_map _
      exact ⟨by rw [e4]; simpa using e3, r3, some (.at .f (.lst (G[i].map pD))), by rw [e1]; simp⟩
    · rintro ρ hJ
      exact ⟨ρ, rfl, by simpa using hJ⟩
  · rintro _ ⟨r3, x7, rfl⟩
    simp
    refine ⟨G.flatten, by simp, hcnt, fun x hx => ?_⟩
    obtain ⟨l, hl, hxl⟩ := List.mem_flatten.mp hx
    exact g3 l hl x hxl
end Lw

set_option Elab.async false
set_option linter.all false
set_option maxRecDepth 100000
namespace Lw
open PySem PySem.Spec PyProof.Rows L2 Fx
theorem Rin_of {ws : List Int} {rs : List Road} {n : Nat} (hw : Wd ws) (hn : (n : Int) = fst ws ws.length) (hl : rs.length ≤ 55) (h : ∀ x ∈ rs, RdOk ws x) : Rin n rs := by
  refine ⟨hl, fun x hx => ?_⟩
  obtain ⟨r, h1, h2, h3, h4, h5⟩ := h x hx
  have a1 := fst_le hw.pos (i := r) (by omega)
  have a2 := fst_mono hw.pos (i := r + 2) (j := ws.length) (by omega) (by omega)
  have a3 := fst_mono hw.pos (i := r + 1) (j := r + 2) (by omega) (by omega)
  have a4 := fst_mono hw.pos (i := r) (j := r + 1) (by omega) (by omega)
  omega
/-- a world -/
structure Wld where
  ws : List Int
  n : Nat
  rs : List Road
  es : List (List Int)
  ks : List (List Key)
  xs : List D
  T : List (List (Option Int))
  ps : List Pr
structure WldOk (w : Wld) : Prop where
  wd : Wd w.ws
  hn : (w.n : Int) = fst w.ws w.ws.length
  rd : ∀ x ∈ w.rs, RdOk w.ws x
  rin : Rin w.n w.rs
  esl : ∀ l ∈ w.es, l.length ≤ 55
  es : EndsOk w.n w.rs w.es
  T : LeastOk w.n w.rs w.T
  psl : w.ps.length ≤ 10000
  ps : ∀ x ∈ w.ps, PrOk w.T x
def Wld.d (w : Wld) : D := .tup [.lst (iL w.ws), .lst (w.rs.map roadD), .lst (w.es.map fun l => .lst (iL l)), .dct w.ks w.xs, .lst (w.T.map fun l => .lst (l.map oD)), .lst (w.ps.map pD)]
theorem sum_fst : ∀ ws : List Int, ws.sum = fst ws ws.length
  | [] => rfl
  | w :: ws => by rw [List.sum_cons, sum_fst ws]; rfl
theorem world_of_ok (ws : List Int) (rs : List Road) (hw : Wd ws) (hl : rs.length ≤ 55) (h : ∀ x ∈ rs, RdOk ws x) : W (d_l_world_of [.lst (iL ws), .lst (rs.map roadD)]) fun r => ∃ w : Wld, WldOk w ∧ w.ws = ws ∧ r = .at .f w.d := by
  have hb := fst_le hw.pos (Nat.le_refl _)
  have hw2 := hw.le
  obtain ⟨n, hn⟩ : ∃ n : Nat, (n : Int) = fst ws ws.length := ⟨(fst ws ws.length).toNat, by omega⟩
  have hR := Rin_of hw hn hl h
  have hn1 : n ≤ 1000 := by omega
  obtain ⟨_, e1, T, rfl, k1⟩ := least_ok n rs hn1 hR
  obtain ⟨_, e2, es, rfl, k6, k2⟩ := ends_ok n rs hn1 hR
  obtain ⟨_, e3, ks, xs, rfl⟩ := costs_ok n rs hR
  obtain ⟨_, e4, ps, rfl, k5, k4⟩ := pairs_ok ws n rs T hw hn k1
  have es_ : sumR [.at .f (.lst (iL ws))] = some (.at .f (.int n)) := by
    unfold sumR intsOf iL
    simp only [at_d, Fx.ints_map, Option.map_some, sum_fst, hn]
  unfold d_l_world_of phi_l_world_of
  simp [ro0, ro1, es_, fits, isF, e1, e2, e3, e4, tupR, supAll]
  exact ⟨⟨ws, n, rs, es, ks, xs, T, ps⟩, ⟨hw, hn, h, hR, k6, k2, k1, k5, k4⟩, rfl, rfl⟩
theorem world_ok (cell : Int) (small : Bool) : W (d_l_world [.int cell, .bl small]) fun r => ∃ w : Wld, WldOk w ∧ r = .at .f w.d := by
  obtain ⟨_, e1, ns, rfl, h1, h2⟩ := draws_ok cell 70 (by decide)
  obtain ⟨_, e2, ws, rfl, h3⟩ := widths_ok ns small h1 h2
  obtain ⟨_, e3, rs, rfl, h4, h5⟩ := roads_ok ws ns h3 h1 h2
  obtain ⟨_, e4, w, h6, h7, rfl⟩ := world_of_ok ws rs h3 h5 h4
  have e1 : d_l_draws [.int cell, .int 70] = some (.own (iL ns)) := e1
  unfold d_l_world phi_l_world
  simp [ro0, ro1, fits, isF, e1, e2, e3, e4]
  exact ⟨w, h6, rfl⟩
end Lw

set_option Elab.async false
set_option linter.all false
set_option maxRecDepth 100000
namespace Lw
open PySem PySem.Spec PyProof.Rows L2 Fx
/-- a route along roads from start -/
structure WayOk (w : Wld) (start : Int) (route : List Int) : Prop where
  pos : 0 < route.length
  head : route[0]? = some start
  in_ : ∀ p ∈ route, 0 ≤ p ∧ p < w.n
  step : ∀ (i : Nat) (a b : Int), route[i]? = some a → route[i + 1]? = some b → ∃ x ∈ w.rs, x.s = a ∧ x.e = b
theorem WayOk.one {w : Wld} {start : Int} (h : 0 ≤ start ∧ start < w.n) : WayOk w start [start] :=
  ⟨by simp, rfl, fun p hp => by rw [List.mem_singleton] at hp; subst hp; exact h, fun i a b h1 h2 => by simp at h2⟩
theorem WayOk.last {w : Wld} {start : Int} {route : List Int} (h : WayOk w start route) : ∃ (p : Nat), route[route.length - 1]? = some (p : Int) ∧ p < w.n ∧ atI (iL route) (-1) = some (.int p) := by
  have hl := h.pos
  have e := List.getElem?_eq_getElem (l := route) (i := route.length - 1) (by omega)
  have hi := h.in_ _ (List.getElem_mem (show route.length - 1 < route.length by omega))
  obtain ⟨p, hp⟩ : ∃ p : Nat, route[route.length - 1] = p := ⟨(route[route.length - 1]).toNat, by omega⟩
  rw [hp] at e hi
  refine ⟨p, e, by omega, ?_⟩
  unfold atI ixN
  rw [iL_len, if_neg (by decide), if_pos (by omega)]
  have : (-1 + (route.length : Int)).toNat = route.length - 1 := by omega
  rw [this, Option.bind_some, iL_get?, e]
  rfl
theorem WayOk.snoc {w : Wld} {start : Int} {route : List Int} {p q : Int} (h : WayOk w start route) (hp : route[route.length - 1]? = some p) (x : Road) (hx : x ∈ w.rs) (hs : x.s = p) (he : x.e = q) (hq : 0 ≤ q ∧ q < w.n) : WayOk w start (route ++ [q]) := by
  have hl := h.pos
  refine ⟨by simp, by rw [List.getElem?_append_left hl]; exact h.head, fun r hr => ?_, fun i a b h1 h2 => ?_⟩
  · rcases List.mem_append.mp hr with hr | hr
    · exact h.in_ r hr
    · rw [List.mem_singleton] at hr; subst hr; exact hq
  · by_cases hi : i + 1 < route.length
    · rw [List.getElem?_append_left (by omega)] at h1
      rw [List.getElem?_append_left hi] at h2
      exact h.step i a b h1 h2
    · have hle : i + 1 < (route ++ [q]).length := (List.getElem?_eq_some_iff.mp h2).1
      rw [List.length_append] at hle
      simp at hle
      have e : i = route.length - 1 := by omega
      subst e
      rw [List.getElem?_append_left (by omega), hp] at h1
      cases h1
      rw [List.getElem?_append_right (by omega)] at h2
      have : route.length - 1 + 1 - route.length = 0 := by omega
      rw [this] at h2
      cases h2
      exact ⟨x, hx, hs, he⟩
theorem w2_at {w : Wld} (hw : WldOk w) (p : Nat) (hp : p < w.n) : ∃ (h : p < w.es.length), atI (w.es.map fun l => D.lst (iL l)) (p : Int) = some (.lst (iL w.es[p])) := by
  have h : p < w.es.length := by rw [hw.es.len]; exact hp
  exact ⟨h, by rw [atI_nat rfl (by rw [List.length_map]; exact h), List.getElem?_map, List.getElem?_eq_getElem h]; rfl⟩
theorem walk_ok (w : Wld) (hw : WldOk w) (steps : List Int) (start : Int) (hl : 11 ≤ steps.length) (hs : 0 ≤ start ∧ start < w.n) : W (d_l_walk [w.d, .lst (iL steps), .int 0, .int start]) fun r => ∃ route, r = .at .f (.tup (iL route)) ∧ WayOk w start route := by
  unfold d_l_walk phi_l_walk
  rw [e_run, W_bind]
  refine w_seq (fun ρ => ρ = [some (.at .f w.d), some (.at .f (.lst (iL steps))), some (.at .f (.int 0)), some (.at .f (.int start)), some (.at .f (.tup (iL [start]))), none, none]) (by simp [ro0, ro1, tupR, supAll, Wld.d]) ?_
  rintro _ rfl
  let J : Nat → Ro → Prop := fun i ρ => ∃ (route : List Int) (x y : Option Res), ρ = [some (.at .f w.d), some (.at .f (.lst (iL steps))), some (.at .f (.int 0)), some (.at .f (.int start)), some (.at .f (.tup (iL route))), x, y] ∧ WayOk w start route ∧ route.length ≤ i + 1
  rw [e_seq, W_bind]
  refine w_for (items := rngItems 0 11) (by simp [rng1R]) ?_
  refine w_loop J (fun r => ∃ route, r = .at .f (.tup (iL route)) ∧ WayOk w start route) ⟨[start], none, none, rfl, .one hs, by simp⟩ ?_ ?_ ?_
  · rintro i hi _ ⟨route, x, y, rfl, k, k2⟩
    rw [rng_len] at hi
    obtain ⟨p, h1, h2, h3⟩ := k.last
    obtain ⟨h4, h5⟩ := w2_at hw p h2
    have a0 : ∀ (a b c d e f : D), atI [a, b, c, d, e, f] 2 = some c := fun _ _ _ _ _ _ => rfl
    have hsl : i < steps.length := by omega
    obtain ⟨v, ev⟩ : ∃ v, steps[i] = v := ⟨_, rfl⟩
    have a1 : atI (iL steps) i = some (.int v) := by
      rw [atI_nat rfl (by rw [iL_len]; exact hsl), iL_get?, List.getElem?_eq_getElem hsl, ev]; rfl
    simp [Wld.d, ixR, a0, a1, h3, h5, lenR, negR, W_ite, tupR, supAll, addR]
    refine ⟨fun _ => ⟨route, rfl, k⟩, fun hne => ⟨fun _ => ⟨route, rfl, k⟩, fun _ => ?_⟩⟩
    have hp0 : 0 < w.es[p].length := List.length_pos_iff.mpr hne
    refine ⟨hp0, w_atI (Int.emod_nonneg _ (by omega)) (by rw [iL_len]; exact Int.emod_lt_of_pos _ (by omega)) fun m hm _ => ?_⟩
    have hm' : m < w.es[p].length := by rwa [iL_len] at hm
    obtain ⟨x, hx, hs1, he1⟩ := (hw.es.at_ p h4 (w.es[p][m])).mp (List.getElem_mem hm')
    have hr := hw.rin.2 x hx
    refine ⟨by omega, route ++ [w.es[p][m]], some (.at .f (.int i)), some (.at .f (.lst (iL w.es[p]))), ?_, k.snoc h1 x hx hs1 he1 (by omega), by simp; omega⟩
    rw [iL_get hm, iL_app]
    rfl
  · rintro ρ ⟨route, x, y, rfl, k, k2⟩
    simp
    exact ⟨route, rfl, k⟩
  · rintro r ⟨route, rfl, k⟩
    simp
    exact ⟨route, rfl, k⟩

/-- the ends of p from which the goal g is reached -/
def reach (w : Wld) (p g : Nat) : List Int := (w.es.getD p []).filter fun e => match (w.T.getD e.toNat []).getD g none with
  | some _ => true
  | none => false
/-- a comprehension with a test -/
theorem w_lcf {γ : Res → Ro → Option Ro} {α : Ro → Option Bool} {φ : Ro → Option Res} {ρ : Ro} {f : Int → Bool} : ∀ {ns : List Int}, (∀ n ∈ ns, ∃ ρ1, γ (.at .f (.int n)) ρ = some ρ1 ∧ α ρ1 = some (f n) ∧ φ ρ1 = some (.at .f (.int n))) → lcD γ α φ ρ (ns.map fun n => .at .f (.int n)) = some (iL (ns.filter f))
  | [], _ => rfl
  | n :: ns, h => by
    obtain ⟨ρ1, h1, h2, h3⟩ := h n List.mem_cons_self
    have ih := w_lcf (ns := ns) (fun m hm => h m (List.mem_cons_of_mem _ hm))
    rw [List.map_cons]
    unfold lcD
    rw [h1, Option.bind_some, h2, Option.bind_some, ih]
    cases hf : f n with
    | true => rw [if_pos rfl, h3, List.filter_cons_of_pos hf]; rfl
    | false => rw [if_neg (by decide), List.filter_cons_of_neg (by rw [hf]; decide)]
theorem T_at {w : Wld} (hw : WldOk w) (q g : Nat) (hq : q < w.n) (hg : g < w.n) : ∃ (h1 : q < w.T.length) (h2 : g < w.T[q].length), atI (w.T.map fun l => D.lst (l.map oD)) (q : Int) = some (.lst (w.T[q].map oD)) ∧ atI (w.T[q].map oD) (g : Int) = some (oD w.T[q][g]) ∧ (w.T.getD q []).getD g none = w.T[q][g] := by
  have h1 : q < w.T.length := by rw [hw.T.len]; exact hq
  have h2 : g < w.T[q].length := by rw [hw.T.row _ (List.getElem_mem h1)]; exact hg
  refine ⟨h1, h2, by rw [atI_nat rfl (by rw [List.length_map]; exact h1), List.getElem?_map, List.getElem?_eq_getElem h1]; rfl, atI_row rfl h2, ?_⟩
  rw [List.getD_eq_getElem?_getD, List.getD_eq_getElem?_getD, List.getElem?_eq_getElem h1, Option.getD_some, List.getElem?_eq_getElem h2, Option.getD_some]
end Lw

set_option Elab.async false
set_option linter.all false
set_option maxRecDepth 100000
namespace Lw
open PySem PySem.Spec PyProof.Rows L2 Fx
def isS : Option Int → Bool
  | some _ => true
  | none => false
theorem notN_o {l m : Lv} (o : Option Int) : notNR (Res.mk l (oD o)) (.at m .non) = some (.at .f (.bl (isS o))) := by cases o <;> rfl
theorem reach_def (w : Wld) (p : Nat) (g : Nat) (h : p < w.es.length) : reach w p g = w.es[p].filter fun e => isS ((w.T.getD e.toNat []).getD g none) := by
  unfold reach
  rw [List.getD_eq_getElem?_getD, List.getElem?_eq_getElem h, Option.getD_some]
  congr 1
theorem es_in {w : Wld} (hw : WldOk w) {p : Nat} (h : p < w.es.length) {e : Int} (he : e ∈ w.es[p]) : ∃ x ∈ w.rs, x.s = p ∧ x.e = e ∧ 0 ≤ e ∧ e < w.n := by
  obtain ⟨x, hx, h1, h2⟩ := (hw.es.at_ p h e).mp he
  have := hw.rin.2 x hx
  exact ⟨x, hx, h1, h2, by omega, by omega⟩
/-- a goal that is reached from p stays in reach -/
theorem reach_ne {w : Wld} (hw : WldOk w) {p g : Nat} (hp : p < w.n) (hg : g < w.n) (hpg : p ≠ g) (h : (w.T.getD p []).getD g none ≠ none) : reach w p g ≠ [] := by
  obtain ⟨h1, h2, _, _, h3⟩ := T_at hw p g hp hg
  rw [h3] at h
  have hpl : p < w.es.length := by rw [hw.es.len]; exact hp
  rcases hw.T.nx p g h1 h2 h with e | ⟨x, hx, hs, q, hq, hgq, he, hne⟩
  · exact absurd e hpg
  · rw [reach_def w p g hpl]
    have hm : (q : Int) ∈ w.es[p] := (hw.es.at_ p hpl q).mpr ⟨x, hx, hs, he⟩
    have hqn : q < w.n := by rw [hw.T.len] at hq; exact hq
    obtain ⟨k1, k2, _, _, k3⟩ := T_at hw q g hqn hg
    refine List.ne_nil_of_mem (List.mem_filter.mpr ⟨hm, ?_⟩)
    rw [Int.toNat_natCast, k3]
    cases hc : w.T[q][g] with
    | none => exact absurd hc hne
    | some _ => rfl
theorem reach_mem {w : Wld} (hw : WldOk w) {p g : Nat} (hp : p < w.n) {e : Int} (he : e ∈ reach w p g) : ∃ (q : Nat), e = q ∧ q < w.n ∧ (∃ x ∈ w.rs, x.s = p ∧ x.e = e) ∧ (w.T.getD q []).getD g none ≠ none := by
  have hpl : p < w.es.length := by rw [hw.es.len]; exact hp
  rw [reach_def w p g hpl] at he
  obtain ⟨h1, h2⟩ := List.mem_filter.mp he
  obtain ⟨x, hx, k1, k2, k3, k4⟩ := es_in hw hpl h1
  refine ⟨e.toNat, by omega, by omega, ⟨x, hx, k1, k2⟩, fun z => ?_⟩
  rw [z] at h2
  cases h2
theorem forked_ok (w : Wld) (hw : WldOk w) : W (d_l_forked [w.d]) fun r => ∃ fs : List Pr, r = .own (fs.map pD) ∧ fs.length ≤ 10000 ∧ ∀ x ∈ fs, x ∈ w.ps := by
  unfold d_l_forked phi_l_forked
  rw [e_run, W_bind]
  refine w_seq (fun ρ => ρ = [some (.at .f w.d), some (.own []), none, none, none]) (by simp [ro0, ro1, lstR, mkL, supAll, Wld.d]) ?_
  rintro _ rfl
  let J : Nat → Ro → Prop := fun i ρ => ∃ (fs : List Pr) (x y : Option Res), ρ = [some (.at .f w.d), some (.own (fs.map pD)), x, y, none] ∧ fs.length ≤ i ∧ ∀ x ∈ fs, x ∈ w.ps
  have a5 : ∀ (a b c d e f : D), atI [a, b, c, d, e, f] 5 = some f := fun _ _ _ _ _ _ => rfl
  have a2 : ∀ (a b c d e f : D), atI [a, b, c, d, e, f] 2 = some c := fun _ _ _ _ _ _ => rfl
  have a4 : ∀ (a b c d e f : D), atI [a, b, c, d, e, f] 4 = some e := fun _ _ _ _ _ _ => rfl
  have hl := hw.psl
  refine w_seq (J w.ps.length) ?_ ?_
  · refine w_for (items := (w.ps.map pD).map fun d => .at .f d) (by simp [ixR, Wld.d, a5, seqItems]) ?_
    refine w_loop J (fun _ => False) ⟨[], none, none, rfl, by simp, by simp⟩ ?_ ?_ (fun _ h => h.elim)
    · rintro i hi _ ⟨fs, x, y, rfl, k1, k2⟩
      simp only [List.length_map] at hi
      obtain ⟨q, eq⟩ : ∃ q, w.ps[i] = q := ⟨_, rfl⟩
      have hqm : q ∈ w.ps := by rw [← eq]; exact List.getElem_mem hi
      obtain ⟨h1, h2, h3⟩ := hw.ps q hqm
      have hqs : q.s < w.n := by rw [hw.T.len] at h1; exact h1
      have hqg : q.g < w.n := by rw [hw.T.row _ (List.getElem_mem h1)] at h2; exact h2
      obtain ⟨h4, h5⟩ := w2_at hw q.s hqs
      have b0 : atI [D.int q.s, D.int q.g] 0 = some (.int q.s) := rfl
      have b1 : atI [D.int q.s, D.int q.g] 1 = some (.int q.g) := rfl
      have lc : lcD (gaN 4) (fTst (f2 notNR (f2 ixR (f2 ixR (f2 ixR (fVar 0) (fC (.int 4))) (fVar 4)) (f2 ixR (fVar 2) (fC (.int 1)))) (fC .non))) (fVar 4) [some (.at .f w.d), some (.own (fs.map pD)), some (.at .f (pD q)), y, none] (w.es[q.s].map fun n => .at .f (.int n)) = some (iL (reach w q.s q.g)) := by
        rw [reach_def w q.s q.g h4]
        refine w_lcf fun e he => ?_
        obtain ⟨x, hx, _, _, k3, k4⟩ := es_in hw h4 he
        obtain ⟨c1, c2, c3, c4, c5⟩ := T_at hw e.toNat q.g (by omega) hqg
        have ee : ((e.toNat : Nat) : Int) = e := by omega
        rw [ee] at c3
        refine ⟨_, rfl, ?_, ?_⟩
        · rw [c5]
          simp [ixR, Wld.d, a4, pD, b1, c3, c4]
          cases w.T[e.toNat][q.g] <;> simp [oD, notNR, D.isNon, isS]
        · simp
      have ei : ((w.ps.map pD).map fun d => Res.at .f d)[i]'(by simpa using hi) = .at .f (pD q) := by simp [eq]
      have es : seqItems (.at .f (.lst (iL w.es[q.s]))) = some (w.es[q.s].map fun n => .at .f (.int n)) := by simp [seqItems, iL]
      have el : (w.es[q.s].map fun n => Res.at .f (.int n)).length ≤ 100000 := by
        rw [List.length_map]
        have := hw.esl _ (List.getElem_mem h4)
        omega
      simp only [List.length_map] at el
      simp [Wld.d, pD] at lc
      simp [eq, ixR, Wld.d, a2, h5, es, b0, wipeR, pD, el, lc, lenR, W_ite]
      refine ⟨fun _ => ⟨by omega, fs ++ [q], some (.at .f (pD q)), some (.at .f (.lst (iL (reach w q.s q.g)))), by rw [List.map_append]; rfl, by simp; omega, fun x hx => ?_⟩, fun _ => ⟨fs, some (.at .f (pD q)), some (.at .f (.lst (iL (reach w q.s q.g)))), rfl, by omega, k2⟩⟩
      rcases List.mem_append.mp hx with hx | hx
      · exact k2 x hx
      · rw [List.mem_singleton] at hx; subst hx; exact hqm
    · rintro ρ hJ
      exact ⟨ρ, rfl, by simpa using hJ⟩
  · rintro _ ⟨fs, x, y, rfl, k1, k2⟩
    simp
    exact ⟨fs, rfl, by omega, k2⟩

theorem led_ok (w : Wld) (hw : WldOk w) (steps : List Int) (q : Pr) (hl : 11 ≤ steps.length) (hq : q ∈ w.ps) : W (d_l_led [w.d, .lst (iL steps), .int q.s, .int q.g]) fun r => ∃ route, r = .at .f (.tup (iL route)) ∧ WayOk w q.s route := by
  obtain ⟨h1, h2, h3⟩ := hw.ps q hq
  have hqs : q.s < w.n := by rw [hw.T.len] at h1; exact h1
  have hqg : q.g < w.n := by rw [hw.T.row _ (List.getElem_mem h1)] at h2; exact h2
  have a2 : ∀ (a b c d e f : D), atI [a, b, c, d, e, f] 2 = some c := fun _ _ _ _ _ _ => rfl
  have a4 : ∀ (a b c d e f : D), atI [a, b, c, d, e, f] 4 = some e := fun _ _ _ _ _ _ => rfl
  unfold d_l_led phi_l_led
  rw [e_run, W_bind]
  refine w_seq (fun ρ => ρ = [some (.at .f w.d), some (.at .f (.lst (iL steps))), some (.at .f (.int q.s)), some (.at .f (.int q.g)), some (.at .f (.tup (iL [(q.s : Int)]))), none, none, none]) (by simp [ro0, ro1, tupR, supAll, Wld.d]) ?_
  rintro _ rfl
  let J : Nat → Ro → Prop := fun i ρ => ∃ (route : List Int) (x y : Option Res), ρ = [some (.at .f w.d), some (.at .f (.lst (iL steps))), some (.at .f (.int q.s)), some (.at .f (.int q.g)), some (.at .f (.tup (iL route))), x, y, none] ∧ WayOk w q.s route ∧ route.length ≤ i + 1 ∧
    ∀ p : Nat, route[route.length - 1]? = some (p : Int) → (w.T.getD p []).getD q.g none ≠ none
  refine w_seq (J 11) ?_ ?_
  · refine w_for (items := rngItems 0 11) (by simp [rng1R]) ?_
    refine w_loop J (fun _ => False) ⟨[(q.s : Int)], none, none, rfl, .one (by omega), by simp, fun p hp => ?_⟩ ?_ ?_ (fun _ h => h.elim)
    · obtain ⟨_, _, _, _, c5⟩ := T_at hw q.s q.g hqs hqg
      have : p = q.s := by
        simp at hp
        omega
      rw [this, c5]
      exact h3
    · rintro i hi _ ⟨route, x, y, rfl, k, k2, k3⟩
      rw [rng_len] at hi
      obtain ⟨p, e1, e2, e3⟩ := k.last
      obtain ⟨h4, h5⟩ := w2_at hw p e2
      have hreach := k3 p e1
      have hsl : i < steps.length := by omega
      obtain ⟨v, ev⟩ : ∃ v, steps[i] = v := ⟨_, rfl⟩
      have a1 : atI (iL steps) i = some (.int v) := by
        rw [atI_nat rfl (by rw [iL_len]; exact hsl), iL_get?, List.getElem?_eq_getElem hsl, ev]; rfl
      have lc : lcD (gaN 7) (fTst (f2 notNR (f2 ixR (f2 ixR (f2 ixR (fVar 0) (fC (.int 4))) (fVar 7)) (fVar 3)) (fC .non))) (fVar 7) [some (.at .f w.d), some (.at .f (.lst (iL steps))), some (.at .f (.int q.s)), some (.at .f (.int q.g)), some (.at .f (.tup (iL route))), some (.at .f (.int i)), y, none] (w.es[p].map fun n => .at .f (.int n)) = some (iL (reach w p q.g)) := by
        rw [reach_def w p q.g h4]
        refine w_lcf fun e he => ?_
        obtain ⟨x, hx, _, _, m3, m4⟩ := es_in hw h4 he
        obtain ⟨c1, c2, c3, c4, c5⟩ := T_at hw e.toNat q.g (by omega) hqg
        have ee : ((e.toNat : Nat) : Int) = e := by omega
        rw [ee] at c3
        refine ⟨_, rfl, ?_, ?_⟩
        · rw [c5]
          simp [ixR, Wld.d, a4, c3, c4]
          cases w.T[e.toNat][q.g] <;> simp [oD, notNR, D.isNon, isS]
        · simp
      have es : seqItems (.at .f (.lst (iL w.es[p]))) = some (w.es[p].map fun n => .at .f (.int n)) := by simp [seqItems, iL]
      have el : w.es[p].length ≤ 100000 := by
        have := hw.esl _ (List.getElem_mem h4)
        omega
      simp [Wld.d] at lc
      simp [Wld.d, ixR, a2, a1, e3, h5, es, wipeR, el, lc, lenR, negR, W_ite, tupR, supAll, addR]
      refine ⟨fun hne => ?_, fun _ => ⟨route, some (.at .f (.int i)), y, rfl, k, by omega, k3⟩⟩
      have hr := reach_ne hw e2 hqg (by omega) hreach
      have hr0 : 0 < (reach w p q.g).length := List.length_pos_iff.mpr hr
      refine ⟨hr0, w_atI (Int.emod_nonneg _ (by omega)) (by rw [iL_len]; exact Int.emod_lt_of_pos _ (by omega)) fun m hm _ => ?_⟩
      have hm' : m < (reach w p q.g).length := by rwa [iL_len] at hm
      obtain ⟨e, z1, z2, ⟨x', hx, z3, z4⟩, z5⟩ := reach_mem hw e2 (List.getElem_mem hm')
      refine ⟨by omega, route ++ [(reach w p q.g)[m]], some (.at .f (.int i)), some (.at .f (.lst (iL (reach w p q.g)))), by rw [iL_get hm, iL_app]; rfl, k.snoc e1 x' hx z3 z4 (by omega), by simp; omega, fun p' hp' => ?_⟩
      rw [List.length_append, List.getElem?_append_right (by simp)] at hp'
      simp at hp'
      have : p' = e := by omega
      rw [this]
      exact z5
    · rintro ρ hJ
      rw [rng_len] at hJ
      exact ⟨ρ, rfl, hJ⟩
  · rintro _ ⟨route, x, y, rfl, k, k2, k3⟩
    simp
    exact ⟨route, rfl, k⟩
end Lw

set_option Elab.async false
set_option linter.all false
set_option maxRecDepth 100000
namespace Lw
open PySem PySem.Spec PyProof.Rows L2 Fx
/-- a list (false) or a tuple (true) of ints -/
def sD (t : Bool) (a : List Int) : D := if t then .tup (iL a) else .lst (iL a)
@[simp] theorem sD_t {a : List Int} : sD true a = .tup (iL a) := rfl
@[simp] theorem sD_f {a : List Int} : sD false a = .lst (iL a) := rfl
def nr : List Int → List Int → Bool
  | a :: as, b :: bs => decide (a ≤ b) && nr as bs
  | _, _ => true
theorem nr_iff : ∀ {a b : List Int}, nr a b = true ↔ ∀ (i : Nat) (x y : Int), a[i]? = some x → b[i]? = some y → x ≤ y
  | [], _ => ⟨fun _ i x y h => by simp at h, fun _ => rfl⟩
  | _ :: _, [] => ⟨fun _ i x y _ h => by simp at h, fun _ => rfl⟩
  | a :: as, b :: bs => by
    unfold nr
    rw [Bool.and_eq_true, nr_iff (a := as) (b := bs), decide_eq_true_iff]
    constructor
    · rintro ⟨h1, h2⟩ i x y hx hy
      cases i with
      | zero => simp at hx hy; omega
      | succ i => exact h2 i x y (by simpa using hx) (by simpa using hy)
    · intro h
      exact ⟨h 0 a b rfl rfl, fun i x y hx hy => h (i + 1) x y (by simpa using hx) (by simpa using hy)⟩
theorem nr_lc (x0 x1 : Option Res) : ∀ (a b : List Int), lcD (gaT 2 (gaC (gaN 2) (gaC (gaN 3) ga0))) fYes (f2 (cmpR leP) (fVar 2) (fVar 3)) [x0, x1, none, none] (zipItems .f (iL a) (iL b)) = some (((a.zip b).map fun p => decide (p.1 ≤ p.2)).map D.bl)
  | [], _ => rfl
  | _ :: _, [] => rfl
  | a :: as, b :: bs => by
    have ih := nr_lc x0 x1 as bs
    show lcD _ _ _ _ (Res.at .f (.ktp [.int a, .int b]) :: zipItems .f (iL as) (iL bs)) = _
    unfold lcD
    rw [ih]
    simp [gaT, gaC]
theorem nr_all : ∀ (a b : List Int), ((a.zip b).map fun p => decide (p.1 ≤ p.2)).all id = nr a b
  | [], _ => rfl
  | _ :: _, [] => rfl
  | a :: as, b :: bs => by
    rw [List.zip_cons_cons, List.map_cons, List.all_cons, nr_all as bs]
    rfl
theorem walk_sD (t : Bool) (a : List Int) : walkD (sD t a) = some (t, iL a) := by cases t <;> rfl
theorem mk_sD (l : Lv) (t : Bool) (a : List Int) : Res.mk l (sD t a) = .at l (sD t a) := by cases t <;> rfl
theorem nowhere_ok (t u : Bool) (a b : List Int) (hl : a.length ≤ 1000) : d_nowhere_right [sD t a, sD u b] = some (.at .f (.bl (nr a b))) := by
  unfold d_nowhere_right phi_nowhere_right
  have e := nr_lc (some (.at .f (sD t a))) (some (.at .f (sD u b))) a b
  have hz : (zipItems .f (iL a) (iL b)).length ≤ 100000 := by rw [zip_len, iL_len]; omega
  have hs : allR [.own (((a.zip b).map fun p => decide (p.1 ≤ p.2)).map D.bl)] = some (.at .f (.bl (nr a b))) := by
    unfold allR blsOf
    simp only [own_d, bls_map, Option.map_some]
    rw [← nr_all]
  rw [List.map_map] at e hs
  simp [ro0, ro1, mk_sD, zipR, walk_sD, isH, wipeR, hz, e, hs]
end Lw

set_option Elab.async false
set_option linter.all false
set_option maxRecDepth 100000
namespace Lw
open PySem PySem.Spec PyProof.Rows L2 Fx
theorem cut_drop (xs : List D) (k : Nat) : cut xs (some (k : Int)) none = xs.drop k := by
  unfold cut
  rw [HT.sIx_nat, HT.sIx_none]
  rw [List.take_of_length_le (by rw [List.length_drop]; omega)]
  by_cases h : k ≤ xs.length
  · rw [Nat.min_eq_left h]
  · rw [Nat.min_eq_right (by omega), List.drop_of_length_le (Nat.le_refl _), List.drop_of_length_le (by omega)]
theorem cut_take (xs : List D) (k : Nat) : cut xs none (some (k : Int)) = xs.take k := by
  unfold cut
  rw [HT.sIx_nat, HT.sIx_none, List.drop_zero, Nat.sub_zero]
  by_cases h : k ≤ xs.length
  · rw [Nat.min_eq_left h]
  · rw [Nat.min_eq_right (by omega), List.take_of_length_le (Nat.le_refl _), List.take_of_length_le (by omega)]
theorem iL_drop (a : List Int) (k : Nat) : (iL a).drop k = iL (a.drop k) := List.map_drop.symm
theorem iL_take (a : List Int) (k : Nat) : (iL a).take k = iL (a.take k) := List.map_take.symm
theorem sl_tup {a : List Int} {i : Int} {k : Nat} (e : i = k) : slR (some i) none (.at .f (.tup (iL a))) = some (.at .f (.tup (iL (a.drop k)))) := by
  subst e
  show some (Res.at .f (.tup (cut (iL a) _ _))) = _
  rw [cut_drop, iL_drop]
theorem sl_lst {a : List Int} {i : Int} {k : Nat} (e : i = k) : slR (some i) none (.at .f (.lst (iL a))) = some (.own (iL (a.drop k))) := by
  subst e
  show some (mkL .f (cut (iL a) _ _)) = _
  rw [cut_drop, iL_drop]
  rfl
theorem in_tup {p : Int} {xs : List Int} {l m : Lv} : Fx.inR (.at l (.int p)) (.at m (.tup (iL xs))) = some (.at .f (.bl (decide (p ∈ xs)))) := by
  unfold Fx.inR inB
  show (((ints? (iL xs)).map fun ns => decide (p ∈ ns)).map _) = _
  rw [show ints? (iL xs) = some xs from Fx.ints_map xs]
  rfl
theorem seq_tup {xs : List Int} : seqItems (.at .f (.tup (iL xs))) = some (xs.map fun n => .at .f (.int n)) := by simp [seqItems, iL]
theorem seq_lst {xs : List Int} : seqItems (.at .f (.lst (iL xs))) = some (xs.map fun n => .at .f (.int n)) := by simp [seqItems, iL]
/-- they do not part and meet again -/
def noc (a b : List Int) : Prop := ∀ (k j : Nat) (x x' y' : Int), a[k]? = some x → b[j]? = some x → a[k + 1]? = some x' → b[j + 1]? = some y' → x' ≠ y' → ∀ p ∈ a.drop (k + 1), p ∉ b.drop (j + 1)
theorem l_conflict_ok (a b : List Int) (ha : a.length ≤ 1000) (hb : b.length ≤ 1000) : W (d_l_conflict [.tup (iL a), .tup (iL b)]) fun r => (r = .at .f .non ∧ noc a b) ∨ ∃ x y : Int, r = .at .f (.tup [.int x, .int y]) ∧ ¬ noc a b := by
  unfold d_l_conflict phi_l_conflict
  rw [e_run, W_bind, e_seq, W_bind]
  let C : Nat → Nat → Prop := fun k j => ∀ (x x' y' : Int), a[k]? = some x → b[j]? = some x → a[k + 1]? = some x' → b[j + 1]? = some y' → x' ≠ y' → ∀ p ∈ a.drop (k + 1), p ∉ b.drop (j + 1)
  let R : Res → Prop := fun r => ∃ x y : Int, r = .at .f (.tup [.int x, .int y]) ∧ ¬ noc a b
  refine w_for (items := rngItems 0 (a.length - 1)) (by
    have e : ((a.length : Int) - 1).toNat = a.length - 1 := by omega
    simp [ro0, ro1, rng1R, lenR, e]
    omega) ?_
  refine w_loop (fun i ρ => ∃ x3 x4 x5 x2, ρ = [some (.at .f (.tup (iL a))), some (.at .f (.tup (iL b))), x2, x3, x4, x5] ∧ ∀ k < i, ∀ j, C k j) R ⟨none, none, none, none, rfl, fun k hk => by omega⟩ ?_ ?_ ?_
  · rintro i hi _ ⟨x3, x4, x5, x2, rfl, hC⟩
    rw [rng_len] at hi
    simp only [rng_get, e_gaN, W_some, List.set_cons_succ, List.set_cons_zero, Int.zero_add]
    refine w_for (items := rngItems 0 (b.length - 1)) (by
      have e : ((b.length : Int) - 1).toNat = b.length - 1 := by omega
      simp [ro0, ro1, rng1R, lenR, e]
      omega) ?_
    refine w_loop (fun j ρ => ∃ x3 x4 x5, ρ = [some (.at .f (.tup (iL a))), some (.at .f (.tup (iL b))), some (.at .f (.int i)), x3, x4, x5] ∧ ∀ j' < j, C i j') R ⟨x3, x4, x5, rfl, fun k hk => by omega⟩ ?_ ?_ (fun r h => h)
    · rintro j hj _ ⟨x3, x4, x5, rfl, hD⟩
      rw [rng_len] at hj
      have hia : i < a.length := by omega
      have hia1 : i + 1 < a.length := by omega
      have hjb : j < b.length := by omega
      have hjb1 : j + 1 < b.length := by omega
      obtain ⟨u, eu⟩ : ∃ u, a[i] = u := ⟨_, rfl⟩
      obtain ⟨u', eu'⟩ : ∃ u, a[i + 1] = u := ⟨_, rfl⟩
      obtain ⟨v, ev⟩ : ∃ u, b[j] = u := ⟨_, rfl⟩
      obtain ⟨v', ev'⟩ : ∃ u, b[j + 1] = u := ⟨_, rfl⟩
      have g1 : a[i]? = some u := by rw [List.getElem?_eq_getElem hia, eu]
      have g2 : a[i + 1]? = some u' := by rw [List.getElem?_eq_getElem hia1, eu']
      have g3 : b[j]? = some v := by rw [List.getElem?_eq_getElem hjb, ev]
      have g4 : b[j + 1]? = some v' := by rw [List.getElem?_eq_getElem hjb1, ev']
      have at_ : ∀ (l : List Int) (i : Int) (m : Nat) (z : Int), i = m → l[m]? = some z → atI (iL l) i = some (.int z) := fun l i m z e h => by
        rw [atI_nat e (by rw [iL_len]; exact (List.getElem?_eq_some_iff.mp h).1), iL_get?, h]; rfl
      have a1 := at_ a i i u rfl g1
      have a2 := at_ a ((i : Int) + 1) (i + 1) u' (by omega) g2
      have a3 := at_ b j j v rfl g3
      have a4 := at_ b ((j : Int) + 1) (j + 1) v' (by omega) g4
      have s1 := sl_tup (a := a) (i := (i : Int) + 1) (k := i + 1) (by omega)
      have s2 := sl_tup (a := b) (i := (j : Int) + 1) (k := j + 1) (by omega)
      have skip : (u = v → u' ≠ v' → ∀ p ∈ a.drop (i + 1), p ∉ b.drop (j + 1)) → (∀ j' < j + 1, C i j') := fun h j' hj' => by
        by_cases e : j' = j
        · subst e
          intro x x' y' q1 q2 q3 q4 q5
          rw [g1] at q1; rw [g3] at q2; rw [g2] at q3; rw [g4] at q4
          cases q1; cases q3; cases q4
          cases q2
          exact h rfl q5
        · exact hD j' (by omega)
      have lc : lcD (gaN 5) (fTst (f2 inR (fVar 5) (fSl (fVar 1) (fSm (f2 addR (fVar 3) (fC (.int 1)))) fNo))) (fVar 5) [some (.at .f (.tup (iL a))), some (.at .f (.tup (iL b))), some (.at .f (.int i)), some (.at .f (.int j)), x4, none] ((a.drop (i + 1)).map fun n => .at .f (.int n)) = some (iL ((a.drop (i + 1)).filter fun p => decide (p ∈ b.drop (j + 1)))) :=
        w_lcf fun p hp => ⟨_, rfl, by simp [s2, in_tup], by simp⟩
      have el : a.length - (i + 1) ≤ 100000 := by omega
      simp [ixR, a1, a2, a3, a4, W_ite, s1, seq_tup, wipeR, lc, el, lenR, -List.map_drop]
      have memF : ∀ p, p ∈ a.drop (i + 1) → p ∈ b.drop (j + 1) → p ∈ (a.drop (i + 1)).filter fun p => decide (p ∈ b.drop (j + 1)) := fun p hp hq => List.mem_filter.mpr ⟨hp, by simpa using hq⟩
      refine ⟨fun huv => ⟨fun hne => ⟨fun p hp hq => ?_, fun hno => skip fun _ _ p hp hq => ?_⟩, fun he => skip fun _ hn => absurd he hn⟩, fun hn => skip fun e => absurd e hn⟩
      · have hpos := List.length_pos_of_mem (memF p hp hq)
        refine w_atI (by omega) (by rw [iL_len]; omega) fun m hm _ => ?_
        rw [iL_get hm]
        simp [tupR, supAll]
        exact ⟨u, _, rfl, fun hnoc => hnoc i j u u' v' g1 (by rw [huv]; exact g3) g2 g4 hne p hp hq⟩
      · have h1 := memF p hp hq
        have h2 : ((a.drop (i + 1)).filter fun p => decide (p ∈ b.drop (j + 1))).length = 0 := by rw [← iL_len, hno]; rfl
        rw [List.length_eq_zero_iff.mp h2] at h1
        cases h1
    · rintro ρ ⟨x3, x4, x5, rfl, hD⟩
      rw [rng_len] at hD
      refine ⟨x3, x4, x5, _, rfl, fun k hk j => ?_⟩
      by_cases e : k = i
      · subst e
        by_cases hj : j < b.length - 1
        · exact hD j hj
        · intro x x' y' q1 q2 q3 q4
          have := (List.getElem?_eq_some_iff.mp q4).1
          omega
      · exact hC k (by omega) j
  · rintro ρ ⟨x3, x4, x5, x2, rfl, hC⟩
    rw [rng_len] at hC
    simp
    intro k j x x' y' q1 q2 q3 q4
    have := (List.getElem?_eq_some_iff.mp q3).1
    exact hC k (by omega) j x x' y' q1 q2 q3 q4
  · rintro r ⟨x, y, rfl, h⟩
    simp
    exact h
end Lw

set_option Elab.async false
set_option linter.all false
set_option maxRecDepth 100000
namespace Lw
open PySem PySem.Spec PyProof.Rows L2 Fx
theorem same_bl (x y : Bool) : d_l_same [.bl x, .bl y] = some (.at .f (.bl (x == y))) := by
  cases x <;> cases y <;> rfl
theorem place_ok (t : Bool) (a : List Int) (k : Nat) (x y : Int) (h1 : a[k]? = some x) (h2 : a[k + 1]? = some y) (hn : ∀ m, m < k → a[m]? ≠ some x) : d_place_after [sD t a, .int x] = some (.at .f (.int y)) := by
  have hx : ixOf x a = some k := by
    induction a generalizing k with
    | nil => simp at h1
    | cons z zs ih =>
      unfold ixOf
      cases k with
      | zero => simp at h1; rw [if_pos h1]
      | succ k =>
        have hz : ¬ z = x := fun e => hn 0 (by omega) (by rw [e]; rfl)
        rw [if_neg hz, ih k (by simpa using h1) (by simpa using h2) fun m hm => by simpa using hn (m + 1) (by omega)]
        rfl
  have e1 : idxR (.at .f (sD t a)) (.at .f (.int x)) = some (.at .f (.int (k : Nat))) := by
    unfold idxR idxNs
    cases t
    · simp only [sD_f, at_d, show ints? (iL a) = some a from Fx.ints_map a, Option.map_some, Option.bind_some, e_intOf, hx]
    · simp only [sD_t, at_d, show ints? (iL a) = some a from Fx.ints_map a, Option.map_some, Option.bind_some, e_intOf, hx]
  have e2 : atI (iL a) ((k : Int) + 1) = some (.int y) := by
    rw [atI_nat (n := k + 1) (by omega) (by rw [iL_len]; exact (List.getElem?_eq_some_iff.mp h2).1), iL_get?, h2]; rfl
  unfold d_place_after phi_place_after
  have e3 : ixR (.at .f (sD t a)) (.at .f (.int ((k : Int) + 1))) = some (.at .f (.int y)) := by
    cases t
    · simp [ixR, e2]
    · simp [ixR, e2]
  simp [ro0, ro1, mk_sD, fIdx, e1, e3]
theorem shared_ok (t u : Bool) (a b : List Int) (ha : a.length ≤ 1000) : d_shared_places [sD t a, sD u b] = some (.at .f (.tup (iL (a.filter fun p => decide (p ∈ b))))) := by
  unfold d_shared_places phi_shared_places
  have es : seqItems (.at .f (sD t a)) = some (a.map fun n => .at .f (.int n)) := by cases t <;> simp [seqItems, iL]
  have ei : ∀ p : Int, Fx.inR (.at .f (.int p)) (.at .f (sD u b)) = some (.at .f (.bl (decide (p ∈ b)))) := fun p => by
    cases u
    · unfold Fx.inR inB
      show (((ints? (iL b)).map fun ns => decide (p ∈ ns)).map _) = _
      rw [show ints? (iL b) = some b from Fx.ints_map b]
      rfl
    · exact in_tup
  have lc : lcD (gaN 2) (fTst (f2 Fx.inR (fVar 2) (fVar 1))) (fVar 2) [some (.at .f (sD t a)), some (.at .f (sD u b)), none] (a.map fun n => .at .f (.int n)) = some (iL (a.filter fun p => decide (p ∈ b))) :=
    w_lcf fun p hp => ⟨_, rfl, by simp [mk_sD, ei], by simp⟩
  have el : a.length ≤ 100000 := by omega
  simp [ro0, ro1, mk_sD, es, el, wipeR, lc, tupOfR]
end Lw

set_option Elab.async false
set_option linter.all false
set_option maxRecDepth 100000
namespace Lw
open PySem PySem.Spec PyProof.Rows L2 Fx
abbrev Asc (a : List Int) : Prop := a.Pairwise (· < ·)
theorem Asc.lt {a : List Int} (h : Asc a) {i j : Nat} {x y : Int} (hij : i < j) (hx : a[i]? = some x) (hy : a[j]? = some y) : x < y := by
  obtain ⟨h1, rfl⟩ := List.getElem?_eq_some_iff.mp hx
  obtain ⟨h2, rfl⟩ := List.getElem?_eq_some_iff.mp hy
  exact List.pairwise_iff_getElem.mp h i j h1 h2 hij
theorem Asc.uniq {a : List Int} (h : Asc a) {i j : Nat} {x : Int} (hx : a[i]? = some x) (hy : a[j]? = some x) : i = j := by
  rcases Nat.lt_trichotomy i j with q | q | q
  · have := h.lt q hx hy; omega
  · exact q
  · have := h.lt q hy hx; omega
theorem Asc.next {a : List Int} (h : Asc a) {x y : Int} (hx : x ∈ a) (hy : y ∈ a) (hxy : x < y) : ∃ (k : Nat) (x' : Int), a[k]? = some x ∧ a[k + 1]? = some x' ∧ (∀ m, m < k → a[m]? ≠ some x) ∧ y ∈ a.drop (k + 1) := by
  obtain ⟨k, hk⟩ := List.mem_iff_getElem?.mp hx
  obtain ⟨m, hm⟩ := List.mem_iff_getElem?.mp hy
  have hkm : k < m := by
    rcases Nat.lt_trichotomy k m with q | q | q
    · exact q
    · subst q; rw [hk] at hm; cases hm; omega
    · have := h.lt q hm hk; omega
  have hml := (List.getElem?_eq_some_iff.mp hm).1
  refine ⟨k, a[k + 1], hk, List.getElem?_eq_getElem (by omega), fun m' hm' e => ?_, ?_⟩
  · have := h.uniq hk e; omega
  · refine List.mem_iff_getElem?.mpr ⟨m - (k + 1), ?_⟩
    rw [List.getElem?_drop, show k + 1 + (m - (k + 1)) = m by omega]
    exact hm
theorem Asc.mem_drop {a : List Int} (h : Asc a) {k : Nat} {x p : Int} (hx : a[k]? = some x) (hp : p ∈ a.drop (k + 1)) : p ∈ a ∧ x < p := by
  obtain ⟨m, hm⟩ := List.mem_iff_getElem?.mp hp
  rw [List.getElem?_drop] at hm
  exact ⟨List.mem_of_getElem? hm, h.lt (by omega) hx hm⟩
theorem zip_items (s : List Int) : zipItems .f (iL s) (iL (s.drop 1)) = (s.zip (s.drop 1)).map fun p => .at .f (.ktp [.int p.1, .int p.2]) := by
  unfold zipItems iL
  rw [List.zip_map, List.map_map]
  rfl
theorem conflict_ok (t u : Bool) (a b : List Int) (hla : a.length ≤ 1000) (ha : Asc a) (hb : Asc b) : W (d_conflict [sD t a, sD u b]) fun r => (r = .at .f .non ∧ noc a b) ∨ ∃ x y : Int, r = .at .f (.tup [.int x, .int y]) ∧ ¬ noc a b := by
  unfold d_conflict phi_conflict
  rw [e_run, W_bind]
  obtain ⟨s, es⟩ : ∃ s, s = a.filter fun p => decide (p ∈ b) := ⟨_, rfl⟩
  have hsh := shared_ok t u a b hla
  rw [← es] at hsh
  have hs : Asc s := by rw [es]; exact ha.filter _
  have hsm : ∀ p, p ∈ s ↔ p ∈ a ∧ p ∈ b := fun p => by rw [es, List.mem_filter]; simp
  refine w_seq (fun ρ => ρ = [some (.at .f (sD t a)), some (.at .f (sD u b)), some (.at .f (.tup (iL s))), none, none]) (by simp [ro0, ro1, mk_sD, fits, isF, hsh]) ?_
  rintro _ rfl
  rw [e_seq, W_bind]
  -- what two shared places in a row tell
  have two : ∀ (i : Nat) (x y : Int), s[i]? = some x → s[i + 1]? = some y → ∃ (k j : Nat) (x' y' : Int), a[k]? = some x ∧ b[j]? = some x ∧ a[k + 1]? = some x' ∧ b[j + 1]? = some y' ∧ y ∈ a.drop (k + 1) ∧ y ∈ b.drop (j + 1) ∧
      d_place_after [sD t a, .int x] = some (.at .f (.int x')) ∧ d_place_after [sD u b, .int x] = some (.at .f (.int y')) := by
    intro i x y h1 h2
    have hxy := hs.lt (by omega) h1 h2
    obtain ⟨xa, xb⟩ := (hsm x).mp (List.mem_of_getElem? h1)
    obtain ⟨ya, yb⟩ := (hsm y).mp (List.mem_of_getElem? h2)
    obtain ⟨k, x', k1, k2, k3, k4⟩ := ha.next xa ya hxy
    obtain ⟨j, y', j1, j2, j3, j4⟩ := hb.next xb yb hxy
    exact ⟨k, j, x', y', k1, j1, k2, j2, k4, j4, place_ok t a k x x' k1 k2 k3, place_ok u b j x y' j1 j2 j3⟩
  let R : Res → Prop := fun r => ∃ x y : Int, r = .at .f (.tup [.int x, .int y]) ∧ ¬ noc a b
  let J : Nat → Ro → Prop := fun i ρ => ∃ x3 x4, ρ = [some (.at .f (sD t a)), some (.at .f (sD u b)), some (.at .f (.tup (iL s))), x3, x4] ∧
    ∀ (m : Nat) (x y : Int), m < i → s[m]? = some x → s[m + 1]? = some y → ∀ (k j : Nat), a[k]? = some x → b[j]? = some x → a[k + 1]? = b[j + 1]?
  refine w_for (items := (s.zip (s.drop 1)).map fun p => .at .f (.ktp [.int p.1, .int p.2])) ?_ ?_
  · have e1 := sl_tup (a := s) (i := 1) (k := 1) rfl
    simp [e1, zipR, isH, walkD]
    rw [← List.drop_one]
    exact zip_items s
  refine w_loop J R ⟨none, none, rfl, fun m x y hm => by omega⟩ ?_ ?_ ?_
  · rintro i hi _ ⟨x3, x4, rfl, hJ⟩
    rw [List.length_map, List.length_zip, List.length_drop] at hi
    obtain ⟨x, hx⟩ : ∃ x, s[i]? = some x := ⟨_, List.getElem?_eq_getElem (by omega)⟩
    obtain ⟨y, hy⟩ : ∃ x, s[i + 1]? = some x := ⟨_, List.getElem?_eq_getElem (by omega)⟩
    have eit : ((s.zip (s.drop 1)).map fun p => Res.at .f (.ktp [.int p.1, .int p.2]))[i]'(by rw [List.length_map, List.length_zip, List.length_drop]; exact hi) = .at .f (.ktp [.int x, .int y]) := by
      have : ((s.zip (s.drop 1)).map fun p => Res.at .f (.ktp [.int p.1, .int p.2]))[i]? = some (.at .f (.ktp [.int x, .int y])) := by
        have ez : (s.zip (s.drop 1))[i]? = some (x, y) := List.getElem?_zip_eq_some.mpr ⟨hx, by rw [List.getElem?_drop, Nat.add_comm]; exact hy⟩
        rw [List.getElem?_map, ez]
        rfl
      exact (List.getElem?_eq_some_iff.mp this).2
    rw [eit]
    obtain ⟨k, j, x', y', k1, j1, k2, j2, k4, j4, p1, p2⟩ := two i x y hx hy
    simp [gaT, gaC, mk_sD, fits, isF, p1, p2, W_ite, tupR, supAll]
    refine ⟨fun hne => ⟨x, y, rfl, fun hn => hn k j x x' y' k1 j1 k2 j2 hne y k4 j4⟩, fun he => ⟨_, _, rfl, fun m x2 y2 hm m1 m2 k' j' a1 b1 => ?_⟩⟩
    by_cases e : m = i
    · subst e
      rw [hx] at m1
      cases m1
      rw [ha.uniq a1 k1, hb.uniq b1 j1, k2, j2, he]
    · exact hJ m x2 y2 (by omega) m1 m2 k' j' a1 b1
  · rintro ρ ⟨x3, x4, rfl, hJ⟩
    rw [List.length_map, List.length_zip, List.length_drop] at hJ
    simp
    intro k j x x' y' q1 q2 q3 q4 q5 p hp hq
    obtain ⟨pa, xp⟩ := ha.mem_drop q1 hp
    obtain ⟨pb, _⟩ := hb.mem_drop q2 hq
    obtain ⟨i, hi⟩ := List.mem_iff_getElem?.mp ((hsm x).mpr ⟨List.mem_of_getElem? q1, List.mem_of_getElem? q2⟩)
    obtain ⟨i2, hi2⟩ := List.mem_iff_getElem?.mp ((hsm p).mpr ⟨pa, pb⟩)
    have hii : i < i2 := by
      rcases Nat.lt_trichotomy i i2 with q | q | q
      · exact q
      · subst q; rw [hi] at hi2; cases hi2; omega
      · have := hs.lt q hi2 hi; omega
    have hl2 := (List.getElem?_eq_some_iff.mp hi2).1
    have := hJ i x _ (by omega) hi (List.getElem?_eq_getElem (by omega)) k j q1 q2
    rw [q3, q4] at this
    exact q5 (Option.some.inj this)
  · rintro r ⟨x, y, rfl, h⟩
    simp
    exact h

/-- what two routes are to one another -/
theorem beside_ok (t u : Bool) (a b : List Int) (hla : a.length ≤ 1000) (ha : Asc a) (hb : Asc b) : W (d_beside [sD t a, sD u b]) fun r => ∃ k : Bool, r = .at .f (.bl k) ∧ (k = true ↔ nr a b = true ∧ noc a b) := by
  obtain ⟨r, e1, h⟩ := conflict_ok t u a b hla ha hb
  have e2 := nowhere_ok t u a b hla
  unfold d_beside phi_beside
  cases hn : nr a b with
  | false =>
    rw [hn] at e2
    refine ⟨.at .f (.bl false), ?_, false, rfl, by simp⟩
    simp [ro0, ro1, mk_sD, fits, isF, e2, fAndV]
  | true =>
    rw [hn] at e2
    rcases h with ⟨rfl, h⟩ | ⟨x, y, rfl, h⟩
    · refine ⟨.at .f (.bl true), ?_, true, rfl, by simp [h]⟩
      simp [ro0, ro1, mk_sD, fits, isF, e1, e2, fAndV, isNR, D.isNon]
    · refine ⟨.at .f (.bl false), ?_, false, rfl, by simp [h]⟩
      simp [ro0, ro1, mk_sD, fits, isF, e1, e2, fAndV, isNR, D.isNon]
end Lw

set_option Elab.async false
set_option linter.all false
set_option maxRecDepth 100000
namespace Lw
open PySem PySem.Spec PyProof.Rows L2 Fx
/-- a place stands at one index only -/
def Alg (a b : List Int) : Prop := ∀ (i j : Nat) (x : Int), a[i]? = some x → b[j]? = some x → i = j
theorem nr_trans {a b c : List Int} (h1 : a.length = b.length) (n1 : nr a b = true) (n2 : nr b c = true) : nr a c = true := by
  rw [nr_iff] at n1 n2 ⊢
  intro i x y hx hy
  have hi := (List.getElem?_eq_some_iff.mp hx).1
  have e := List.getElem?_eq_getElem (l := b) (i := i) (by omega)
  have := n1 i x _ hx e
  have := n2 i _ y e hy
  omega
theorem noc_trans {a b c : List Int} (h1 : a.length = b.length) (hac : Alg a c) (n1 : nr a b = true) (n2 : nr b c = true) (c1 : noc a b) (c2 : noc b c) : noc a c := by
  intro k j x x' y' q1 q2 q3 q4 q5 p hp hq
  have hkj := hac k j x q1 q2
  subst hkj
  obtain ⟨m, hm⟩ := List.mem_iff_getElem?.mp hp
  obtain ⟨m', hm'⟩ := List.mem_iff_getElem?.mp hq
  rw [List.getElem?_drop] at hm hm'
  have hmm := hac _ _ p hm hm'
  rw [← hmm] at hm'
  rw [nr_iff] at n1 n2
  have mid : ∀ (i : Nat) (z : Int), a[i]? = some z → c[i]? = some z → b[i]? = some z := fun i z ha hc => by
    have hi := (List.getElem?_eq_some_iff.mp ha).1
    have e := List.getElem?_eq_getElem (l := b) (i := i) (by omega)
    have g1 := n1 i z _ ha e
    have g2 := n2 i _ z e hc
    rw [e]
    congr 1
    omega
  have bk := mid k x q1 q2
  have bm := mid _ p hm hm'
  have hk1 := (List.getElem?_eq_some_iff.mp q3).1
  have bz := List.getElem?_eq_getElem (l := b) (i := k + 1) (by omega)
  have pb : p ∈ b.drop (k + 1) := List.mem_iff_getElem?.mpr ⟨m, by rw [List.getElem?_drop]; exact bm⟩
  have e1 : x' = b[k + 1] := Decidable.byContradiction fun hne => c1 k k x x' _ q1 bk q3 bz hne p hp pb
  have e2 : b[k + 1] = y' := Decidable.byContradiction fun hne => c2 k k x _ y' bk q2 bz q4 hne p pb hq
  exact q5 (e1.trans e2)
/-- what the three ways keep -/
structure Trio (ls : List (List Int)) : Prop where
  len : ls.length = 3
  sz : ∃ n, n ≤ 1000 ∧ ∀ l ∈ ls, l.length = n
  asc : ∀ l ∈ ls, Asc l
  alg : ∀ a ∈ ls, ∀ b ∈ ls, Alg a b
/-- routes from one row, cut to one length -/
theorem way_rows {w : Wld} (hw : WldOk w) {start : Int} {r : Nat} (hr : RowAt w.ws r start) {route : List Int} (h : WayOk w start route) : ∀ (i : Nat) (p : Int), route[i]? = some p → RowAt w.ws (r + i) p := by
  intro i
  induction i with
  | zero =>
    intro p hp
    rw [h.head] at hp
    cases hp
    exact hr
  | succ i ih =>
    intro p hp
    have hi := (List.getElem?_eq_some_iff.mp hp).1
    have e := List.getElem?_eq_getElem (l := route) (i := i) (by omega)
    have hq := ih _ e
    obtain ⟨x, hx, h1, h2⟩ := h.step i _ p e hp
    obtain ⟨q, k1, k2, k3, k4, k5⟩ := hw.rd x hx
    rw [h1] at k2 k3
    rw [h2] at k4 k5
    have := RowAt.uniq hw.wd.pos (q := r + i) (r := q) hq ⟨by omega, k2, k3⟩
    subst this
    exact ⟨k1, k4, k5⟩
theorem asc_of_rows {w : Wld} (hw : WldOk w) {r : Nat} {route : List Int} (h : ∀ (i : Nat) (p : Int), route[i]? = some p → RowAt w.ws (r + i) p) : Asc route := by
  refine List.pairwise_iff_getElem.mpr fun i j hi hj hij => ?_
  obtain ⟨a1, a2, a3⟩ := h i _ (List.getElem?_eq_getElem hi)
  obtain ⟨b1, b2, b3⟩ := h j _ (List.getElem?_eq_getElem hj)
  have := fst_mono hw.wd.pos (i := r + i + 1) (j := r + j) (by omega) (by omega)
  omega
theorem alg_of_rows {w : Wld} (hw : WldOk w) {r : Nat} {a b : List Int} (ha : ∀ (i : Nat) (p : Int), a[i]? = some p → RowAt w.ws (r + i) p) (hb : ∀ (i : Nat) (p : Int), b[i]? = some p → RowAt w.ws (r + i) p) : Alg a b := by
  intro i j x hx hy
  have := RowAt.uniq hw.wd.pos (ha i x hx) (hb j x hy)
  omega
end Lw

set_option Elab.async false
set_option linter.all false
set_option maxRecDepth 100000
namespace Lw
open PySem PySem.Spec PyProof.Rows L2 Fx
/-- l is made of entries of ls, index by index -/
def Mix (ls : List (List Int)) (l : List Int) : Prop := ∀ (m : Nat) (z : Int), l[m]? = some z → ∃ x ∈ ls, x[m]? = some z
theorem Mix.snoc {ls : List (List Int)} {l : List Int} {z : Int} (h : Mix ls l) (hz : ∃ x ∈ ls, x[l.length]? = some z) : Mix ls (l ++ [z]) := by
  intro m y hy
  by_cases hm : m < l.length
  · rw [List.getElem?_append_left hm] at hy
    exact h m y hy
  · have hle := (List.getElem?_eq_some_iff.mp hy).1
    rw [List.length_append] at hle
    simp at hle
    have e : m = l.length := by omega
    subst e
    rw [List.getElem?_append_right (Nat.le_refl _), Nat.sub_self] at hy
    cases hy
    exact hz
end Lw

set_option Elab.async false
set_option linter.all false
set_option maxRecDepth 100000
namespace Lw
open PySem PySem.Spec PyProof.Rows L2 Fx
theorem sum_take : ∀ (ws : List Int) (r : Nat), r ≤ ws.length → (ws.take r).sum = fst ws r
  | _, 0, _ => by rw [List.take_zero, fst_0]; rfl
  | [], r + 1, h => absurd h (by simp)
  | w :: ws, r + 1, h => by
    rw [List.take_succ_cons, List.sum_cons, sum_take ws r (by simpa using h)]
    rfl
/-- a way from row r -/
structure Rw (w : Wld) (r : Nat) (l : List Int) : Prop where
  pos : 0 < l.length
  rows : ∀ (i : Nat) (p : Int), l[i]? = some p → RowAt w.ws (r + i) p
theorem Rw.le {w : Wld} {r : Nat} {l : List Int} (hw : WldOk w) (h : Rw w r l) : l.length ≤ 12 := by
  have hp := h.pos
  obtain ⟨h1, _⟩ := h.rows (l.length - 1) _ (List.getElem?_eq_getElem (by omega))
  have := hw.wd.le
  omega
theorem Rw.take {w : Wld} {r : Nat} {l : List Int} (h : Rw w r l) {n : Nat} (hn : 0 < n) : Rw w r (l.take n) := by
  have hp := h.pos
  refine ⟨by rw [List.length_take]; omega, fun i p hi => ?_⟩
  rw [List.getElem?_take] at hi
  split at hi
  · exact h.rows i p hi
  · cases hi
theorem Rw.of {w : Wld} (hw : WldOk w) {start : Int} {r : Nat} (hr : RowAt w.ws r start) {route : List Int} (h : WayOk w start route) : Rw w r route := ⟨h.pos, way_rows hw hr h⟩
theorem Rw.mix {w : Wld} {r : Nat} {ls : List (List Int)} {l : List Int} (hl : 0 < l.length) (h : ∀ x ∈ ls, Rw w r x) (m : Mix ls l) : Rw w r l :=
  ⟨hl, fun i p hi => let ⟨x, hx, hp⟩ := m i p hi; (h x hx).rows i p hp⟩
theorem row_in {w : Wld} (hw : WldOk w) {r : Nat} {p : Int} (h : RowAt w.ws r p) : 0 ≤ p ∧ p < w.n := by
  obtain ⟨h1, h2, h3⟩ := h
  have a1 := fst_le hw.wd.pos (i := r) (by omega)
  have a2 := fst_mono hw.wd.pos (i := r + 1) (j := w.ws.length) (by omega) (by omega)
  have := hw.hn
  omega
def tD (l : List Int) : D := .tup (iL l)
/-- one turn of the loop that makes a way -/
def oP : Option Pr → D
  | none => .non
  | some q => pD q
theorem ixL {l m : Lv} {ds : List D} {i : Int} : ixR (.at l (.lst ds)) (.at m (.int i)) = (atI ds i).map (Res.mk l) := (rfl)
theorem ixT {l m : Lv} {ds : List D} {i : Int} : ixR (.at l (.tup ds)) (.at m (.int i)) = (atI ds i).map (Res.mk l) := (rfl)
theorem lenL {l : Lv} {ds : List D} : lenR [.at l (.lst ds)] = some (.at .f (.int ds.length)) := (rfl)
theorem wd_0 (w : Wld) : ixR (.at .f w.d) (.at .f (.int 0)) = some (.at .f (.lst (iL w.ws))) := rfl
end Lw

set_option Elab.async false
set_option linter.all false
set_option maxRecDepth 100000
namespace Lw
open PySem PySem.Spec PyProof.Rows L2 Fx
/-! ### == of data -/
theorem toPL_ints : ∀ xs : List Int, toPL (iL xs) = some (xs.map PyData.int)
  | [] => rfl
  | x :: xs => by
    show ((toP (.int x)).bind fun p => (toPL (iL xs)).map fun ps => p :: ps) = _
    rw [toPL_ints xs]; rfl
theorem lay_ints : ∀ xs : List Int, PyData.canLayAll0 (xs.map PyData.int) = true
  | [] => by simp [PyData.canLayAll0]
  | x :: xs => by simp [PyData.canLayAll0, PyData.canLay0, lay_ints xs]
theorem depth_ints : ∀ xs : List Int, PyData.depthAll (xs.map PyData.int) = 0
  | [] => by simp [PyData.depthAll]
  | x :: xs => by simp [PyData.depthAll, PyData.depth, depth_ints xs]
theorem eqv_ints : ∀ xs ys : List Int, PyData.eqvAll (xs.map PyData.int) (ys.map PyData.int) = decide (xs = ys) := fun xs ys => PySem.W.eqvAll_map (α := Int) xs ys
theorem eq_tups (x y : List Int) : eqD (.tup (iL x)) (.tup (iL y)) = some (decide (x = y)) := by
  have hp : ∀ z : List Int, toP (.tup (iL z)) = some (.tuple (z.map .int)) := fun z => by simp [toP, toPL_ints]
  have hs : ∀ z : List Int, SeqAt.shaped (.tuple (z.map .int)) = true := fun z => by
    unfold SeqAt.shaped
    simp [PyData.canLay0, lay_ints, PyData.depth, depth_ints]
  unfold eqD
  rw [hp, hp]
  simp only [hs, Bool.and_self, if_true]
  rw [show PyData.eqv (.tuple (x.map .int)) (.tuple (y.map .int)) = PyData.eqvAll (x.map .int) (y.map .int) by simp only [PyData.eqv], eqv_ints]
theorem eq_given3 (x y z : List Int) : eqD (.lst [.lst (iL x), .lst (iL y), .lst (iL z)]) (.lst [.lst (iL x), .lst (iL y), .lst (iL z)]) = some true := by
  have hp : toP (.lst [.lst (iL x), .lst (iL y), .lst (iL z)]) = some (.list [.list (x.map .int), .list (y.map .int), .list (z.map .int)]) := by
    simp [toP, toPL, toPL_ints]
  have hc : PyData.canLay0 (.list [.list (x.map .int), .list (y.map .int), .list (z.map .int)]) = true := by
    simp [PyData.canLay0, PyData.canLayAll0, lay_ints]
  have hs : SeqAt.shaped (.list [.list (x.map .int), .list (y.map .int), .list (z.map .int)]) = true := by
    unfold SeqAt.shaped
    rw [hc]
    simp [PyData.depth, PyData.depthAll, depth_ints]
  unfold eqD
  rw [hp]
  simp only [hs, Bool.and_self, if_true]
  exact congrArg some (SeqAt.eqv_refl _ hc)
theorem toPL_rows : ∀ ls : List (List Int), toPL (ls.map fun l => .lst (iL l)) = some (ls.map fun l => PyData.list (l.map .int))
  | [] => rfl
  | x :: xs => by
    show ((toP (.lst (iL x))).bind fun p => (toPL (xs.map fun l => .lst (iL l))).map fun ps => p :: ps) = _
    rw [toPL_rows xs]
    simp [toP, toPL_ints]
theorem lay_rows : ∀ ls : List (List Int), PyData.canLayAll0 (ls.map fun l => PyData.list (l.map .int)) = true
  | [] => by simp [PyData.canLayAll0]
  | x :: xs => by
    rw [List.map_cons]
    simp only [PyData.canLayAll0, PyData.canLay0, lay_ints, lay_rows xs, Bool.and_self]
theorem depth_rows : ∀ ls : List (List Int), PyData.depthAll (ls.map fun l => PyData.list (l.map .int)) ≤ 1
  | [] => by simp [PyData.depthAll]
  | x :: xs => by
    rw [List.map_cons]
    have := depth_rows xs
    simp only [PyData.depthAll, PyData.depth, depth_ints]
    omega
theorem eq_rows (ls : List (List Int)) : eqD (.lst (ls.map fun l => .lst (iL l))) (.lst (ls.map fun l => .lst (iL l))) = some true := by
  have hp : toP (.lst (ls.map fun l => .lst (iL l))) = some (.list (ls.map fun l => .list (l.map .int))) := by
    show (toPL _).map _ = _
    rw [toPL_rows]; rfl
  have hc : PyData.canLay0 (.list (ls.map fun l => .list (l.map .int))) = true := by
    simp only [PyData.canLay0, lay_rows]
  have hs : SeqAt.shaped (.list (ls.map fun l => .list (l.map .int))) = true := by
    unfold SeqAt.shaped
    rw [hc]
    have h1 := depth_rows ls
    have h2 : PyData.depth (.list (ls.map fun l => PyData.list (l.map .int))) ≤ 64 := by
      unfold PyData.depth
      omega
    rw [Bool.true_and]
    exact decide_eq_true h2
  unfold eqD
  rw [hp]
  simp only [hs, Bool.and_self, if_true]
  exact congrArg some (SeqAt.eqv_refl _ hc)

/-! ### the routes -/
structure Ways (ws : List (List Int)) : Prop where
  cnt : ws.length ≤ 20
  sz : ∃ m, m ≤ 12 ∧ ∀ l ∈ ws, l.length = m
  asc : ∀ l ∈ ws, Asc l
  alg : ∀ a ∈ ws, ∀ b ∈ ws, Alg a b
def wy (ws : List (List Int)) (i : Nat) : List Int := ws.getD i []
theorem wy_at {ws : List (List Int)} {i : Nat} (h : i < ws.length) : ws[i]? = some (wy ws i) := by
  unfold wy
  rw [List.getD_eq_getElem?_getD, List.getElem?_eq_getElem h]; rfl
theorem wy_mem {ws : List (List Int)} {i : Nat} (h : i < ws.length) : wy ws i ∈ ws := List.mem_of_getElem? (wy_at h)
open Classical in
noncomputable def bB (ws : List (List Int)) (i j : Nat) : Bool := if wy ws i = wy ws j then decide (i < j) else decide (nr (wy ws i) (wy ws j) = true ∧ noc (wy ws i) (wy ws j))
theorem bB_eq {ws : List (List Int)} {i j : Nat} (h : wy ws i = wy ws j) : bB ws i j = decide (i < j) := if_pos h
open Classical in
theorem bB_ne {ws : List (List Int)} {i j : Nat} (h : wy ws i ≠ wy ws j) : bB ws i j = true ↔ nr (wy ws i) (wy ws j) = true ∧ noc (wy ws i) (wy ws j) := by
  unfold bB
  rw [if_neg h]
  exact @decide_eq_true_iff _ _
theorem nr_anti {a b : List Int} (hl : a.length = b.length) (h1 : nr a b = true) (h2 : nr b a = true) : a = b := by
  rw [nr_iff] at h1 h2
  refine List.ext_getElem hl fun i hi hj => ?_
  have a1 := h1 i _ _ (List.getElem?_eq_getElem hi) (List.getElem?_eq_getElem hj)
  have a2 := h2 i _ _ (List.getElem?_eq_getElem hj) (List.getElem?_eq_getElem hi)
  omega
theorem Ways.len {ws : List (List Int)} (h : Ways ws) {i j : Nat} (hi : i < ws.length) (hj : j < ws.length) : (wy ws i).length = (wy ws j).length := by
  obtain ⟨m, _, hm⟩ := h.sz
  rw [hm _ (wy_mem hi), hm _ (wy_mem hj)]
theorem Ways.ord {ws : List (List Int)} (h : Ways ws) : Lot.Ord ws.length (bB ws) where
  irr i hi := by rw [bB_eq rfl]; simp
  tr i j k hi hj hk h1 h2 := by
    by_cases e1 : wy ws i = wy ws j
    · by_cases e2 : wy ws j = wy ws k
      · rw [bB_eq e1] at h1
        rw [bB_eq e2] at h2
        rw [bB_eq (e1.trans e2)]
        have := of_decide_eq_true h1
        have := of_decide_eq_true h2
        exact decide_eq_true (by omega)
      · rw [bB_ne e2] at h2
        rw [bB_ne (by rw [e1]; exact e2), e1]
        exact h2
    · rw [bB_ne e1] at h1
      by_cases e2 : wy ws j = wy ws k
      · rw [bB_ne (by rw [← e2]; exact e1), ← e2]
        exact h1
      · rw [bB_ne e2] at h2
        have ne : wy ws i ≠ wy ws k := fun e => e1 (nr_anti (h.len hi hj) h1.1 (by rw [e]; exact h2.1))
        rw [bB_ne ne]
        exact ⟨nr_trans (h.len hi hj) h1.1 h2.1, noc_trans (h.len hi hj) (h.alg _ (wy_mem hi) _ (wy_mem hk)) h1.1 h2.1 h1.2 h2.2⟩

/-! ### the program's before -/
theorem at_ways {ws : List (List Int)} {f : List Int → D} {i : Nat} (h : i < ws.length) : atI (ws.map f) (i : Int) = some (f (wy ws i)) := by
  rw [atI_nat rfl (by rw [List.length_map]; exact h), List.getElem?_map, wy_at h]; rfl
theorem cb_ok {ws : List (List Int)} (hw : Ways ws) {i j : Nat} (hi : i < ws.length) (hj : j < ws.length) : d_comes_before [.lst (ws.map tD), .int i, .int j] = some (.at .f (.bl (bB ws i j))) := by
  obtain ⟨m, hm, hlen⟩ := hw.sz
  obtain ⟨r, hb, k, rfl, hk⟩ := beside_ok true true (wy ws i) (wy ws j) (by rw [hlen _ (wy_mem hi)]; omega) (hw.asc _ (wy_mem hi)) (hw.asc _ (wy_mem hj))
  have ai := at_ways (f := tD) hi
  have aj := at_ways (f := tD) hj
  unfold d_comes_before phi_comes_before
  rw [e_run]
  have hro : ro0 3 [true, true, true] [.lst (ws.map tD), .int i, .int j] = [some (.at .f (.lst (ws.map tD))), some (.at .f (.int i)), some (.at .f (.int j))] := rfl
  rw [hro]
  have eb : d_beside [tD (wy ws i), tD (wy ws j)] = some (.at .f (.bl k)) := hb
  have eq := eq_tups (wy ws i) (wy ws j)
  have eq : eqD (tD (wy ws i)) (tD (wy ws j)) = some (decide (wy ws i = wy ws j)) := eq
  have mk : ∀ l, Res.mk .f (tD l) = .at .f (tD l) := fun l => rfl
  by_cases e : wy ws i = wy ws j
  · rw [decide_eq_true e] at eq
    rw [bB_eq e]
    simp [ixL, ai, aj, eq, mk]
  · rw [decide_eq_false e] at eq
    have ek : k = bB ws i j := by
      cases hk2 : bB ws i j with
      | true => rw [hk]; exact (bB_ne e).mp hk2
      | false =>
        cases k with
        | true => have := (bB_ne e).mpr (hk.mp rfl); rw [hk2] at this; cases this
        | false => rfl
    subst ek
    simp [ixL, ai, aj, eq, mk, fits, isF, eb]
end Lw

set_option Elab.async false
set_option linter.all false
set_option maxRecDepth 100000
namespace Lw
open PySem PySem.Spec PyProof.Rows L2 Fx
open Lot (at0)
theorem at_iL (s : List Int) {i : Int} {k : Nat} (e : i = k) (h : k < s.length) : atI (iL s) i = some (.int (at0 s k)) := by
  rw [atI_nat e (by rw [iL_len]; exact h), iL_get?, List.getElem?_eq_getElem h]
  unfold at0
  rw [List.getD_eq_getElem?_getD, List.getElem?_eq_getElem h]; rfl
/-- indexes as ints -/
def nI (l : List Nat) : List Int := l.map fun (k : Nat) => (k : Int)
theorem at0_mem {s : List Int} {k : Nat} (h : k < s.length) : at0 s k ∈ s := by
  unfold at0
  rw [List.getD_eq_getElem?_getD, List.getElem?_eq_getElem h]
  exact List.getElem_mem h
theorem values_ok (cell : Int) (n : Nat) (hn : n ≤ 20) : W (d_l_values [.int cell, .int n]) fun r => ∃ vs : List Int, r = .own (iL vs) ∧ vs.length = n ∧ ∀ x ∈ vs, 0 ≤ x := by
  obtain ⟨_, hd, ns, rfl, hl, hp⟩ := draws_ok cell (2 * n + 1) (by omega)
  replace hd : d_l_draws [.int cell, .int (2 * (n : Int) + 1)] = some (.own (iL ns)) := by
    have e : ((2 * n + 1 : Nat) : Int) = 2 * (n : Int) + 1 := by omega
    rw [← e]; exact hd
  unfold d_l_values phi_l_values
  rw [e_run, W_bind]
  refine w_seq (fun ρ => ρ = [some (.at .f (.int cell)), some (.at .f (.int n)), some (.at .f (.lst (iL ns))), none, none]) (by
    simp [ro0, ro1, fits, isF, hd]) ?_
  rintro _ rfl
  have a0 := at_iL ns (i := 0) (k := 0) rfl (by omega)
  refine w_seq (fun ρ => ∃ most : Int, 0 < most ∧ ρ = [some (.at .f (.int cell)), some (.at .f (.int n)), some (.at .f (.lst (iL ns))), some (.at .f (.int most)), none]) ?_ ?_
  · have hm := Int.emod_nonneg (at0 ns 0) (show (3 : Int) ≠ 0 by decide)
    have hM := Int.emod_lt_of_pos (at0 ns 0) (show (0 : Int) < 3 by decide)
    obtain ⟨x, hx⟩ : ∃ x, x = at0 ns 0 % 3 := ⟨_, rfl⟩
    rw [← hx] at hm hM
    have l3 : ∃ most : Int, 0 < most ∧ atI [D.int 3, D.int 10, D.int 1000001] x = some (.int most) := by
      have : x = 0 ∨ x = 1 ∨ x = 2 := by omega
      rcases this with rfl | rfl | rfl
      · exact ⟨3, by decide, rfl⟩
      · exact ⟨10, by decide, rfl⟩
      · exact ⟨1000001, by decide, rfl⟩
    obtain ⟨most, hm0, hm1⟩ := l3
    have e3 : (3 : Int) ≠ 0 := by decide
    simp [lstR, supAll, mkL, ixL, a0, ← hx, ixR, hm1]
    exact hm0
  rintro _ ⟨most, hm, rfl⟩
  simp [rng1R, -List.map_map]
  refine ⟨by omega, by omega, ?_⟩
  refine w_lc (P := fun i d => ∃ v : Int, d = .int v ∧ 0 ≤ v) (fun i hi => ?_) fun ds hds hP => ?_
  · rw [rng_len] at hi
    have a1 := at_iL ns (i := 2 * (i : Int) + 1) (k := 2 * i + 1) (by omega) (by omega)
    have a2 := at_iL ns (i := 2 * (i : Int) + 2) (k := 2 * i + 2) (by omega) (by omega)
    simp [wipeR, ixL, a1, a2]
    exact ⟨hm, Int.emod_nonneg _ (by omega)⟩
  · obtain ⟨vs, g1, g2, g3⟩ := ints_of_P ds hP
    rw [rng_len] at hds
    exact ⟨vs, g1, by omega, g3⟩

/-! ### before -/
noncomputable def rowB (ws : List (List Int)) (i : Nat) : D := .lst ((List.range ws.length).map fun j => .bl (bB ws i j))
theorem rng_ints (n : Nat) : rngItems 0 n = (nI (List.range n)).map fun x => Res.at .f (.int x) := by
  unfold rngItems nI
  rw [List.map_map]
  refine List.map_congr_left fun i _ => ?_
  simp
/-- a comprehension over a range with a test -/
theorem lc_range {γ : Res → Ro → Option Ro} {α : Ro → Option Bool} {φ : Ro → Option Res} {ρ : Ro} {n : Nat} (f : Nat → Bool) (h : ∀ k, k < n → ∃ ρ1, γ (.at .f (.int k)) ρ = some ρ1 ∧ α ρ1 = some (f k) ∧ φ ρ1 = some (.at .f (.int k))) :
    lcD γ α φ ρ (rngItems 0 n) = some (iL (nI ((List.range n).filter f))) := by
  rw [rng_ints, w_lcf (f := fun x => f x.toNat) fun x hx => ?_]
  · unfold nI
    rw [List.filter_map]
    rfl
  · obtain ⟨k, hk, rfl⟩ := List.mem_map.mp hx
    exact h k (List.mem_range.mp hk)
theorem nr_range {a b : List Int} (hl : a.length = b.length) : ((List.range a.length).filter fun k => decide (at0 b k < at0 a k)) = [] ↔ nr a b = true := by
  rw [nr_iff, List.filter_eq_nil_iff]
  constructor
  · intro h i x y hx hy
    have hi := (List.getElem?_eq_some_iff.mp hx).1
    have z := h i (List.mem_range.mpr hi)
    unfold at0 at z
    rw [List.getD_eq_getElem?_getD, List.getD_eq_getElem?_getD, hx, hy] at z
    simp at z
    exact z
  · intro h k hk
    have hk := List.mem_range.mp hk
    have z := h k _ _ (List.getElem?_eq_getElem hk) (List.getElem?_eq_getElem (show k < b.length by omega))
    unfold at0
    rw [List.getD_eq_getElem?_getD, List.getD_eq_getElem?_getD, List.getElem?_eq_getElem hk, List.getElem?_eq_getElem (show k < b.length by omega)]
    simpa using z
theorem before_ok {ws : List (List Int)} (hw : Ways ws) : d_l_before [.lst (ws.map tD)] = some (.own ((List.range ws.length).map (rowB ws))) := by
  obtain ⟨m, hm, hlen⟩ := hw.sz
  have hcnt := hw.cnt
  have main : W (d_l_before [.lst (ws.map tD)]) fun r => r = .own ((List.range ws.length).map (rowB ws)) := by
    unfold d_l_before phi_l_before
    rw [e_run, W_bind]
    refine w_seq (fun ρ => ρ = [some (.at .f (.lst (ws.map tD))), some (.own []), none, none, none, none, none]) (by simp [ro0, ro1, lstR, mkL, supAll]) ?_
    rintro _ rfl
    let J : Nat → Ro → Prop := fun i ρ => ∃ x2 x3 x4 x5 x6 : Option Res, ρ = [some (.at .f (.lst (ws.map tD))), some (.own ((List.range i).map (rowB ws))), x2, x3, x4, x5, x6]
    refine w_seq (J ws.length) ?_ ?_
    · refine w_for (items := rngItems 0 ws.length) (by simp [rng1R, lenR]; omega) ?_
      refine w_loop J (fun _ => False) ⟨none, none, none, none, none, rfl⟩ ?_ ?_ (fun _ h => h.elim)
      · rintro i hi _ ⟨x2, x3, x4, x5, x6, rfl⟩
        rw [rng_len] at hi
        simp only [rng_get, e_gaN, W_some, List.set_cons_succ, List.set_cons_zero, Int.zero_add]
        refine w_seq (fun ρ => ρ = [some (.at .f (.lst (ws.map tD))), some (.own ((List.range i).map (rowB ws))), some (.at .f (.int i)), some (.own []), x4, x5, x6]) (by simp [lstR, mkL, supAll]) ?_
        rintro _ rfl
        let K : Nat → Ro → Prop := fun j ρ => ∃ x4 x5 x6 : Option Res, ρ = [some (.at .f (.lst (ws.map tD))), some (.own ((List.range i).map (rowB ws))), some (.at .f (.int i)), some (.own ((List.range j).map fun j => .bl (bB ws i j))), x4, x5, x6]
        refine w_seq (K ws.length) ?_ ?_
        · refine w_for (items := rngItems 0 ws.length) (by simp [rng1R, lenR]; omega) ?_
          refine w_loop K (fun _ => False) ⟨x4, x5, x6, rfl⟩ ?_ ?_ (fun _ h => h.elim)
          · rintro j hj _ ⟨x4, x5, x6, rfl⟩
            rw [rng_len] at hj
            simp only [rng_get, e_gaN, W_some, List.set_cons_succ, List.set_cons_zero, Int.zero_add]
            have ai := at_ways (f := tD) hi
            have aj := at_ways (f := tD) hj
            have mk : ∀ l, Res.mk .f (tD l) = .at .f (tD l) := fun l => rfl
            have hli : (wy ws i).length = m := hlen _ (wy_mem hi)
            have hlj : (wy ws j).length = m := hlen _ (wy_mem hj)
            obtain ⟨right, hright⟩ : ∃ right, right = ((List.range (wy ws i).length).filter fun k => decide (at0 (wy ws j) k < at0 (wy ws i) k)) := ⟨_, rfl⟩
            have hlenR : lenR [.at .f (tD (wy ws i))] = some (.at .f (.int (wy ws i).length)) := by
              show some (Res.at .f (.int ((iL (wy ws i)).length : Nat))) = _
              rw [iL_len]
            refine w_seq (fun ρ => ρ = [some (.at .f (.lst (ws.map tD))), some (.own ((List.range i).map (rowB ws))), some (.at .f (.int i)), some (.own ((List.range j).map fun j => .bl (bB ws i j))), some (.at .f (.int j)), some (.at .f (.lst (iL (nI right)))), x6]) ?_ ?_
            · simp [ixL, ai, mk, hlenR, rng1R, -List.map_map]
              refine ⟨by omega, by omega, ?_⟩
              rw [lc_range (n := (wy ws i).length) (fun k => decide (at0 (wy ws j) k < at0 (wy ws i) k)) fun k hk => ?_]
              · simp [← hright]
              · have b1 := at_iL (wy ws i) (i := (k : Int)) rfl hk
                have b2 := at_iL (wy ws j) (i := (k : Int)) rfl (show k < (wy ws j).length by omega)
                refine ⟨_, rfl, ?_, by simp [wipeR]⟩
                simp [wipeR, ixL, ai, aj, mk, tD, ixT, b1, b2]
            rintro _ rfl
            have eq := eq_tups (wy ws i) (wy ws j)
            have eq : eqD (tD (wy ws i)) (tD (wy ws j)) = some (decide (wy ws i = wy ws j)) := eq
            have hr0 : right = [] ↔ nr (wy ws i) (wy ws j) = true := by rw [hright]; exact nr_range (by rw [hli, hlj])
            obtain ⟨cr, hc, hcr⟩ := l_conflict_ok (wy ws i) (wy ws j) (by omega) (by omega)
            have hc : d_l_conflict [tD (wy ws i), tD (wy ws j)] = some cr := hc
            have ij : decide ((i : Int) < j) = decide (i < j) := by simp
            by_cases e : wy ws i = wy ws j
            · rw [decide_eq_true e] at eq
              simp [ixL, ai, aj, mk, eq]
              refine ⟨by omega, _, _, _, by rw [List.range_succ, List.map_append, List.map_singleton, bB_eq e]⟩
            · rw [decide_eq_false e] at eq
              simp [ixL, ai, aj, mk, eq, fAndV, lenR, fits, isF, hc]
              have hz : nI right = [] ↔ nr (wy ws i) (wy ws j) = true := by rw [← hr0]; unfold nI; exact List.map_eq_nil_iff
              refine W.of (a := .at .f (.bl (bB ws i j))) ?_ ⟨_, rfl, by omega, _, _, _, by rw [List.range_succ, List.map_append, List.map_singleton]⟩
              by_cases hn : nr (wy ws i) (wy ws j) = true
              · rw [decide_eq_true (hz.mpr hn)]
                rcases hcr with ⟨rfl, hno⟩ | ⟨x, y, rfl, hno⟩
                · rw [(bB_ne e).mpr ⟨hn, hno⟩]; rfl
                · have : bB ws i j = false := by
                    rw [Bool.eq_false_iff]
                    exact fun q => hno ((bB_ne e).mp q).2
                  rw [this]; rfl
              · rw [decide_eq_false (fun q => hn (hz.mp q))]
                have : bB ws i j = false := by
                  rw [Bool.eq_false_iff]
                  exact fun q => hn ((bB_ne e).mp q).1
                rw [this]
          · rintro ρ hK
            rw [rng_len] at hK
            exact ⟨ρ, rfl, hK⟩
        rintro _ ⟨x4, x5, x6, rfl⟩
        have fr : frzR (Res.own ((List.range ws.length).map fun j => D.bl (bB ws i j))) = some (rowB ws i) := rfl
        simp [frzSlot, fr]
        exact ⟨by omega, _, _, _, _, _, by rw [List.range_succ, List.map_append, List.map_singleton]⟩
      · rintro ρ hJ
        rw [rng_len] at hJ
        exact ⟨ρ, rfl, hJ⟩
    rintro _ ⟨x2, x3, x4, x5, x6, rfl⟩
    simp
  obtain ⟨r, e, rfl⟩ := main
  exact e
end Lw

set_option Elab.async false
set_option linter.all false
set_option maxRecDepth 100000
namespace Lw
open PySem PySem.Spec PyProof.Rows L2 Fx
open Lot (at0 Mid In Set' rk Chain)
noncomputable def bD (ws : List (List Int)) : D := .lst ((List.range ws.length).map (rowB ws))
theorem at_bD {ws : List (List Int)} {i : Nat} (h : i < ws.length) : atI ((List.range ws.length).map (rowB ws)) (i : Int) = some (rowB ws i) := by
  rw [atI_nat rfl (by rw [List.length_map, List.length_range]; exact h), List.getElem?_map, List.getElem?_range h]; rfl
theorem at_rowB {ws : List (List Int)} {i j : Nat} (h : j < ws.length) : atI ((List.range ws.length).map fun j => D.bl (bB ws i j)) (j : Int) = some (.bl (bB ws i j)) := by
  rw [atI_nat rfl (by rw [List.length_map, List.length_range]; exact h), List.getElem?_map, List.getElem?_range h]; rfl
theorem set_iL (s : List Int) (k : Nat) (x : Int) : (iL s).set k (.int x) = iL (s.set k x) := (List.map_set).symm
theorem scores_ok {ws : List (List Int)} (hw : Ways ws) (vs : List Int) (hv : vs.length = ws.length) {S : Nat → Int} (M : ∀ j, j < ws.length → Lot.Mk ws.length (bB ws) (at0 vs) S j) :
    W (d_l_scores [bD ws, .lst (iL vs)]) fun r => ∃ s : List Int, r = .own (iL s) ∧ s.length = ws.length ∧ ∀ j, j < ws.length → at0 s j = S j := by
  have hcnt := hw.cnt
  have O := hw.ord
  generalize hn : ws.length = n at hv hcnt O M
  unfold d_l_scores phi_l_scores
  rw [e_run, W_bind]
  have hlo : listOfR [.at .f (.lst (iL vs))] = some (.own (iL vs)) := rfl
  refine w_seq (fun ρ => ρ = [some (.at .f (bD ws)), some (.at .f (.lst (iL vs))), some (.own (iL vs)), none, none, none]) (by simp [ro0, ro1, hlo]) ?_
  rintro _ rfl
  have hlen : lenR [.at .f (.lst (iL vs))] = some (.at .f (.int n)) := by rw [lenL, iL_len, hv]
  let J : Nat → Ro → Prop := fun t ρ => ∃ (s : List Int) (x3 x4 x5 : Option Res), ρ = [some (.at .f (bD ws)), some (.at .f (.lst (iL vs))), some (.own (iL s)), x3, x4, x5] ∧ In n (at0 vs) S s ∧ Set' n (bB ws) S t s
  refine w_seq (J n) ?_ ?_
  · refine w_for (items := rngItems 0 n) (by simp [rng1R, hlen]; omega) ?_
    refine w_loop J (fun _ => False) ⟨vs, none, none, none, rfl, ⟨hv, fun j _ => Int.le_refl _, fun j hj => (M j hj).lo⟩, fun j _ h => absurd h (Nat.not_lt_zero _)⟩ ?_ ?_ (fun _ h => h.elim)
    · rintro t ht _ ⟨s, x3, x4, x5, rfl, hI, hS⟩
      rw [rng_len] at ht
      simp only [rng_get, e_gaN, W_some, List.set_cons_succ, List.set_cons_zero, Int.zero_add]
      refine w_for (items := rngItems 0 n) (by simp [rng1R, hlen]; omega) ?_
      refine w_loop (fun j ρ => ∃ (s : List Int) (x4 x5 : Option Res), ρ = [some (.at .f (bD ws)), some (.at .f (.lst (iL vs))), some (.own (iL s)), some (.at .f (.int t)), x4, x5] ∧ Mid n (bB ws) (at0 vs) S t j 0 s) (fun _ => False) ⟨s, x4, x5, rfl, Mid.start hI hS⟩ ?_ ?_ (fun _ h => h.elim)
      · rintro j hj _ ⟨s, x4, x5, rfl, hM⟩
        rw [rng_len] at hj
        simp only [rng_get, e_gaN, W_some, List.set_cons_succ, List.set_cons_zero, Int.zero_add]
        refine w_for (items := rngItems 0 n) (by simp [rng1R, hlen]; omega) ?_
        refine w_loop (fun i ρ => ∃ (s : List Int) (x5 : Option Res), ρ = [some (.at .f (bD ws)), some (.at .f (.lst (iL vs))), some (.own (iL s)), some (.at .f (.int t)), some (.at .f (.int j)), x5] ∧ Mid n (bB ws) (at0 vs) S t j i s) (fun _ => False) ⟨s, x5, rfl, hM⟩ ?_ ?_ (fun _ h => h.elim)
        · rintro i hi _ ⟨s, x5, rfl, hM⟩
          rw [rng_len] at hi
          simp only [rng_get, e_gaN, W_some, List.set_cons_succ, List.set_cons_zero, Int.zero_add]
          have hs := hM.inn.len
          have ab : atI ((List.range ws.length).map (rowB ws)) (i : Int) = some (rowB ws i) := at_bD (by omega)
          have ar : atI ((List.range ws.length).map fun j => D.bl (bB ws i j)) (j : Int) = some (.bl (bB ws i j)) := at_rowB (by omega)
          have mk : Res.mk .f (bD ws) = .at .f (bD ws) := rfl
          have mkr : Res.mk .f (rowB ws i) = .at .f (rowB ws i) := rfl
          have si := at_iL s (i := (i : Int)) rfl (by omega)
          have sj := at_iL s (i := (j : Int)) rfl (by omega)
          have vj := at_iL vs (i := (j : Int)) rfl (by omega)
          have ixs : ∀ (k : Int), ixR (.pk (iL s)) (.at .f (.int k)) = (atI (iL s) k).map (Res.mk .f) := fun k => rfl
          have ixb : ixR (.at .f (bD ws)) (.at .f (.int i)) = some (.at .f (rowB ws i)) := by unfold bD; rw [ixL, ab]; rfl
          have ixr : ixR (.at .f (rowB ws i)) (.at .f (.int j)) = some (.at .f (.bl (bB ws i j))) := by unfold rowB; rw [ixL, ar]; rfl
          cases hb : bB ws i j with
          | false =>
            rw [hb] at ixr
            simp [mk, ixb, ixr, truD]
            exact ⟨s, rfl, hM.skip O hj hi (.inl hb)⟩
          | true =>
            rw [hb] at ixr
            by_cases hg : at0 s j < at0 s i + at0 vs j
            · simp [mk, ixb, ixr, truD, ixs, ixL, si, sj, vj, hg, set_iL]
              exact ⟨j, ixN_nat rfl (by omega), _, rfl, hM.raise O M hj hi hb hg⟩
            · simp [mk, ixb, ixr, truD, ixs, ixL, si, sj, vj, hg]
              exact ⟨s, rfl, hM.skip O hj hi (.inr (by omega))⟩
        · rintro ρ ⟨s, x5, rfl, hM⟩
          rw [rng_len] at hM
          exact ⟨s, _, _, rfl, hM.next M hj⟩
      · rintro ρ ⟨s, x4, x5, rfl, hM⟩
        rw [rng_len] at hM
        exact ⟨s, _, _, _, rfl, hM.round.1, hM.round.2⟩
    · rintro ρ hJ
      rw [rng_len] at hJ
      exact ⟨ρ, rfl, hJ⟩
  rintro _ ⟨s, x3, x4, x5, rfl, hI, hS⟩
  simp
  exact ⟨s, rfl, hI.len, fun j hj => hS j hj (Lot.rk_n O hj)⟩
end Lw

set_option Elab.async false
set_option linter.all false
set_option maxRecDepth 100000
namespace Lw
open PySem PySem.Spec PyProof.Rows L2 Fx
open Lot (at0 Chain)
/-- the worths of the indexes -/
def sumv (vs : List Int) (o : List Int) : Int := (o.map fun x => at0 vs x.toNat).sum
theorem perm_sum {l l' : List Int} (h : l.Perm l') : l.sum = l'.sum := by
  induction h with
  | nil => rfl
  | cons x _ ih => rw [List.sum_cons, List.sum_cons, ih]
  | swap x y l => rw [List.sum_cons, List.sum_cons, List.sum_cons, List.sum_cons]; omega
  | trans _ _ h1 h2 => rw [h1, h2]
theorem perm_sumv {vs l l' : List Int} (h : l.Perm l') : sumv vs l = sumv vs l' := perm_sum (h.map _)
theorem sumv_nI (vs : List Int) (l : List Nat) : sumv vs (nI l) = Lot.vs (at0 vs) l := by
  unfold sumv nI Lot.vs
  rw [List.map_map]
  rfl
/-- a right lot -/
structure LotOk (ws : List (List Int)) (o : List Int) : Prop where
  rng : ∀ x ∈ o, 0 ≤ x ∧ x < ws.length
  asc : o.Pairwise (· < ·)
  cmp : ∀ a b : Nat, (a : Int) ∈ o → (b : Int) ∈ o → a < b → bB ws a b = true ∨ bB ws b a = true
theorem nI_mem {l : List Nat} {x : Int} : x ∈ nI l ↔ ∃ k ∈ l, x = (k : Int) := by
  unfold nI
  rw [List.mem_map]
  exact ⟨fun ⟨k, h, e⟩ => ⟨k, h, e.symm⟩, fun ⟨k, h, e⟩ => ⟨k, h, e.symm⟩⟩
theorem lot_of_chain {ws : List (List Int)} (hw : Ways ws) {v S : Nat → Int} {a0 a : Nat} {l : List Nat} (h : Chain ws.length (bB ws) v S a0 a l) : LotOk ws (isort (nI l)) := by
  have hp := isort_perm (nI l)
  have nd : (nI l).Nodup := by
    unfold nI
    refine List.pairwise_map.mpr ((h.nodup hw.ord).imp fun hne e => hne (by omega))
  have nd2 : (isort (nI l)).Nodup := hp.nodup_iff.mpr nd
  have hs := isort_sorted (nI l)
  refine ⟨fun x hx => ?_, ?_, fun a b ha hb hab => ?_⟩
  · obtain ⟨k, hk, rfl⟩ := nI_mem.mp (hp.mem_iff.mp hx)
    have := h.lt k hk
    omega
  · refine List.pairwise_iff_getElem.mpr fun i j hi hj hij => ?_
    have h1 := List.pairwise_iff_getElem.mp hs i j hi hj hij
    have h2 := List.pairwise_iff_getElem.mp nd2 i j hi hj hij
    omega
  · obtain ⟨x, hx, ex⟩ := nI_mem.mp (hp.mem_iff.mp ha)
    obtain ⟨y, hy, ey⟩ := nI_mem.mp (hp.mem_iff.mp hb)
    have ex : x = a := by omega
    have ey : y = b := by omega
    subst ex; subst ey
    exact h.comp hx hy (by omega)
theorem max_some : ∀ {s : List Int}, s ≠ [] → ∃ m, s.max? = some m ∧ m ∈ s ∧ ∀ y ∈ s, y ≤ m := by
  intro s hs
  cases h : s.max? with
  | none => rw [List.max?_eq_none_iff] at h; exact absurd h hs
  | some m => exact ⟨m, rfl, List.max?_eq_some_iff.mp h⟩
theorem ixOf_mem {i : Int} : ∀ {ns : List Int}, i ∈ ns → ∃ j, ixOf i ns = some j
  | n :: ns, h => by
    unfold ixOf
    by_cases hn : n = i
    · exact ⟨0, if_pos hn⟩
    · rw [if_neg hn]
      rcases List.mem_cons.mp h with e | h
      · exact absurd e.symm hn
      · obtain ⟨j, hj⟩ := ixOf_mem h
        exact ⟨j + 1, by rw [hj]; rfl⟩
theorem at0_some {s : List Int} {j : Nat} {x : Int} (h : s[j]? = some x) : at0 s j = x := by
  unfold at0
  rw [List.getD_eq_getElem?_getD, h]; rfl
theorem chosen_ok {ws : List (List Int)} (hw : Ways ws) (vs s : List Int) (hv : vs.length = ws.length) (hv0 : ∀ x ∈ vs, 0 ≤ x) (hs : s.length = ws.length) {S : Nat → Int} (M : ∀ j, j < ws.length → Lot.Mk ws.length (bB ws) (at0 vs) S j) (hS : ∀ j, j < ws.length → at0 s j = S j) :
    W (d_l_chosen [bD ws, .lst (iL vs), .lst (iL s)]) fun r => ∃ o : List Int, r = .own (iL o) ∧ LotOk ws o ∧ o.length ≤ 20 ∧ sumv vs o = maxD0 s 0 := by
  have hcnt := hw.cnt
  have O := hw.ord
  have hlen : lenR [.at .f (.lst (iL s))] = some (.at .f (.int ws.length)) := by rw [lenL, iL_len, hs]
  unfold d_l_chosen phi_l_chosen
  rw [e_run, W_bind]
  have hro : ro0 8 [true, true, true] [bD ws, .lst (iL vs), .lst (iL s)] = [some (.at .f (bD ws)), some (.at .f (.lst (iL vs))), some (.at .f (.lst (iL s))), none, none, none, none, none] := rfl
  rw [hro]
  by_cases hn0 : ws.length = 0
  · have es : s = [] := List.eq_nil_of_length_eq_zero (by omega)
    subst es
    have h0 : lenR [.at .f (.lst [])] = some (.at .f (.int 0)) := rfl
    simp [h0, lstR, mkL, supAll]
    exact ⟨[], rfl, ⟨by simp, List.Pairwise.nil, by simp⟩, by simp, rfl⟩
  have hpos : 0 < ws.length := by omega
  rw [e_seq, W_bind]
  have hlen0 : ¬ ((ws.length : Int) = 0) := by omega
  simp only [e_sif, e_tst, e_f2, e_fA, e_cons, e_nil, e_var, e_c, List.getElem?_cons_succ, List.getElem?_cons_zero, mk_f, Option.bind_some, hlen, e_eqR, at_d, e_eqI, Option.map_some, e_bl, hlen0, decide_false, Bool.false_eq_true, if_false, e_nx, W_some]
  obtain ⟨m, hm1, hm2, hm3⟩ := max_some (s := s) (by intro e; subst e; simp at hs; omega)
  obtain ⟨a, ha⟩ := ixOf_mem hm2
  have ha2 := (ixOf_ok ha).1
  have han : a < ws.length := by
    have := (List.getElem?_eq_some_iff.mp ha2).1
    omega
  have eS : S a = m := by rw [← hS a han]; exact at0_some ha2
  have emax : maxR [.at .f (.lst (iL s))] = some (.at .f (.int m)) := by
    unfold maxR intsOf iL
    simp only [at_d, Fx.ints_map, Option.bind_some, hm1, Option.map_some]
  have eidx : idxR (.at .f (.lst (iL s))) (.at .f (.int m)) = some (.at .f (.int (a : Nat))) := by
    unfold idxR idxNs
    simp only [at_d, show ints? (iL s) = some s from Fx.ints_map s, Option.map_some, Option.bind_some, e_intOf, ha]
  refine w_seq (fun ρ => ρ = [some (.at .f (bD ws)), some (.at .f (.lst (iL vs))), some (.at .f (.lst (iL s))), some (.at .f (.int a)), none, none, none, none]) (by
    simp [fIdx, emax, eidx]) ?_
  rintro _ rfl
  refine w_seq (fun ρ => ρ = [some (.at .f (bD ws)), some (.at .f (.lst (iL vs))), some (.at .f (.lst (iL s))), some (.at .f (.int a)), some (.own (iL (nI [a]))), none, none, none]) (by
    simp [lstR, mkL, supAll, nI]) ?_
  rintro _ rfl
  let J : Nat → Ro → Prop := fun t ρ => ∃ (k : Nat) (l : List Nat) (x5 x6 x7 : Option Res), ρ = [some (.at .f (bD ws)), some (.at .f (.lst (iL vs))), some (.at .f (.lst (iL s))), some (.at .f (.int k)), some (.own (iL (nI l))), x5, x6, x7] ∧
    Chain ws.length (bB ws) (at0 vs) S a k l ∧ (l.length = t + 1 ∨ S k = at0 vs k)
  refine w_seq (J ws.length) ?_ ?_
  · refine w_for (items := rngItems 0 ws.length) (by simp [rng1R, hlen]; omega) ?_
    refine w_loop J (fun _ => False) ⟨a, [a], none, none, none, rfl, Chain.one O han, .inl rfl⟩ ?_ ?_ (fun _ h => h.elim)
    · rintro t ht _ ⟨k, l, x5, x6, x7, rfl, hC, hE⟩
      rw [rng_len] at ht
      simp only [rng_get, e_gaN, W_some, List.set_cons_succ, List.set_cons_zero, Int.zero_add]
      have hk := hC.lt k hC.mem
      obtain ⟨ahead, hah⟩ : ∃ ahead, ahead = (List.range ws.length).filter fun i => bB ws i k && decide (at0 s i = at0 s k - at0 vs k) := ⟨_, rfl⟩
      have mk : Res.mk .f (bD ws) = .at .f (bD ws) := rfl
      refine w_seq (fun ρ => ρ = [some (.at .f (bD ws)), some (.at .f (.lst (iL vs))), some (.at .f (.lst (iL s))), some (.at .f (.int k)), some (.own (iL (nI l))), some (.at .f (.int t)), some (.at .f (.lst (iL (nI ahead)))), x7]) ?_ ?_
      · simp [hlen, rng1R, -List.map_map]
        refine ⟨by omega, by omega, ?_⟩
        rw [lc_range (n := ws.length) (fun i => bB ws i k && decide (at0 s i = at0 s k - at0 vs k)) fun i hi => ?_]
        · simp [← hah]
        · have b1 := at_iL s (i := (i : Int)) rfl (by omega)
          have b2 := at_iL s (i := (k : Int)) rfl (by omega)
          have b3 := at_iL vs (i := (k : Int)) rfl (by omega)
          have ixb : ixR (.at .f (bD ws)) (.at .f (.int i)) = some (.at .f (rowB ws i)) := by unfold bD; rw [ixL, at_bD hi]; rfl
          have ixr : ixR (.at .f (rowB ws i)) (.at .f (.int k)) = some (.at .f (.bl (bB ws i k))) := by unfold rowB; rw [ixL, at_rowB hk]; rfl
          refine ⟨_, rfl, ?_, by simp [wipeR]⟩
          simp [wipeR, mk, ixb, ixr, truD, ixL, b1, b2, b3]
          cases bB ws i k with
          | true => simp
          | false => simp
      rintro _ rfl
      cases hh : ahead with
      | nil =>
        simp [lenL, nI]
        refine ⟨k, l, _, _, _, rfl, hC, .inr ?_⟩
        rcases (M k hk).eq with e | ⟨i, hi, hb, e⟩
        · exact e
        · have : i ∈ ahead := by
            rw [hah]
            refine List.mem_filter.mpr ⟨List.mem_range.mpr hi, ?_⟩
            rw [hb, Bool.true_and]
            exact decide_eq_true (by rw [hS i hi, hS k hk]; omega)
          rw [hh] at this
          cases this
      | cons q qs =>
        have hq : q ∈ ahead := by rw [hh]; exact List.mem_cons_self
        rw [hah] at hq
        obtain ⟨q1, q2⟩ := List.mem_filter.mp hq
        have q1 := List.mem_range.mp q1
        rw [Bool.and_eq_true] at q2
        have q3 := of_decide_eq_true q2.2
        rw [hS q q1, hS k hk] at q3
        have a0 : ∀ xs : List D, atI (D.int (q : Int) :: xs) 0 = some (.int q) := fun xs => by rw [atI_nat (i := 0) (n := 0) rfl (by simp)]; rfl
        have hl := hC.rank
        have hC2 := hC.snoc O q1 q2.1 q3
        simp [lenL, nI, ixL, a0]
        refine ⟨by omega, q, l ++ [q], _, _, _, by unfold nI; rw [List.map_append, iL_app]; rfl, hC2, ?_⟩
        rcases hE with e | e
        · left; simp; omega
        · right
          have z1 := (M q q1).lo
          have z2 := hv0 _ (at0_mem (s := vs) (k := q) (by omega))
          omega
    · rintro ρ hJ
      rw [rng_len] at hJ
      exact ⟨ρ, rfl, hJ⟩
  rintro _ ⟨k, l, x5, x6, x7, rfl, hC, hE⟩
  have hl := hC.rank
  have eE : S k = at0 vs k := by
    rcases hE with e | e
    · omega
    · exact e
  have hsum := hC.sum
  have hso : sortedR [.pk (iL (nI l))] = some (.own (iL (isort (nI l)))) := by
    unfold sortedR intsOf iL
    simp only [pk_d, Fx.ints_map, Option.bind_some]
    rw [if_pos (by unfold nI; rw [List.length_map]; omega)]
  simp [hso]
  have hp := isort_perm (nI l)
  refine ⟨isort (nI l), rfl, lot_of_chain hw hC, by rw [hp.length_eq]; unfold nI; rw [List.length_map]; omega, ?_⟩
  rw [perm_sumv hp, sumv_nI]
  unfold maxD0
  rw [hm1]
  show _ = m
  omega
end Lw

set_option Elab.async false
set_option linter.all false
set_option maxRecDepth 100000
namespace Lw
open PySem PySem.Spec PyProof.Rows L2 Fx
open Lot (at0)
/-! ### comprehensions over ints, with a test and an entry of its own -/
theorem lc_gen {γ : Res → Ro → Option Ro} {α : Ro → Option Bool} {φ : Ro → Option Res} {ρ : Ro} {f : Int → Bool} {e : Int → D} : ∀ {ns : List Int}, (∀ n ∈ ns, ∃ ρ1, γ (.at .f (.int n)) ρ = some ρ1 ∧ α ρ1 = some (f n) ∧ (f n = true → φ ρ1 = some (.at .f (e n)))) →
    lcD γ α φ ρ (ns.map fun n => .at .f (.int n)) = some ((ns.filter f).map e)
  | [], _ => rfl
  | n :: ns, h => by
    obtain ⟨ρ1, h1, h2, h3⟩ := h n List.mem_cons_self
    have ih := lc_gen (ns := ns) (fun m hm => h m (List.mem_cons_of_mem _ hm))
    rw [List.map_cons]
    unfold lcD
    rw [h1, Option.bind_some, h2, Option.bind_some, ih]
    cases hf : f n with
    | true => rw [if_pos rfl, h3 hf, List.filter_cons_of_pos hf]; rfl
    | false => rw [if_neg (by decide), List.filter_cons_of_neg (by rw [hf]; decide)]
theorem lc_all {γ : Res → Ro → Option Ro} {φ : Ro → Option Res} {ρ : Ro} {e : Int → D} {ns : List Int} (h : ∀ n ∈ ns, ∃ ρ1, γ (.at .f (.int n)) ρ = some ρ1 ∧ φ ρ1 = some (.at .f (e n))) :
    lcD γ fYes φ ρ (ns.map fun n => .at .f (.int n)) = some (ns.map e) := by
  refine (lc_gen (α := fYes) (f := fun _ => true) fun n hn => let ⟨ρ1, h1, h2⟩ := h n hn; ⟨ρ1, h1, rfl, fun _ => h2⟩).trans ?_
  congr 2
  exact List.filter_eq_self.mpr fun _ _ => rfl
/-- two for's: the inner list by the outer item -/
theorem lcDD_ok {γ : Res → Ro → Option Ro} {ι1 : Ro → Option (List Res)} {vs1 : List Nat} {γ1 : Res → Ro → Option Ro} {α1 : Ro → Option Bool} {φ : Ro → Option Res} {ρ : Ro} {g : Int → List D} : ∀ {ns : List Int},
    (∀ n ∈ ns, ∃ ρ1 its, γ (.at .f (.int n)) ρ = some ρ1 ∧ ι1 ρ1 = some its ∧ lcD γ1 α1 φ (wipeR ρ1 vs1) its = some (g n)) →
    lcDD γ fYes ι1 vs1 γ1 α1 φ ρ (ns.map fun n => .at .f (.int n)) = some (ns.flatMap g)
  | [], _ => rfl
  | n :: ns, h => by
    obtain ⟨ρ1, its, h1, h2, h3⟩ := h n List.mem_cons_self
    have ih := lcDD_ok (ns := ns) (fun m hm => h m (List.mem_cons_of_mem _ hm))
    rw [List.map_cons]
    unfold lcDD
    rw [h1, Option.bind_some, e_yes, Option.bind_some, if_pos rfl, h2, Option.bind_some, h3, Option.bind_some, ih]
    rfl
theorem allR_bl (bs : List Bool) : allR [.own (bs.map D.bl)] = some (.at .f (.bl (bs.all id))) := by
  unfold allR blsOf
  have : bls? (bs.map D.bl) = some bs := by
    induction bs with
    | nil => rfl
    | cons b bs ih => rw [List.map_cons, bls?, ih]; rfl
  simp only [own_d, this, Option.map_some]
theorem seq_sD (t : Bool) (a : List Int) : seqItems (.at .f (sD t a)) = some (a.map fun n => .at .f (.int n)) := by
  cases t
  · exact seq_lst
  · exact seq_tup
theorem ix_sD (t : Bool) (a : List Int) (i : Int) : ixR (.at .f (sD t a)) (.at .f (.int i)) = (atI (iL a) i).map (Res.mk .f) := by cases t <;> rfl
theorem len_sD (t : Bool) (a : List Int) : lenR [.at .f (sD t a)] = some (.at .f (.int a.length)) := by
  cases t
  · show some (Res.at .f (.int ((iL a).length : Nat))) = _; rw [iL_len]
  · show some (Res.at .f (.int ((iL a).length : Nat))) = _; rw [iL_len]
theorem drop1_sD (t : Bool) (a : List Int) : (slR (some 1) none (.at .f (sD t a))).bind asF = some (.at .f (sD t (a.drop 1))) := by
  cases t
  · show (slR (some 1) none (.at .f (.lst (iL a)))).bind asF = _
    rw [sl_lst (k := 1) (by decide)]; rfl
  · show (slR (some 1) none (.at .f (.tup (iL a)))).bind asF = _
    rw [sl_tup (k := 1) (by decide)]; rfl
theorem zip_sD (t u : Bool) (a b : List Int) : zipR [.at .f (sD t a), .at .f (sD u b)] = some ((a.zip b).map fun p => .at .f (.ktp [.int p.1, .int p.2])) := by
  have e : zipItems .f (iL a) (iL b) = (a.zip b).map fun p => .at .f (.ktp [.int p.1, .int p.2]) := by
    unfold zipItems iL
    rw [List.zip_map, List.map_map]
    rfl
  cases t <;> cases u <;> exact congrArg some e
/-- a comprehension over a zip -/
theorem lc_zip {γ : Res → Ro → Option Ro} {φ : Ro → Option Res} {ρ : Ro} {e : Int × Int → D} : ∀ {ps : List (Int × Int)}, (∀ p ∈ ps, ∃ ρ1, γ (.at .f (.ktp [.int p.1, .int p.2])) ρ = some ρ1 ∧ φ ρ1 = some (.at .f (e p))) →
    lcD γ fYes φ ρ (ps.map fun p => .at .f (.ktp [.int p.1, .int p.2])) = some (ps.map e)
  | [], _ => rfl
  | p :: ps, h => by
    obtain ⟨ρ1, h1, h2⟩ := h p List.mem_cons_self
    have ih := lc_zip (ps := ps) (fun m hm => h m (List.mem_cons_of_mem _ hm))
    rw [List.map_cons]
    unfold lcD
    rw [h1, Option.bind_some, e_yes, Option.bind_some, if_pos rfl, h2, Option.bind_some, ih]
    rfl
theorem mk_sDf (t : Bool) (a : List Int) : Res.mk .f (sD t a) = .at .f (sD t a) := by cases t <;> rfl
theorem adj_asc : ∀ {o : List Int}, (∀ p ∈ o.zip (o.drop 1), p.1 < p.2) ↔ o.Pairwise (· < ·)
  | [] => by simp
  | [a] => by simp
  | a :: b :: o => by
    have ih := adj_asc (o := b :: o)
    rw [List.pairwise_cons, ← ih]
    constructor
    · intro h
      have h1 : a < b := h (a, b) (by simp)
      have h2 : ∀ p ∈ (b :: o).zip ((b :: o).drop 1), p.1 < p.2 := fun p hp => h p (by
        show p ∈ (a, b) :: ((b :: o).zip o)
        exact List.mem_cons_of_mem _ hp)
      refine ⟨fun x hx => ?_, h2⟩
      rcases List.mem_cons.mp hx with e | hx
      · omega
      · have := (List.pairwise_cons.mp (ih.mp h2)).1 x hx
        omega
    · intro h p hp
      have hp : p ∈ (a, b) :: ((b :: o).zip o) := hp
      rcases List.mem_cons.mp hp with e | hp
      · subst e; exact h.1 b (by simp)
      · exact h.2 p hp

theorem flat_len {α β : Type} {g : α → List β} {B : Nat} : ∀ {l : List α}, (∀ x ∈ l, (g x).length ≤ B) → (l.flatMap g).length ≤ l.length * B
  | [], _ => by simp
  | a :: l, h => by
    have h1 := h a List.mem_cons_self
    have h2 := flat_len (l := l) fun x hx => h x (List.mem_cons_of_mem _ hx)
    rw [List.flatMap_cons, List.length_append, List.length_cons, Nat.add_mul]
    omega
/-! ### the program's look at the lot -/
theorem is_lot_ok {ws : List (List Int)} (hw : Ways ws) (t : Bool) (o : List Int) (ho : o.length ≤ 100) : W (d_is_lot [.lst (ws.map tD), sD t o]) fun r => ∃ k : Bool, r = .at .f (.bl k) ∧ (k = true ↔ LotOk ws o) := by
  have hcnt := hw.cnt
  have hro : ro0 5 [true, true] [.lst (ws.map tD), sD t o] = [some (.at .f (.lst (ws.map tD))), some (.at .f (sD t o)), none, none, none] := rfl
  have hlen : lenR [.at .f (.lst (ws.map tD))] = some (.at .f (.int ws.length)) := by rw [lenL, List.length_map]
  unfold d_is_lot phi_is_lot
  rw [e_run, W_bind, hro]
  have h1 : lcD (gaN 2) fYes (fCh (cmpR leP) (cmpR ltP) (fC (.int 0)) (fVar 2) (fA lenR (fCons (fVar 0) fNil))) [some (.at .f (.lst (ws.map tD))), some (.at .f (sD t o)), none, none, none] (o.map fun n => .at .f (.int n)) = some ((o.map fun x => decide (0 ≤ x) && decide (x < (ws.length : Int))).map D.bl) := by
    rw [List.map_map]
    refine lc_all fun x hx => ⟨_, rfl, ?_⟩
    simp [fCh, hlen]
    by_cases h0 : 0 ≤ x
    · simp [h0]
    · simp [h0]
  have h2 : lcD (gaT 2 (gaC (gaN 3) (gaC (gaN 4) ga0))) fYes (f2 (cmpR ltP) (fVar 3) (fVar 4)) [some (.at .f (.lst (ws.map tD))), some (.at .f (sD t o)), none, none, none] ((o.zip (o.drop 1)).map fun p => .at .f (.ktp [.int p.1, .int p.2])) = some (((o.zip (o.drop 1)).map fun p => decide (p.1 < p.2)).map D.bl) := by
    rw [List.map_map]
    refine lc_zip fun p hp => ⟨_, rfl, ?_⟩
    simp
  have hz : (o.zip (o.drop 1)).length ≤ 100000 := by rw [List.length_zip]; omega
  have e1 : (fA allR (fCons (fLc (iSq (fVar 1)) [2] (gaN 2) fYes (fCh (cmpR leP) (cmpR ltP) (fC (.int 0)) (fVar 2) (fA lenR (fCons (fVar 0) fNil)))) fNil)) [some (.at .f (.lst (ws.map tD))), some (.at .f (sD t o)), none, none, none] = some (.at .f (.bl ((o.map fun x => decide (0 ≤ x) && decide (x < (ws.length : Int))).all id))) := by
    have hz' : (o.map fun n => Res.at .f (.int n)).length ≤ 100000 := by rw [List.length_map]; omega
    have eι : iSq (fVar 1) [some (.at .f (.lst (ws.map tD))), some (.at .f (sD t o)), none, none, none] = some (o.map fun n => Res.at .f (.int n)) := by
      simp [mk_sDf, seq_sD]
    rw [e_fA, e_cons, e_lc, eι, Option.bind_some, if_pos hz', show wipeR [some (Res.at .f (.lst (ws.map tD))), some (.at .f (sD t o)), none, none, none] [2] = [some (.at .f (.lst (ws.map tD))), some (.at .f (sD t o)), none, none, none] from rfl, h1]
    exact allR_bl _
  have e2 : (fA allR (fCons (fLc (iA zipR (fCons (fVar 1) (fCons (fFz (fSl (fVar 1) (fSm (fC (.int 1))) fNo)) fNil))) [3, 4] (gaT 2 (gaC (gaN 3) (gaC (gaN 4) ga0))) fYes (f2 (cmpR ltP) (fVar 3) (fVar 4))) fNil)) [some (.at .f (.lst (ws.map tD))), some (.at .f (sD t o)), none, none, none] = some (.at .f (.bl (((o.zip (o.drop 1)).map fun p => decide (p.1 < p.2)).all id))) := by
    have hz' : ((o.zip (o.drop 1)).map fun p => Res.at .f (.ktp [.int p.1, .int p.2])).length ≤ 100000 := by rw [List.length_map]; exact hz
    have eι : iA zipR (fCons (fVar 1) (fCons (fFz (fSl (fVar 1) (fSm (fC (.int 1))) fNo)) fNil)) [some (.at .f (.lst (ws.map tD))), some (.at .f (sD t o)), none, none, none] = some ((o.zip (o.drop 1)).map fun p => Res.at .f (.ktp [.int p.1, .int p.2])) := by
      have d1 := drop1_sD t o
      simp [mk_sDf, d1, zip_sD]
    rw [e_fA, e_cons, e_lc, eι, Option.bind_some, if_pos hz', show wipeR [some (Res.at .f (.lst (ws.map tD))), some (.at .f (sD t o)), none, none, none] [3, 4] = [some (.at .f (.lst (ws.map tD))), some (.at .f (sD t o)), none, none, none] from rfl, h2]
    exact allR_bl _
  have q1 : ((o.map fun x => decide (0 ≤ x) && decide (x < (ws.length : Int))).all id) = true ↔ ∀ x ∈ o, 0 ≤ x ∧ x < ws.length := by
    rw [List.all_map, List.all_eq_true]
    exact ⟨fun h x hx => by simpa using h x hx, fun h x hx => by simpa using h x hx⟩
  have q2 : (((o.zip (o.drop 1)).map fun p => decide (p.1 < p.2)).all id) = true ↔ o.Pairwise (· < ·) := by
    rw [← adj_asc, List.all_map, List.all_eq_true]
    exact ⟨fun h x hx => by simpa using h x hx, fun h x hx => by simpa using h x hx⟩
  rw [e_seq, W_bind, e_sif, e_not, e_tru, e1]
  cases hb1 : ((o.map fun x => decide (0 ≤ x) && decide (x < (ws.length : Int))).all id) with
  | false =>
    simp [truD]
    intro h
    rw [q1.mpr h.rng] at hb1
    cases hb1
  | true =>
    have r1 := q1.mp hb1
    simp only [Option.bind_some, at_d, truD, Option.map_some, Bool.not_true, Bool.false_eq_true, if_false, e_nx, W_some]
    rw [e_seq, W_bind, e_sif, e_not, e_tru, e2]
    cases hb2 : (((o.zip (o.drop 1)).map fun p => decide (p.1 < p.2)).all id) with
    | false =>
      simp [truD]
      intro h
      rw [q2.mpr h.asc] at hb2
      cases hb2
    | true =>
      have r2 := q2.mp hb2
      simp only [Option.bind_some, at_d, truD, Option.map_some, Bool.not_true, Bool.false_eq_true, if_false, e_nx, W_some]
      have e3 : lcDD (gaN 3) fYes (iSq (fVar 1)) [4] (gaN 4) (fTst (f2 (cmpR ltP) (fVar 3) (fVar 4))) (fOrV (fA (callR [true, true, true] d_comes_before) (fCons (fVar 0) (fCons (fVar 3) (fCons (fVar 4) fNil)))) (fA (callR [true, true, true] d_comes_before) (fCons (fVar 0) (fCons (fVar 4) (fCons (fVar 3) fNil)))))
          [some (.at .f (.lst (ws.map tD))), some (.at .f (sD t o)), none, none, none] (o.map fun n => .at .f (.int n)) = some ((o.flatMap fun x => (o.filter fun y => decide (x < y)).map fun y => (bB ws x.toNat y.toNat || bB ws y.toNat x.toNat)).map D.bl) := by
        rw [lcDD_ok (g := fun x => ((o.filter fun y => decide (x < y)).map fun y => D.bl (bB ws x.toNat y.toNat || bB ws y.toNat x.toNat))) fun x hx => ?_]
        · rw [List.map_flatMap]
          congr 2
          funext x
          rw [List.map_map]
          rfl
        · refine ⟨_, _, rfl, show _ = some (o.map fun n => Res.at .f (.int n)) by simp [mk_sDf, seq_sD], ?_⟩
          refine lc_gen fun y hy => ⟨_, rfl, by simp [wipeR], fun _ => ?_⟩
          obtain ⟨x0, x1⟩ := r1 x hx
          obtain ⟨y0, y1⟩ := r1 y hy
          obtain ⟨i, rfl⟩ := Int.eq_ofNat_of_zero_le x0
          obtain ⟨j, rfl⟩ := Int.eq_ofNat_of_zero_le y0
          have c1 := cb_ok hw (i := i) (j := j) (by omega) (by omega)
          have c2 := cb_ok hw (i := j) (j := i) (by omega) (by omega)
          simp only [wipeR, List.set_cons_succ, List.set_cons_zero, fOrV, e_fA, e_cons, e_nil, e_var, List.getElem?_cons_succ, List.getElem?_cons_zero, mk_f, Option.bind_some, e_callR, fits, isF, Bool.and_self, if_true, List.map_cons, List.map_nil, at_d, c1, c2, Int.toNat_natCast]
          cases bB ws i j <;> rfl
      have hlen2 : ((o.flatMap fun x => (o.filter fun y => decide (x < y)).map fun y => (bB ws x.toNat y.toNat || bB ws y.toNat x.toNat)).map D.bl).length ≤ 90000 := by
        rw [List.length_map]
        have z := flat_len (l := o) (B := 100) (g := fun x => (o.filter fun y => decide (x < y)).map fun y => (bB ws x.toNat y.toNat || bB ws y.toNat x.toNat)) fun x _ => by
          rw [List.length_map]
          have := List.length_filter_le (fun y => decide (x < y)) o
          omega
        have : o.length * 100 ≤ 100 * 100 := Nat.mul_le_mul_right _ ho
        omega
      have e4 : (fA allR (fCons (fLc2 (iSq (fVar 1)) [3, 4] (gaN 3) fYes (iSq (fVar 1)) [4] (gaN 4) (fTst (f2 (cmpR ltP) (fVar 3) (fVar 4))) (fOrV (fA (callR [true, true, true] d_comes_before) (fCons (fVar 0) (fCons (fVar 3) (fCons (fVar 4) fNil)))) (fA (callR [true, true, true] d_comes_before) (fCons (fVar 0) (fCons (fVar 4) (fCons (fVar 3) fNil)))))) fNil)) [some (.at .f (.lst (ws.map tD))), some (.at .f (sD t o)), none, none, none] =
          some (.at .f (.bl ((o.flatMap fun x => (o.filter fun y => decide (x < y)).map fun y => (bB ws x.toNat y.toNat || bB ws y.toNat x.toNat)).all id))) := by
        have eι : iSq (fVar 1) [some (.at .f (.lst (ws.map tD))), some (.at .f (sD t o)), none, none, none] = some (o.map fun n => Res.at .f (.int n)) := by
          simp [mk_sDf, seq_sD]
        rw [e_fA, e_cons]
        unfold fLc2
        rw [eι, Option.bind_some, show wipeR [some (Res.at .f (.lst (ws.map tD))), some (.at .f (sD t o)), none, none, none] [3, 4] = [some (.at .f (.lst (ws.map tD))), some (.at .f (sD t o)), none, none, none] from rfl, e3, Option.bind_some, if_pos hlen2]
        exact allR_bl _
      rw [e_ret, e4]
      simp only [Option.map_some, W_some, e_end1]
      refine ⟨_, rfl, ?_⟩
      rw [List.all_eq_true]
      constructor
      · intro h
        refine ⟨r1, r2, fun a b ha hb hab => ?_⟩
        have z := h (bB ws a b || bB ws b a) (List.mem_flatMap.mpr ⟨(a : Int), ha, List.mem_map.mpr ⟨(b : Int), List.mem_filter.mpr ⟨hb, decide_eq_true (by omega)⟩, by simp⟩⟩)
        simpa using z
      · intro h b hb
        obtain ⟨x, hx, hb⟩ := List.mem_flatMap.mp hb
        obtain ⟨y, hy, rfl⟩ := List.mem_map.mp hb
        obtain ⟨hy2, hxy⟩ := List.mem_filter.mp hy
        have hxy := of_decide_eq_true hxy
        obtain ⟨x0, x1⟩ := r1 x hx
        obtain ⟨y0, y1⟩ := r1 y hy2
        obtain ⟨i, rfl⟩ := Int.eq_ofNat_of_zero_le x0
        obtain ⟨j, rfl⟩ := Int.eq_ofNat_of_zero_le y0
        simpa using h.cmp i j hx hy2 (by omega)
end Lw

set_option Elab.async false
set_option linter.all false
set_option maxRecDepth 100000
namespace Lw
open PySem PySem.Spec PyProof.Rows L2 Fx
open Lot (at0)
/-- right marks -/
structure MarkOk (ws : List (List Int)) (vs f : List Int) : Prop where
  len : f.length = ws.length
  lo : ∀ j, j < ws.length → at0 vs j ≤ at0 f j
  up : ∀ i j, i < ws.length → j < ws.length → bB ws i j = true → at0 f i ≤ at0 f j - at0 vs j
theorem zip_at {a b : List Int} (hl : a.length = b.length) : (∀ p ∈ a.zip b, p.1 ≤ p.2) ↔ ∀ j, j < a.length → at0 a j ≤ at0 b j := by
  constructor
  · intro h j hj
    have e : (a.zip b)[j]? = some (at0 a j, at0 b j) := by
      rw [List.getElem?_zip_eq_some]
      unfold at0
      rw [List.getD_eq_getElem?_getD, List.getD_eq_getElem?_getD, List.getElem?_eq_getElem hj, List.getElem?_eq_getElem (show j < b.length by omega)]
      exact ⟨rfl, rfl⟩
    exact h _ (List.mem_of_getElem? e)
  · intro h p hp
    obtain ⟨j, hj⟩ := List.mem_iff_getElem?.mp hp
    obtain ⟨e1, e2⟩ := List.getElem?_zip_eq_some.mp hj
    have := h j (List.getElem?_eq_some_iff.mp e1).1
    rw [at0_some e1, at0_some e2] at this
    exact this
theorem nI_range (n : Nat) : nI (List.range n) = (List.range n).map fun (k : Nat) => (k : Int) := rfl
theorem marks_ok {ws : List (List Int)} (hw : Ways ws) (t u : Bool) (vs f : List Int) (hv : vs.length = ws.length) (hf : f.length ≤ 1000) : W (d_are_marks [.lst (ws.map tD), sD t vs, sD u f]) fun r => ∃ k : Bool, r = .at .f (.bl k) ∧ (k = true ↔ MarkOk ws vs f) := by
  have hcnt := hw.cnt
  have hlen : lenR [.at .f (.lst (ws.map tD))] = some (.at .f (.int ws.length)) := by rw [lenL, List.length_map]
  have hlenF := len_sD u f
  unfold d_are_marks phi_are_marks
  rw [e_run, W_bind]
  have hro : ro0 8 [true, true, true] [.lst (ws.map tD), sD t vs, sD u f] = [some (.at .f (.lst (ws.map tD))), some (.at .f (sD t vs)), some (.at .f (sD u f)), none, none, none, none, none] := rfl
  rw [hro]
  have h2 : lcD (gaT 2 (gaC (gaN 4) (gaC (gaN 5) ga0))) fYes (f2 (cmpR leP) (fVar 4) (fVar 5)) [some (.at .f (.lst (ws.map tD))), some (.at .f (sD t vs)), some (.at .f (sD u f)), none, none, none, none, none] ((vs.zip f).map fun p => .at .f (.ktp [.int p.1, .int p.2])) = some (((vs.zip f).map fun p => decide (p.1 ≤ p.2)).map D.bl) := by
    rw [List.map_map]
    refine lc_zip fun p hp => ⟨_, rfl, ?_⟩
    simp
  have e2 : (fA allR (fCons (fLc (iA zipR (fCons (fVar 1) (fCons (fVar 2) fNil))) [4, 5] (gaT 2 (gaC (gaN 4) (gaC (gaN 5) ga0))) fYes (f2 (cmpR leP) (fVar 4) (fVar 5))) fNil)) [some (.at .f (.lst (ws.map tD))), some (.at .f (sD t vs)), some (.at .f (sD u f)), none, none, none, none, none] = some (.at .f (.bl (((vs.zip f).map fun p => decide (p.1 ≤ p.2)).all id))) := by
    have hz' : ((vs.zip f).map fun p => Res.at .f (.ktp [.int p.1, .int p.2])).length ≤ 100000 := by rw [List.length_map, List.length_zip]; omega
    have eι : iA zipR (fCons (fVar 1) (fCons (fVar 2) fNil)) [some (.at .f (.lst (ws.map tD))), some (.at .f (sD t vs)), some (.at .f (sD u f)), none, none, none, none, none] = some ((vs.zip f).map fun p => Res.at .f (.ktp [.int p.1, .int p.2])) := by
      simp [mk_sDf, zip_sD]
    rw [e_fA, e_cons, e_lc, eι, Option.bind_some, if_pos hz', show wipeR [some (Res.at .f (.lst (ws.map tD))), some (.at .f (sD t vs)), some (.at .f (sD u f)), none, none, none, none, none] [4, 5] = [some (.at .f (.lst (ws.map tD))), some (.at .f (sD t vs)), some (.at .f (sD u f)), none, none, none, none, none] from rfl, h2]
    exact allR_bl _
  have q2 : (((vs.zip f).map fun p => decide (p.1 ≤ p.2)).all id) = true ↔ ∀ p ∈ vs.zip f, p.1 ≤ p.2 := by
    rw [List.all_map, List.all_eq_true]
    exact ⟨fun h x hx => by simpa using h x hx, fun h x hx => by simpa using h x hx⟩
  rw [e_seq, W_bind, e_sif, e_or, e_not, e_tru, e2]
  by_cases hl : f.length = ws.length
  rotate_left
  · have hne : ¬ ((f.length : Int) = ws.length) := by omega
    simp [mk_sDf, hlenF, hlen, hne]
    exact fun h => hl h.len
  have heq : ((f.length : Int) = ws.length) := by omega
  simp only [e_tst, e_f2, e_fA, e_cons, e_nil, e_var, List.getElem?_cons_succ, List.getElem?_cons_zero, mk_f, Option.bind_some, hlenF, hlen, e_neR, at_d, e_eqI, Option.map_some, e_bl, heq, decide_true, Bool.not_true, Bool.false_eq_true, if_false, truD]
  cases hb2 : (((vs.zip f).map fun p => decide (p.1 ≤ p.2)).all id) with
  | false =>
    simp
    intro h
    rw [q2.mpr ((zip_at (by omega)).mpr fun j hj => h.lo j (by omega))] at hb2
    cases hb2
  | true =>
    have r2 := (zip_at (by omega)).mp (q2.mp hb2)
    simp only [Bool.not_true, Bool.false_eq_true, if_false, e_nx, W_some]
    refine w_seq (fun ρ => ρ = [some (.at .f (.lst (ws.map tD))), some (.at .f (sD t vs)), some (.at .f (sD u f)), some (.at .f (.rng 0 ws.length)), none, none, none, none]) (by
      simp [hlen, rngVR]; omega) ?_
    rintro _ rfl
    have mkr : Res.mk .f (.rng 0 (ws.length : Int)) = .at .f (.rng 0 ws.length) := rfl
    have eι : ∀ (x0 x1 x2 x4 x5 x6 x7 : Option Res), iRgV (fVar 3) [x0, x1, x2, some (.at .f (.rng 0 ws.length)), x4, x5, x6, x7] = some ((nI (List.range ws.length)).map fun x => Res.at .f (.int x)) := by
      intro x0 x1 x2 x4 x5 x6 x7
      rw [← rng_ints]
      have hb : (-1000000 ≤ (0 : Int) ∧ (0 : Int) ≤ 1000000) ∧ (-1000000 ≤ (ws.length : Int) ∧ (ws.length : Int) ≤ 1000000) := by omega
      unfold iRgV
      simp only [e_var, List.getElem?_cons_succ, List.getElem?_cons_zero, mkr, Option.bind_some, at_d]
      rw [if_pos hb]
      congr 2
    obtain ⟨X, hX⟩ : ∃ X, X = (nI (List.range ws.length)).flatMap fun x => ((nI (List.range ws.length)).filter fun y => bB ws x.toNat y.toNat).map fun y => decide (at0 f x.toNat ≤ at0 f y.toNat - at0 vs y.toNat) := ⟨_, rfl⟩
    have e3 : lcDD (gaN 6) fYes (iRgV (fVar 3)) [7] (gaN 7) (fTru (fA (callR [true, true, true] d_comes_before) (fCons (fVar 0) (fCons (fVar 6) (fCons (fVar 7) fNil))))) (f2 (cmpR geP) (f2 subR (f2 ixR (fVar 2) (fVar 7)) (f2 ixR (fVar 1) (fVar 7))) (f2 ixR (fVar 2) (fVar 6)))
        [some (.at .f (.lst (ws.map tD))), some (.at .f (sD t vs)), some (.at .f (sD u f)), some (.at .f (.rng 0 ws.length)), none, none, none, none] ((nI (List.range ws.length)).map fun x => .at .f (.int x)) = some (X.map D.bl) := by
      rw [lcDD_ok (g := fun x => ((nI (List.range ws.length)).filter fun y => bB ws x.toNat y.toNat).map fun y => D.bl (decide (at0 f x.toNat ≤ at0 f y.toNat - at0 vs y.toNat))) fun x hx => ?_]
      · rw [hX, List.map_flatMap]
        congr 2
        funext x
        rw [List.map_map]
        rfl
      · refine ⟨_, _, rfl, eι _ _ _ _ _ _ _, ?_⟩
        obtain ⟨i, hi, rfl⟩ := nI_mem.mp hx
        have hi := List.mem_range.mp hi
        refine lc_gen fun y hy => ⟨_, rfl, ?_, fun _ => ?_⟩
        · obtain ⟨j, hj, rfl⟩ := nI_mem.mp hy
          have hj := List.mem_range.mp hj
          have c1 := cb_ok hw hi hj
          simp [wipeR, fits, isF, c1, truD]
        · obtain ⟨j, hj, rfl⟩ := nI_mem.mp hy
          have hj := List.mem_range.mp hj
          have a1 := at_iL f (i := (j : Int)) rfl (by omega)
          have a2 := at_iL vs (i := (j : Int)) rfl (by omega)
          have a3 := at_iL f (i := (i : Int)) rfl (by omega)
          simp [wipeR, mk_sDf, ix_sD, a1, a2, a3]
    have hlen2 : (X.map D.bl).length ≤ 90000 := by
      rw [List.length_map, hX]
      have z := flat_len (l := nI (List.range ws.length)) (B := 20) (g := fun x => ((nI (List.range ws.length)).filter fun y => bB ws x.toNat y.toNat).map fun y => decide (at0 f x.toNat ≤ at0 f y.toNat - at0 vs y.toNat)) fun x _ => by
        rw [List.length_map]
        have := List.length_filter_le (fun y => bB ws x.toNat y.toNat) (nI (List.range ws.length))
        unfold nI at this
        rw [List.length_map, List.length_range] at this
        unfold nI
        omega
      have h3 : (nI (List.range ws.length)).length = ws.length := by unfold nI; rw [List.length_map, List.length_range]
      rw [h3] at z
      have : ws.length * 20 ≤ 20 * 20 := Nat.mul_le_mul_right _ hcnt
      omega
    rw [e_ret, e_fA, e_cons]
    unfold fLc2
    rw [eι, Option.bind_some, show wipeR [some (Res.at .f (.lst (ws.map tD))), some (.at .f (sD t vs)), some (.at .f (sD u f)), some (.at .f (.rng 0 ws.length)), none, none, none, none] [6, 7] = [some (.at .f (.lst (ws.map tD))), some (.at .f (sD t vs)), some (.at .f (sD u f)), some (.at .f (.rng 0 ws.length)), none, none, none, none] from rfl, e3, Option.bind_some, if_pos hlen2, Option.bind_some, e_nil, Option.bind_some, Option.bind_some, allR_bl]
    simp only [Option.map_some, W_some, e_end1]
    refine ⟨_, rfl, ?_⟩
    rw [List.all_eq_true, hX]
    constructor
    · intro h
      refine ⟨hl, fun j hj => r2 j (by omega), fun i j hi hj hb => ?_⟩
      have z := h (decide (at0 f i ≤ at0 f j - at0 vs j)) (List.mem_flatMap.mpr ⟨(i : Int), nI_mem.mpr ⟨i, List.mem_range.mpr hi, rfl⟩, List.mem_map.mpr ⟨(j : Int), List.mem_filter.mpr ⟨nI_mem.mpr ⟨j, List.mem_range.mpr hj, rfl⟩, by simpa using hb⟩, by simp⟩⟩)
      exact of_decide_eq_true z
    · intro h b hb
      obtain ⟨x, hx, hb⟩ := List.mem_flatMap.mp hb
      obtain ⟨y, hy, rfl⟩ := List.mem_map.mp hb
      obtain ⟨hy2, hxy⟩ := List.mem_filter.mp hy
      obtain ⟨i, hi, rfl⟩ := nI_mem.mp hx
      obtain ⟨j, hj, rfl⟩ := nI_mem.mp hy2
      exact decide_eq_true (h.up i j (List.mem_range.mp hi) (List.mem_range.mp hj) (by simpa using hxy))
end Lw

set_option Elab.async false
set_option linter.all false
set_option maxRecDepth 100000
namespace Lw
open PySem PySem.Spec PyProof.Rows L2 Fx
open Lot (at0)
def Good (ws : List (List Int)) (vs o f : List Int) : Prop := LotOk ws o ∧ MarkOk ws vs f ∧ sumv vs o = maxD0 f 0
def rD (b : Bool) (ps : List (Bool × List Int)) : D := if b then .tup (ps.map fun p => sD p.1 p.2) else .lst (ps.map fun p => sD p.1 p.2)
theorem lc_items {γ : Res → Ro → Option Ro} {φ : Ro → Option Res} {ρ : Ro} {α : Type} {x : α → Res} {e : α → D} : ∀ {ps : List α}, (∀ p ∈ ps, ∃ ρ1, γ (x p) ρ = some ρ1 ∧ φ ρ1 = some (.at .f (e p))) →
    lcD γ fYes φ ρ (ps.map x) = some (ps.map e)
  | [], _ => rfl
  | p :: ps, h => by
    obtain ⟨ρ1, h1, h2⟩ := h p List.mem_cons_self
    have ih := lc_items (ps := ps) (fun m hm => h m (List.mem_cons_of_mem _ hm))
    rw [List.map_cons]
    unfold lcD
    rw [h1, Option.bind_some, e_yes, Option.bind_some, if_pos rfl, h2, Option.bind_some, ih]
    rfl
theorem rD_at (b : Bool) (ps : List (Bool × List Int)) : Res.mk .f (rD b ps) = .at .f (rD b ps) := by cases b <;> rfl
theorem rD_seq (b : Bool) (ps : List (Bool × List Int)) : seqItems (.at .f (rD b ps)) = some (ps.map fun p => .at .f (sD p.1 p.2)) := by
  cases b
  · show some ((ps.map fun p => sD p.1 p.2).map (Res.mk .f)) = _
    rw [List.map_map]; congr 2; funext p; exact mk_sDf _ _
  · show some ((ps.map fun p => sD p.1 p.2).map (Res.mk .f)) = _
    rw [List.map_map]; congr 2; funext p; exact mk_sDf _ _
theorem tupOf_sD (t : Bool) (a : List Int) : tupOfR [.at .f (sD t a)] = some (.at .f (tD a)) := by cases t <;> rfl
theorem def_sD (t : Bool) (f : List Int) : defR maxD0 (.at .f (sD t f)) (.at .f (.int 0)) = some (.at .f (.int (maxD0 f 0))) := by
  unfold defR
  cases t
  · show ((ints? (iL f)).bind fun ns => _) = _
    rw [show ints? (iL f) = some f from Fx.ints_map f]; rfl
  · show ((ints? (iL f)).bind fun ns => _) = _
    rw [show ints? (iL f) = some f from Fx.ints_map f]; rfl
theorem sumR_iL (s : List Int) : sumR [.own (iL s)] = some (.at .f (.int s.sum)) := by
  unfold sumR intsOf iL
  simp only [own_d, Fx.ints_map, Option.map_some]
theorem lc_sum {ws : List (List Int)} {vs o : List Int} (t : Bool) (hv : vs.length = ws.length) (h : LotOk ws o) {γ : Res → Ro → Option Ro} {φ : Ro → Option Res} {ρ : Ro} (hp : ∀ x, ∃ ρ1, γ (.at .f (.int x)) ρ = some ρ1 ∧ φ ρ1 = ixR (.at .f (sD t vs)) (.at .f (.int x))) :
    lcD γ fYes φ ρ (o.map fun n => .at .f (.int n)) = some (iL (o.map fun x => at0 vs x.toNat)) := by
  unfold iL
  rw [List.map_map]
  refine lc_all fun x hx => ?_
  obtain ⟨ρ1, h1, h2⟩ := hp x
  refine ⟨ρ1, h1, ?_⟩
  obtain ⟨x0, x1⟩ := h.rng x hx
  obtain ⟨i, rfl⟩ := Int.eq_ofNat_of_zero_le x0
  rw [h2, ix_sD, at_iL vs (i := (i : Int)) rfl (by omega)]
  rfl
theorem holds_ok {ws : List (List Int)} (hw : Ways ws) (b : Bool) (ps : List (Bool × List Int)) (hps : ws = ps.map Prod.snd) (t1 t2 t3 : Bool) (vs o f : List Int) (hv : vs.length = ws.length) (ho : o.length ≤ 100) (hf : f.length ≤ 1000) :
    W (d_lot_holds [rD b ps, sD t1 vs, sD t2 o, sD t3 f]) fun r => ∃ k : Bool, r = .at .f (.bl k) ∧ (k = true ↔ Good ws vs o f) := by
  have hcnt := hw.cnt
  have hpl : ps.length = ws.length := by rw [hps, List.length_map]
  unfold d_lot_holds phi_lot_holds
  rw [e_run, W_bind]
  have hro : ro0 7 [true, true, true, true] [rD b ps, sD t1 vs, sD t2 o, sD t3 f] = [some (.at .f (rD b ps)), some (.at .f (sD t1 vs)), some (.at .f (sD t2 o)), some (.at .f (sD t3 f)), none, none, none] := rfl
  rw [hro]
  obtain ⟨r1, e1, k1, rfl, hk1⟩ := is_lot_ok hw t2 o ho
  obtain ⟨r2, e2, k2, rfl, hk2⟩ := marks_ok hw t1 t3 vs f hv hf
  refine w_seq (fun ρ => ρ = [some (.at .f (rD b ps)), some (.at .f (sD t1 vs)), some (.at .f (sD t2 o)), some (.at .f (sD t3 f)), some (.at .f (.lst (ws.map tD))), none, none]) ?_ ?_
  · have hz : (ps.map fun p => Res.at .f (sD p.1 p.2)).length ≤ 100000 := by rw [List.length_map]; omega
    have el : lcD (gaN 5) fYes (fA tupOfR (fCons (fVar 5) fNil)) [some (.at .f (rD b ps)), some (.at .f (sD t1 vs)), some (.at .f (sD t2 o)), some (.at .f (sD t3 f)), none, none, none] (ps.map fun p => Res.at .f (sD p.1 p.2)) = some (ws.map tD) := by
      rw [hps, List.map_map]
      refine lc_items fun p hp => ⟨_, rfl, ?_⟩
      simp [mk_sDf, tupOf_sD]
    rw [e_asg, e_fz, e_lc, e_iSq, e_var]
    simp only [List.getElem?_cons_succ, List.getElem?_cons_zero, rD_at, Option.bind_some, rD_seq, if_pos hz, wipeR, List.set_cons_succ, List.set_cons_zero, el, Option.map_some, e_asF2, e_slotA1, W_some]
    exact ⟨_, rfl, rfl⟩
  rintro _ rfl
  rw [e_seq, W_bind]
  have c1 : (fTru (fA (callR [true, true] d_is_lot) (fCons (fVar 4) (fCons (fVar 2) fNil)))) [some (.at .f (rD b ps)), some (.at .f (sD t1 vs)), some (.at .f (sD t2 o)), some (.at .f (sD t3 f)), some (.at .f (.lst (ws.map tD))), none, none] = some k1 := by
    simp [fits, isF, mk_sDf, e1, truD]
  have c2 : (fTru (fA (callR [true, true, true] d_are_marks) (fCons (fVar 4) (fCons (fVar 1) (fCons (fVar 3) fNil))))) [some (.at .f (rD b ps)), some (.at .f (sD t1 vs)), some (.at .f (sD t2 o)), some (.at .f (sD t3 f)), some (.at .f (.lst (ws.map tD))), none, none] = some k2 := by
    simp [fits, isF, mk_sDf, e2, truD]
  rw [e_sif, e_or, e_not, e_not, c1, c2]
  cases k1 with
  | false =>
    simp
    exact fun h => absurd (hk1.mpr h.1) (by decide)
  | true =>
    cases k2 with
    | false =>
      simp
      exact fun h => absurd (hk2.mpr h.2.1) (by decide)
    | true =>
      have g1 := hk1.mp rfl
      have g2 := hk2.mp rfl
      simp only [Option.map_some, Option.bind_some, Bool.not_true, Bool.false_eq_true, if_false, e_nx, W_some]
      have hz : (o.map fun n => Res.at .f (.int n)).length ≤ 100000 := by rw [List.length_map]; omega
      have el : lcD (gaN 6) fYes (f2 ixR (fVar 1) (fVar 6)) [some (.at .f (rD b ps)), some (.at .f (sD t1 vs)), some (.at .f (sD t2 o)), some (.at .f (sD t3 f)), some (.at .f (.lst (ws.map tD))), none, none] (o.map fun n => .at .f (.int n)) = some (iL (o.map fun x => at0 vs x.toNat)) :=
        lc_sum t1 hv g1 fun x => ⟨_, rfl, by simp [mk_sDf]⟩
      rw [e_ret, e_f2, e_fA, e_cons, e_lc, e_iSq, e_var]
      simp only [List.getElem?_cons_succ, List.getElem?_cons_zero, mk_sDf, Option.bind_some, seq_sD, if_pos hz, wipeR, List.set_cons_succ, List.set_cons_zero, el, Option.map_some, e_nil, sumR_iL, fDef, e_f2, e_var, e_c, def_sD, e_eqR, at_d, e_eqI, W_some, e_end1]
      refine ⟨_, rfl, ?_⟩
      rw [decide_eq_true_iff]
      exact ⟨fun h => ⟨g1, g2, h⟩, fun h => h.2.2⟩
end Lw

set_option Elab.async false
set_option linter.all false
set_option maxRecDepth 100000
namespace Lw
open PySem PySem.Spec PyProof.Rows L2 Fx
open Lot (at0)
theorem max0_cons {f : List Int} (h : ∀ y ∈ f, 0 ≤ y) : maxR [.own (.int 0 :: iL f)] = some (.at .f (.int (maxD0 f 0))) := by
  have e : (0 :: f).max? = some (maxD0 f 0) := by
    cases f with
    | nil => rfl
    | cons a f =>
      obtain ⟨m, h1, h2, h3⟩ := max_some (s := a :: f) (by simp)
      unfold maxD0
      rw [h1]
      show (0 :: a :: f).max? = some m
      rw [List.max?_eq_some_iff]
      refine ⟨List.mem_cons_of_mem _ h2, fun y hy => ?_⟩
      rcases List.mem_cons.mp hy with e | hy
      · have := h m h2; omega
      · exact h3 y hy
  unfold maxR intsOf
  have : ints? (.int 0 :: iL f) = some (0 :: f) := Fx.ints_map (0 :: f)
  simp only [own_d, this, Option.bind_some, e, Option.map_some]
theorem add0 (f : List Int) (hf : f.length ≤ 1000) : addR (.own [.int 0]) (.at .f (.lst (iL f))) = some (.own (.int 0 :: iL f)) := by
  have h : ([D.int 0] : List D).length + (iL f).length ≤ 100000 := by rw [iL_len]; simp; omega
  show (if ([D.int 0] : List D).length + (iL f).length ≤ 100000 then some (mkL _ _) else none) = _
  rw [if_pos h]; rfl
theorem at_asc {o : List Int} (h : o.Pairwise (· < ·)) {i j : Nat} (hij : i < j) (hj : j < o.length) : at0 o i < at0 o j := by
  have z := List.pairwise_iff_getElem.mp h i j (by omega) hj hij
  unfold at0
  rw [List.getD_eq_getElem?_getD, List.getD_eq_getElem?_getD, List.getElem?_eq_getElem (show i < o.length by omega), List.getElem?_eq_getElem hj]
  exact z
theorem asc_at : ∀ {o : List Int}, (∀ k, k + 1 < o.length → at0 o k < at0 o (k + 1)) → o.Pairwise (· < ·)
  | [], _ => List.Pairwise.nil
  | [a], _ => List.pairwise_singleton _ _
  | a :: b :: o, h => by
    have ih := asc_at (o := b :: o) fun k hk => h (k + 1) (by simpa using hk)
    refine List.pairwise_cons.mpr ⟨fun x hx => ?_, ih⟩
    have h0 : a < b := h 0 (by simp)
    rcases List.mem_cons.mp hx with e | hx
    · omega
    · have := (List.pairwise_cons.mp ih).1 x hx
      omega
theorem mem_at0 {o : List Int} {x : Int} (h : x ∈ o) : ∃ k, k < o.length ∧ at0 o k = x := by
  obtain ⟨k, hk, rfl⟩ := List.mem_iff_getElem.mp h
  exact ⟨k, hk, at0_some (List.getElem?_eq_getElem hk)⟩
theorem lc_rangeE {γ : Res → Ro → Option Ro} {α : Ro → Option Bool} {φ : Ro → Option Res} {ρ : Ro} {n : Nat} (f : Nat → Bool) (e : Nat → Int) (h : ∀ k, k < n → ∃ ρ1, γ (.at .f (.int k)) ρ = some ρ1 ∧ α ρ1 = some (f k) ∧ (f k = true → φ ρ1 = some (.at .f (.int (e k))))) :
    lcD γ α φ ρ (rngItems 0 n) = some (iL (((List.range n).filter f).map e)) := by
  rw [rng_ints, lc_gen (f := fun x => f x.toNat) (e := fun x => .int (e x.toNat)) fun x hx => ?_]
  · unfold nI iL
    rw [List.filter_map, List.map_map, List.map_map]
    rfl
  · obtain ⟨k, hk, rfl⟩ := List.mem_map.mp hx
    exact h k (List.mem_range.mp hk)
/-- any two are comparable -/
def cmp (ws : List (List Int)) (a b : Int) : Prop := bB ws a.toNat b.toNat = true ∨ bB ws b.toNat a.toNat = true
theorem due_ok {ws : List (List Int)} (hw : Ways ws) (vs o f : List Int) (hv : vs.length = ws.length) (hv0 : ∀ x ∈ vs, 0 ≤ x) (ho : o.length ≤ 100) (hf : f.length ≤ 1000) :
    W (d_l_due [bD ws, .lst (iL vs), .lst (iL o), .lst (iL f)]) fun r => ∃ k : Bool, r = .at .f (.bl k) ∧ (k = true ↔ Good ws vs o f) := by
  have hcnt := hw.cnt
  have hlV : lenR [.at .f (.lst (iL vs))] = some (.at .f (.int ws.length)) := by rw [lenL, iL_len, hv]
  have hlO : lenR [.at .f (.lst (iL o))] = some (.at .f (.int o.length)) := by rw [lenL, iL_len]
  have hlF : lenR [.at .f (.lst (iL f))] = some (.at .f (.int f.length)) := by rw [lenL, iL_len]
  unfold d_l_due phi_l_due
  rw [e_run, W_bind]
  have hro : ro0 8 [true, true, true, true] [bD ws, .lst (iL vs), .lst (iL o), .lst (iL f)] = [some (.at .f (bD ws)), some (.at .f (.lst (iL vs))), some (.at .f (.lst (iL o))), some (.at .f (.lst (iL f))), none, none, none, none] := rfl
  rw [hro]
  have mkb : Res.mk .f (bD ws) = .at .f (bD ws) := rfl
  have ixb : ∀ i : Nat, i < ws.length → ixR (.at .f (bD ws)) (.at .f (.int i)) = some (.at .f (rowB ws i)) := fun i hi => by unfold bD; rw [ixL, at_bD hi]; rfl
  have ixr : ∀ i j : Nat, j < ws.length → ixR (.at .f (rowB ws i)) (.at .f (.int j)) = some (.at .f (.bl (bB ws i j))) := fun i j hj => by unfold rowB; rw [ixL, at_rowB hj]; rfl
  -- the first loop
  rw [e_seq, W_bind]
  let J1 : Nat → Ro → Prop := fun i ρ => ∃ x4, ρ = [some (.at .f (bD ws)), some (.at .f (.lst (iL vs))), some (.at .f (.lst (iL o))), some (.at .f (.lst (iL f))), x4, none, none, none] ∧
    (∀ k, k < i → 0 ≤ at0 o k ∧ at0 o k < ws.length) ∧ ∀ k, k + 1 < i → at0 o k < at0 o (k + 1)
  refine w_for (items := rngItems 0 o.length) (by simp [rng1R, hlO]; omega) ?_
  refine w_loop J1 (fun r => r = .at .f (.bl false) ∧ ¬ LotOk ws o) ⟨none, rfl, fun k h => absurd h (Nat.not_lt_zero _), fun k h => absurd h (Nat.not_lt_zero _)⟩ ?_ ?_ ?_
  · rintro k hk _ ⟨x4, rfl, j1, j2⟩
    rw [rng_len] at hk
    simp only [rng_get, e_gaN, W_some, List.set_cons_succ, List.set_cons_zero, Int.zero_add]
    have a1 := at_iL o (i := (k : Int)) rfl hk
    have omem : at0 o k ∈ o := at0_mem hk
    cases k with
    | zero =>
      have a1 : atI (iL o) 0 = some (.int (at0 o 0)) := a1
      simp [ixL, a1, hlV, W_ite]
      refine ⟨fun h0 h => absurd (h.rng _ omem).1 (by omega), fun h0 => ⟨fun h1 h => absurd (h.rng _ omem).2 (by omega), fun h1 => ⟨_, rfl, fun k hk => ?_, fun k hk => by omega⟩⟩⟩
      have : k = 0 := by omega
      subst this
      exact ⟨h0, h1⟩
    | succ k =>
      have a0 := at_iL o (i := (k : Int) + 1 - 1) (k := k) (by omega) (by omega)
      have a1 : atI (iL o) ((k : Int) + 1) = some (.int (at0 o (k + 1))) := a1
      have a0' : atI (iL o) (k : Int) = some (.int (at0 o k)) := at_iL o rfl (by omega)
      have hk0 : (0 : Int) < (k : Int) + 1 := by omega
      simp [ixL, a1, a0, a0', hlV, W_ite, hk0]
      refine ⟨fun h0 h => absurd (h.rng _ omem).1 (by omega), fun h0 => ⟨fun h1 h => absurd (h.rng _ omem).2 (by omega), fun h1 => ⟨fun h2 h => ?_, fun h2 => ⟨_, rfl, fun m hm => ?_, fun m hm => ?_⟩⟩⟩⟩
      · have := at_asc h.asc (i := k) (j := k + 1) (by omega) (by omega)
        omega
      · by_cases e : m = k + 1
        · subst e; exact ⟨h0, h1⟩
        · exact j1 m (by omega)
      · by_cases e : m = k
        · subst e; exact h2
        · exact j2 m (by omega)
  · rintro ρ ⟨x4, rfl, j1, j2⟩
    rw [rng_len] at j1 j2
    have r2 := asc_at j2
    have r1 : ∀ x ∈ o, 0 ≤ x ∧ x < ws.length := fun x hx => by
      obtain ⟨k, hk, rfl⟩ := mem_at0 hx
      exact j1 k hk
    show W (sSeq _ _ _) _
    -- the second loop
    rw [e_seq, W_bind]
    let J2 : Nat → Ro → Prop := fun i ρ => ∃ x4 x5, ρ = [some (.at .f (bD ws)), some (.at .f (.lst (iL vs))), some (.at .f (.lst (iL o))), some (.at .f (.lst (iL f))), x4, x5, none, none] ∧
      ∀ b, b < i → ∀ a, a < b → cmp ws (at0 o a) (at0 o b)
    refine w_for (items := rngItems 0 o.length) (by simp [rng1R, hlO]; omega) ?_
    refine w_loop J2 (fun r => r = .at .f (.bl false) ∧ ¬ LotOk ws o) ⟨x4, none, rfl, fun k h => absurd h (Nat.not_lt_zero _)⟩ ?_ ?_ ?_
    · rintro k hk _ ⟨x4, x5, rfl, j⟩
      rw [rng_len] at hk
      simp only [rng_get, e_gaN, W_some, List.set_cons_succ, List.set_cons_zero, Int.zero_add]
      have hcut : slR none (some (k : Int)) (.at .f (.lst (iL o))) = some (.own (iL (o.take k))) := by
        show some (mkL .f (cut (iL o) _ _)) = _
        rw [cut_take, iL_take]; rfl
      have hlt : (o.take k).length = k := by rw [List.length_take]; omega
      refine w_for (items := (o.take k).map fun n => .at .f (.int n)) (by simp [hcut, seq_lst]) ?_
      refine w_loop (fun i ρ => ∃ x5, ρ = [some (.at .f (bD ws)), some (.at .f (.lst (iL vs))), some (.at .f (.lst (iL o))), some (.at .f (.lst (iL f))), some (.at .f (.int k)), x5, none, none] ∧ ∀ a, a < i → cmp ws (at0 o a) (at0 o k)) (fun r => r = .at .f (.bl false) ∧ ¬ LotOk ws o) ⟨x5, rfl, fun k h => absurd h (Nat.not_lt_zero _)⟩ ?_ ?_ ?_
      · rintro m hm _ ⟨x5, rfl, j'⟩
        rw [List.length_map, hlt] at hm
        have em : (o.take k)[m]'(by omega) = at0 o m := by
          rw [List.getElem_take]
          exact (at0_some (List.getElem?_eq_getElem (by omega))).symm
        have omem : at0 o m ∈ o := at0_mem (by omega)
        have okem : at0 o k ∈ o := at0_mem (by omega)
        obtain ⟨x0, x1⟩ := r1 _ omem
        obtain ⟨y0, y1⟩ := r1 _ okem
        obtain ⟨a, ha⟩ := Int.eq_ofNat_of_zero_le x0
        obtain ⟨b, hb⟩ := Int.eq_ofNat_of_zero_le y0
        have c1 := at_iL o (i := (k : Int)) rfl hk
        rw [hb] at c1
        have i1 := ixb a (by omega)
        have i2 := ixr a b (by omega)
        have i3 := ixb b (by omega)
        have i4 := ixr b a (by omega)
        have lt : at0 o m < at0 o k := at_asc r2 hm hk
        simp only [List.getElem_map, em, ha, e_gaN, W_some, List.set_cons_succ, List.set_cons_zero]
        have cc : cmp ws (at0 o m) (at0 o k) ↔ (bB ws a b = true ∨ bB ws b a = true) := by
          unfold cmp
          rw [ha, hb]
          simp
        have ok : (bB ws a b = true ∨ bB ws b a = true) → ∃ x5, [some (Res.at .f (bD ws)), some (.at .f (.lst (iL vs))), some (.at .f (.lst (iL o))), some (.at .f (.lst (iL f))), some (.at .f (.int k)), some (.at .f (.int a)), none, none] = [some (.at .f (bD ws)), some (.at .f (.lst (iL vs))), some (.at .f (.lst (iL o))), some (.at .f (.lst (iL f))), some (.at .f (.int k)), x5, none, none] ∧ ∀ a, a < m + 1 → cmp ws (at0 o a) (at0 o k) := fun h => ⟨_, rfl, fun q hq => by
          by_cases e : q = m
          · subst e; exact cc.mpr h
          · exact j' q (by omega)⟩
        cases h1 : bB ws a b with
        | true =>
          rw [h1] at i2
          simp [mkb, i1, i2, ixL, c1, truD]
          exact fun q hq => by
            obtain ⟨_, _, h⟩ := ok (.inl h1)
            exact h q hq
        | false =>
          rw [h1] at i2
          cases h2 : bB ws b a with
          | true =>
            rw [h2] at i4
            simp [mkb, i1, i2, i3, i4, ixL, c1, truD]
            exact fun q hq => by
              obtain ⟨_, _, h⟩ := ok (.inr h2)
              exact h q hq
          | false =>
            rw [h2] at i4
            simp [mkb, i1, i2, i3, i4, ixL, c1, truD]
            intro h
            have := h.cmp a b (by rw [← ha]; exact omem) (by rw [← hb]; exact okem) (by omega)
            rw [h1, h2] at this
            rcases this with z | z <;> cases z
      · rintro ρ ⟨x5, rfl, j'⟩
        rw [List.length_map, hlt] at j'
        refine ⟨_, _, rfl, fun b hb a hab => ?_⟩
        by_cases e : b = k
        · subst e; exact j' a hab
        · exact j b (by omega) a hab
      · rintro r h
        exact h
    · rintro ρ ⟨x4, x5, rfl, j⟩
      rw [rng_len] at j
      have g1 : LotOk ws o := ⟨r1, r2, fun a b ha hb hab => by
        obtain ⟨p, hp, ep⟩ := mem_at0 ha
        obtain ⟨q, hq, eq⟩ := mem_at0 hb
        have hpq : p < q := by
          rcases Nat.lt_trichotomy p q with z | z | z
          · exact z
          · subst z; omega
          · have := at_asc r2 z hp; omega
        have := j q hq p hpq
        unfold cmp at this
        rw [ep, eq] at this
        simpa using this⟩
      show W (sSeq _ _ _) _
      rw [e_seq, W_bind]
      by_cases hl : f.length = ws.length
      rotate_left
      · have hne : ¬ ((f.length : Int) = ws.length) := by omega
        simp [hlF, hlV, hne]
        exact fun h => hl h.2.1.len
      have heq : ((f.length : Int) = ws.length) := by omega
      simp only [e_sif, e_tst, e_f2, e_fA, e_cons, e_nil, e_var, List.getElem?_cons_succ, List.getElem?_cons_zero, mk_f, Option.bind_some, hlF, hlV, e_neR, at_d, e_eqI, Option.map_some, e_bl, heq, decide_true, Bool.not_true, Bool.false_eq_true, if_false, e_nx, W_some]
      show W (sSeq _ _ _) _
      rw [e_seq, W_bind]
      let J3 : Nat → Ro → Prop := fun i ρ => ∃ x5 x6 x7, ρ = [some (.at .f (bD ws)), some (.at .f (.lst (iL vs))), some (.at .f (.lst (iL o))), some (.at .f (.lst (iL f))), x4, x5, x6, x7] ∧
        ∀ j, j < i → at0 vs j ≤ at0 f j ∧ ∀ i, i < ws.length → bB ws i j = true → at0 f i ≤ at0 f j - at0 vs j
      refine w_for (items := rngItems 0 ws.length) (by simp [rng1R, hlV]; omega) ?_
      refine w_loop J3 (fun r => r = .at .f (.bl false) ∧ ¬ MarkOk ws vs f) ⟨x5, none, none, rfl, fun k h => absurd h (Nat.not_lt_zero _)⟩ ?_ ?_ ?_
      · rintro j hj _ ⟨x5, x6, x7, rfl, jj⟩
        rw [rng_len] at hj
        simp only [rng_get, e_gaN, W_some, List.set_cons_succ, List.set_cons_zero, Int.zero_add]
        have fj := at_iL f (i := (j : Int)) rfl (by omega)
        have vj := at_iL vs (i := (j : Int)) rfl (by omega)
        obtain ⟨early, hE⟩ : ∃ early, early = (List.range ws.length).filter fun i => bB ws i j && decide (at0 f j - at0 vs j < at0 f i) := ⟨_, rfl⟩
        refine w_seq (fun ρ => ρ = [some (.at .f (bD ws)), some (.at .f (.lst (iL vs))), some (.at .f (.lst (iL o))), some (.at .f (.lst (iL f))), x4, x5, some (.at .f (.int j)), some (.at .f (.lst (iL (early.map (at0 f)))))]) ?_ ?_
        · simp [hlV, rng1R, -List.map_map]
          refine ⟨by omega, by omega, ?_⟩
          rw [lc_rangeE (n := ws.length) (fun i => bB ws i j && decide (at0 f j - at0 vs j < at0 f i)) (at0 f) fun i hi => ?_]
          · simp [← hE]
          · have fi := at_iL f (i := (i : Int)) rfl (by omega)
            have i1 := ixb i hi
            have i2 := ixr i j hj
            refine ⟨_, rfl, ?_, fun _ => by simp [wipeR, ixL, fi]⟩
            simp [wipeR, mkb, i1, i2, truD, ixL, fi, fj, vj]
            cases bB ws i j with
            | true => simp
            | false => simp
        rintro _ rfl
        have hlE : lenR [.at .f (.lst (iL (early.map (at0 f))))] = some (.at .f (.int early.length)) := by rw [lenL, iL_len, List.length_map]
        simp [ixL, fj, vj, hlE, W_ite]
        refine ⟨fun h0 h => absurd (h.lo j hj) (by omega), fun h0 => ⟨fun h1 h => ?_, fun h1 => ⟨_, _, _, rfl, fun q hq => ?_⟩⟩⟩
        · cases hh : early with
          | nil => rw [hh] at h1; simp at h1
          | cons q qs =>
            have hq : q ∈ early := by rw [hh]; exact List.mem_cons_self
            rw [hE] at hq
            obtain ⟨q1, q2⟩ := List.mem_filter.mp hq
            rw [Bool.and_eq_true] at q2
            have := h.up q j (List.mem_range.mp q1) hj q2.1
            have := of_decide_eq_true q2.2
            omega
        · by_cases e : q = j
          · subst e
            refine ⟨h0, fun i hi hb => ?_⟩
            refine Decidable.byContradiction fun hn => ?_
            have : i ∈ early := by
              rw [hE]
              refine List.mem_filter.mpr ⟨List.mem_range.mpr hi, ?_⟩
              rw [hb, Bool.true_and]
              exact decide_eq_true (by omega)
            rw [h1] at this
            cases this
          · exact jj q (by omega)
      · rintro ρ ⟨x5, x6, x7, rfl, jj⟩
        rw [rng_len] at jj
        have g2 : MarkOk ws vs f := ⟨hl, fun j hj => (jj j hj).1, fun i j hi hj hb => (jj j hj).2 i hi hb⟩
        have f0 : ∀ y ∈ f, 0 ≤ y := fun y hy => by
          obtain ⟨k, hk, rfl⟩ := mem_at0 hy
          have a1 := g2.lo k (by omega)
          have a2 := hv0 _ (at0_mem (s := vs) (k := k) (by omega))
          omega
        have hz : (o.map fun n => Res.at .f (.int n)).length ≤ 100000 := by rw [List.length_map]; omega
        have el : lcD (gaN 4) fYes (f2 ixR (fVar 1) (fVar 4)) [some (.at .f (bD ws)), some (.at .f (.lst (iL vs))), some (.at .f (.lst (iL o))), some (.at .f (.lst (iL f))), none, x5, x6, x7] (o.map fun n => .at .f (.int n)) = some (iL (o.map fun x => at0 vs x.toNat)) :=
          lc_sum false hv g1 fun x => ⟨_, rfl, by simp⟩
        have ea := add0 f hf
        show W (sRet _ _) _
        rw [e_ret, e_f2, e_fA, e_cons, e_lc, e_iSq, e_var]
        simp only [List.getElem?_cons_succ, List.getElem?_cons_zero, mk_f, Option.bind_some, seq_lst, if_pos hz, wipeR, List.set_cons_succ, List.set_cons_zero, el, Option.map_some, e_nil, sumR_iL, e_fA, e_cons, e_f2, e_c, e_var, lstR, List.length_cons, List.length_nil, List.map_cons, List.map_nil, at_d, supAll, mkL]
        simp [ea, max0_cons f0, supAll]
        by_cases hs : sumv vs o = maxD0 f 0
        · exact .inr ⟨hs, g1, g2, hs⟩
        · exact .inl ⟨hs, fun g => hs g.2.2⟩
      · rintro r ⟨rfl, h⟩
        simp
        exact fun g => h g.2.1
    · rintro r ⟨rfl, h⟩
      simp
      exact fun g => h g.1
  · rintro r ⟨rfl, h⟩
    simp
    exact fun g => h g.1
end Lw

set_option Elab.async false
set_option linter.all false
set_option maxRecDepth 100000
namespace Lw
open PySem PySem.Spec PyProof.Rows L2 Fx
open Lot (at0)
theorem cut_mid (a : List Int) {k m : Nat} (h1 : k ≤ m) (h2 : m ≤ a.length) : cut (iL a) (some (k : Int)) (some (m : Int)) = iL ((a.drop k).take (m - k)) := by
  unfold cut
  rw [HT.sIx_nat, HT.sIx_nat, iL_len, Nat.min_eq_left h2, Nat.min_eq_left (by omega), iL_drop, iL_take]
theorem sl_mid {a : List Int} {i j : Int} {k m : Nat} (ei : i = k) (ej : j = m) (h1 : k ≤ m) (h2 : m ≤ a.length) : slR (some i) (some j) (.at .f (.lst (iL a))) = some (.own (iL ((a.drop k).take (m - k)))) := by
  subst ei; subst ej
  show some (mkL .f (cut (iL a) _ _)) = _
  rw [cut_mid a h1 h2]; rfl
/-- the ends of a pair ascend -/
theorem T_up {w : Wld} (hw : WldOk w) (g : Nat) : ∀ (d p : Nat) (hp : p < w.T.length) (hg : g < w.T[p].length), w.n - p = d → w.T[p][g] ≠ none → p ≤ g := by
  intro d
  induction d using Nat.strongRecOn with
  | _ d ih =>
    intro p hp hg hd hne
    rcases hw.T.nx p g hp hg hne with e | ⟨x, hx, es, q, hq, hqg, ee, hqn⟩
    · omega
    · obtain ⟨r, h1, h2, h3, h4, h5⟩ := hw.rd x hx
      have hqp : p < q := by omega
      have hpn : p < w.n := by rw [← hw.T.len]; exact hp
      have := ih (w.n - q) (by omega) q hq hqg rfl hqn
      omega
theorem rows_up {w : Wld} (hw : WldOk w) {a b r s : Nat} (hab : a ≤ b) (ha : RowAt w.ws r a) (hb : RowAt w.ws s b) : r ≤ s := by
  refine Decidable.byContradiction fun h => ?_
  obtain ⟨a1, a2, a3⟩ := ha
  obtain ⟨b1, b2, b3⟩ := hb
  have := fst_mono hw.wd.pos (i := s + 1) (j := r) (by omega) (by omega)
  omega
theorem Ways.of {w : Wld} (hw : WldOk w) {r m : Nat} {ls : List (List Int)} (hc : ls.length ≤ 20) (hm : m ≤ 12) (h : ∀ l ∈ ls, Rw w r l ∧ l.length = m) : Ways ls :=
  ⟨hc, ⟨m, hm, fun l hl => (h l hl).2⟩, fun l hl => asc_of_rows hw (h l hl).1.rows, fun a ha b hb => alg_of_rows hw (h a ha).1.rows (h b hb).1.rows⟩
theorem ways_ok (w : Wld) (hw : WldOk w) (cell : Int) (pl : List Int) (hpl : pl.length = 5) : W (d_l_ways [w.d, .int cell, .lst (iL pl)]) fun res => ∃ ls : List (List Int), res = .own (ls.map tD) ∧ Ways ls := by
  have hw1 := hw.wd.ne
  have hw2 := hw.wd.le
  obtain ⟨_, hrow, rows, rfl, hrl, hra⟩ := rows_ok w.ws hw.wd
  obtain ⟨_, hfk, fs, rfl, hfl, hfm⟩ := forked_ok w hw
  have b0 := at_iL pl (i := 0) (k := 0) rfl (by omega)
  have b1 := at_iL pl (i := 1) (k := 1) rfl (by omega)
  have b2 := at_iL pl (i := 2) (k := 2) rfl (by omega)
  have b3 := at_iL pl (i := 3) (k := 3) rfl (by omega)
  have b4 := at_iL pl (i := 4) (k := 4) rfl (by omega)
  generalize at0 pl 0 = p0 at b0
  generalize at0 pl 1 = p1 at b1
  generalize at0 pl 2 = p2 at b2
  generalize at0 pl 3 = p3 at b3
  generalize at0 pl 4 = p4 at b4
  have e : Res.mk .f w.d = .at .f w.d := rfl
  unfold d_l_ways phi_l_ways
  rw [e_run, W_bind]
  obtain ⟨P, hP⟩ : ∃ P, P = D.lst (iL pl) := ⟨_, rfl⟩
  have mkP : Res.mk .f P = .at .f P := by rw [hP]; rfl
  have ixP : ∀ i : Int, ixR (.at .f P) (.at .f (.int i)) = (atI (iL pl) i).map (Res.mk .f) := fun i => by rw [hP]; rfl
  have hro : ro0 17 [true, true, true] [w.d, .int cell, .lst (iL pl)] = [some (.at .f w.d), some (.at .f (.int cell)), some (.at .f P), none, none, none, none, none, none, none, none, none, none, none, none, none, none] := by rw [hP]; rfl
  rw [hro]
  refine w_seq (fun ρ => ρ = [some (.at .f w.d), some (.at .f (.int cell)), some (.at .f P), some (.at .f (.lst (iL rows))), none, none, none, none, none, none, none, none, none, none, none, none, none]) (by
    simp [fits, isF, hrow, e, wd_0]) ?_
  rintro _ rfl
  refine w_seq (fun ρ => ρ = [some (.at .f w.d), some (.at .f (.int cell)), some (.at .f P), some (.at .f (.lst (iL rows))), some (.at .f (.lst (fs.map pD))), none, none, none, none, none, none, none, none, none, none, none, none]) (by
    simp [fits, isF, hfk, e]) ?_
  rintro _ rfl
  have hlw : lenR [.at .f (.lst (iL w.ws))] = some (.at .f (.int w.ws.length)) := by rw [lenL, iL_len]
  have hlf : lenR [.at .f (.lst (fs.map pD))] = some (.at .f (.int fs.length)) := by rw [lenL, List.length_map]
  have q0 := Int.emod_nonneg p1 (show (w.ws.length : Int) ≠ 0 by omega)
  have q1 := Int.emod_lt_of_pos p1 (show (0 : Int) < w.ws.length by omega)
  obtain ⟨r0, er0⟩ := Int.eq_ofNat_of_zero_le q0
  refine w_seq (fun ρ => ρ = [some (.at .f w.d), some (.at .f (.int cell)), some (.at .f P), some (.at .f (.lst (iL rows))), some (.at .f (.lst (fs.map pD))), some (.at .f (.int r0)), none, none, none, none, none, none, none, none, none, none, none]) (by
    simp [mkP, ixP, b1, e, wd_0, hlw, er0]; omega) ?_
  rintro _ rfl
  have q2 := Int.emod_nonneg p2 (show ((w.ws.length : Int) - r0) ≠ 0 by omega)
  have q3 := Int.emod_lt_of_pos p2 (show (0 : Int) < (w.ws.length : Int) - r0 by omega)
  obtain ⟨m0, em0⟩ := Int.eq_ofNat_of_zero_le q2
  refine w_seq (fun ρ => ρ = [some (.at .f w.d), some (.at .f (.int cell)), some (.at .f P), some (.at .f (.lst (iL rows))), some (.at .f (.lst (fs.map pD))), some (.at .f (.int r0)), some (.at .f (.int (1 + (m0 : Int)))), none, none, none, none, none, none, none, none, none, none]) (by
    simp [mkP, ixP, b2, e, wd_0, hlw, em0]; omega) ?_
  rintro _ rfl
  refine w_seq (fun ρ => ρ = [some (.at .f w.d), some (.at .f (.int cell)), some (.at .f P), some (.at .f (.lst (iL rows))), some (.at .f (.lst (fs.map pD))), some (.at .f (.int r0)), some (.at .f (.int (1 + (m0 : Int)))), some (.at .f .non), none, none, none, none, none, none, none, none, none]) (by simp) ?_
  rintro _ rfl
  refine w_seq (fun ρ => ∃ (r m : Nat) (o : Option Pr), r < w.ws.length ∧ 0 < m ∧ m ≤ 12 ∧ (∀ q, o = some q → q ∈ w.ps ∧ RowAt w.ws r q.s) ∧ ρ = [some (.at .f w.d), some (.at .f (.int cell)), some (.at .f P), some (.at .f (.lst (iL rows))), some (.at .f (.lst (fs.map pD))), some (.at .f (.int r)), some (.at .f (.int m)), some (.at .f (oP o)), none, none, none, none, none, none, none, none, none]) ?_ ?_
  · have stay : ∃ (r m : Nat) (o : Option Pr), r < w.ws.length ∧ 0 < m ∧ m ≤ 12 ∧ (∀ q, o = some q → q ∈ w.ps ∧ RowAt w.ws r q.s) ∧ [some (Res.at .f w.d), some (.at .f (.int cell)), some (.at .f P), some (.at .f (.lst (iL rows))), some (.at .f (.lst (fs.map pD))), some (.at .f (.int r0)), some (.at .f (.int (1 + (m0 : Int)))), some (.at .f .non), none, none, none, none, none, none, none, none, none] = [some (.at .f w.d), some (.at .f (.int cell)), some (.at .f P), some (.at .f (.lst (iL rows))), some (.at .f (.lst (fs.map pD))), some (.at .f (.int r)), some (.at .f (.int m)), some (.at .f (oP o)), none, none, none, none, none, none, none, none, none] :=
      ⟨r0, 1 + m0, none, by omega, by omega, by omega, fun q h => (by cases h), by rw [show ((1 + m0 : Nat) : Int) = 1 + (m0 : Int) by omega]; rfl⟩
    by_cases hf0 : (0 : Int) < fs.length
    rotate_left
    · have hf1 : fs = [] := List.eq_nil_of_length_eq_zero (by omega)
      subst hf1
      obtain ⟨r, m, o, h1, h2, h3, h4, h5⟩ := stay
      refine W.of (a := .nx [some (.at .f w.d), some (.at .f (.int cell)), some (.at .f P), some (.at .f (.lst (iL rows))), some (.at .f (.lst ([].map pD))), some (.at .f (.int r0)), some (.at .f (.int (1 + (m0 : Int)))), some (.at .f .non), none, none, none, none, none, none, none, none, none]) ?_ ⟨_, rfl, r, m, o, h1, h2, h3, h4, h5⟩
      simp [lenL]
    · by_cases hp0 : 0 < p0 % 4
      rotate_left
      · obtain ⟨r, m, o, h1, h2, h3, h4, h5⟩ := stay
        refine W.of (a := .nx [some (.at .f w.d), some (.at .f (.int cell)), some (.at .f P), some (.at .f (.lst (iL rows))), some (.at .f (.lst (fs.map pD))), some (.at .f (.int r0)), some (.at .f (.int (1 + (m0 : Int)))), some (.at .f .non), none, none, none, none, none, none, none, none, none]) ?_ ⟨_, rfl, r, m, o, h1, h2, h3, h4, h5⟩
        simp [hlf, mkP, ixP, b0, hf0, hp0]
      · have k0 := Int.emod_nonneg p1 (show (fs.length : Int) ≠ 0 by omega)
        have k1 := Int.emod_lt_of_pos p1 hf0
        obtain ⟨i, ei⟩ := Int.eq_ofNat_of_zero_le k0
        have hi : i < fs.length := by omega
        obtain ⟨q, eq⟩ : ∃ q, fs[i] = q := ⟨_, rfl⟩
        have hqp : q ∈ w.ps := hfm q (by rw [← eq]; exact List.getElem_mem hi)
        have ap : atI (fs.map pD) (i : Int) = some (pD q) := by
          rw [atI_nat rfl (by rw [List.length_map]; exact hi), List.getElem?_map, List.getElem?_eq_getElem hi, eq]; rfl
        obtain ⟨h1, h2, h3⟩ := hw.ps q hqp
        have hqs : q.s < rows.length := by
          have := hw.hn
          rw [hw.T.len] at h1
          omega
        have hqg : q.g < rows.length := by
          have := hw.hn
          rw [hw.T.row _ (List.getElem_mem h1)] at h2
          omega
        have hup := T_up hw q.g _ q.s h1 h2 rfl h3
        obtain ⟨r, er, hr⟩ := hra q.s hqs
        obtain ⟨r2, er2, hr2⟩ := hra q.g hqg
        have hrr := rows_up hw hup hr hr2
        have a1 : atI (iL rows) q.s = some (.int r) := by
          rw [atI_nat rfl (by rw [iL_len]; exact hqs), iL_get?, List.getElem?_eq_getElem hqs, er]; rfl
        have a2 : atI (iL rows) q.g = some (.int r2) := by
          rw [atI_nat rfl (by rw [iL_len]; exact hqg), iL_get?, List.getElem?_eq_getElem hqg, er2]; rfl
        have hr2l := hr2.1
        refine W.of (a := .nx [some (.at .f w.d), some (.at .f (.int cell)), some (.at .f P), some (.at .f (.lst (iL rows))), some (.at .f (.lst (fs.map pD))), some (.at .f (.int r)), some (.at .f (.int ((r2 : Int) - r + 1))), some (.at .f (pD q)), none, none, none, none, none, none, none, none, none]) ?_ ⟨_, rfl, r, r2 - r + 1, some q, hr.1, by omega, by omega, fun q' h => by cases h; exact ⟨hqp, hr⟩, by rw [show ((r2 - r + 1 : Nat) : Int) = (r2 : Int) - r + 1 by omega]; rfl⟩
        have c0 : ixR (.at .f (pD q)) (.at .f (.int 0)) = some (.at .f (.int q.s)) := rfl
        have c1 : ixR (.at .f (pD q)) (.at .f (.int 1)) = some (.at .f (.int q.g)) := rfl
        have mq : Res.mk .f (pD q) = .at .f (pD q) := rfl
        have hfn : 0 < fs.length := by omega
        simp [hlf, mkP, ixP, b0, b1, hfn, hp0, ei, ixL, ap, mq, c0, c1, a1, a2]
  rintro _ ⟨r, m, o, hr, hm0, hm12, ho, rfl⟩
  -- how many
  have v0 := Int.emod_nonneg p4 (show (9 : Int) ≠ 0 by decide)
  have v1 := Int.emod_lt_of_pos p4 (show (0 : Int) < 9 by decide)
  have v2 := Int.emod_nonneg p4 (show (12 : Int) ≠ 0 by decide)
  have v3 := Int.emod_lt_of_pos p4 (show (0 : Int) < 12 by decide)
  refine w_seq (fun ρ => ρ = [some (.at .f w.d), some (.at .f (.int cell)), some (.at .f P), some (.at .f (.lst (iL rows))), some (.at .f (.lst (fs.map pD))), some (.at .f (.int r)), some (.at .f (.int m)), some (.at .f (oP o)), some (.at .f (.int (p4 % 9))), none, none, none, none, none, none, none, none]) (by
    simp [mkP, ixP, b4]) ?_
  rintro _ rfl
  refine w_seq (fun ρ => ∃ n : Nat, n ≤ 20 ∧ ρ = [some (.at .f w.d), some (.at .f (.int cell)), some (.at .f P), some (.at .f (.lst (iL rows))), some (.at .f (.lst (fs.map pD))), some (.at .f (.int r)), some (.at .f (.int m)), some (.at .f (oP o)), some (.at .f (.int n)), none, none, none, none, none, none, none, none]) ?_ ?_
  · by_cases h5 : p3 % 6 = 5
    · obtain ⟨n, en⟩ := Int.eq_ofNat_of_zero_le v2
      refine W.of (a := .nx [some (.at .f w.d), some (.at .f (.int cell)), some (.at .f P), some (.at .f (.lst (iL rows))), some (.at .f (.lst (fs.map pD))), some (.at .f (.int r)), some (.at .f (.int m)), some (.at .f (oP o)), some (.at .f (.int (9 + p4 % 12))), none, none, none, none, none, none, none, none]) ?_ ⟨_, rfl, 9 + n, by omega, by rw [show ((9 + n : Nat) : Int) = 9 + p4 % 12 by omega]⟩
      simp [mkP, ixP, b3, b4, h5]
    · obtain ⟨n, en⟩ := Int.eq_ofNat_of_zero_le v0
      refine W.of (a := .nx [some (.at .f w.d), some (.at .f (.int cell)), some (.at .f P), some (.at .f (.lst (iL rows))), some (.at .f (.lst (fs.map pD))), some (.at .f (.int r)), some (.at .f (.int m)), some (.at .f (oP o)), some (.at .f (.int (p4 % 9))), none, none, none, none, none, none, none, none]) ?_ ⟨_, rfl, n, by omega, by rw [en]⟩
      simp [mkP, ixP, b3, b4, h5]
  rintro _ ⟨many, hmany, rfl⟩
  obtain ⟨_, hd, ds, rfl, hdl, hdp⟩ := draws_ok cell (13 * many) (by omega)
  have hd : d_l_draws [.int cell, .int (13 * (many : Int))] = some (.own (iL ds)) := by
    have ez : ((13 * many : Nat) : Int) = 13 * (many : Int) := by omega
    rw [← ez]; exact hd
  refine w_seq (fun ρ => ρ = [some (.at .f w.d), some (.at .f (.int cell)), some (.at .f P), some (.at .f (.lst (iL rows))), some (.at .f (.lst (fs.map pD))), some (.at .f (.int r)), some (.at .f (.int m)), some (.at .f (oP o)), some (.at .f (.int many)), some (.at .f (.lst (iL ds))), none, none, none, none, none, none, none]) (by
    simp [fits, isF, hd]) ?_
  rintro _ rfl
  have hcut : slR none (some (r : Int)) (.at .f (.lst (iL w.ws))) = some (.own (iL (w.ws.take r))) := by
    show some (mkL .f (cut (iL w.ws) _ _)) = _
    rw [cut_take, iL_take]
    rfl
  have hsum : sumR [.own (iL (w.ws.take r))] = some (.at .f (.int (fst w.ws r))) := by
    rw [sumR_iL, sum_take _ _ (by omega)]
  refine w_seq (fun ρ => ρ = [some (.at .f w.d), some (.at .f (.int cell)), some (.at .f P), some (.at .f (.lst (iL rows))), some (.at .f (.lst (fs.map pD))), some (.at .f (.int r)), some (.at .f (.int m)), some (.at .f (oP o)), some (.at .f (.int many)), some (.at .f (.lst (iL ds))), some (.at .f (.int (fst w.ws r))), none, none, none, none, none, none]) (by
    simp [e, wd_0, hcut, hsum]) ?_
  rintro _ rfl
  refine w_seq (fun ρ => ρ = [some (.at .f w.d), some (.at .f (.int cell)), some (.at .f P), some (.at .f (.lst (iL rows))), some (.at .f (.lst (fs.map pD))), some (.at .f (.int r)), some (.at .f (.int m)), some (.at .f (oP o)), some (.at .f (.int many)), some (.at .f (.lst (iL ds))), some (.at .f (.int (fst w.ws r))), some (.own []), none, none, none, none, none]) (by
    simp [lstR, mkL, supAll]) ?_
  rintro _ rfl
  let J : Nat → Ro → Prop := fun i ρ => ∃ (ls : List (List Int)) (x12 x13 x14 x15 : Option Res), ρ = [some (.at .f w.d), some (.at .f (.int cell)), some (.at .f P), some (.at .f (.lst (iL rows))), some (.at .f (.lst (fs.map pD))), some (.at .f (.int r)), some (.at .f (.int m)), some (.at .f (oP o)), some (.at .f (.int many)), some (.at .f (.lst (iL ds))), some (.at .f (.int (fst w.ws r))), some (.own (ls.map tD)), x12, x13, x14, x15, none] ∧
    ls.length ≤ i ∧ ∀ l ∈ ls, Rw w r l ∧ l.length = m
  refine w_seq (J many) ?_ ?_
  · refine w_for (items := rngItems 0 many) (by simp [rng1R]; omega) ?_
    refine w_loop J (fun _ => False) ⟨[], none, none, none, none, rfl, by simp, by simp⟩ ?_ ?_ (fun _ h => h.elim)
    · rintro i hi _ ⟨ls, x12, x13, x14, x15, rfl, hli, hls⟩
      rw [rng_len] at hi
      simp only [rng_get, e_gaN, W_some, List.set_cons_succ, List.set_cons_zero, Int.zero_add]
      obtain ⟨st, est⟩ : ∃ st, st = (ds.drop (13 * i)).take 13 := ⟨_, rfl⟩
      have hst : st.length = 13 := by rw [est, List.length_take, List.length_drop]; omega
      have hsl : slR (some (13 * (i : Int))) (some (13 * (i : Int) + 13)) (.at .f (.lst (iL ds))) = some (.own (iL st)) := by
        rw [sl_mid (k := 13 * i) (m := 13 * i + 13) (by omega) (by omega) (by omega) (by omega), est, Nat.add_sub_cancel_left]
      refine w_seq (fun ρ => ρ = [some (.at .f w.d), some (.at .f (.int cell)), some (.at .f P), some (.at .f (.lst (iL rows))), some (.at .f (.lst (fs.map pD))), some (.at .f (.int r)), some (.at .f (.int m)), some (.at .f (oP o)), some (.at .f (.int many)), some (.at .f (.lst (iL ds))), some (.at .f (.int (fst w.ws r))), some (.own (ls.map tD)), some (.at .f (.int i)), some (.at .f (.lst (iL st))), x14, x15, none]) (by
        simp [hsl]) ?_
      rintro _ rfl
      have s11 := at_iL st (i := 11) (k := 11) rfl (by omega)
      have s12 := at_iL st (i := 12) (k := 12) rfl (by omega)
      generalize at0 st 11 = u11 at s11
      generalize at0 st 12 = u12 at s12
      refine w_seq (fun ρ => ρ = [some (.at .f w.d), some (.at .f (.int cell)), some (.at .f P), some (.at .f (.lst (iL rows))), some (.at .f (.lst (fs.map pD))), some (.at .f (.int r)), some (.at .f (.int m)), some (.at .f (oP o)), some (.at .f (.int many)), some (.at .f (.lst (iL ds))), some (.at .f (.int (fst w.ws r))), some (.own (ls.map tD)), some (.at .f (.int i)), some (.at .f (.lst (iL st))), some (.at .f (.int u12)), x15, none]) (by
        simp [ixL, s12]) ?_
      rintro _ rfl
      obtain ⟨wr, ewr⟩ : ∃ x, w.ws[r] = x := ⟨_, rfl⟩
      have hwr := hw.wd.pos _ (List.getElem_mem hr)
      rw [ewr] at hwr
      have awr : atI (iL w.ws) r = some (.int wr) := by
        rw [atI_nat rfl (by rw [iL_len]; exact hr), iL_get?, List.getElem?_eq_getElem hr, ewr]; rfl
      have f1 := fst_succ hr
      rw [ewr] at f1
      obtain ⟨start, est⟩ : ∃ s, s = fst w.ws r + u11 % wr := ⟨_, rfl⟩
      have hm1 := Int.emod_nonneg u11 (show wr ≠ 0 by omega)
      have hm2 := Int.emod_lt_of_pos u11 (show 0 < wr by omega)
      have hsr : RowAt w.ws r start := ⟨hr, by omega, by omega⟩
      obtain ⟨fx, efx⟩ : ∃ fx, fx = st.map fun x => 40 + x % 40 := ⟨_, rfl⟩
      have hfx : fx.length = 13 := by rw [efx, List.length_map, hst]
      obtain ⟨_, hwk, route, rfl, hway⟩ := walk_ok w hw fx start (by omega) (row_in hw hsr)
      have hz : (st.map fun n => Res.at .f (.int n)).length ≤ 100000 := by rw [List.length_map]; omega
      have elc : lcD (gaN 16) fYes (f2 addR (fC (.int 40)) (f2 modR (fA intR (fCons (fVar 16) fNil)) (fC (.int 40)))) [some (.at .f w.d), some (.at .f (.int cell)), some (.at .f P), some (.at .f (.lst (iL rows))), some (.at .f (.lst (fs.map pD))), some (.at .f (.int r)), some (.at .f (.int m)), some (.at .f (oP o)), some (.at .f (.int many)), some (.at .f (.lst (iL ds))), some (.at .f (.int (fst w.ws r))), some (.own (ls.map tD)), some (.at .f (.int i)), some (.at .f (.lst (iL st))), some (.at .f (.int u12)), x15, none] (st.map fun n => Res.at .f (.int n)) = some (iL fx) := by
        rw [efx]
        unfold iL
        rw [List.map_map]
        refine lc_all fun x hx => ⟨_, rfl, ?_⟩
        simp
      refine w_seq (fun ρ => ρ = [some (.at .f w.d), some (.at .f (.int cell)), some (.at .f P), some (.at .f (.lst (iL rows))), some (.at .f (.lst (fs.map pD))), some (.at .f (.int r)), some (.at .f (.int m)), some (.at .f (oP o)), some (.at .f (.int many)), some (.at .f (.lst (iL ds))), some (.at .f (.int (fst w.ws r))), some (.own (ls.map tD)), some (.at .f (.int i)), some (.at .f (.lst (iL st))), some (.at .f (.int u12)), some (.at .f (tD route)), none]) ?_ ?_
      · have hz2 : st.length ≤ 100000 := by omega
        simp [seq_lst, hz2, wipeR, elc, ixL, s11, e, wd_0, awr, hwr, ← est, fits, isF, hwk, -List.map_map]
        exact ⟨by omega, rfl⟩
      rintro _ rfl
      have hrw := Rw.of hw hsr hway
      have mkt : ∀ l, Res.mk .f (tD l) = .at .f (tD l) := fun l => rfl
      refine w_seq (fun ρ => ∃ route : List Int, Rw w r route ∧ ρ = [some (.at .f w.d), some (.at .f (.int cell)), some (.at .f P), some (.at .f (.lst (iL rows))), some (.at .f (.lst (fs.map pD))), some (.at .f (.int r)), some (.at .f (.int m)), some (.at .f (oP o)), some (.at .f (.int many)), some (.at .f (.lst (iL ds))), some (.at .f (.int (fst w.ws r))), some (.own (ls.map tD)), some (.at .f (.int i)), some (.at .f (.lst (iL st))), some (.at .f (.int u12)), some (.at .f (tD route)), none]) ?_ ?_
      · cases o with
        | none =>
          simp [oP, notNR, D.isNon]
          exact ⟨route, hrw, rfl⟩
        | some q =>
          obtain ⟨hq, hqr⟩ := ho q rfl
          obtain ⟨_, hled, rt, rfl, hl2⟩ := led_ok w hw st q (by omega) hq
          have hrw2 := Rw.of hw hqr hl2
          have hled : d_l_led [w.d, .lst (iL st), .int q.s, .int q.g] = some (.at .f (tD rt)) := hled
          have c0 : ixR (.at .f (pD q)) (.at .f (.int 0)) = some (.at .f (.int q.s)) := rfl
          have c1 : ixR (.at .f (pD q)) (.at .f (.int 1)) = some (.at .f (.int q.g)) := rfl
          have c2 : notNR (.at .f (pD q)) (.at .f .non) = some (.at .f (.bl true)) := rfl
          simp [W_ite, oP, c0, c1, c2, fits, isF, e, hled]
          exact ⟨fun _ => ⟨rt, hrw2, rfl⟩, fun _ => ⟨route, hrw, rfl⟩⟩
      rintro _ ⟨route, hrw, rfl⟩
      have hlt : lenR [.at .f (tD route)] = some (.at .f (.int route.length)) := by
        show some (Res.at .f (.int ((iL route).length : Nat))) = _
        rw [iL_len]
      have hlp : lenR [.pk (ls.map tD)] = some (.at .f (.int ls.length)) := by
        show some (Res.at .f (.int ((ls.map tD).length : Nat))) = _
        rw [List.length_map]
      have ixp : ∀ k : Int, ixR (.pk (ls.map tD)) (.at .f (.int k)) = (atI (ls.map tD) k).map (Res.mk .f) := fun k => rfl
      have add : ∀ l : List Int, Rw w r l ∧ l.length = m → J (i + 1) [some (.at .f w.d), some (.at .f (.int cell)), some (.at .f P), some (.at .f (.lst (iL rows))), some (.at .f (.lst (fs.map pD))), some (.at .f (.int r)), some (.at .f (.int m)), some (.at .f (oP o)), some (.at .f (.int many)), some (.at .f (.lst (iL ds))), some (.at .f (.int (fst w.ws r))), some (.own (ls.map tD ++ [tD l])), some (.at .f (.int i)), some (.at .f (.lst (iL st))), some (.at .f (.int u12)), some (.at .f (tD route)), none] := fun l hl =>
        ⟨ls ++ [l], _, _, _, _, by rw [List.map_append]; rfl, by simp; omega, fun x hx => by
          rcases List.mem_append.mp hx with hx | hx
          · exact hls x hx
          · rw [List.mem_singleton] at hx; subst hx; exact hl⟩
      have hcutm : slR none (some (m : Int)) (.at .f (tD route)) = some (.at .f (tD (route.take m))) := by
        show some (Res.at .f (.tup (cut (iL route) none (some (m : Int))))) = _
        rw [cut_take, iL_take]; rfl
      have second : W ((sIf (fTst (f2 (cmpR geP) (fA lenR (fCons (fVar 15) fNil)) (fVar 6))) (sApp 11 (fFz (fSl (fVar 15) fNo (fSm (fVar 6))))) sNx) [some (.at .f w.d), some (.at .f (.int cell)), some (.at .f P), some (.at .f (.lst (iL rows))), some (.at .f (.lst (fs.map pD))), some (.at .f (.int r)), some (.at .f (.int m)), some (.at .f (oP o)), some (.at .f (.int many)), some (.at .f (.lst (iL ds))), some (.at .f (.int (fst w.ws r))), some (.own (ls.map tD)), some (.at .f (.int i)), some (.at .f (.lst (iL st))), some (.at .f (.int u12)), some (.at .f (tD route)), none]) fun o => match o with
          | .nx ρ2 => J (i + 1) ρ2
          | .ct ρ2 => J (i + 1) ρ2
          | .bk _ => False
          | .rt r => False := by
        by_cases hge : m ≤ route.length
        · have hge' : (m : Int) ≤ route.length := by omega
          simp [mkt, hlt, hge, hcutm]
          exact ⟨by omega, add _ ⟨hrw.take hm0, by rw [List.length_take]; omega⟩⟩
        · simp [mkt, hlt, hge]
          exact ⟨ls, _, _, _, _, rfl, by omega, hls⟩
      rw [e_sif]
      by_cases hp4 : u12 % 4 = 0
      · cases hls0 : ls with
        | nil =>
          subst hls0
          simp only [e_and, e_tst, e_f2, e_fA, e_cons, e_nil, e_var, e_c, List.getElem?_cons_succ, List.getElem?_cons_zero, mk_f, Option.bind_some, e_modI, show ((0:Int) < 4) = True from eq_true (by decide), if_true, hp4, e_eqR, at_d, e_eqI, Option.map_some, e_bl, decide_true, if_true, hlp, e_cmp, e_gtP, List.length_nil, Int.reduceLT, decide_false, Bool.false_eq_true, if_false]
          exact second
        | cons l0 lt =>
          have hpos : 0 < ls.length := by rw [hls0]; simp
          have k0 := Int.emod_nonneg (u12 / 8) (show (ls.length : Int) ≠ 0 by omega)
          have k1 := Int.emod_lt_of_pos (u12 / 8) (show (0 : Int) < ls.length by omega)
          obtain ⟨k, ek⟩ := Int.eq_ofNat_of_zero_le k0
          have hk : k < ls.length := by omega
          have ak : atI (ls.map tD) (k : Int) = some (tD ls[k]) := by
            rw [atI_nat rfl (by rw [List.length_map]; exact hk), List.getElem?_map, List.getElem?_eq_getElem hk]; rfl
          rw [← hls0]
          have hpi : (0 : Int) < ls.length := by omega
          simp [hp4, hlp, hpos, ixp, ek, ak, mkt]
          exact ⟨by omega, add _ (hls _ (List.getElem_mem hk))⟩
      · simp only [e_and, e_tst, e_f2, e_fA, e_cons, e_nil, e_var, e_c, List.getElem?_cons_succ, List.getElem?_cons_zero, mk_f, Option.bind_some, e_modI, show ((0:Int) < 4) = True from eq_true (by decide), if_true, hp4, e_eqR, at_d, e_eqI, Option.map_some, e_bl, decide_false, Bool.false_eq_true, if_false]
        exact second
    · rintro ρ hJ
      rw [rng_len] at hJ
      exact ⟨ρ, rfl, hJ⟩
  rintro _ ⟨ls, x12, x13, x14, x15, rfl, hl, hls⟩
  simp
  exact ⟨ls, rfl, Ways.of hw (by omega) hm12 hls⟩
end Lw

set_option Elab.async false
set_option linter.all false
set_option maxRecDepth 100000
namespace Lw
open PySem PySem.Spec PyProof.Rows L2 Fx
open Lot (at0)
/-! ### lists of ints of a bounded length -/
def IsL (n : Nat) (r : Res) : Prop := ∃ a : List Int, (r = .own (iL a) ∨ r = .at .f (.lst (iL a))) ∧ a.length ≤ n
theorem IsL.mono {n m : Nat} {r : Res} (h : IsL n r) (hm : n ≤ m) : IsL m r := let ⟨a, e, l⟩ := h; ⟨a, e, by omega⟩
section
variable {ρ : Ro} {φ ψ : Ro → Option Res}
theorem isl_var {i : Nat} {a : List Int} (h : ρ[i]? = some (some (.at .f (.lst (iL a))))) : W (fVar i ρ) (IsL a.length) := by
  rw [e_var, h]
  exact W_some.mpr ⟨a, .inr (mk_f), Nat.le_refl _⟩
theorem isl_add {n m : Nat} (h1 : W (φ ρ) (IsL n)) (h2 : W (ψ ρ) (IsL m)) (hz : n + m ≤ 1000) : W (f2 addR φ ψ ρ) (IsL (n + m)) := by
  obtain ⟨r, e1, a, ha, la⟩ := h1
  obtain ⟨q, e2, b, hb, lb⟩ := h2
  rw [e_f2, e1, Option.bind_some, e2, Option.bind_some]
  have hl : (iL a).length + (iL b).length ≤ 100000 := by rw [iL_len, iL_len]; omega
  have key : addR r q = some (.own (iL (a ++ b))) := by
    rw [iL_app]
    rcases ha with rfl | rfl <;> rcases hb with rfl | rfl
    · show (if (iL a).length + (iL b).length ≤ 100000 then some (mkL _ _) else none) = _
      rw [if_pos hl]; rfl
    · show (if (iL a).length + (iL b).length ≤ 100000 then some (mkL _ _) else none) = _
      rw [if_pos hl]; rfl
    · show (if (iL a).length + (iL b).length ≤ 100000 then some (mkL _ _) else none) = _
      rw [if_pos hl]; rfl
    · show (if (iL a).length + (iL b).length ≤ 100000 then some (mkL _ _) else none) = _
      rw [if_pos hl]; rfl
  rw [key]
  exact W_some.mpr ⟨a ++ b, .inl rfl, by rw [List.length_append]; omega⟩
theorem isl_sl {n : Nat} {lo hi : Ro → Option (Option Int)} {l h : Option Int} (h1 : W (φ ρ) (IsL n)) (hl : lo ρ = some l) (hh : hi ρ = some h) : W (fSl φ lo hi ρ) (IsL n) := by
  obtain ⟨r, e1, a, ha, la⟩ := h1
  rw [e_sl, e1, Option.bind_some, hl, Option.bind_some, hh, Option.bind_some]
  have ec : cut (iL a) l h = iL ((a.drop (HT.sIx (iL a).length 0 l)).take (HT.sIx (iL a).length (iL a).length h - HT.sIx (iL a).length 0 l)) := by
    unfold cut
    rw [iL_drop, iL_take]
  have key : slR l h r = some (.own (iL ((a.drop (HT.sIx (iL a).length 0 l)).take (HT.sIx (iL a).length (iL a).length h - HT.sIx (iL a).length 0 l)))) := by
    rw [← ec]
    rcases ha with rfl | rfl
    · rfl
    · rfl
  rw [key]
  exact W_some.mpr ⟨_, .inl rfl, by rw [List.length_take, List.length_drop]; omega⟩
theorem isl_one {x : Int} (h : φ ρ = some (.at .f (.int x))) : W (fA lstR (fCons φ fNil) ρ) (IsL 1) := by
  rw [e_fA, e_cons, h]
  exact W_some.mpr ⟨[x], .inl rfl, by simp⟩
theorem isl_nil : W (fA lstR fNil ρ) (IsL 0) := W_some.mpr ⟨[], .inl rfl, by simp⟩
theorem isl_sorted {n : Nat} (h : W (φ ρ) (IsL n)) (hn : n < 64) : W (fA sortedR (fCons φ fNil) ρ) (IsL n) := by
  obtain ⟨r, e1, a, ha, la⟩ := h
  rw [e_fA, e_cons, e1]
  have key : sortedR [r] = some (.own (iL (isort a))) := by
    have : intsOf r = some a := by
      rcases ha with rfl | rfl
      · exact Fx.ints_map a
      · exact Fx.ints_map a
    unfold sortedR
    simp only [this, Option.bind_some]
    rw [if_pos (by omega)]; rfl
  show W (sortedR [r]) _
  rw [key]
  exact W_some.mpr ⟨_, .inl rfl, by rw [(isort_perm a).length_eq]; exact la⟩
/-- a comprehension over such a list, without a test -/
theorem isl_lc {n : Nat} {vs : List Nat} {i : Nat} {χ : Ro → Option Res} (h : W (φ ρ) fun r => ∃ a : List Int, r = .at .f (.lst (iL a)) ∧ a.length ≤ n) (hn : n ≤ 1000) (hχ : ∀ x : Int, ∃ y : Int, χ ((wipeR ρ vs).set i (some (.at .f (.int x)))) = some (.at .f (.int y))) : W (fLc (iSq φ) vs (gaN i) fYes χ ρ) (IsL n) := by
  obtain ⟨r, e1, a, rfl, la⟩ := h
  have hz : (a.map fun n => Res.at .f (.int n)).length ≤ 100000 := by rw [List.length_map]; omega
  rw [e_lc, e_iSq, e1, Option.bind_some, seq_lst, Option.bind_some, if_pos hz]
  have hc : ∀ x : Int, ∃ y : Int, χ ((wipeR ρ vs).set i (some (.at .f (.int x)))) = some (.at .f (.int y)) := hχ
  have : lcD (gaN i) fYes χ (wipeR ρ vs) (a.map fun n => .at .f (.int n)) = some (a.map fun x => .int (Classical.choose (hc x))) :=
    lc_all fun x hx => ⟨_, rfl, Classical.choose_spec (hc x)⟩
  rw [this]
  exact W_some.mpr ⟨a.map fun x => Classical.choose (hc x), .inl (by unfold iL; rw [List.map_map]; rfl), by rw [List.length_map]; exact la⟩
/-- if slot 3 is c: return φ -/
theorem w_kind {k c : Int} {Ψ : Ro → Option Out} {R : Res → Prop} (h3 : ρ[3]? = some (some (.at .f (.int k)))) (h1 : W (φ ρ) fun r => W (endR (.rt r)) R) (h2 : W (Ψ ρ) fun a => W (endR a) R) :
    W (sSeq (sIf (fTst (f2 eqR (fVar 3) (fC (.int c)))) (sRet φ) sNx) Ψ ρ) fun a => W (endR a) R := by
  have ev : fVar 3 ρ = some (.at .f (.int k)) := by rw [e_var, h3]; rfl
  rw [e_seq, W_bind, e_sif, e_tst, e_f2, ev, Option.bind_some, e_c, Option.bind_some, e_eqR, at_d, at_d, e_eqI, Option.map_some, Option.bind_some, at_d, e_bl, Option.bind_some]
  by_cases hk : k = c
  · rw [decide_eq_true hk, if_pos rfl, e_ret]
    obtain ⟨r, e, q⟩ := h1
    rw [e]
    exact W_some.mpr (W_some.mpr q)
  · rw [decide_eq_false hk, if_neg (by decide)]
    exact W_some.mpr h2
theorem isl_end {n : Nat} {R : Res → Prop} (h : W (φ ρ) (IsL n)) (i : ∀ r, IsL n r → R r) : W (φ ρ) fun r => W (endR (.rt r)) R := by
  obtain ⟨r, e, a, ha, la⟩ := h
  refine ⟨r, e, ?_⟩
  rcases ha with rfl | rfl
  · rw [e_end2]; exact W_some.mpr (i _ ⟨a, .inl rfl, la⟩)
  · rw [e_end1]; exact W_some.mpr (i _ ⟨a, .inr rfl, la⟩)
end
theorem spoilt_lot_ok (o vs ps : List Int) (ho : o.length ≤ 20) (hv : vs.length ≤ 20) (hp : ps.length = 3) : W (d_l_spoilt_lot [.lst (iL o), .lst (iL vs), .lst (iL ps)]) (IsL 100) := by
  have b0 := at_iL ps (i := 0) (k := 0) rfl (by omega)
  have b1 := at_iL ps (i := 1) (k := 1) rfl (by omega)
  have b2 := at_iL ps (i := 2) (k := 2) rfl (by omega)
  generalize at0 ps 0 = p0 at b0
  generalize at0 ps 1 = p1 at b1
  generalize at0 ps 2 = p2 at b2
  have hlo : lenR [.at .f (.lst (iL o))] = some (.at .f (.int o.length)) := by rw [lenL, iL_len]
  have hlv : lenR [.at .f (.lst (iL vs))] = some (.at .f (.int vs.length)) := by rw [lenL, iL_len]
  unfold d_l_spoilt_lot phi_l_spoilt_lot
  rw [e_run, W_bind]
  have hro : ro0 10 [true, true, true] [.lst (iL o), .lst (iL vs), .lst (iL ps)] = [some (.at .f (.lst (iL o))), some (.at .f (.lst (iL vs))), some (.at .f (.lst (iL ps))), none, none, none, none, none, none, none] := rfl
  rw [hro]
  obtain ⟨kind, ek⟩ : ∃ kind, kind = p0 % 12 := ⟨_, rfl⟩
  refine w_seq (fun ρ => ρ = [some (.at .f (.lst (iL o))), some (.at .f (.lst (iL vs))), some (.at .f (.lst (iL ps))), some (.at .f (.int kind)), none, none, none, none, none, none]) (by simp [ixL, b0, ek]) ?_
  rintro _ rfl
  refine w_seq (fun ρ => ρ = [some (.at .f (.lst (iL o))), some (.at .f (.lst (iL vs))), some (.at .f (.lst (iL ps))), some (.at .f (.int kind)), some (.at .f (.int vs.length)), none, none, none, none, none]) (by simp [hlv]) ?_
  rintro _ rfl
  obtain ⟨a, ea⟩ : ∃ a, a = p1 % ((o.length : Int) + 1) := ⟨_, rfl⟩
  refine w_seq (fun ρ => ρ = [some (.at .f (.lst (iL o))), some (.at .f (.lst (iL vs))), some (.at .f (.lst (iL ps))), some (.at .f (.int kind)), some (.at .f (.int vs.length)), some (.at .f (.int a)), none, none, none, none]) (by simp [ixL, b1, hlo, ea]) ?_
  rintro _ rfl
  obtain ⟨b, eb⟩ : ∃ b, b = p2 % ((vs.length : Int) + 1) := ⟨_, rfl⟩
  have hb0 : 0 ≤ b := by rw [eb]; exact Int.emod_nonneg _ (by omega)
  have hb1 : b < 1000 := by
    have := Int.emod_lt_of_pos p2 (show (0 : Int) < (vs.length : Int) + 1 by omega)
    omega
  refine w_seq (fun ρ => ρ = [some (.at .f (.lst (iL o))), some (.at .f (.lst (iL vs))), some (.at .f (.lst (iL ps))), some (.at .f (.int kind)), some (.at .f (.int vs.length)), some (.at .f (.int a)), some (.at .f (.int b)), none, none, none]) (by simp [ixL, b2, eb]) ?_
  rintro _ rfl
  refine w_seq (fun ρ => ∃ rest : List Int, ρ = [some (.at .f (.lst (iL o))), some (.at .f (.lst (iL vs))), some (.at .f (.lst (iL ps))), some (.at .f (.int kind)), some (.at .f (.int vs.length)), some (.at .f (.int a)), some (.at .f (.int b)), some (.at .f (.lst (iL rest))), none, none]) ?_ ?_
  · simp [rng1R, -List.map_map]
    refine ⟨by omega, by omega, ?_⟩
    rw [lc_range (n := vs.length) (fun k => !decide ((k : Int) ∈ o) && decide (0 < at0 vs k)) fun k hk => ?_]
    · exact W_some.mpr ⟨_, rfl⟩
    · have v1 := at_iL vs (i := (k : Int)) rfl hk
      have hin : ninR (.at .f (.int (k : Int))) (.at .f (.lst (iL o))) = some (.at .f (.bl (!decide ((k : Int) ∈ o)))) := by
        unfold ninR inB
        show (((ints? (iL o)).map fun ns => decide ((k : Int) ∈ ns)).map _) = _
        rw [show ints? (iL o) = some o from Fx.ints_map o]; rfl
      refine ⟨_, rfl, ?_, by simp [wipeR]⟩
      simp [wipeR, hin, ixL, v1]
      by_cases hm : (k : Int) ∈ o
      · simp [hm]
      · simp [hm]
  rintro _ ⟨rest, rfl⟩
  obtain ⟨R0, eR⟩ : ∃ R0 : Ro, R0 = [some (.at .f (.lst (iL o))), some (.at .f (.lst (iL vs))), some (.at .f (.lst (iL ps))), some (.at .f (.int kind)), some (.at .f (.int vs.length)), some (.at .f (.int a)), some (.at .f (.int b)), some (.at .f (.lst (iL rest))), none, none] := ⟨_, rfl⟩
  rw [← eR]
  have r3 : R0[3]? = some (some (.at .f (.int kind))) := by rw [eR]; rfl
  have V0 : W (fVar 0 R0) (IsL 20) := (isl_var (a := o) (by rw [eR]; rfl)).mono fun r h => h.mono ho
  have s5 : fSm (fVar 5) R0 = some (some a) := by rw [eR]; simp
  have s51 : fSm (f2 addR (fVar 5) (fC (.int 1))) R0 = some (some (a + 1)) := by rw [eR]; simp
  have s52 : fSm (f2 addR (fVar 5) (fC (.int 2))) R0 = some (some (a + 2)) := by rw [eR]; simp
  have no : fNo R0 = some none := rfl
  have v6 : fVar 6 R0 = some (.at .f (.int b)) := by rw [eR]; simp
  have L6 := isl_one v6
  have big : ∀ n, n ≤ 100 → ∀ r, IsL n r → IsL 100 r := fun n hn r h => h.mono hn
  refine w_kind r3 (isl_end (isl_add (isl_sl V0 no s5) (isl_sl V0 s51 no) (by decide)) (big _ (by decide))) ?_
  refine w_kind r3 (isl_end (isl_sorted (isl_add V0 L6 (by decide)) (by decide)) (big _ (by decide))) ?_
  refine w_kind r3 (isl_end (isl_add (isl_sl V0 no s51) (isl_sl V0 s5 no) (by decide)) (big _ (by decide))) ?_
  refine w_kind r3 (isl_end (isl_add (isl_one (x := 0 - 1) (by simp)) V0 (by decide)) (big _ (by decide))) ?_
  refine w_kind r3 (isl_end (isl_add V0 (isl_one (x := (vs.length : Int) + b * 10 ^ 20) (by
    rw [eR]
    simp
    rw [if_pos (by omega)]; rfl)) (by decide)) (big _ (by decide))) ?_
  refine w_kind r3 (isl_end (isl_add (isl_add (isl_add (isl_sl V0 no s5) (isl_sl V0 s51 s52) (by decide)) (isl_sl V0 s5 s51) (by decide)) (isl_sl V0 s52 no) (by decide)) (big _ (by decide))) ?_
  refine w_kind r3 (isl_end (isl_add (isl_add (isl_sl V0 no s5) L6 (by decide)) (isl_sl V0 s51 no) (by decide)) (big _ (by decide))) ?_
  refine w_kind r3 (isl_end (isl_add (isl_add (isl_sl V0 no s5) L6 (by decide)) (isl_sl V0 s5 no) (by decide)) (big _ (by decide))) ?_
  refine w_kind r3 (isl_end (isl_add (isl_lc (n := 20) ?_ (by decide) ?_) (isl_sl V0 s5 no) (by decide)) (big _ (by decide))) ?_
  · obtain ⟨r, e1, q, hq, lq⟩ := isl_sl V0 no s5
    rw [e_fz, e1]
    rcases hq with rfl | rfl
    · exact W_some.mpr ⟨q, rfl, lq⟩
    · exact W_some.mpr ⟨q, rfl, lq⟩
  · intro x
    exact ⟨x - vs.length, by rw [eR]; simp [wipeR]⟩
  have hlr : lenR [.at .f (.lst (iL rest))] = some (.at .f (.int rest.length)) := by rw [lenL, iL_len]
  have v0 : ∀ r, r = Res.at .f (.lst (iL o)) → IsL 100 r := fun r h => ⟨o, .inr h, by omega⟩
  rw [e_seq, W_bind]
  by_cases hr : 0 < rest.length
  · have w1 := Int.emod_nonneg b (show (rest.length : Int) ≠ 0 by omega)
    have w2 := Int.emod_lt_of_pos b (show (0 : Int) < rest.length by omega)
    obtain ⟨k, ek⟩ := Int.eq_ofNat_of_zero_le w1
    have hk := at_iL rest (i := (k : Int)) rfl (by omega)
    have last := isl_end (R := IsL 100) (isl_sorted (isl_add V0 (isl_one (φ := f2 ixR (fVar 7) (f2 modR (fVar 6) (fA lenR (fCons (fVar 7) fNil)))) (x := at0 rest k) (by
      rw [eR]
      have hri : (0 : Int) < rest.length := by omega
      simp [hlr, hr, ek, ixL, hk])) (by decide)) (by decide)) (big _ (by decide))
    obtain ⟨r, e1, q⟩ := last
    have ct : (fTst (f2 (cmpR gtP) (fA lenR (fCons (fVar 7) fNil)) (fC (.int 0)))) R0 = some true := by
      rw [eR]; simp [hlr, hr]
    rw [e_sif, ct, Option.bind_some, if_pos rfl, e_ret, e1]
    exact W_some.mpr (W_some.mpr q)
  · have ct : (fTst (f2 (cmpR gtP) (fA lenR (fCons (fVar 7) fNil)) (fC (.int 0)))) R0 = some false := by
      rw [eR]; simp [hlr, hr]
    rw [e_sif, ct, Option.bind_some, if_neg (by decide), e_nx, W_some]
    show W (sRetV 0 R0) _
    rw [eR]
    simp
    exact ⟨o, .inr rfl, by omega⟩
theorem spoilt_scores_ok (s vs ps : List Int) (hs : s.length ≤ 20) (hv : vs.length = s.length) (hp : ps.length = 3) : W (d_l_spoilt_scores [.lst (iL s), .lst (iL vs), .lst (iL ps)]) (IsL 100) := by
  have b0 := at_iL ps (i := 0) (k := 0) rfl (by omega)
  have b1 := at_iL ps (i := 1) (k := 1) rfl (by omega)
  have b2 := at_iL ps (i := 2) (k := 2) rfl (by omega)
  generalize at0 ps 0 = p0 at b0
  generalize at0 ps 1 = p1 at b1
  generalize at0 ps 2 = p2 at b2
  have hls : lenR [.at .f (.lst (iL s))] = some (.at .f (.int s.length)) := by rw [lenL, iL_len]
  unfold d_l_spoilt_scores phi_l_spoilt_scores
  rw [e_run, W_bind]
  have hro : ro0 8 [true, true, true] [.lst (iL s), .lst (iL vs), .lst (iL ps)] = [some (.at .f (.lst (iL s))), some (.at .f (.lst (iL vs))), some (.at .f (.lst (iL ps))), none, none, none, none, none] := rfl
  rw [hro]
  obtain ⟨kind, ek⟩ : ∃ kind, kind = p0 % 10 := ⟨_, rfl⟩
  obtain ⟨more, em⟩ : ∃ more, more = 1 + p2 % 3 := ⟨_, rfl⟩
  refine w_seq (fun ρ => ρ = [some (.at .f (.lst (iL s))), some (.at .f (.lst (iL vs))), some (.at .f (.lst (iL ps))), some (.at .f (.int kind)), none, none, none, none]) (by simp [ixL, b0, ek]) ?_
  rintro _ rfl
  refine w_seq (fun ρ => ρ = [some (.at .f (.lst (iL s))), some (.at .f (.lst (iL vs))), some (.at .f (.lst (iL ps))), some (.at .f (.int kind)), some (.at .f (.int more)), none, none, none]) (by simp [ixL, b2, em]) ?_
  rintro _ rfl
  obtain ⟨R0, eR⟩ : ∃ R0 : Ro, R0 = [some (.at .f (.lst (iL s))), some (.at .f (.lst (iL vs))), some (.at .f (.lst (iL ps))), some (.at .f (.int kind)), some (.at .f (.int more)), none, none, none] := ⟨_, rfl⟩
  rw [← eR]
  have r3 : R0[3]? = some (some (.at .f (.int kind))) := by rw [eR]; rfl
  have V0 : W (fVar 0 R0) (IsL 20) := (isl_var (a := s) (by rw [eR]; rfl)).mono fun r h => h.mono hs
  have F0 : W (fVar 0 R0) fun r => ∃ a : List Int, r = .at .f (.lst (iL a)) ∧ a.length ≤ 20 := by
    rw [eR]
    exact ⟨_, rfl, s, mk_f, hs⟩
  have no : fNo R0 = some none := rfl
  have big : ∀ n, n ≤ 100 → ∀ r, IsL n r → IsL 100 r := fun n hn r h => h.mono hn
  refine w_kind r3 (isl_end (isl_add V0 (isl_one (x := p1 % 10) (by rw [eR]; simp [ixL, b1])) (by decide)) (big _ (by decide))) ?_
  refine w_kind r3 (isl_end (isl_sl V0 no (show _ = some (some (-1)) by rw [eR]; simp [negR])) (big _ (by decide))) ?_
  refine w_kind r3 (isl_end (isl_lc F0 (by decide) fun x => ⟨x + more, by rw [eR]; simp [wipeR]⟩) (big _ (by decide))) ?_
  rw [e_seq, W_bind]
  by_cases hz : s.length = 0
  · have ct : (fTst (f2 eqR (fA lenR (fCons (fVar 0) fNil)) (fC (.int 0)))) R0 = some true := by
      rw [eR]; simp [hls, hz]
    obtain ⟨r, e1, q⟩ := isl_end (isl_nil (ρ := R0)) (R := IsL 100) (big _ (by decide))
    rw [e_sif, ct, Option.bind_some, if_pos rfl, e_ret, e1]
    exact W_some.mpr (W_some.mpr q)
  have ct : (fTst (f2 eqR (fA lenR (fCons (fVar 0) fNil)) (fC (.int 0)))) R0 = some false := by
    rw [eR]; simp [hls]
    intro e
    exact hz (by rw [e]; rfl)
  rw [e_sif, ct, Option.bind_some, if_neg (by decide), e_nx, W_some]
  show W (sSeq _ _ R0) _
  have w1 := Int.emod_nonneg p1 (show (s.length : Int) ≠ 0 by omega)
  have w2 := Int.emod_lt_of_pos p1 (show (0 : Int) < s.length by omega)
  obtain ⟨k, hk⟩ := Int.eq_ofNat_of_zero_le w1
  have hks : k < s.length := by omega
  refine w_seq (fun ρ => ρ = [some (.at .f (.lst (iL s))), some (.at .f (.lst (iL vs))), some (.at .f (.lst (iL ps))), some (.at .f (.int kind)), some (.at .f (.int more)), some (.at .f (.int k)), none, none]) (by
    have hpos : 0 < s.length := by omega
    rw [eR]; simp [hls, ixL, b1, hk, hpos]) ?_
  rintro _ rfl
  have hlo : listOfR [.at .f (.lst (iL s))] = some (.own (iL s)) := rfl
  refine w_seq (fun ρ => ρ = [some (.at .f (.lst (iL s))), some (.at .f (.lst (iL vs))), some (.at .f (.lst (iL ps))), some (.at .f (.int kind)), some (.at .f (.int more)), some (.at .f (.int k)), some (.own (iL s)), none]) (by simp [hlo]) ?_
  rintro _ rfl
  have hsk := at_iL s (i := (k : Int)) rfl hks
  have hvk := at_iL vs (i := (k : Int)) rfl (by omega)
  obtain ⟨mx, hm1, _⟩ := max_some (s := s) (by intro e; subst e; simp at hz)
  have emax : maxR [.at .f (.lst (iL s))] = some (.at .f (.int mx)) := by
    unfold maxR intsOf iL
    simp only [at_d, Fx.ints_map, Option.bind_some, hm1, Option.map_some]
  -- the choice of the change
  let R1 : Ro := [some (.at .f (.lst (iL s))), some (.at .f (.lst (iL vs))), some (.at .f (.lst (iL ps))), some (.at .f (.int kind)), some (.at .f (.int more)), some (.at .f (.int k)), some (.own (iL s)), none]
  let Q : Out → Prop := fun a => W (match a with
      | .nx ρ' => sRetV 6 ρ'
      | o => some o) fun a => W (endR a) (IsL 100)
  have fin : ∀ f : List Int, f.length ≤ 20 → Q (.nx [some (.at .f (.lst (iL s))), some (.at .f (.lst (iL vs))), some (.at .f (.lst (iL ps))), some (.at .f (.int kind)), some (.at .f (.int more)), some (.at .f (.int k)), some (.own (iL f)), none]) := fun f hf => by
    show W (sRetV 6 _) _
    simp
    exact ⟨f, .inl rfl, by omega⟩
  have put : ∀ (φ : Ro → Option Res) (x : Int), φ R1 = some (.at .f (.int x)) → W (sSetI 6 (fVar 5) φ R1) Q := fun φ x hx => by
    have hset : ((iL s).set k (.int x)) = iL (s.set k x) := set_iL s k x
    have hix : ixN (iL s).length (k : Int) = some k := ixN_nat rfl (by rw [iL_len]; exact hks)
    have e5 : fVar 5 R1 = some (.at .f (.int k)) := rfl
    rw [e_seti]
    show W ((φ R1).bind _) Q
    rw [hx, Option.bind_some, e_frD, Option.bind_some, e5, Option.bind_some]
    show W ((some (k : Int)).bind _) Q
    rw [Option.bind_some, hix, Option.map_some, hset]
    exact W_some.mpr (fin (s.set k x) (by rw [List.length_set]; exact hs))
  have pick : ∀ (c : Int) (Φ Ψ : Ro → Option Out), W (Φ R1) Q → W (Ψ R1) Q → W (sIf (fTst (f2 eqR (fVar 3) (fC (.int c)))) Φ Ψ R1) Q := fun c Φ Ψ h1 h2 => by
    have ev : fVar 3 R1 = some (.at .f (.int kind)) := rfl
    rw [e_sif, e_tst, e_f2, ev, Option.bind_some, e_c, Option.bind_some, e_eqR, at_d, at_d, e_eqI, Option.map_some, Option.bind_some, at_d, e_bl, Option.bind_some]
    by_cases hk : kind = c
    · rw [decide_eq_true hk, if_pos rfl]; exact h1
    · rw [decide_eq_false hk, if_neg (by decide)]; exact h2
  rw [e_seq, W_bind]
  show W _ Q
  refine pick _ _ _ (put _ (at0 s k + more) (by simp [R1, ixL, hsk])) ?_
  refine pick _ _ _ (put _ (at0 s k - more) (by simp [R1, ixL, hsk])) ?_
  refine pick _ _ _ (put _ (at0 vs k - more) (by simp [R1, ixL, hvk])) ?_
  refine pick _ _ _ (put _ (at0 vs k) (by simp [R1, ixL, hvk])) ?_
  refine pick _ _ _ (put _ mx (by simp [R1, emax])) ?_
  refine pick _ _ _ ?_ (W_some.mpr (fin s hs))
  rw [e_ret]
  have F1 : W (fVar 0 R1) fun r => ∃ a : List Int, r = .at .f (.lst (iL a)) ∧ a.length ≤ 20 := ⟨_, rfl, s, mk_f, hs⟩
  obtain ⟨r, e1, q⟩ := isl_end (isl_lc (vs := [7]) (i := 7) (χ := fC (.int 0)) F1 (by decide) fun x => ⟨0, rfl⟩) (big _ (by decide))
  rw [e1]
  exact W_some.mpr (W_some.mpr q)
theorem raised_ok (s vs o : List Int) (hs : s.length ≤ 20) (ho : o.length ≤ 100) : W (d_l_raised [.lst (iL s), .lst (iL vs), .lst (iL o)]) (IsL 100) := by
  have hlv : lenR [.at .f (.lst (iL vs))] = some (.at .f (.int vs.length)) := by rw [lenL, iL_len]
  have hro : ro0 7 [true, true, true] [.lst (iL s), .lst (iL vs), .lst (iL o)] = [some (.at .f (.lst (iL s))), some (.at .f (.lst (iL vs))), some (.at .f (.lst (iL o))), none, none, none, none] := rfl
  unfold d_l_raised phi_l_raised
  rw [e_run, W_bind, hro]
  have el : lcD (gaN 5) (fTst (fCh (cmpR leP) (cmpR ltP) (fC (.int 0)) (fVar 5) (fA lenR (fCons (fVar 1) fNil)))) (f2 ixR (fVar 1) (fVar 5)) [some (.at .f (.lst (iL s))), some (.at .f (.lst (iL vs))), some (.at .f (.lst (iL o))), none, none, none, none] (o.map fun n => .at .f (.int n)) =
      some (iL ((o.filter fun x => decide (0 ≤ x) && decide (x < (vs.length : Int))).map fun x => at0 vs x.toNat)) := by
    rw [show iL ((o.filter fun x => decide (0 ≤ x) && decide (x < (vs.length : Int))).map fun x => at0 vs x.toNat) = (o.filter fun x => decide (0 ≤ x) && decide (x < (vs.length : Int))).map fun x => D.int (at0 vs x.toNat) by
      unfold iL; rw [List.map_map]; rfl]
    refine lc_gen fun x hx => ⟨_, rfl, ?_, fun h => ?_⟩
    · simp [fCh, hlv]
      by_cases h0 : 0 ≤ x
      · simp [h0]
      · simp [h0]
    · rw [Bool.and_eq_true] at h
      have h0 := of_decide_eq_true h.1
      have h1 := of_decide_eq_true h.2
      obtain ⟨k, rfl⟩ := Int.eq_ofNat_of_zero_le h0
      have hk := at_iL vs (i := (k : Int)) rfl (by omega)
      simp [ixL, hk]
  have hz : (o.map fun n => Res.at .f (.int n)).length ≤ 100000 := by rw [List.length_map]; omega
  obtain ⟨tot, htot⟩ : ∃ tot, tot = ((o.filter fun x => decide (0 ≤ x) && decide (x < (vs.length : Int))).map fun x => at0 vs x.toNat).sum := ⟨_, rfl⟩
  refine w_seq (fun ρ => ρ = [some (.at .f (.lst (iL s))), some (.at .f (.lst (iL vs))), some (.at .f (.lst (iL o))), some (.at .f (.int tot)), none, none, none]) ?_ ?_
  · rw [e_asg, e_fA, e_cons, e_lc, e_iSq, e_var]
    simp only [List.getElem?_cons_succ, List.getElem?_cons_zero, mk_f, Option.bind_some, seq_lst, if_pos hz, wipeR, List.set_cons_succ, List.set_cons_zero, el, Option.map_some, e_nil, sumR_iL, e_slotA1, W_some, ← htot]
    exact ⟨_, rfl, rfl⟩
  rintro _ rfl
  have hm : ∃ mx, maxR [.own (.int 0 :: iL s)] = some (.at .f (.int mx)) := by
    obtain ⟨mx, h1, _⟩ := max_some (s := 0 :: s) (by simp)
    refine ⟨mx, ?_⟩
    unfold maxR intsOf
    have : ints? (.int 0 :: iL s) = some (0 :: s) := Fx.ints_map (0 :: s)
    simp only [own_d, this, Option.bind_some, h1, Option.map_some]
  obtain ⟨mx, hmx⟩ := hm
  have ea := add0 s (by omega)
  refine w_seq (fun ρ => ρ = [some (.at .f (.lst (iL s))), some (.at .f (.lst (iL vs))), some (.at .f (.lst (iL o))), some (.at .f (.int tot)), some (.at .f (.int mx)), none, none]) (by
    simp [lstR, mkL, supAll, ea, hmx]) ?_
  rintro _ rfl
  obtain ⟨R0, eR⟩ : ∃ R0 : Ro, R0 = [some (.at .f (.lst (iL s))), some (.at .f (.lst (iL vs))), some (.at .f (.lst (iL o))), some (.at .f (.int tot)), some (.at .f (.int mx)), none, none] := ⟨_, rfl⟩
  rw [← eR, e_seq, W_bind]
  have F0 : W (fVar 0 R0) fun r => ∃ a : List Int, r = .at .f (.lst (iL a)) ∧ a.length ≤ 20 := by
    rw [eR]
    exact ⟨_, rfl, s, mk_f, hs⟩
  by_cases hg : mx < tot
  · have ct : (fTst (f2 (cmpR gtP) (fVar 3) (fVar 4))) R0 = some true := by rw [eR]; simp [hg]
    obtain ⟨r, e1, q⟩ := isl_end (isl_lc (vs := [6]) (i := 6) (χ := f2 subR (f2 addR (fVar 6) (fVar 3)) (fVar 4)) F0 (by decide) fun x => ⟨x + tot - mx, by rw [eR]; simp [wipeR]⟩) (R := IsL 100) (fun r h => h.mono (by decide))
    rw [e_sif, ct, Option.bind_some, if_pos rfl, e_ret, e1]
    exact W_some.mpr (W_some.mpr q)
  · have ct : (fTst (f2 (cmpR gtP) (fVar 3) (fVar 4))) R0 = some false := by rw [eR]; simp [hg]
    rw [e_sif, ct, Option.bind_some, if_neg (by decide), e_nx, W_some]
    show W (sRetV 0 R0) _
    rw [eR]
    simp
    exact ⟨s, .inr rfl, by omega⟩
end Lw

set_option Elab.async false
set_option linter.all false
set_option maxRecDepth 100000
set_option maxHeartbeats 1000000
namespace Lw
open PySem PySem.Spec PyProof.Rows L2 Fx
open Lot (at0)
theorem rD_map (b : Bool) (f : List Int → Bool) (ls : List (List Int)) : rD b (ls.map fun l => (f l, l)) = (if b then .tup (ls.map fun l => sD (f l) l) else .lst (ls.map fun l => sD (f l) l)) := by
  unfold rD
  rw [List.map_map]
  rfl
theorem law_true (ns : List Int) (h : ns.length ≤ 63) : d_LAW [.scr ns] = some (.at .f (.bl true)) := by
  obtain ⟨_, hc0, c0, rfl⟩ := cell_ok ns 0
  obtain ⟨_, hc1, c1, rfl⟩ := cell_ok ns 1
  obtain ⟨_, hc2, c2, rfl⟩ := cell_ok ns 2
  obtain ⟨_, hc3, c3, rfl⟩ := cell_ok ns 3
  obtain ⟨_, hc4, c4, rfl⟩ := cell_ok ns 4
  replace hc0 : d_l_cell [.scr ns, .int 0] = some (.at .f (.int c0)) := hc0
  replace hc1 : d_l_cell [.scr ns, .int 1] = some (.at .f (.int c1)) := hc1
  replace hc2 : d_l_cell [.scr ns, .int 2] = some (.at .f (.int c2)) := hc2
  replace hc3 : d_l_cell [.scr ns, .int 3] = some (.at .f (.int c3)) := hc3
  replace hc4 : d_l_cell [.scr ns, .int 4] = some (.at .f (.int c4)) := hc4
  obtain ⟨_, hwd, w, hw, rfl⟩ := world_ok c0 false
  obtain ⟨_, hpl, pl, rfl, hpl5, _⟩ := draws_ok c4 5 (by decide)
  replace hpl : d_l_draws [.int c4, .int 5] = some (.own (iL pl)) := hpl
  obtain ⟨_, hwy, ls, rfl, hW⟩ := ways_ok w hw c1 pl hpl5
  have hcnt := hW.cnt
  obtain ⟨_, hvs, vs, rfl, hvl, hv0⟩ := values_ok c2 ls.length hcnt
  have hbf := before_ok hW
  obtain ⟨S, M⟩ := Lot.marks hW.ord (at0 vs)
  obtain ⟨_, hsc, s, rfl, hsl, hsS⟩ := scores_ok hW vs hvl M
  obtain ⟨_, hch, o, rfl, hoL, hol, hos⟩ := chosen_ok hW vs s hvl hv0 hsl M hsS
  obtain ⟨_, hpk, pk, rfl, hpk8, _⟩ := draws_ok c3 8 (by decide)
  replace hpk : d_l_draws [.int c3, .int 8] = some (.own (iL pk)) := hpk
  have gd : Good ls vs o s := ⟨hoL, ⟨hsl, fun j hj => by rw [hsS j hj]; exact (M j hj).lo, fun i j hi hj hb => by
    rw [hsS i hi, hsS j hj]
    have := (M j hj).up i hi hb
    omega⟩, hos⟩
  have k6 := at_iL pk (i := 6) (k := 6) rfl (by omega)
  have k7 := at_iL pk (i := 7) (k := 7) rfl (by omega)
  generalize at0 pk 6 = p6 at k6
  generalize at0 pk 7 = p7 at k7
  have e : Res.mk .f w.d = .at .f w.d := rfl
  have mkb : Res.mk .f (bD ls) = .at .f (bD ls) := rfl
  have hlw : lenR [.at .f (.lst (ls.map tD))] = some (.at .f (.int ls.length)) := by rw [lenL, List.length_map]
  have mkscr : Res.mk .b (.scr ns) = .at .b (.scr ns) := rfl
  suffices main : W (d_LAW [.scr ns]) fun r => r = .at .f (.bl true) by
    obtain ⟨r, e1, rfl⟩ := main
    exact e1
  unfold d_LAW phi_LAW
  rw [e_run, W_bind]
  have hro : ro0 18 [false] [.scr ns] = [some (.at .b (.scr ns)), none, none, none, none, none, none, none, none, none, none, none, none, none, none, none, none, none] := rfl
  rw [hro]
  refine w_seq (fun ρ => ρ = [some (.at .b (.scr ns)), some (.at .f w.d), none, none, none, none, none, none, none, none, none, none, none, none, none, none, none, none]) (by simp [mkscr, fits, isF, hc0, hwd]) ?_
  rintro _ rfl
  refine w_seq (fun ρ => ρ = [some (.at .b (.scr ns)), some (.at .f w.d), some (.at .f (.lst (ls.map tD))), none, none, none, none, none, none, none, none, none, none, none, none, none, none, none]) (by simp [mkscr, fits, isF, hc1, hc4, hpl, e, hwy]) ?_
  rintro _ rfl
  refine w_seq (fun ρ => ρ = [some (.at .b (.scr ns)), some (.at .f w.d), some (.at .f (.lst (ls.map tD))), some (.at .f (.lst (iL vs))), none, none, none, none, none, none, none, none, none, none, none, none, none, none]) (by simp [mkscr, fits, isF, hc2, hlw, hvs]) ?_
  rintro _ rfl
  refine w_seq (fun ρ => ρ = [some (.at .b (.scr ns)), some (.at .f w.d), some (.at .f (.lst (ls.map tD))), some (.at .f (.lst (iL vs))), some (.at .f (bD ls)), none, none, none, none, none, none, none, none, none, none, none, none, none]) (by simp [fits, isF, hbf, bD]) ?_
  rintro _ rfl
  refine w_seq (fun ρ => ρ = [some (.at .b (.scr ns)), some (.at .f w.d), some (.at .f (.lst (ls.map tD))), some (.at .f (.lst (iL vs))), some (.at .f (bD ls)), some (.at .f (.lst (iL s))), none, none, none, none, none, none, none, none, none, none, none, none]) (by simp [fits, isF, mkb, hsc]) ?_
  rintro _ rfl
  refine w_seq (fun ρ => ρ = [some (.at .b (.scr ns)), some (.at .f w.d), some (.at .f (.lst (ls.map tD))), some (.at .f (.lst (iL vs))), some (.at .f (bD ls)), some (.at .f (.lst (iL s))), some (.at .f (.lst (iL o))), none, none, none, none, none, none, none, none, none, none, none]) (by simp [fits, isF, mkb, hch]) ?_
  rintro _ rfl
  refine w_seq (fun ρ => ρ = [some (.at .b (.scr ns)), some (.at .f w.d), some (.at .f (.lst (ls.map tD))), some (.at .f (.lst (iL vs))), some (.at .f (bD ls)), some (.at .f (.lst (iL s))), some (.at .f (.lst (iL o))), some (.at .f (.lst (iL pk))), none, none, none, none, none, none, none, none, none, none]) (by simp [mkscr, fits, isF, hc3, hpk]) ?_
  rintro _ rfl
  obtain ⟨mode, emode⟩ : ∃ mode, mode = p6 % 8 := ⟨_, rfl⟩
  refine w_seq (fun ρ => ρ = [some (.at .b (.scr ns)), some (.at .f w.d), some (.at .f (.lst (ls.map tD))), some (.at .f (.lst (iL vs))), some (.at .f (bD ls)), some (.at .f (.lst (iL s))), some (.at .f (.lst (iL o))), some (.at .f (.lst (iL pk))), some (.at .f (.int mode)), none, none, none, none, none, none, none, none, none]) (by simp [ixL, k6, emode]) ?_
  rintro _ rfl
  refine w_seq (fun ρ => ρ = [some (.at .b (.scr ns)), some (.at .f w.d), some (.at .f (.lst (ls.map tD))), some (.at .f (.lst (iL vs))), some (.at .f (bD ls)), some (.at .f (.lst (iL s))), some (.at .f (.lst (iL o))), some (.at .f (.lst (iL pk))), some (.at .f (.int mode)), some (.at .f (.lst (iL o))), none, none, none, none, none, none, none, none]) (by simp) ?_
  rintro _ rfl
  refine w_seq (fun ρ => ρ = [some (.at .b (.scr ns)), some (.at .f w.d), some (.at .f (.lst (ls.map tD))), some (.at .f (.lst (iL vs))), some (.at .f (bD ls)), some (.at .f (.lst (iL s))), some (.at .f (.lst (iL o))), some (.at .f (.lst (iL pk))), some (.at .f (.int mode)), some (.at .f (.lst (iL o))), some (.at .f (.lst (iL s))), none, none, none, none, none, none, none]) (by simp) ?_
  rintro _ rfl
  have c3' : slR none (some 3) (.at .f (.lst (iL pk))) = some (.own (iL (pk.take 3))) := by
    show some (mkL .f (cut (iL pk) none (some ((3 : Nat) : Int)))) = _
    rw [cut_take, iL_take]; rfl
  have c36 : slR (some 3) (some 6) (.at .f (.lst (iL pk))) = some (.own (iL ((pk.drop 3).take 3))) := by
    exact sl_mid (i := 3) (j := 6) (k := 3) (m := 6) rfl rfl (by decide) (by omega)
  obtain ⟨_, hsp, o1, ho1, lo1⟩ := spoilt_lot_ok o vs (pk.take 3) hol (by omega) (by rw [List.length_take]; omega)
  have hsp : W (d_l_spoilt_lot [.lst (iL o), .lst (iL vs), .lst (iL (pk.take 3))]) fun r => asF r = some (.at .f (.lst (iL o1))) := ⟨_, hsp, by rcases ho1 with rfl | rfl <;> rfl⟩
  obtain ⟨_, hsp, ho1⟩ := hsp
  refine w_seq (fun ρ => ∃ o' : List Int, o'.length ≤ 100 ∧ ρ = [some (.at .b (.scr ns)), some (.at .f w.d), some (.at .f (.lst (ls.map tD))), some (.at .f (.lst (iL vs))), some (.at .f (bD ls)), some (.at .f (.lst (iL s))), some (.at .f (.lst (iL o))), some (.at .f (.lst (iL pk))), some (.at .f (.int mode)), some (.at .f (.lst (iL o'))), some (.at .f (.lst (iL s))), none, none, none, none, none, none, none]) ?_ ?_
  · by_cases hm : 0 < mode ∧ mode < 5
    · have ct : ∀ x y z : Option Res, (fTst (fCh (cmpR ltP) (cmpR ltP) (fC (.int 0)) (fVar 8) (fC (.int 5)))) [some (.at .b (.scr ns)), some (.at .f w.d), some (.at .f (.lst (ls.map tD))), some (.at .f (.lst (iL vs))), some (.at .f (bD ls)), some (.at .f (.lst (iL s))), some (.at .f (.lst (iL o))), some (.at .f (.lst (iL pk))), some (.at .f (.int mode)), some (.at .f (.lst (iL o))), some (.at .f (.lst (iL s))), none, none, none, none, none, none, none] = some true := fun x y z => by
        simp [fCh, hm.1, hm.2]
      rw [e_sif, ct none none none, Option.bind_some, if_pos rfl]
      refine W.of (a := .nx [some (.at .b (.scr ns)), some (.at .f w.d), some (.at .f (.lst (ls.map tD))), some (.at .f (.lst (iL vs))), some (.at .f (bD ls)), some (.at .f (.lst (iL s))), some (.at .f (.lst (iL o))), some (.at .f (.lst (iL pk))), some (.at .f (.int mode)), some (.at .f (.lst (iL o1))), some (.at .f (.lst (iL s))), none, none, none, none, none, none, none]) ?_ ⟨_, rfl, o1, lo1, rfl⟩
      simp [c3', fits, isF, hsp, ho1]
    · have ct : (fTst (fCh (cmpR ltP) (cmpR ltP) (fC (.int 0)) (fVar 8) (fC (.int 5)))) [some (.at .b (.scr ns)), some (.at .f w.d), some (.at .f (.lst (ls.map tD))), some (.at .f (.lst (iL vs))), some (.at .f (bD ls)), some (.at .f (.lst (iL s))), some (.at .f (.lst (iL o))), some (.at .f (.lst (iL pk))), some (.at .f (.int mode)), some (.at .f (.lst (iL o))), some (.at .f (.lst (iL s))), none, none, none, none, none, none, none] = some false := by
        by_cases h0 : 0 < mode
        · have h5 : ¬ mode < 5 := fun z => hm ⟨h0, z⟩
          simp [fCh, h0, h5]
        · simp [fCh, h0]
      rw [e_sif, ct, Option.bind_some, if_neg (by decide), e_nx, W_some]
      exact ⟨_, rfl, o, by omega, rfl⟩
  rintro _ ⟨o', lo', rfl⟩
  obtain ⟨_, hsq, f1, hf1, lf1⟩ := spoilt_scores_ok s vs ((pk.drop 3).take 3) (by omega) (by omega) (by rw [List.length_take, List.length_drop]; omega)
  have hsq : W (d_l_spoilt_scores [.lst (iL s), .lst (iL vs), .lst (iL ((pk.drop 3).take 3))]) fun r => asF r = some (.at .f (.lst (iL f1))) := ⟨_, hsq, by rcases hf1 with rfl | rfl <;> rfl⟩
  obtain ⟨_, hsq, hf1⟩ := hsq
  obtain ⟨_, hra, f2', hf2, lf2⟩ := raised_ok s vs o' (by omega) lo'
  have hra : W (d_l_raised [.lst (iL s), .lst (iL vs), .lst (iL o')]) fun r => asF r = some (.at .f (.lst (iL f2'))) := ⟨_, hra, by rcases hf2 with rfl | rfl <;> rfl⟩
  obtain ⟨_, hra, hf2⟩ := hra
  refine w_seq (fun ρ => ∃ f' : List Int, f'.length ≤ 100 ∧ ρ = [some (.at .b (.scr ns)), some (.at .f w.d), some (.at .f (.lst (ls.map tD))), some (.at .f (.lst (iL vs))), some (.at .f (bD ls)), some (.at .f (.lst (iL s))), some (.at .f (.lst (iL o))), some (.at .f (.lst (iL pk))), some (.at .f (.int mode)), some (.at .f (.lst (iL o'))), some (.at .f (.lst (iL f'))), none, none, none, none, none, none, none]) ?_ ?_
  · by_cases hm : 3 < mode
    · refine W.of (a := .nx [some (.at .b (.scr ns)), some (.at .f w.d), some (.at .f (.lst (ls.map tD))), some (.at .f (.lst (iL vs))), some (.at .f (bD ls)), some (.at .f (.lst (iL s))), some (.at .f (.lst (iL o))), some (.at .f (.lst (iL pk))), some (.at .f (.int mode)), some (.at .f (.lst (iL o'))), some (.at .f (.lst (iL f1))), none, none, none, none, none, none, none]) ?_ ⟨_, rfl, f1, lf1, rfl⟩
      simp [hm, c36, fits, isF, hsq, hf1]
    · by_cases h7 : 0 < p7 % 4
      · refine W.of (a := .nx [some (.at .b (.scr ns)), some (.at .f w.d), some (.at .f (.lst (ls.map tD))), some (.at .f (.lst (iL vs))), some (.at .f (bD ls)), some (.at .f (.lst (iL s))), some (.at .f (.lst (iL o))), some (.at .f (.lst (iL pk))), some (.at .f (.int mode)), some (.at .f (.lst (iL o'))), some (.at .f (.lst (iL f2'))), none, none, none, none, none, none, none]) ?_ ⟨_, rfl, f2', lf2, rfl⟩
        simp [hm, ixL, k7, h7, fits, isF, hra, hf2]
      · refine W.of (a := .nx [some (.at .b (.scr ns)), some (.at .f w.d), some (.at .f (.lst (ls.map tD))), some (.at .f (.lst (iL vs))), some (.at .f (bD ls)), some (.at .f (.lst (iL s))), some (.at .f (.lst (iL o))), some (.at .f (.lst (iL pk))), some (.at .f (.int mode)), some (.at .f (.lst (iL o'))), some (.at .f (.lst (iL s))), none, none, none, none, none, none, none]) ?_ ⟨_, rfl, s, by omega, rfl⟩
        simp [hm, ixL, k7, h7]
  rintro _ ⟨f', lf', rfl⟩
  obtain ⟨_, hdu, k, rfl, hk⟩ := due_ok hW vs o' f' hvl hv0 lo' (by omega)
  refine w_seq (fun ρ => ρ = [some (.at .b (.scr ns)), some (.at .f w.d), some (.at .f (.lst (ls.map tD))), some (.at .f (.lst (iL vs))), some (.at .f (bD ls)), some (.at .f (.lst (iL s))), some (.at .f (.lst (iL o))), some (.at .f (.lst (iL pk))), some (.at .f (.int mode)), some (.at .f (.lst (iL o'))), some (.at .f (.lst (iL f'))), some (.at .f (.bl k)), none, none, none, none, none, none]) (by simp [fits, isF, mkb, hdu]) ?_
  rintro _ rfl
  have hzl : (ls.map fun l => Res.at .f (tD l)).length ≤ 100000 := by rw [List.length_map]; omega
  have seqW : seqItems (.at .f (.lst (ls.map tD))) = some (ls.map fun l => Res.at .f (tD l)) := by
    show some ((ls.map tD).map (Res.mk .f)) = _
    rw [List.map_map]
    rfl
  have lof : ∀ l : List Int, listOfR [.at .f (tD l)] = some (.own (iL l)) := fun l => rfl
  have mkt : ∀ l, Res.mk .f (tD l) = .at .f (tD l) := fun l => rfl
  have elg : ∀ ρ : Ro, ρ[16]? = some none → lcD (gaN 16) fYes (fFz (fA listOfR (fCons (fVar 16) fNil))) ρ (ls.map fun l => Res.at .f (tD l)) = some (ls.map fun l => .lst (iL l)) := fun ρ hρ => by
    refine lc_items fun l hl => ⟨_, rfl, ?_⟩
    have e16 : fVar 16 (ρ.set 16 (some (.at .f (tD l)))) = some (.at .f (tD l)) := by
      rw [e_var, List.getElem?_set_self (List.getElem?_eq_some_iff.mp hρ).1]; rfl
    rw [e_fz, e_fA, e_cons, e16]
    simp [lof]
  have eLc : ∀ x13 x14 x15 : Option Res, ∀ x12 : Option Res, (fLc (iSq (fVar 2)) [16] (gaN 16) fYes (fFz (fA listOfR (fCons (fVar 16) fNil)))) [some (.at .b (.scr ns)), some (.at .f w.d), some (.at .f (.lst (ls.map tD))), some (.at .f (.lst (iL vs))), some (.at .f (bD ls)), some (.at .f (.lst (iL s))), some (.at .f (.lst (iL o))), some (.at .f (.lst (iL pk))), some (.at .f (.int mode)), some (.at .f (.lst (iL o'))), some (.at .f (.lst (iL f'))), some (.at .f (.bl k)), x12, x13, x14, x15, none, none] = some (.own (ls.map fun l => .lst (iL l))) := fun x13 x14 x15 x12 => by
    have ei : iSq (fVar 2) [some (.at .b (.scr ns)), some (.at .f w.d), some (.at .f (.lst (ls.map tD))), some (.at .f (.lst (iL vs))), some (.at .f (bD ls)), some (.at .f (.lst (iL s))), some (.at .f (.lst (iL o))), some (.at .f (.lst (iL pk))), some (.at .f (.int mode)), some (.at .f (.lst (iL o'))), some (.at .f (.lst (iL f'))), some (.at .f (.bl k)), x12, x13, x14, x15, none, none] = some (ls.map fun l => Res.at .f (tD l)) := by
      simp [seqW]
    rw [e_lc, ei, Option.bind_some, if_pos hzl, elg _ rfl]; rfl
  refine w_seq (fun ρ => ρ = [some (.at .b (.scr ns)), some (.at .f w.d), some (.at .f (.lst (ls.map tD))), some (.at .f (.lst (iL vs))), some (.at .f (bD ls)), some (.at .f (.lst (iL s))), some (.at .f (.lst (iL o))), some (.at .f (.lst (iL pk))), some (.at .f (.int mode)), some (.at .f (.lst (iL o'))), some (.at .f (.lst (iL f'))), some (.at .f (.bl k)), some (.at .f (.lst (ls.map fun l => .lst (iL l)))), none, none, none, none, none]) (by
    rw [e_asg, e_fz, eLc none none none none]
    exact ⟨_, rfl, _, rfl, rfl⟩) ?_
  rintro _ rfl
  have lofi : ∀ l : List Int, listOfR [.at .f (.lst (iL l))] = some (.own (iL l)) := fun l => rfl
  refine w_seq (fun ρ => ρ = [some (.at .b (.scr ns)), some (.at .f w.d), some (.at .f (.lst (ls.map tD))), some (.at .f (.lst (iL vs))), some (.at .f (bD ls)), some (.at .f (.lst (iL s))), some (.at .f (.lst (iL o))), some (.at .f (.lst (iL pk))), some (.at .f (.int mode)), some (.at .f (.lst (iL o'))), some (.at .f (.lst (iL f'))), some (.at .f (.bl k)), some (.at .f (.lst (ls.map fun l => .lst (iL l)))), some (.at .f (.lst [.lst (iL vs), .lst (iL o'), .lst (iL f')])), none, none, none, none]) (by simp [lofi, lstR, mkL, supAll]) ?_
  rintro _ rfl
  have h0 : ∀ a b c : D, atI [a, b, c] 0 = some a := fun _ _ _ => rfl
  have h1 : ∀ a b c : D, atI [a, b, c] 1 = some b := fun _ _ _ => rfl
  have h2 : ∀ a b c : D, atI [a, b, c] 2 = some c := fun _ _ _ => rfl
  have same_k : ∀ k', (k' = true ↔ Good ls vs o' f') → k' = k := fun k' hk' => by
    cases k' with
    | true => exact (hk.mpr (hk'.mp rfl)).symm
    | false =>
      cases k with
      | true => exact absurd (hk'.mpr (hk.mp rfl)) (by decide)
      | false => rfl
  have ids : ∀ f : List Int → Bool, ls = (ls.map fun l => (f l, l)).map Prod.snd := fun f => by
    rw [List.map_map]; exact (List.map_id ls).symm
  -- the first call
  obtain ⟨_, hl1, k1, rfl, hk1⟩ := holds_ok hW false (ls.map fun l => (false, l)) (ids _) false false false vs o' f' hvl lo' (by omega)
  have e1 := same_k k1 hk1
  subst e1
  rw [rD_map] at hl1
  replace hl1 : d_lot_holds [.lst (ls.map fun l => .lst (iL l)), .lst (iL vs), .lst (iL o'), .lst (iL f')] = some (.at .f (.bl k1)) := hl1
  refine w_seq (fun ρ => ρ = [some (.at .b (.scr ns)), some (.at .f w.d), some (.at .f (.lst (ls.map tD))), some (.at .f (.lst (iL vs))), some (.at .f (bD ls)), some (.at .f (.lst (iL s))), some (.at .f (.lst (iL o))), some (.at .f (.lst (iL pk))), some (.at .f (.int mode)), some (.at .f (.lst (iL o'))), some (.at .f (.lst (iL f'))), some (.at .f (.bl k1)), some (.at .f (.lst (ls.map fun l => .lst (iL l)))), some (.at .f (.lst [.lst (iL vs), .lst (iL o'), .lst (iL f')])), some (.at .f (.bl k1)), none, none, none]) (by simp [ixL, h0, h1, h2, fits, isF, hl1]) ?_
  rintro _ rfl
  have hsame : ∀ x : Bool, d_l_same [.bl x, .bl x] = some (.at .f (.bl true)) := fun x => by rw [same_bl]; simp
  have q1 := eq_rows ls
  have q2 := eq_given3 vs o' f'
  have cr : (fLc (iSq (fVar 2)) [16] (gaN 16) fYes (fFz (fA listOfR (fCons (fVar 16) fNil)))) [some (.at .b (.scr ns)), some (.at .f w.d), some (.at .f (.lst (ls.map tD))), some (.at .f (.lst (iL vs))), some (.at .f (bD ls)), some (.at .f (.lst (iL s))), some (.at .f (.lst (iL o))), some (.at .f (.lst (iL pk))), some (.at .f (.int mode)), some (.at .f (.lst (iL o'))), some (.at .f (.lst (iL f'))), some (.at .f (.bl k1)), some (.at .f (.lst (ls.map fun l => .lst (iL l)))), some (.at .f (.lst [.lst (iL vs), .lst (iL o'), .lst (iL f')])), some (.at .f (.bl k1)), none, none, none] = some (.own (ls.map fun l => .lst (iL l))) := eLc _ _ _ _
  rw [e_seq, W_bind, e_sif]
  have t1 : (fOr (fNot (fTru (fA (callR [true, true] d_l_same) (fCons (fVar 14) (fCons (fVar 11) fNil))))) (fOr (fTst (f2 neR (fVar 12) (fLc (iSq (fVar 2)) [16] (gaN 16) fYes (fFz (fA listOfR (fCons (fVar 16) fNil)))))) (fTst (f2 neR (fVar 13) (fA lstR (fCons (fVar 3) (fCons (fVar 9) (fCons (fVar 10) fNil)))))))) [some (.at .b (.scr ns)), some (.at .f w.d), some (.at .f (.lst (ls.map tD))), some (.at .f (.lst (iL vs))), some (.at .f (bD ls)), some (.at .f (.lst (iL s))), some (.at .f (.lst (iL o))), some (.at .f (.lst (iL pk))), some (.at .f (.int mode)), some (.at .f (.lst (iL o'))), some (.at .f (.lst (iL f'))), some (.at .f (.bl k1)), some (.at .f (.lst (ls.map fun l => .lst (iL l)))), some (.at .f (.lst [.lst (iL vs), .lst (iL o'), .lst (iL f')])), some (.at .f (.bl k1)), none, none, none] = some false := by
    rw [e_or, e_or, e_tst, e_f2, cr]
    simp [fits, isF, hsame, truD, q1, q2, lstR, mkL, supAll]
  rw [t1, Option.bind_some, if_neg (by decide), e_nx, W_some]
  show W (sSeq _ _ _) _
  -- the second call
  obtain ⟨_, hl2, k2, rfl, hk2⟩ := holds_ok hW false (ls.map fun l => (false, l)) (ids _) false false false vs o s hvl (by omega) (by omega)
  have e2 : k2 = true := hk2.mpr gd
  subst e2
  rw [rD_map] at hl2
  replace hl2 : d_lot_holds [.lst (ls.map fun l => .lst (iL l)), .lst (iL vs), .lst (iL o), .lst (iL s)] = some (.at .f (.bl true)) := hl2
  rw [e_seq, W_bind, e_sif]
  have t2 : (fNot (fTru (fA (callR [true, true] d_l_same) (fCons (fA (callR [true, true, true, true] d_lot_holds) (fCons (fVar 12) (fCons (fFz (fA listOfR (fCons (fVar 3) fNil))) (fCons (fFz (fA listOfR (fCons (fVar 6) fNil))) (fCons (fFz (fA listOfR (fCons (fVar 5) fNil))) fNil))))) (fCons (fC (.bl true)) fNil))))) [some (.at .b (.scr ns)), some (.at .f w.d), some (.at .f (.lst (ls.map tD))), some (.at .f (.lst (iL vs))), some (.at .f (bD ls)), some (.at .f (.lst (iL s))), some (.at .f (.lst (iL o))), some (.at .f (.lst (iL pk))), some (.at .f (.int mode)), some (.at .f (.lst (iL o'))), some (.at .f (.lst (iL f'))), some (.at .f (.bl k1)), some (.at .f (.lst (ls.map fun l => .lst (iL l)))), some (.at .f (.lst [.lst (iL vs), .lst (iL o'), .lst (iL f')])), some (.at .f (.bl k1)), none, none, none] = some false := by
    simp [fits, isF, lofi, hl2, hsame, truD]
  rw [t2, Option.bind_some, if_neg (by decide), e_nx, W_some]
  show W (sSeq _ _ _) _
  -- the third call
  obtain ⟨_, hl3, k3, rfl, hk3⟩ := holds_ok hW true (ls.map fun l => (true, l)) (ids _) true true true vs o' f' hvl lo' (by omega)
  have e3 := same_k k3 hk3
  subst e3
  rw [rD_map] at hl3
  replace hl3 : d_lot_holds [.tup (ls.map tD), .tup (iL vs), .tup (iL o'), .tup (iL f')] = some (.at .f (.bl k3)) := hl3
  have tofi : ∀ l : List Int, tupOfR [.at .f (.lst (iL l))] = some (.at .f (.tup (iL l))) := fun l => rfl
  have tofw : tupOfR [.at .f (.lst (ls.map tD))] = some (.at .f (.tup (ls.map tD))) := rfl
  rw [e_seq, W_bind, e_sif]
  have t3 : (fNot (fTru (fA (callR [true, true] d_l_same) (fCons (fA (callR [true, true, true, true] d_lot_holds) (fCons (fA tupOfR (fCons (fVar 2) fNil)) (fCons (fA tupOfR (fCons (fVar 3) fNil)) (fCons (fA tupOfR (fCons (fVar 9) fNil)) (fCons (fA tupOfR (fCons (fVar 10) fNil)) fNil))))) (fCons (fVar 11) fNil))))) [some (.at .b (.scr ns)), some (.at .f w.d), some (.at .f (.lst (ls.map tD))), some (.at .f (.lst (iL vs))), some (.at .f (bD ls)), some (.at .f (.lst (iL s))), some (.at .f (.lst (iL o))), some (.at .f (.lst (iL pk))), some (.at .f (.int mode)), some (.at .f (.lst (iL o'))), some (.at .f (.lst (iL f'))), some (.at .f (.bl k3)), some (.at .f (.lst (ls.map fun l => .lst (iL l)))), some (.at .f (.lst [.lst (iL vs), .lst (iL o'), .lst (iL f')])), some (.at .f (.bl k3)), none, none, none] = some false := by
    simp [fits, isF, tofi, tofw, hl3, hsame, truD]
  rw [t3, Option.bind_some, if_neg (by decide), e_nx, W_some]
  show W (sSeq _ _ _) _
  -- the fourth call
  let ms : List (Bool × List Int) := (List.range ls.length).map fun i => (!decide (i % 2 = 0), wy ls i)
  have ems : ls = ms.map Prod.snd := by
    refine List.ext_getElem? fun i => ?_
    simp only [ms, List.map_map, List.getElem?_map]
    by_cases hi : i < ls.length
    · rw [List.getElem?_range hi, wy_at hi]; rfl
    · rw [List.getElem?_eq_none (by omega), List.getElem?_eq_none (by rw [List.length_range]; omega)]; rfl
  obtain ⟨_, hl4, k4, rfl, hk4⟩ := holds_ok hW false ms ems false false false vs o' f' hvl lo' (by omega)
  have e4 := same_k k4 hk4
  subst e4
  replace hl4 : d_lot_holds [.lst (ms.map fun p => sD p.1 p.2), .lst (iL vs), .lst (iL o'), .lst (iL f')] = some (.at .f (.bl k4)) := hl4
  refine w_seq (fun ρ => ρ = [some (.at .b (.scr ns)), some (.at .f w.d), some (.at .f (.lst (ls.map tD))), some (.at .f (.lst (iL vs))), some (.at .f (bD ls)), some (.at .f (.lst (iL s))), some (.at .f (.lst (iL o))), some (.at .f (.lst (iL pk))), some (.at .f (.int mode)), some (.at .f (.lst (iL o'))), some (.at .f (.lst (iL f'))), some (.at .f (.bl k4)), some (.at .f (.lst (ls.map fun l => .lst (iL l)))), some (.at .f (.lst [.lst (iL vs), .lst (iL o'), .lst (iL f')])), some (.at .f (.bl k4)), some (.at .f (.lst (ms.map fun p => sD p.1 p.2))), none, none]) ?_ ?_
  · have em : lcD (gaN 17) fYes (fFz (fIf (fTst (f2 eqR (f2 modR (fVar 17) (fC (.int 2))) (fC (.int 0)))) (fA listOfR (fCons (f2 ixR (fVar 2) (fVar 17)) fNil)) (f2 ixR (fVar 2) (fVar 17)))) [some (.at .b (.scr ns)), some (.at .f w.d), some (.at .f (.lst (ls.map tD))), some (.at .f (.lst (iL vs))), some (.at .f (bD ls)), some (.at .f (.lst (iL s))), some (.at .f (.lst (iL o))), some (.at .f (.lst (iL pk))), some (.at .f (.int mode)), some (.at .f (.lst (iL o'))), some (.at .f (.lst (iL f'))), some (.at .f (.bl k4)), some (.at .f (.lst (ls.map fun l => .lst (iL l)))), some (.at .f (.lst [.lst (iL vs), .lst (iL o'), .lst (iL f')])), some (.at .f (.bl k4)), none, none, none] (rngItems 0 ls.length) = some (ms.map fun p => sD p.1 p.2) := by
      unfold rngItems
      simp only [ms, List.map_map]
      refine lc_items (x := fun (i : Nat) => Res.at .f (.int (0 + (i : Int)))) (e := fun i => sD (!decide (i % 2 = 0)) (wy ls i)) fun i hi => ⟨_, rfl, ?_⟩
      have hi := List.mem_range.mp hi
      have ai := at_ways (f := tD) hi
      by_cases h2 : i % 2 = 0
      · have h2' : (i : Int) % 2 = 0 := by omega
        simp [ixL, ai, mkt, lof, h2, h2']
      · have h2' : ¬ ((i : Int) % 2 = 0) := by omega
        simp [ixL, ai, mkt, h2, h2']
        rfl
    have ew : wipeR [some (.at .b (.scr ns)), some (.at .f w.d), some (.at .f (.lst (ls.map tD))), some (.at .f (.lst (iL vs))), some (.at .f (bD ls)), some (.at .f (.lst (iL s))), some (.at .f (.lst (iL o))), some (.at .f (.lst (iL pk))), some (.at .f (.int mode)), some (.at .f (.lst (iL o'))), some (.at .f (.lst (iL f'))), some (.at .f (.bl k4)), some (.at .f (.lst (ls.map fun l => .lst (iL l)))), some (.at .f (.lst [.lst (iL vs), .lst (iL o'), .lst (iL f')])), some (.at .f (.bl k4)), none, none, none] [17] = [some (.at .b (.scr ns)), some (.at .f w.d), some (.at .f (.lst (ls.map tD))), some (.at .f (.lst (iL vs))), some (.at .f (bD ls)), some (.at .f (.lst (iL s))), some (.at .f (.lst (iL o))), some (.at .f (.lst (iL pk))), some (.at .f (.int mode)), some (.at .f (.lst (iL o'))), some (.at .f (.lst (iL f'))), some (.at .f (.bl k4)), some (.at .f (.lst (ls.map fun l => .lst (iL l)))), some (.at .f (.lst [.lst (iL vs), .lst (iL o'), .lst (iL f')])), some (.at .f (.bl k4)), none, none, none] := rfl
    have er : iA rng1R (fCons (fA lenR (fCons (fVar 2) fNil)) fNil) [some (.at .b (.scr ns)), some (.at .f w.d), some (.at .f (.lst (ls.map tD))), some (.at .f (.lst (iL vs))), some (.at .f (bD ls)), some (.at .f (.lst (iL s))), some (.at .f (.lst (iL o))), some (.at .f (.lst (iL pk))), some (.at .f (.int mode)), some (.at .f (.lst (iL o'))), some (.at .f (.lst (iL f'))), some (.at .f (.bl k4)), some (.at .f (.lst (ls.map fun l => .lst (iL l)))), some (.at .f (.lst [.lst (iL vs), .lst (iL o'), .lst (iL f')])), some (.at .f (.bl k4)), none, none, none] = some (rngItems 0 ls.length) := by
      simp [hlw, rng1R]
      omega
    have hz : (rngItems 0 ls.length).length ≤ 100000 := by rw [rng_len]; omega
    rw [e_asg, e_fz, e_lc, er, Option.bind_some, if_pos hz, ew, em]
    exact ⟨_, rfl, _, rfl, rfl⟩
  rintro _ rfl
  simp [ixL, h0, h1, h2, fits, isF, hl4, hsame]
end Lw

set_option Elab.async false
set_option linter.all false
set_option maxRecDepth 100000
namespace Lw
open PySem PySem.Spec PyProof.Rows L2 Fx
set_option maxHeartbeats 4000000
theorem all_mk {l : PySem.W.OpenLaw} {w : World} {K : PySem.W.Frag} {h : Heap} {mg : Str → Option Value} {fa f0 f1 f2 f3 f4 f5 f6 f7 f8 f9 f10 f11 f12 f13 f14 f15 f16 f17 f18 f19 f20 f21 f22 f23 f24 f25 f26 f27 f28 f29 f30 f31 f32 f33 f34 f35 : Addr} (X : K.In h) (G : h.Ns mainGlobals mg) (hfa : mg "law" = some (.ref fa))
    {od0 an0 od1 an1 od2 an2 od3 an3 od4 an4 od5 an5 od6 an6 od7 an7 od8 an8 od9 an9 od10 an10 od11 an11 od12 an12 od13 an13 od14 an14 od15 an15 od16 an16 od17 an17 od18 an18 od19 an19 od20 an20 od21 an21 od22 an22 od23 an23 od24 an24 od25 an25 od26 an26 od27 an27 od28 an28 od29 an29 od30 an30 od31 an31 od32 an32 od33 an33 od34 an34 od35 an35 : Option Addr} {sl0 sl1 sl2 sl3 sl4 sl5 sl6 sl7 sl8 sl9 sl10 sl11 sl12 sl13 sl14 sl15 sl16 sl17 sl18 sl19 sl20 sl21 sl22 sl23 sl24 sl25 sl26 sl27 sl28 sl29 sl30 sl31 sl32 sl33 sl34 sl35 : Array (Option Value)} {oc0 kV0 dc0 pm0 cd0 ct0 oc1 kV1 dc1 pm1 cd1 ct1 oc2 kV2 dc2 pm2 cd2 ct2 oc3 kV3 dc3 pm3 cd3 ct3 oc4 kV4 dc4 pm4 cd4 ct4 oc5 kV5 dc5 pm5 cd5 ct5 oc6 kV6 dc6 pm6 cd6 ct6 oc7 kV7 dc7 pm7 cd7 ct7 oc8 kV8 dc8 pm8 cd8 ct8 oc9 kV9 dc9 pm9 cd9 ct9 oc10 kV10 dc10 pm10 cd10 ct10 oc11 kV11 dc11 pm11 cd11 ct11 oc12 kV12 dc12 pm12 cd12 ct12 oc13 kV13 dc13 pm13 cd13 ct13 oc14 kV14 dc14 pm14 cd14 ct14 oc15 kV15 dc15 pm15 cd15 ct15 oc16 kV16 dc16 pm16 cd16 ct16 oc17 kV17 dc17 pm17 cd17 ct17 oc18 kV18 dc18 pm18 cd18 ct18 oc19 kV19 dc19 pm19 cd19 ct19 oc20 kV20 dc20 pm20 cd20 ct20 oc21 kV21 dc21 pm21 cd21 ct21 oc22 kV22 dc22 pm22 cd22 ct22 oc23 kV23 dc23 pm23 cd23 ct23 oc24 kV24 dc24 pm24 cd24 ct24 oc25 kV25 dc25 pm25 cd25 ct25 oc26 kV26 dc26 pm26 cd26 ct26 oc27 kV27 dc27 pm27 cd27 ct27 oc28 kV28 dc28 pm28 cd28 ct28 oc29 kV29 dc29 pm29 cd29 ct29 oc30 kV30 dc30 pm30 cd30 ct30 oc31 kV31 dc31 pm31 cd31 ct31 oc32 kV32 dc32 pm32 cd32 ct32 oc33 kV33 dc33 pm33 cd33 ct33 oc34 kV34 dc34 pm34 cd34 ct34 oc35 kV35 dc35 pm35 cd35 ct35 : Value}
    (a0 : PySem.W.nsIn K mainGlobals "shared_places" = some (some (.ref f0))) (l0 : K.lookup f0 = some ⟨oc0, od0, .func (PySem.W.fnOf "shared_places" "shared_places" (defArgs s_shared_places) (defBody s_shared_places) (defScope s_shared_places) .none kV0 dc0 pm0 an0 cd0 ct0), sl0⟩) (c0 : PySem.W.codeIn K cd0 "shared_places" = true) (k0 : PySem.W.keepIn K (.ref f0) = true)
    (a1 : PySem.W.nsIn K mainGlobals "_place_after" = some (some (.ref f1))) (l1 : K.lookup f1 = some ⟨oc1, od1, .func (PySem.W.fnOf "_place_after" "_place_after" (defArgs s_place_after) (defBody s_place_after) (defScope s_place_after) .none kV1 dc1 pm1 an1 cd1 ct1), sl1⟩) (c1 : PySem.W.codeIn K cd1 "_place_after" = true) (k1 : PySem.W.keepIn K (.ref f1) = true)
    (a2 : PySem.W.nsIn K mainGlobals "conflict" = some (some (.ref f2))) (l2 : K.lookup f2 = some ⟨oc2, od2, .func (PySem.W.fnOf "conflict" "conflict" (defArgs s_conflict) (defBody s_conflict) (defScope s_conflict) .none kV2 dc2 pm2 an2 cd2 ct2), sl2⟩) (c2 : PySem.W.codeIn K cd2 "conflict" = true) (k2 : PySem.W.keepIn K (.ref f2) = true)
    (a3 : PySem.W.nsIn K mainGlobals "nowhere_right" = some (some (.ref f3))) (l3 : K.lookup f3 = some ⟨oc3, od3, .func (PySem.W.fnOf "nowhere_right" "nowhere_right" (defArgs s_nowhere_right) (defBody s_nowhere_right) (defScope s_nowhere_right) .none kV3 dc3 pm3 an3 cd3 ct3), sl3⟩) (c3 : PySem.W.codeIn K cd3 "nowhere_right" = true) (k3 : PySem.W.keepIn K (.ref f3) = true)
    (a4 : PySem.W.nsIn K mainGlobals "beside" = some (some (.ref f4))) (l4 : K.lookup f4 = some ⟨oc4, od4, .func (PySem.W.fnOf "beside" "beside" (defArgs s_beside) (defBody s_beside) (defScope s_beside) .none kV4 dc4 pm4 an4 cd4 ct4), sl4⟩) (c4 : PySem.W.codeIn K cd4 "beside" = true) (k4 : PySem.W.keepIn K (.ref f4) = true)
    (a5 : PySem.W.nsIn K mainGlobals "_comes_before" = some (some (.ref f5))) (l5 : K.lookup f5 = some ⟨oc5, od5, .func (PySem.W.fnOf "_comes_before" "_comes_before" (defArgs s_comes_before) (defBody s_comes_before) (defScope s_comes_before) .none kV5 dc5 pm5 an5 cd5 ct5), sl5⟩) (c5 : PySem.W.codeIn K cd5 "_comes_before" = true) (k5 : PySem.W.keepIn K (.ref f5) = true)
    (a6 : PySem.W.nsIn K mainGlobals "_is_lot" = some (some (.ref f6))) (l6 : K.lookup f6 = some ⟨oc6, od6, .func (PySem.W.fnOf "_is_lot" "_is_lot" (defArgs s_is_lot) (defBody s_is_lot) (defScope s_is_lot) .none kV6 dc6 pm6 an6 cd6 ct6), sl6⟩) (c6 : PySem.W.codeIn K cd6 "_is_lot" = true) (k6 : PySem.W.keepIn K (.ref f6) = true)
    (a7 : PySem.W.nsIn K mainGlobals "_are_marks" = some (some (.ref f7))) (l7 : K.lookup f7 = some ⟨oc7, od7, .func (PySem.W.fnOf "_are_marks" "_are_marks" (defArgs s_are_marks) (defBody s_are_marks) (defScope s_are_marks) .none kV7 dc7 pm7 an7 cd7 ct7), sl7⟩) (c7 : PySem.W.codeIn K cd7 "_are_marks" = true) (k7 : PySem.W.keepIn K (.ref f7) = true)
    (a8 : PySem.W.nsIn K mainGlobals "lot_holds" = some (some (.ref f8))) (l8 : K.lookup f8 = some ⟨oc8, od8, .func (PySem.W.fnOf "lot_holds" "lot_holds" (defArgs s_lot_holds) (defBody s_lot_holds) (defScope s_lot_holds) .none kV8 dc8 pm8 an8 cd8 ct8), sl8⟩) (c8 : PySem.W.codeIn K cd8 "lot_holds" = true) (k8 : PySem.W.keepIn K (.ref f8) = true)
    (a9 : PySem.W.nsIn K mainGlobals "_law_cell" = some (some (.ref f9))) (l9 : K.lookup f9 = some ⟨oc9, od9, .func (PySem.W.fnOf "_law_cell" "_law_cell" (defArgs s_l_cell) (defBody s_l_cell) (defScope s_l_cell) .none kV9 dc9 pm9 an9 cd9 ct9), sl9⟩) (c9 : PySem.W.codeIn K cd9 "_law_cell" = true) (k9 : PySem.W.keepIn K (.ref f9) = true)
    (a10 : PySem.W.nsIn K mainGlobals "_law_draws" = some (some (.ref f10))) (l10 : K.lookup f10 = some ⟨oc10, od10, .func (PySem.W.fnOf "_law_draws" "_law_draws" (defArgs s_l_draws) (defBody s_l_draws) (defScope s_l_draws) .none kV10 dc10 pm10 an10 cd10 ct10), sl10⟩) (c10 : PySem.W.codeIn K cd10 "_law_draws" = true) (k10 : PySem.W.keepIn K (.ref f10) = true)
    (a11 : PySem.W.nsIn K mainGlobals "_law_widths" = some (some (.ref f11))) (l11 : K.lookup f11 = some ⟨oc11, od11, .func (PySem.W.fnOf "_law_widths" "_law_widths" (defArgs s_l_widths) (defBody s_l_widths) (defScope s_l_widths) .none kV11 dc11 pm11 an11 cd11 ct11), sl11⟩) (c11 : PySem.W.codeIn K cd11 "_law_widths" = true) (k11 : PySem.W.keepIn K (.ref f11) = true)
    (a12 : PySem.W.nsIn K mainGlobals "_law_price" = some (some (.ref f12))) (l12 : K.lookup f12 = some ⟨oc12, od12, .func (PySem.W.fnOf "_law_price" "_law_price" (defArgs s_l_price) (defBody s_l_price) (defScope s_l_price) .none kV12 dc12 pm12 an12 cd12 ct12), sl12⟩) (c12 : PySem.W.codeIn K cd12 "_law_price" = true) (k12 : PySem.W.keepIn K (.ref f12) = true)
    (a13 : PySem.W.nsIn K mainGlobals "_law_roads" = some (some (.ref f13))) (l13 : K.lookup f13 = some ⟨oc13, od13, .func (PySem.W.fnOf "_law_roads" "_law_roads" (defArgs s_l_roads) (defBody s_l_roads) (defScope s_l_roads) .none kV13 dc13 pm13 an13 cd13 ct13), sl13⟩) (c13 : PySem.W.codeIn K cd13 "_law_roads" = true) (k13 : PySem.W.keepIn K (.ref f13) = true)
    (a14 : PySem.W.nsIn K mainGlobals "_law_rows" = some (some (.ref f14))) (l14 : K.lookup f14 = some ⟨oc14, od14, .func (PySem.W.fnOf "_law_rows" "_law_rows" (defArgs s_l_rows) (defBody s_l_rows) (defScope s_l_rows) .none kV14 dc14 pm14 an14 cd14 ct14), sl14⟩) (c14 : PySem.W.codeIn K cd14 "_law_rows" = true) (k14 : PySem.W.keepIn K (.ref f14) = true)
    (a15 : PySem.W.nsIn K mainGlobals "_law_ends" = some (some (.ref f15))) (l15 : K.lookup f15 = some ⟨oc15, od15, .func (PySem.W.fnOf "_law_ends" "_law_ends" (defArgs s_l_ends) (defBody s_l_ends) (defScope s_l_ends) .none kV15 dc15 pm15 an15 cd15 ct15), sl15⟩) (c15 : PySem.W.codeIn K cd15 "_law_ends" = true) (k15 : PySem.W.keepIn K (.ref f15) = true)
    (a16 : PySem.W.nsIn K mainGlobals "_law_costs" = some (some (.ref f16))) (l16 : K.lookup f16 = some ⟨oc16, od16, .func (PySem.W.fnOf "_law_costs" "_law_costs" (defArgs s_l_costs) (defBody s_l_costs) (defScope s_l_costs) .none kV16 dc16 pm16 an16 cd16 ct16), sl16⟩) (c16 : PySem.W.codeIn K cd16 "_law_costs" = true) (k16 : PySem.W.keepIn K (.ref f16) = true)
    (a17 : PySem.W.nsIn K mainGlobals "_law_least" = some (some (.ref f17))) (l17 : K.lookup f17 = some ⟨oc17, od17, .func (PySem.W.fnOf "_law_least" "_law_least" (defArgs s_l_least) (defBody s_l_least) (defScope s_l_least) .none kV17 dc17 pm17 an17 cd17 ct17), sl17⟩) (c17 : PySem.W.codeIn K cd17 "_law_least" = true) (k17 : PySem.W.keepIn K (.ref f17) = true)
    (a18 : PySem.W.nsIn K mainGlobals "_law_pairs" = some (some (.ref f18))) (l18 : K.lookup f18 = some ⟨oc18, od18, .func (PySem.W.fnOf "_law_pairs" "_law_pairs" (defArgs s_l_pairs) (defBody s_l_pairs) (defScope s_l_pairs) .none kV18 dc18 pm18 an18 cd18 ct18), sl18⟩) (c18 : PySem.W.codeIn K cd18 "_law_pairs" = true) (k18 : PySem.W.keepIn K (.ref f18) = true)
    (a19 : PySem.W.nsIn K mainGlobals "_law_world_of" = some (some (.ref f19))) (l19 : K.lookup f19 = some ⟨oc19, od19, .func (PySem.W.fnOf "_law_world_of" "_law_world_of" (defArgs s_l_world_of) (defBody s_l_world_of) (defScope s_l_world_of) .none kV19 dc19 pm19 an19 cd19 ct19), sl19⟩) (c19 : PySem.W.codeIn K cd19 "_law_world_of" = true) (k19 : PySem.W.keepIn K (.ref f19) = true)
    (a20 : PySem.W.nsIn K mainGlobals "_law_world" = some (some (.ref f20))) (l20 : K.lookup f20 = some ⟨oc20, od20, .func (PySem.W.fnOf "_law_world" "_law_world" (defArgs s_l_world) (defBody s_l_world) (defScope s_l_world) .none kV20 dc20 pm20 an20 cd20 ct20), sl20⟩) (c20 : PySem.W.codeIn K cd20 "_law_world" = true) (k20 : PySem.W.keepIn K (.ref f20) = true)
    (a21 : PySem.W.nsIn K mainGlobals "_law_conflict" = some (some (.ref f21))) (l21 : K.lookup f21 = some ⟨oc21, od21, .func (PySem.W.fnOf "_law_conflict" "_law_conflict" (defArgs s_l_conflict) (defBody s_l_conflict) (defScope s_l_conflict) .none kV21 dc21 pm21 an21 cd21 ct21), sl21⟩) (c21 : PySem.W.codeIn K cd21 "_law_conflict" = true) (k21 : PySem.W.keepIn K (.ref f21) = true)
    (a22 : PySem.W.nsIn K mainGlobals "_law_same" = some (some (.ref f22))) (l22 : K.lookup f22 = some ⟨oc22, od22, .func (PySem.W.fnOf "_law_same" "_law_same" (defArgs s_l_same) (defBody s_l_same) (defScope s_l_same) .none kV22 dc22 pm22 an22 cd22 ct22), sl22⟩) (c22 : PySem.W.codeIn K cd22 "_law_same" = true) (k22 : PySem.W.keepIn K (.ref f22) = true)
    (a23 : PySem.W.nsIn K mainGlobals "_law_walk" = some (some (.ref f23))) (l23 : K.lookup f23 = some ⟨oc23, od23, .func (PySem.W.fnOf "_law_walk" "_law_walk" (defArgs s_l_walk) (defBody s_l_walk) (defScope s_l_walk) .none kV23 dc23 pm23 an23 cd23 ct23), sl23⟩) (c23 : PySem.W.codeIn K cd23 "_law_walk" = true) (k23 : PySem.W.keepIn K (.ref f23) = true)
    (a24 : PySem.W.nsIn K mainGlobals "_law_forked" = some (some (.ref f24))) (l24 : K.lookup f24 = some ⟨oc24, od24, .func (PySem.W.fnOf "_law_forked" "_law_forked" (defArgs s_l_forked) (defBody s_l_forked) (defScope s_l_forked) .none kV24 dc24 pm24 an24 cd24 ct24), sl24⟩) (c24 : PySem.W.codeIn K cd24 "_law_forked" = true) (k24 : PySem.W.keepIn K (.ref f24) = true)
    (a25 : PySem.W.nsIn K mainGlobals "_law_led" = some (some (.ref f25))) (l25 : K.lookup f25 = some ⟨oc25, od25, .func (PySem.W.fnOf "_law_led" "_law_led" (defArgs s_l_led) (defBody s_l_led) (defScope s_l_led) .none kV25 dc25 pm25 an25 cd25 ct25), sl25⟩) (c25 : PySem.W.codeIn K cd25 "_law_led" = true) (k25 : PySem.W.keepIn K (.ref f25) = true)
    (a26 : PySem.W.nsIn K mainGlobals "_law_ways" = some (some (.ref f26))) (l26 : K.lookup f26 = some ⟨oc26, od26, .func (PySem.W.fnOf "_law_ways" "_law_ways" (defArgs s_l_ways) (defBody s_l_ways) (defScope s_l_ways) .none kV26 dc26 pm26 an26 cd26 ct26), sl26⟩) (c26 : PySem.W.codeIn K cd26 "_law_ways" = true) (k26 : PySem.W.keepIn K (.ref f26) = true)
    (a27 : PySem.W.nsIn K mainGlobals "_law_values" = some (some (.ref f27))) (l27 : K.lookup f27 = some ⟨oc27, od27, .func (PySem.W.fnOf "_law_values" "_law_values" (defArgs s_l_values) (defBody s_l_values) (defScope s_l_values) .none kV27 dc27 pm27 an27 cd27 ct27), sl27⟩) (c27 : PySem.W.codeIn K cd27 "_law_values" = true) (k27 : PySem.W.keepIn K (.ref f27) = true)
    (a28 : PySem.W.nsIn K mainGlobals "_law_before" = some (some (.ref f28))) (l28 : K.lookup f28 = some ⟨oc28, od28, .func (PySem.W.fnOf "_law_before" "_law_before" (defArgs s_l_before) (defBody s_l_before) (defScope s_l_before) .none kV28 dc28 pm28 an28 cd28 ct28), sl28⟩) (c28 : PySem.W.codeIn K cd28 "_law_before" = true) (k28 : PySem.W.keepIn K (.ref f28) = true)
    (a29 : PySem.W.nsIn K mainGlobals "_law_scores" = some (some (.ref f29))) (l29 : K.lookup f29 = some ⟨oc29, od29, .func (PySem.W.fnOf "_law_scores" "_law_scores" (defArgs s_l_scores) (defBody s_l_scores) (defScope s_l_scores) .none kV29 dc29 pm29 an29 cd29 ct29), sl29⟩) (c29 : PySem.W.codeIn K cd29 "_law_scores" = true) (k29 : PySem.W.keepIn K (.ref f29) = true)
    (a30 : PySem.W.nsIn K mainGlobals "_law_chosen" = some (some (.ref f30))) (l30 : K.lookup f30 = some ⟨oc30, od30, .func (PySem.W.fnOf "_law_chosen" "_law_chosen" (defArgs s_l_chosen) (defBody s_l_chosen) (defScope s_l_chosen) .none kV30 dc30 pm30 an30 cd30 ct30), sl30⟩) (c30 : PySem.W.codeIn K cd30 "_law_chosen" = true) (k30 : PySem.W.keepIn K (.ref f30) = true)
    (a31 : PySem.W.nsIn K mainGlobals "_law_spoilt_lot" = some (some (.ref f31))) (l31 : K.lookup f31 = some ⟨oc31, od31, .func (PySem.W.fnOf "_law_spoilt_lot" "_law_spoilt_lot" (defArgs s_l_spoilt_lot) (defBody s_l_spoilt_lot) (defScope s_l_spoilt_lot) .none kV31 dc31 pm31 an31 cd31 ct31), sl31⟩) (c31 : PySem.W.codeIn K cd31 "_law_spoilt_lot" = true) (k31 : PySem.W.keepIn K (.ref f31) = true)
    (a32 : PySem.W.nsIn K mainGlobals "_law_spoilt_scores" = some (some (.ref f32))) (l32 : K.lookup f32 = some ⟨oc32, od32, .func (PySem.W.fnOf "_law_spoilt_scores" "_law_spoilt_scores" (defArgs s_l_spoilt_scores) (defBody s_l_spoilt_scores) (defScope s_l_spoilt_scores) .none kV32 dc32 pm32 an32 cd32 ct32), sl32⟩) (c32 : PySem.W.codeIn K cd32 "_law_spoilt_scores" = true) (k32 : PySem.W.keepIn K (.ref f32) = true)
    (a33 : PySem.W.nsIn K mainGlobals "_law_raised" = some (some (.ref f33))) (l33 : K.lookup f33 = some ⟨oc33, od33, .func (PySem.W.fnOf "_law_raised" "_law_raised" (defArgs s_l_raised) (defBody s_l_raised) (defScope s_l_raised) .none kV33 dc33 pm33 an33 cd33 ct33), sl33⟩) (c33 : PySem.W.codeIn K cd33 "_law_raised" = true) (k33 : PySem.W.keepIn K (.ref f33) = true)
    (a34 : PySem.W.nsIn K mainGlobals "_law_due" = some (some (.ref f34))) (l34 : K.lookup f34 = some ⟨oc34, od34, .func (PySem.W.fnOf "_law_due" "_law_due" (defArgs s_l_due) (defBody s_l_due) (defScope s_l_due) .none kV34 dc34 pm34 an34 cd34 ct34), sl34⟩) (c34 : PySem.W.codeIn K cd34 "_law_due" = true) (k34 : PySem.W.keepIn K (.ref f34) = true)
    (a35 : PySem.W.nsIn K mainGlobals "law" = some (some (.ref f35))) (l35 : K.lookup f35 = some ⟨oc35, od35, .func (PySem.W.fnOf "law" "law" (defArgs s_LAW) (defBody s_LAW) (defScope s_LAW) .none kV35 dc35 pm35 an35 cd35 ct35), sl35⟩) (c35 : PySem.W.codeIn K cd35 "law" = true) (k35 : PySem.W.keepIn K (.ref f35) = true)
    (zz_all : PySem.W.nsIn K mainGlobals "all" = some none)
    (zz_bool : PySem.W.nsIn K mainGlobals "bool" = some none)
    (zz_int : PySem.W.nsIn K mainGlobals "int" = some none)
    (zz_isinstance : PySem.W.nsIn K mainGlobals "isinstance" = some none)
    (zz_len : PySem.W.nsIn K mainGlobals "len" = some none)
    (zz_list : PySem.W.nsIn K mainGlobals "list" = some none)
    (zz_max : PySem.W.nsIn K mainGlobals "max" = some none)
    (zz_range : PySem.W.nsIn K mainGlobals "range" = some none)
    (zz_sorted : PySem.W.nsIn K mainGlobals "sorted" = some none)
    (zz_str : PySem.W.nsIn K mainGlobals "str" = some none)
    (zz_sum : PySem.W.nsIn K mainGlobals "sum" = some none)
    (zz_tuple : PySem.W.nsIn K mainGlobals "tuple" = some none)
    (zz_zip : PySem.W.nsIn K mainGlobals "zip" = some none)
    : ∃ fd : FuncData, (∀ (s : Shared) (v : Value), BindsTo s fd ⟨[v], []⟩ [("script", v)]) ∧ ∀ base : Heap, K.In base → base.Ns mainGlobals mg → FnOk l.prog w K mg base CX0 8 fa fd ["script"] (spP ⟨K, fun _ => none, l.prog, w⟩ [false] d_LAW) := by
  have e := hfa.symm.trans (PySem.W.mg_of X G a35)
  cases e
  have Z : Zs mg := ⟨PySem.W.mg_none_of X G zz_all, PySem.W.mg_none_of X G zz_bool, PySem.W.mg_none_of X G zz_int, PySem.W.mg_none_of X G zz_isinstance, PySem.W.mg_none_of X G zz_len, PySem.W.mg_none_of X G zz_list, PySem.W.mg_none_of X G zz_max, PySem.W.mg_none_of X G zz_range, PySem.W.mg_none_of X G zz_sorted, PySem.W.mg_none_of X G zz_str, PySem.W.mg_none_of X G zz_sum, PySem.W.mg_none_of X G zz_tuple, PySem.W.mg_none_of X G zz_zip⟩
  have F0 := fun_mk (st := s_shared_places) l0 c0 k0
  have F1 := fun_mk (st := s_place_after) l1 c1 k1
  have F2 := fun_mk (st := s_conflict) l2 c2 k2
  have F3 := fun_mk (st := s_nowhere_right) l3 c3 k3
  have F4 := fun_mk (st := s_beside) l4 c4 k4
  have F5 := fun_mk (st := s_comes_before) l5 c5 k5
  have F6 := fun_mk (st := s_is_lot) l6 c6 k6
  have F7 := fun_mk (st := s_are_marks) l7 c7 k7
  have F8 := fun_mk (st := s_lot_holds) l8 c8 k8
  have F9 := fun_mk (st := s_l_cell) l9 c9 k9
  have F10 := fun_mk (st := s_l_draws) l10 c10 k10
  have F11 := fun_mk (st := s_l_widths) l11 c11 k11
  have F12 := fun_mk (st := s_l_price) l12 c12 k12
  have F13 := fun_mk (st := s_l_roads) l13 c13 k13
  have F14 := fun_mk (st := s_l_rows) l14 c14 k14
  have F15 := fun_mk (st := s_l_ends) l15 c15 k15
  have F16 := fun_mk (st := s_l_costs) l16 c16 k16
  have F17 := fun_mk (st := s_l_least) l17 c17 k17
  have F18 := fun_mk (st := s_l_pairs) l18 c18 k18
  have F19 := fun_mk (st := s_l_world_of) l19 c19 k19
  have F20 := fun_mk (st := s_l_world) l20 c20 k20
  have F21 := fun_mk (st := s_l_conflict) l21 c21 k21
  have F22 := fun_mk (st := s_l_same) l22 c22 k22
  have F23 := fun_mk (st := s_l_walk) l23 c23 k23
  have F24 := fun_mk (st := s_l_forked) l24 c24 k24
  have F25 := fun_mk (st := s_l_led) l25 c25 k25
  have F26 := fun_mk (st := s_l_ways) l26 c26 k26
  have F27 := fun_mk (st := s_l_values) l27 c27 k27
  have F28 := fun_mk (st := s_l_before) l28 c28 k28
  have F29 := fun_mk (st := s_l_scores) l29 c29 k29
  have F30 := fun_mk (st := s_l_chosen) l30 c30 k30
  have F31 := fun_mk (st := s_l_spoilt_lot) l31 c31 k31
  have F32 := fun_mk (st := s_l_spoilt_scores) l32 c32 k32
  have F33 := fun_mk (st := s_l_raised) l33 c33 k33
  have F34 := fun_mk (st := s_l_due) l34 c34 k34
  have F35 := fun_mk (st := s_LAW) l35 c35 k35
  refine ⟨PySem.W.fnOf "law" "law" (defArgs s_LAW) (defBody s_LAW) (defScope s_LAW) .none kV35 dc35 pm35 an35 cd35 ct35, fun s v => .of_eq rfl, fun base _ _ => ?_⟩
  have B0 := F0.binds (ps := ["first", "second"]) fun _ _ _ _ _ _ us hl => match us, hl with | [_, _], _ => rfl
  have C_shared_places : Cal l.prog w K mg base 1 "shared_places" ["first", "second"] (spP ⟨K, fun _ => none, l.prog, w⟩ [true, true] d_shared_places) := ⟨f0, _, PySem.W.mg_of X G a0, F0.kp, B0, ok_shared_places F0 Z⟩
  have B1 := F1.binds (ps := ["route", "place"]) fun _ _ _ _ _ _ us hl => match us, hl with | [_, _], _ => rfl
  have C_place_after : Cal l.prog w K mg base 1 "_place_after" ["route", "place"] (spP ⟨K, fun _ => none, l.prog, w⟩ [true, true] d_place_after) := ⟨f1, _, PySem.W.mg_of X G a1, F1.kp, B1, ok_place_after F1 Z⟩
  have B2 := F2.binds (ps := ["first", "second"]) fun _ _ _ _ _ _ us hl => match us, hl with | [_, _], _ => rfl
  have C_conflict : Cal l.prog w K mg base 2 "conflict" ["first", "second"] (spP ⟨K, fun _ => none, l.prog, w⟩ [true, true] d_conflict) := ⟨f2, _, PySem.W.mg_of X G a2, F2.kp, B2, ok_conflict F2 Z C_shared_places C_place_after⟩
  have B3 := F3.binds (ps := ["first", "second"]) fun _ _ _ _ _ _ us hl => match us, hl with | [_, _], _ => rfl
  have C_nowhere_right : Cal l.prog w K mg base 1 "nowhere_right" ["first", "second"] (spP ⟨K, fun _ => none, l.prog, w⟩ [true, true] d_nowhere_right) := ⟨f3, _, PySem.W.mg_of X G a3, F3.kp, B3, ok_nowhere_right F3 Z⟩
  have B4 := F4.binds (ps := ["first", "second"]) fun _ _ _ _ _ _ us hl => match us, hl with | [_, _], _ => rfl
  have C_beside : Cal l.prog w K mg base 3 "beside" ["first", "second"] (spP ⟨K, fun _ => none, l.prog, w⟩ [true, true] d_beside) := ⟨f4, _, PySem.W.mg_of X G a4, F4.kp, B4, ok_beside F4 Z C_nowhere_right C_conflict⟩
  have B5 := F5.binds (ps := ["routes", "first", "second"]) fun _ _ _ _ _ _ us hl => match us, hl with | [_, _, _], _ => rfl
  have C_comes_before : Cal l.prog w K mg base 4 "_comes_before" ["routes", "first", "second"] (spP ⟨K, fun _ => none, l.prog, w⟩ [true, true, true] d_comes_before) := ⟨f5, _, PySem.W.mg_of X G a5, F5.kp, B5, ok_comes_before F5 Z C_beside⟩
  have B6 := F6.binds (ps := ["routes", "lot"]) fun _ _ _ _ _ _ us hl => match us, hl with | [_, _], _ => rfl
  have C_is_lot : Cal l.prog w K mg base 5 "_is_lot" ["routes", "lot"] (spP ⟨K, fun _ => none, l.prog, w⟩ [true, true] d_is_lot) := ⟨f6, _, PySem.W.mg_of X G a6, F6.kp, B6, ok_is_lot F6 Z C_comes_before⟩
  have B7 := F7.binds (ps := ["routes", "worths", "marks"]) fun _ _ _ _ _ _ us hl => match us, hl with | [_, _, _], _ => rfl
  have C_are_marks : Cal l.prog w K mg base 5 "_are_marks" ["routes", "worths", "marks"] (spP ⟨K, fun _ => none, l.prog, w⟩ [true, true, true] d_are_marks) := ⟨f7, _, PySem.W.mg_of X G a7, F7.kp, B7, ok_are_marks F7 Z C_comes_before⟩
  have B8 := F8.binds (ps := ["routes", "worths", "lot", "marks"]) fun _ _ _ _ _ _ us hl => match us, hl with | [_, _, _, _], _ => rfl
  have BK8 : KwTo K _ ["routes", "worths", "lot", "marks"] := fun_kw F8 fun us hl => match us, hl with | [_, _, _, _], _ => rfl
  have CK_lot_holds : CalK l.prog w K mg base 6 "lot_holds" ["routes", "worths", "lot", "marks"] (spP ⟨K, fun _ => none, l.prog, w⟩ [true, true, true, true] d_lot_holds) := ⟨f8, _, PySem.W.mg_of X G a8, F8.kp, BK8, ok_lot_holds F8 Z C_is_lot C_are_marks⟩
  have C_lot_holds : Cal l.prog w K mg base 6 "lot_holds" ["routes", "worths", "lot", "marks"] (spP ⟨K, fun _ => none, l.prog, w⟩ [true, true, true, true] d_lot_holds) := ⟨f8, _, PySem.W.mg_of X G a8, F8.kp, B8, ok_lot_holds F8 Z C_is_lot C_are_marks⟩
  have B9 := F9.binds (ps := ["script", "k"]) fun _ _ _ _ _ _ us hl => match us, hl with | [_, _], _ => rfl
  have C_l_cell : Cal l.prog w K mg base 1 "_law_cell" ["script", "k"] (spP ⟨K, fun _ => none, l.prog, w⟩ [false, true] d_l_cell) := ⟨f9, _, PySem.W.mg_of X G a9, F9.kp, B9, ok_l_cell F9 Z⟩
  have B10 := F10.binds (ps := ["cell", "many"]) fun _ _ _ _ _ _ us hl => match us, hl with | [_, _], _ => rfl
  have C_l_draws : Cal l.prog w K mg base 1 "_law_draws" ["cell", "many"] (spP ⟨K, fun _ => none, l.prog, w⟩ [true, true] d_l_draws) := ⟨f10, _, PySem.W.mg_of X G a10, F10.kp, B10, ok_l_draws F10 Z⟩
  have B11 := F11.binds (ps := ["draws", "small"]) fun _ _ _ _ _ _ us hl => match us, hl with | [_, _], _ => rfl
  have C_l_widths : Cal l.prog w K mg base 1 "_law_widths" ["draws", "small"] (spP ⟨K, fun _ => none, l.prog, w⟩ [true, true] d_l_widths) := ⟨f11, _, PySem.W.mg_of X G a11, F11.kp, B11, ok_l_widths F11 Z⟩
  have B12 := F12.binds (ps := ["mode", "part"]) fun _ _ _ _ _ _ us hl => match us, hl with | [_, _], _ => rfl
  have C_l_price : Cal l.prog w K mg base 1 "_law_price" ["mode", "part"] (spP ⟨K, fun _ => none, l.prog, w⟩ [true, true] d_l_price) := ⟨f12, _, PySem.W.mg_of X G a12, F12.kp, B12, ok_l_price F12 Z⟩
  have B13 := F13.binds (ps := ["widths", "draws"]) fun _ _ _ _ _ _ us hl => match us, hl with | [_, _], _ => rfl
  have C_l_roads : Cal l.prog w K mg base 2 "_law_roads" ["widths", "draws"] (spP ⟨K, fun _ => none, l.prog, w⟩ [true, true] d_l_roads) := ⟨f13, _, PySem.W.mg_of X G a13, F13.kp, B13, ok_l_roads F13 Z C_l_price⟩
  have B14 := F14.binds (ps := ["widths"]) fun _ _ _ _ _ _ us hl => match us, hl with | [_], _ => rfl
  have C_l_rows : Cal l.prog w K mg base 1 "_law_rows" ["widths"] (spP ⟨K, fun _ => none, l.prog, w⟩ [true] d_l_rows) := ⟨f14, _, PySem.W.mg_of X G a14, F14.kp, B14, ok_l_rows F14 Z⟩
  have B15 := F15.binds (ps := ["size", "roads"]) fun _ _ _ _ _ _ us hl => match us, hl with | [_, _], _ => rfl
  have C_l_ends : Cal l.prog w K mg base 1 "_law_ends" ["size", "roads"] (spP ⟨K, fun _ => none, l.prog, w⟩ [true, true] d_l_ends) := ⟨f15, _, PySem.W.mg_of X G a15, F15.kp, B15, ok_l_ends F15 Z⟩
  have B16 := F16.binds (ps := ["roads"]) fun _ _ _ _ _ _ us hl => match us, hl with | [_], _ => rfl
  have C_l_costs : Cal l.prog w K mg base 1 "_law_costs" ["roads"] (spP ⟨K, fun _ => none, l.prog, w⟩ [true] d_l_costs) := ⟨f16, _, PySem.W.mg_of X G a16, F16.kp, B16, ok_l_costs F16 Z⟩
  have B17 := F17.binds (ps := ["size", "roads"]) fun _ _ _ _ _ _ us hl => match us, hl with | [_, _], _ => rfl
  have C_l_least : Cal l.prog w K mg base 1 "_law_least" ["size", "roads"] (spP ⟨K, fun _ => none, l.prog, w⟩ [true, true] d_l_least) := ⟨f17, _, PySem.W.mg_of X G a17, F17.kp, B17, ok_l_least F17 Z⟩
  have B18 := F18.binds (ps := ["widths", "least"]) fun _ _ _ _ _ _ us hl => match us, hl with | [_, _], _ => rfl
  have C_l_pairs : Cal l.prog w K mg base 2 "_law_pairs" ["widths", "least"] (spP ⟨K, fun _ => none, l.prog, w⟩ [true, true] d_l_pairs) := ⟨f18, _, PySem.W.mg_of X G a18, F18.kp, B18, ok_l_pairs F18 Z C_l_rows⟩
  have B19 := F19.binds (ps := ["widths", "roads"]) fun _ _ _ _ _ _ us hl => match us, hl with | [_, _], _ => rfl
  have C_l_world_of : Cal l.prog w K mg base 3 "_law_world_of" ["widths", "roads"] (spP ⟨K, fun _ => none, l.prog, w⟩ [true, true] d_l_world_of) := ⟨f19, _, PySem.W.mg_of X G a19, F19.kp, B19, ok_l_world_of F19 Z C_l_least C_l_ends C_l_costs C_l_pairs⟩
  have B20 := F20.binds (ps := ["cell", "small"]) fun _ _ _ _ _ _ us hl => match us, hl with | [_, _], _ => rfl
  have C_l_world : Cal l.prog w K mg base 4 "_law_world" ["cell", "small"] (spP ⟨K, fun _ => none, l.prog, w⟩ [true, true] d_l_world) := ⟨f20, _, PySem.W.mg_of X G a20, F20.kp, B20, ok_l_world F20 Z C_l_draws C_l_widths C_l_world_of C_l_roads⟩
  have B21 := F21.binds (ps := ["first", "second"]) fun _ _ _ _ _ _ us hl => match us, hl with | [_, _], _ => rfl
  have C_l_conflict : Cal l.prog w K mg base 1 "_law_conflict" ["first", "second"] (spP ⟨K, fun _ => none, l.prog, w⟩ [true, true] d_l_conflict) := ⟨f21, _, PySem.W.mg_of X G a21, F21.kp, B21, ok_l_conflict F21 Z⟩
  have B22 := F22.binds (ps := ["told", "due"]) fun _ _ _ _ _ _ us hl => match us, hl with | [_, _], _ => rfl
  have C_l_same : Cal l.prog w K mg base 7 "_law_same" ["told", "due"] (spP ⟨K, fun _ => none, l.prog, w⟩ [true, true] d_l_same) := ⟨f22, _, PySem.W.mg_of X G a22, F22.kp, B22, ok_l_same F22 Z (PySem.W.mg_of X G a22) B22 6⟩
  have B23 := F23.binds (ps := ["world", "draws", "at", "start"]) fun _ _ _ _ _ _ us hl => match us, hl with | [_, _, _, _], _ => rfl
  have C_l_walk : Cal l.prog w K mg base 1 "_law_walk" ["world", "draws", "at", "start"] (spP ⟨K, fun _ => none, l.prog, w⟩ [true, true, true, true] d_l_walk) := ⟨f23, _, PySem.W.mg_of X G a23, F23.kp, B23, ok_l_walk F23 Z⟩
  have B24 := F24.binds (ps := ["world"]) fun _ _ _ _ _ _ us hl => match us, hl with | [_], _ => rfl
  have C_l_forked : Cal l.prog w K mg base 1 "_law_forked" ["world"] (spP ⟨K, fun _ => none, l.prog, w⟩ [true] d_l_forked) := ⟨f24, _, PySem.W.mg_of X G a24, F24.kp, B24, ok_l_forked F24 Z⟩
  have B25 := F25.binds (ps := ["world", "draws", "start", "goal"]) fun _ _ _ _ _ _ us hl => match us, hl with | [_, _, _, _], _ => rfl
  have C_l_led : Cal l.prog w K mg base 1 "_law_led" ["world", "draws", "start", "goal"] (spP ⟨K, fun _ => none, l.prog, w⟩ [true, true, true, true] d_l_led) := ⟨f25, _, PySem.W.mg_of X G a25, F25.kp, B25, ok_l_led F25 Z⟩
  have B26 := F26.binds (ps := ["world", "cell", "plan"]) fun _ _ _ _ _ _ us hl => match us, hl with | [_, _, _], _ => rfl
  have C_l_ways : Cal l.prog w K mg base 2 "_law_ways" ["world", "cell", "plan"] (spP ⟨K, fun _ => none, l.prog, w⟩ [true, true, true] d_l_ways) := ⟨f26, _, PySem.W.mg_of X G a26, F26.kp, B26, ok_l_ways F26 Z C_l_rows C_l_forked C_l_draws C_l_walk C_l_led⟩
  have B27 := F27.binds (ps := ["cell", "many"]) fun _ _ _ _ _ _ us hl => match us, hl with | [_, _], _ => rfl
  have C_l_values : Cal l.prog w K mg base 2 "_law_values" ["cell", "many"] (spP ⟨K, fun _ => none, l.prog, w⟩ [true, true] d_l_values) := ⟨f27, _, PySem.W.mg_of X G a27, F27.kp, B27, ok_l_values F27 Z C_l_draws⟩
  have B28 := F28.binds (ps := ["ways"]) fun _ _ _ _ _ _ us hl => match us, hl with | [_], _ => rfl
  have C_l_before : Cal l.prog w K mg base 2 "_law_before" ["ways"] (spP ⟨K, fun _ => none, l.prog, w⟩ [true] d_l_before) := ⟨f28, _, PySem.W.mg_of X G a28, F28.kp, B28, ok_l_before F28 Z C_l_conflict⟩
  have B29 := F29.binds (ps := ["before", "values"]) fun _ _ _ _ _ _ us hl => match us, hl with | [_, _], _ => rfl
  have C_l_scores : Cal l.prog w K mg base 1 "_law_scores" ["before", "values"] (spP ⟨K, fun _ => none, l.prog, w⟩ [true, true] d_l_scores) := ⟨f29, _, PySem.W.mg_of X G a29, F29.kp, B29, ok_l_scores F29 Z⟩
  have B30 := F30.binds (ps := ["before", "values", "scores"]) fun _ _ _ _ _ _ us hl => match us, hl with | [_, _, _], _ => rfl
  have C_l_chosen : Cal l.prog w K mg base 1 "_law_chosen" ["before", "values", "scores"] (spP ⟨K, fun _ => none, l.prog, w⟩ [true, true, true] d_l_chosen) := ⟨f30, _, PySem.W.mg_of X G a30, F30.kp, B30, ok_l_chosen F30 Z⟩
  have B31 := F31.binds (ps := ["chosen", "values", "picks"]) fun _ _ _ _ _ _ us hl => match us, hl with | [_, _, _], _ => rfl
  have C_l_spoilt_lot : Cal l.prog w K mg base 1 "_law_spoilt_lot" ["chosen", "values", "picks"] (spP ⟨K, fun _ => none, l.prog, w⟩ [true, true, true] d_l_spoilt_lot) := ⟨f31, _, PySem.W.mg_of X G a31, F31.kp, B31, ok_l_spoilt_lot F31 Z⟩
  have B32 := F32.binds (ps := ["scores", "values", "picks"]) fun _ _ _ _ _ _ us hl => match us, hl with | [_, _, _], _ => rfl
  have C_l_spoilt_scores : Cal l.prog w K mg base 1 "_law_spoilt_scores" ["scores", "values", "picks"] (spP ⟨K, fun _ => none, l.prog, w⟩ [true, true, true] d_l_spoilt_scores) := ⟨f32, _, PySem.W.mg_of X G a32, F32.kp, B32, ok_l_spoilt_scores F32 Z⟩
  have B33 := F33.binds (ps := ["scores", "values", "other"]) fun _ _ _ _ _ _ us hl => match us, hl with | [_, _, _], _ => rfl
  have C_l_raised : Cal l.prog w K mg base 1 "_law_raised" ["scores", "values", "other"] (spP ⟨K, fun _ => none, l.prog, w⟩ [true, true, true] d_l_raised) := ⟨f33, _, PySem.W.mg_of X G a33, F33.kp, B33, ok_l_raised F33 Z⟩
  have B34 := F34.binds (ps := ["before", "values", "chosen", "scores"]) fun _ _ _ _ _ _ us hl => match us, hl with | [_, _, _, _], _ => rfl
  have C_l_due : Cal l.prog w K mg base 1 "_law_due" ["before", "values", "chosen", "scores"] (spP ⟨K, fun _ => none, l.prog, w⟩ [true, true, true, true] d_l_due) := ⟨f34, _, PySem.W.mg_of X G a34, F34.kp, B34, ok_l_due F34 Z⟩
  exact ok_LAW F35 Z C_l_world C_l_ways C_l_values C_l_before C_l_scores C_l_chosen C_l_draws C_l_due C_lot_holds C_l_same C_l_cell C_l_spoilt_lot C_l_spoilt_scores C_l_raised CK_lot_holds

end Lw
open PySem PySem.W PyProof.Rows
set_option maxHeartbeats 0 in
theorem PySem.Challenge.cw_meetonce_k15_lot_held_holds : PySem.Challenge.rw_meetonce_k15_lot_held.Holds := by
  w_on; o_law; k_head; (case hw => w_witness2)
  k_fill
  refine L2.walk_of (l := PySem.Challenge.rw_meetonce_k15_lot_held) (n := 63) (k := 8) (x := "script") (CX := fun _ => L2.CX0) (sp := fun w => Fx.spP ⟨_, fun _ => none, PySem.Challenge.rw_meetonce_k15_lot_held.prog, w⟩ [false] Lw.d_LAW) rfl (by decide) rfl ⟨rfl, by decide, by decide⟩ (fun w h Y => PySem.W.kIn_of Y) ?F (fun w H a ns hl _ hS => Fx.law_sp hS (Lw.law_true ns hl)) (fun _ _ _ _ _ h => h)
  case F =>
    intro w mg fa h KX G hmg
    refine' Lw.all_mk KX G hmg ?a0 ?l0 ?c0 ?k0 ?a1 ?l1 ?c1 ?k1 ?a2 ?l2 ?c2 ?k2 ?a3 ?l3 ?c3 ?k3 ?a4 ?l4 ?c4 ?k4 ?a5 ?l5 ?c5 ?k5 ?a6 ?l6 ?c6 ?k6 ?a7 ?l7 ?c7 ?k7 ?a8 ?l8 ?c8 ?k8 ?a9 ?l9 ?c9 ?k9 ?a10 ?l10 ?c10 ?k10 ?a11 ?l11 ?c11 ?k11 ?a12 ?l12 ?c12 ?k12 ?a13 ?l13 ?c13 ?k13 ?a14 ?l14 ?c14 ?k14 ?a15 ?l15 ?c15 ?k15 ?a16 ?l16 ?c16 ?k16 ?a17 ?l17 ?c17 ?k17 ?a18 ?l18 ?c18 ?k18 ?a19 ?l19 ?c19 ?k19 ?a20 ?l20 ?c20 ?k20 ?a21 ?l21 ?c21 ?k21 ?a22 ?l22 ?c22 ?k22 ?a23 ?l23 ?c23 ?k23 ?a24 ?l24 ?c24 ?k24 ?a25 ?l25 ?c25 ?k25 ?a26 ?l26 ?c26 ?k26 ?a27 ?l27 ?c27 ?k27 ?a28 ?l28 ?c28 ?k28 ?a29 ?l29 ?c29 ?k29 ?a30 ?l30 ?c30 ?k30 ?a31 ?l31 ?c31 ?k31 ?a32 ?l32 ?c32 ?k32 ?a33 ?l33 ?c33 ?k33 ?a34 ?l34 ?c34 ?k34 ?a35 ?l35 ?c35 ?k35 ?zz_all ?zz_bool ?zz_int ?zz_isinstance ?zz_len ?zz_list ?zz_max ?zz_range ?zz_sorted ?zz_str ?zz_sum ?zz_tuple ?zz_zip
    (case a0 => k_is); (case l0 => k_is); (case c0 => k_is); (case k0 => k_is); (case a1 => k_is); (case l1 => k_is); (case c1 => k_is); (case k1 => k_is); (case a2 => k_is); (case l2 => k_is); (case c2 => k_is); (case k2 => k_is); (case a3 => k_is); (case l3 => k_is); (case c3 => k_is); (case k3 => k_is); (case a4 => k_is); (case l4 => k_is); (case c4 => k_is); (case k4 => k_is); (case a5 => k_is); (case l5 => k_is); (case c5 => k_is); (case k5 => k_is); (case a6 => k_is); (case l6 => k_is); (case c6 => k_is); (case k6 => k_is); (case a7 => k_is); (case l7 => k_is); (case c7 => k_is); (case k7 => k_is); (case a8 => k_is); (case l8 => k_is); (case c8 => k_is); (case k8 => k_is); (case a9 => k_is); (case l9 => k_is); (case c9 => k_is); (case k9 => k_is); (case a10 => k_is); (case l10 => k_is); (case c10 => k_is); (case k10 => k_is); (case a11 => k_is); (case l11 => k_is); (case c11 => k_is); (case k11 => k_is); (case a12 => k_is); (case l12 => k_is); (case c12 => k_is); (case k12 => k_is); (case a13 => k_is); (case l13 => k_is); (case c13 => k_is); (case k13 => k_is); (case a14 => k_is); (case l14 => k_is); (case c14 => k_is); (case k14 => k_is); (case a15 => k_is); (case l15 => k_is); (case c15 => k_is); (case k15 => k_is); (case a16 => k_is); (case l16 => k_is); (case c16 => k_is); (case k16 => k_is); (case a17 => k_is); (case l17 => k_is); (case c17 => k_is); (case k17 => k_is); (case a18 => k_is); (case l18 => k_is); (case c18 => k_is); (case k18 => k_is); (case a19 => k_is); (case l19 => k_is); (case c19 => k_is); (case k19 => k_is); (case a20 => k_is); (case l20 => k_is); (case c20 => k_is); (case k20 => k_is); (case a21 => k_is); (case l21 => k_is); (case c21 => k_is); (case k21 => k_is); (case a22 => k_is); (case l22 => k_is); (case c22 => k_is); (case k22 => k_is); (case a23 => k_is); (case l23 => k_is); (case c23 => k_is); (case k23 => k_is); (case a24 => k_is); (case l24 => k_is); (case c24 => k_is); (case k24 => k_is); (case a25 => k_is); (case l25 => k_is); (case c25 => k_is); (case k25 => k_is); (case a26 => k_is); (case l26 => k_is); (case c26 => k_is); (case k26 => k_is); (case a27 => k_is); (case l27 => k_is); (case c27 => k_is); (case k27 => k_is); (case a28 => k_is); (case l28 => k_is); (case c28 => k_is); (case k28 => k_is); (case a29 => k_is); (case l29 => k_is); (case c29 => k_is); (case k29 => k_is); (case a30 => k_is); (case l30 => k_is); (case c30 => k_is); (case k30 => k_is); (case a31 => k_is); (case l31 => k_is); (case c31 => k_is); (case k31 => k_is); (case a32 => k_is); (case l32 => k_is); (case c32 => k_is); (case k32 => k_is); (case a33 => k_is); (case l33 => k_is); (case c33 => k_is); (case k33 => k_is); (case a34 => k_is); (case l34 => k_is); (case c34 => k_is); (case k34 => k_is); (case a35 => k_is); (case l35 => k_is); (case c35 => k_is); (case k35 => k_is); (case zz_all => k_is); (case zz_bool => k_is); (case zz_int => k_is); (case zz_isinstance => k_is); (case zz_len => k_is); (case zz_list => k_is); (case zz_max => k_is); (case zz_range => k_is); (case zz_sorted => k_is); (case zz_str => k_is); (case zz_sum => k_is); (case zz_tuple => k_is); (case zz_zip => k_is)
