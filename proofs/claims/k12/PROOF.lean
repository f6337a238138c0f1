import PyProof.Rows.All
import Wide.All
import OpenK.AllK
import Wide.FinOn
import HandS.ForMost
import HandS.Conv
import HandS.Zip
import HandS.TupAny
import HandS.IsInst
import HandS.SortRule
import HandS.DictTup
import HandS.WrittenGet
import PySem.Challenge.RW_drumlay_k12_whole_papers_bound_all
import KE.GoesEnum
import KE.GoesMore
import HandS.Strs
import HandS.SetFor
import HandS.SortInts
import HandS.Deep
import HandS.TupSets
import KE.GoesZip
import HandS.ExcIs
import HandS.Lambda
import HandS.ExcInit
import HandS.ExcField
import HandS.FStr
import PyProof.FitsInt
import PyProof.StrLaws
import HandS.SetBool
import KE.LtData
import HandS.List
import HandS.TupLe
import KE.KMinKey
import HandS.Star
import HandS.More
import HandS.Iter
import KE.SortData
import HandS.WordsExc
import HandS.ExcOwn
import KE.KDictZip
import PyProof.ListNew
import PyProof.ConsumeWalk
import HandS.DictComp
import KE.KDictList
import HandS.Zip0
import HandS.Gcd
import HandS.TryOnly
set_option Elab.async false
set_option linter.all false
set_option maxRecDepth 100000
set_option maxHeartbeats 4000000
namespace DL
open PySem L2
abbrev Frg := PySem.W.Frag
/-! ### heaps -/
theorem sz {n : Nat} (h : n ≤ 100000) : n ≤ sizeLine := Nat.le_trans h (by decide)
theorem szl {n : Nat} (h : n < 100000) : n < sizeLine := Nat.lt_of_lt_of_le h (by decide)
def But (d : Addr) (H H' : Hp) : Prop := ∀ a o, a ≠ d → H a = some o → H' a = some o
theorem But.refl (d : Addr) (H : Hp) : But d H H := fun _ _ _ h => h
theorem But.trans {d : Addr} {H H1 H2 : Hp} (a : But d H H1) (b : But d H1 H2) : But d H H2 := fun x o n h => b x o n (a x o n h)
theorem But.of {d : Addr} {H H' : Hp} (a : Same H H') : But d H H' := fun x o _ h => a x o h
abbrev Same1 := @L2.Same
theorem Same.new {H : Hp} {p : Addr} {o : HO} (h : H p = none) : Same H (upd H p o) := fun a u e => by
  rw [upd_ne (ne_of_none e h)]; exact e
theorem Same.mut {H H' : Hp} {p : Addr} {o : HO} (e : Same H H') (h : H p = none) : Same H (upd H' p o) := fun a u ha => by
  rw [upd_ne (ne_of_none ha h)]; exact e a u ha
theorem Same.get {H H' : Hp} (s : Same H H') {a : Addr} {o : HO} (h : H a = some o) : H' a = some o := s a o h
def DiceV (H : Hp) (d sa : Addr) : Prop := ∃ (i m r : Int), H d = some (.lst [.ref sa, .int i, .int m, .int r]) ∧ 0 ≤ i ∧ 0 ≤ m ∧ m < 2147483647
structure Ent (K : Frg) (H : Hp) (d sa : Addr) (ns : List Int) : Prop where
  dice : DiceV H d sa
  scr : SqL K H sa (ns.map V.int)
  len : ns.length ≤ 63
structure Dc (K : Frg) (H0 H : Hp) (d sa : Addr) (ns : List Int) : Prop where
  e0 : Ent K H0 d sa ns
  but : But d H0 H
  dice : DiceV H d sa
variable {K : Frg} {H0 H H' : Hp} {d sa : Addr} {ns : List Int}
theorem But.seq (b : But d H0 H) (dv : DiceV H0 d sa) (h : SqL K H0 sa (ns.map V.int)) : SqL K H sa (ns.map V.int) := by
  obtain ⟨i, m, r, z, _⟩ := dv
  rcases h with (h | ⟨o, h⟩) | h
  · refine .inl (.inl (b _ _ (fun e => ?_) h))
    subst e
    rw [z] at h
    have q : ([.ref sa, .int i, .int m, .int r] : List V) = ns.map V.int := by injection (Option.some.inj h)
    cases ns with
    | nil => cases q
    | cons x xs => have q2 := (List.cons.inj q).1; cases q2
  · refine .inl (.inr ⟨o, b _ _ (fun e => ?_) h⟩)
    subst e
    rw [z] at h; cases h
  · exact .inr h
theorem Dc.refl (e : Ent K H d sa ns) : Dc K H H d sa ns := ⟨e, But.refl _ _, e.dice⟩
theorem Dc.ent (c : Dc K H0 H d sa ns) : Ent K H d sa ns := ⟨c.dice, c.but.seq c.e0.dice c.e0.scr, c.e0.len⟩
theorem Dc.here (c : Dc K H0 H d sa ns) {p : Addr} (h : H p = none) : H0 p = none := by
  cases q : H0 p with
  | none => rfl
  | some o =>
    by_cases e : p = d
    · subst e
      obtain ⟨i, m, r, z, _⟩ := c.dice
      rw [z] at h; cases h
    · rw [c.but p o e q] at h; cases h
theorem Dc.ned (c : Dc K H0 H d sa ns) {p : Addr} (h : H0 p = none) : p ≠ d := fun e => by
  subst e
  obtain ⟨i, m, r, z, _⟩ := c.e0.dice
  rw [z] at h; cases h
theorem Dc.mut (c : Dc K H0 H d sa ns) {p : Addr} {o : HO} (h : H0 p = none) : Dc K H0 (upd H p o) d sa ns := by
  refine ⟨c.e0, fun a u n e => ?_, ?_⟩
  · rw [upd_ne (ne_of_none e h)]; exact c.but a u n e
  · obtain ⟨i, m, r, z, q⟩ := c.dice
    exact ⟨i, m, r, by rw [upd_ne (c.ned h).symm]; exact z, q⟩
theorem Dc.new (c : Dc K H0 H d sa ns) {p : Addr} {o : HO} (h : H p = none) : Dc K H0 (upd H p o) d sa ns := c.mut (c.here h)
theorem Dc.trans (c : Dc K H0 H d sa ns) (c2 : Dc K H H' d sa ns) : Dc K H0 H' d sa ns := ⟨c.e0, c.but.trans c2.but, c2.dice⟩
theorem Dc.same (c : Dc K H0 H d sa ns) (s : Same H H') : Dc K H0 H' d sa ns := by
  obtain ⟨i, m, r, z, q⟩ := c.dice
  exact ⟨c.e0, c.but.trans (But.of s), i, m, r, s _ _ z, q⟩
theorem Dc.roll (c : Dc K H0 H d sa ns) {i m r : Int} (h0 : 0 ≤ i) (h1 : 0 ≤ m) (h2 : m < 2147483647) : Dc K H0 (upd H d (.lst [.ref sa, .int i, .int m, .int r])) d sa ns :=
  ⟨c.e0, fun a u n e => by rw [upd_ne n]; exact c.but a u n e, ⟨i, m, r, upd_same, h0, h1, h2⟩⟩
def Kp (H H' : Hp) : Prop := ∀ a xs, H a = some (.tup xs) → H' a = some (.tup xs)
theorem Kp.refl (H : Hp) : Kp H H := fun _ _ h => h
theorem Kp.trans {H H1 H2 : Hp} (a : Kp H H1) (b : Kp H1 H2) : Kp H H2 := fun x o h => b x o (a x o h)
theorem Kp.same (s : Same H H') : Kp H H' := fun a xs h => s a _ h
theorem Kp.new {p : Addr} {o : HO} (h : H p = none) : Kp H (upd H p o) := Kp.same (Same.new h)
theorem Kp.lst {p : Addr} {o : HO} {ys : List V} (h : H p = some (.lst ys)) : Kp H (upd H p o) := fun a xs e => by
  rw [upd_ne (ne_of e h (by intro z; cases z))]; exact e
theorem Dc.kp (c : Dc K H0 H d sa ns) : Kp H0 H := fun a xs h => c.but a _ (by
  intro e; subst e
  obtain ⟨i, m, r, z, _⟩ := c.e0.dice
  rw [z] at h; cases h) h
@[elab_as_elim] theorem alloc {R : Hp → Prop} {H : Hp} {p : Addr} {o : HO} (hp : H p = none) (k : ∀ H', Same H H' → H' p = some o → R H') : R (upd H p o) := k _ (Same.new hp) upd_same
@[elab_as_elim] theorem change {R : Hp → Prop} {H : Hp} {p : Addr} {o : HO} (k : ∀ H', But p H H' → H' p = some o → R H') : R (upd H p o) := k _ (fun a u n e => by rw [upd_ne n]; exact e) upd_same
/-! ### one list read or written by place -/
theorem at0 {x : V} {xs : List V} : atI (x :: xs) 0 = some x := atI_nat (j := 0) rfl
theorem at1 {x y : V} {xs : List V} : atI (x :: y :: xs) 1 = some y := atI_nat (j := 1) rfl
theorem at2 {x y z : V} {xs : List V} : atI (x :: y :: z :: xs) 2 = some z := atI_nat (j := 2) rfl
theorem at3 {x y z u : V} {xs : List V} : atI (x :: y :: z :: u :: xs) 3 = some u := atI_nat (j := 3) rfl
theorem pg_tupK {X : Cx} {pos : Pos} (K : PySem.W.Frag) (hK : X.K = K) {es : List Expr} {k : Nat} {t : TGs} {n : Nat} (hc : X.calm = true) (h : PGs X es t)
    (hn : (assignEach es X.env).length = n := by rfl) (hst : (assignEach es X.env).findIdx? (·.1) = none := by rfl) : PG X (.Tuple es k pos) (gTup K n t) := hK ▸ pg_tup hc h hn hst
theorem upd_none {H : Hp} {p a : Addr} {o : HO} (h : upd H p o a = none) : H a = none := by
  by_cases e : a = p
  · subst e; rw [upd_same] at h; cases h
  · rwa [upd_ne e] at h
theorem range_elim {lo : Int} {n : Nat} {g : TG} {tb : TS} {D : Ends} {σ : L2.St} {H : Hp} (Pv : Nat → L2.St → Hp → Prop) (R : L2.St → Hp → Prop) (h0 : Pv 0 σ H) (key : ∀ σ H, R σ H → D.nx σ H)
    (hs : ∀ Nx : L2.St → Hp → Prop, (∀ σ H, R σ H → Nx σ H) → ∀ i σ H, i < n → Pv i σ H →
      g (.int (lo + i)) σ H fun σ2 H2 => tb { D with nx := Pv (i + 1), ct := Pv (i + 1), bk := Nx } σ2 H2) (hd : ∀ σ H, Pv n σ H → R σ H) :
    ∃ W : Nat → Nat → L2.St → Hp → Prop, (∃ m, W 0 m σ H) ∧ ∀ i m σ H, W i m σ H →
      ((Itr lo n).stop i H ∧ D.nx σ H) ∨ ((Itr lo n).go i H ∧ ∃ N : L2.St → Hp → Prop, (∀ σ' H', N σ' H' → ∃ m', m' < m ∧ W (i + 1) m' σ' H') ∧
        ∀ x H', (Itr lo n).yld i H x H' → g x σ H' fun σ2 H2 => tb { D with nx := N, ct := N, bk := D.nx } σ2 H2) := for_range Pv h0 (hs D.nx key) fun σ H h => key _ _ (hd _ _ h)
end DL
namespace DLR
open PySem PySem.Spec PyProof.Rows L2
/-! ### enumerate(a tuple) -/
def itO (a : Addr) : Obj := { cls := .type "tuple_iterator", data := .fields #[.ref a, .int 0 0] }
def enO (i : Addr) : Obj := { cls := .type "enumerate", data := .fields #[.none, .bool false, .ref i, rawInt 0, .none, .none] }
theorem made_enumT (a : Addr) (items : Array Value) :
    Meets (Builtin.«enumerate.__new__» ⟨[.type "enumerate", .ref a], []⟩) (fun _ R s => s.heap.IsTuple a items ∧
      R (.ok (.ret (.ref (s.heap.push (itO a)).objs.size))) { s with heap := (s.heap.push (itO a)).push (enO s.heap.objs.size) }) := by
  refine .of_wp fun prog w A R s h => ?_
  obtain ⟨hp, g, d, tk, os⟩ := s
  obtain ⟨h1, h⟩ := h
  have hs2 := sub_enumerate
  have it1 : ∀ {A' : Around} {E : Value → Shared → Prop} {Q : Value → Shared → Prop}, Q (.ref hp.objs.size) ⟨hp.push (itO a), g, d, tk, os⟩ →
      wpAny (model prog w) A' (pyIter (.ref a)) Q E ⟨hp, g, d, tk, os⟩ := fun q => (begins_tuple a items).iter prog w _ _ ⟨hp, g, d, tk, os⟩ _ h1 q
  wp_walk using it1
  refine wpAny_stack_any fun st => wpAny_pure ?_
  split
  · rename_i c _ _ _ _ _
    cases (c == Value.type "enumerate") <;> (wp_walk using it1; exact ⟨_, rfl, h⟩)
  · wp_walk using it1
    exact ⟨_, rfl, h⟩
section
variable {prog : Program} {w : World} {A : Around} {E : Value → Shared → Prop} {s : Shared}
theorem call_enumT {a : Addr} {items : Array Value} {Q : Value → Shared → Prop} (hT : s.heap.IsTuple a items)
    (h : ∀ h', IsEnum h' (s.heap.objs.size + 1) s.heap.objs.size 0 .none → h'.IsTupleIter s.heap.objs.size a 0 → (∀ b o, s.heap.get? b = some o → h'.get? b = some o) →
      Q (.ref (s.heap.objs.size + 1)) { s with heap := h' }) : wpAny (model prog w) A (call (.type "enumerate") [.ref a]) Q E s := by
  refine callType_new F.called_enumerate (by decide) (F.typeCall_enumerate_1 _) (F.newCall_enumerate_1 _)
    (fun obj => F.args_object_init_2 obj _) F.entry_enumerate_new (made_enumT a items) ⟨hT, ?_⟩
  have hz : (s.heap.push (itO a)).objs.size = s.heap.objs.size + 1 := Heap.size_push ..
  show _ ∧ _
  rw [hz]
  have he : IsEnum ((s.heap.push (itO a)).push (enO s.heap.objs.size)) (s.heap.objs.size + 1) s.heap.objs.size 0 .none := by
    have q := Heap.get?_push_size (s.heap.push (itO a)) (o := enO s.heap.objs.size) rfl
    rw [hz] at q
    exact q
  exact ⟨⟨_, he, rfl⟩, h _ he ⟨_, Heap.get?_push_of_some _ (Heap.get?_push_size _ rfl), rfl, rfl⟩
    fun b o x => Heap.get?_push_of_some _ (Heap.get?_push_of_some _ x)⟩
end
def IteT (K : PySem.W.Frag) (a : Addr) : It :=
  ⟨fun i H => ∃ (xs : List V) (x : V), SqT K H a xs ∧ xs[i]? = some x,
   fun i H v H' => ∃ T x, v = .ref T ∧ H T = none ∧ H' = upd H T (.tup [.int (i : Nat), x]) ∧ ∀ xs, SqT K H a xs → xs[i]? = some x,
   fun i H => ∃ xs : List V, SqT K H a xs ∧ xs.length ≤ i⟩
theorem turn_enumT {P : Program} {w : World} {K : PySem.W.Frag} {elts : List Expr} {kk : Nat} {tpos : Pos} (a e it : Addr) :
    Turn P w K (.Tuple elts kk tpos) (IteT K a) [e, it] e (fun i h => (∃ old, IsEnum h e it ((i : Nat) : Int) old) ∧ h.IsTupleIter it a i ∧ e ≠ it ∧ a ≠ e ∧ a ≠ it) where
  mem := by simp
  obj := fun i h st b hb => by
    obtain ⟨⟨old, he⟩, ⟨o, ho, hc, hd⟩, _⟩ := st
    rcases (show b = e ∨ b = it by simpa using hb) with z | z
    · rw [z]; exact ⟨_, he, fun v q => nomatch q⟩
    · rw [z]; exact ⟨o, ho, fun v q => by rw [hd] at q; cases q⟩
  keep := fun i h h' st k => let ⟨⟨old, he⟩, hi, z⟩ := st; ⟨⟨old, k e (by simp) _ he⟩, hi.at fun o q => k it (by simp) o q, z⟩
  item := by
    intro X hP hw hK hc i pins s σ H E I hf st hg
    subst hP hw hK
    obtain ⟨⟨old, he⟩, hit, hne, hae, hai⟩ := st
    obtain ⟨xs, x, hq, hx⟩ := hg
    obtain ⟨its, rv, p, hz⟩ := I.tuple hq
    obtain ⟨u, hu, ru⟩ := rv.get hx
    have hel : e < s.heap.objs.size := Heap.lt_size he
    have hil : it < s.heap.objs.size := by obtain ⟨_, q, _⟩ := hit; exact Heap.lt_size q
    have hlt : i < its.toArray.size := by
      have q := (List.getElem?_eq_some_iff.mp hu).1
      simpa using q
    refine wpAny_pyNext_enum_itemD (Draws.tuple (A := X.A.in1) (I.ok.hd hc) it a hai its.toArray) he ⟨hit, p⟩ hlt hne
      (by simp [hne, Ne.symm hae]) fun v h' tk hv ho hst' hT hsz hk => ?_
    have ev : v = u := by
      have q : its[i]? = some v := by simpa using hv
      rw [hu] at q
      exact (Option.some.inj q).symm
    subst ev
    refine ⟨_, rfl, wpAny_letOwnedTupleGo_enum (s := { s with heap := h', toks := tk + 1 }) ho fun h'' he' sb => ?_⟩
    have hT2 := (sb.2 _ (Nat.ne_of_gt hel)).trans hT
    have new : ObjOk X.prog X.w (upd H s.heap.objs.size (.tup [.int (i : Nat), x])) h'' s.heap.objs.size (.tup [.int (i : Nat), x]) :=
      ⟨by show 2 ≤ sizeLine; decide, [.int i tk, v], .cons ⟨_, rfl⟩ (.cons ru .nil), ⟨_, hT2, rfl, _, rfl⟩⟩
    have I1 : Inv X pins σ (upd H s.heap.objs.size (.tup [.int (i : Nat), x])) { s with heap := h'', toks := tk + 1 } :=
      I.turnedNew (ch := [e, it]) (fun b ob hb q =>
        (sb.2 b (fun z => hb (by simp [z]))).trans (hk b ob (fun z => hb (by simp [z])) (fun z => hb (by simp [z])) q)) hf (Nat.le_refl _) new
    refine ⟨.ref s.heap.objs.size, _, I1, rfl, ⟨_, x, rfl, I.hok.fresh (Nat.le_refl _), rfl, fun ys hy => by rw [I.tuple_inj hy hq]; exact hx⟩,
      ⟨⟨v, ?_⟩, hst'.1.at fun o q => (sb.2 it (Ne.symm hne)).trans q, hne, hae, hai⟩, fun b hb => ?_⟩
    · rw [show ((i + 1 : Nat) : Int) = (i : Int) + 1 by omega]
      exact he'
    · have hb' : b < s.heap.objs.size := by
        rcases (show b = e ∨ b = it by simpa using hb) with z | z
        · rw [z]; exact hel
        · rw [z]; exact hil
      rw [upd_ne (Nat.ne_of_lt hb')]
      exact (hf b hb).1
  done := by
    intro X hP hw hK hc i pins s σ H E I hf st hg
    subst hP hw hK
    obtain ⟨⟨old, he⟩, hit, hne, hae, hai⟩ := st
    obtain ⟨xs, hq, hx⟩ := hg
    obtain ⟨its, rv, p, hz⟩ := I.tuple hq
    obtain ⟨f0, f1, f2, f3, f4, f5⟩ := hf it (by simp)
    have hl := rv.length
    have hnone : its.toArray[i]? = none := by simp; omega
    have D : Draws X.prog X.w X.A.in1 it [it, a] 0 (fun _ _ => False) (fun _ h => h.IsTupleIter it a i ∧ h.IsTuple a its.toArray) :=
      { live := fun _ _ st => let ⟨o, ho, _⟩ := st.1; ⟨o, ho⟩
        frame := fun _ _ _ st hk => ⟨st.1.at fun o e => hk it (by simp) o e, st.2.at fun o e => hk a (by simp) o e⟩
        item := fun i s Q E hi => absurd hi (Nat.not_lt_zero _)
        done := fun s Q E st hE => wpAny_nextOf_tuple_end (I.ok.hd hc) st.1 st.2 hnone hE }
    exact wpAny_pyNext_enum_endD D he ⟨hit, p⟩ fun h' eb => ⟨rfl, I.turned (t' := s.toks) (fun b o hb q => eb b o hb q) f0 f1 f3 f4 f5⟩
  self := fun A i s Q E st h => let ⟨⟨_, he⟩, _⟩ := st; wpAny_pyIter_enum he h
def iEnumT (K : PySem.W.Frag) (ta : TA) : TI := fun σ H R => ta σ H fun vs H1 => ∃ a xs, vs = [.ref a] ∧ SqT K H1 a xs ∧ R (IteT K a) H1
theorem pi_enumT {X : Cx} {e : Expr} {ta : TA} {p pos tpos : Pos} {elts : List Expr} {kk : Nat} (hg : Gl X "enumerate") (hm : X.mg "enumerate" = none) (ha : PA X [e] ta)
    (hs : starEach [e] X.env = [(false, eval e X.env)] := by rfl) : PI X (.Tuple elts kk tpos) (.Call (.Name "enumerate" p) [e] [] pos) (iEnumT X.K ta) := by
  refine ⟨fun pins s σ H R I h => ?_⟩
  refine Call_ (ld_blt I hg hm boot_enumerate (PyProof.Rows.callWith_type1 (thn (ha.run pos pins s σ H _ I h) fun us s1 ⟨vs, H1, I1, r1, q1⟩ => ?_) hs rfl))
  obtain ⟨a, xs, ex, hq, q⟩ := q1
  subst ex
  cases r1 with
  | cons r rr =>
    cases rr
    cases r
    obtain ⟨its, rv, p', hz⟩ := I1.tuple hq
    have hal : a < s1.heap.objs.size := by obtain ⟨o, q, _⟩ := p'; exact Heap.lt_size q
    refine call_enumT p' fun h' he hit hk => wpAny_pyIter_enum he ?_
    have I2 : Inv X pins σ H1 { s1 with heap := h' } := I1.kept (t' := s1.toks) hk
    refine ⟨s1.heap.objs.size + 1, [s1.heap.objs.size + 1, s1.heap.objs.size], _, _, H1, rfl, I2, turn_enumT a (s1.heap.objs.size + 1) s1.heap.objs.size,
      ⟨⟨.none, he⟩, hit, Nat.succ_ne_self _, Nat.ne_of_lt (Nat.lt_succ_of_lt hal), Nat.ne_of_lt hal⟩, fun b hb => ?_, q⟩
    have hle : s1.heap.objs.size ≤ b := by
      rcases (show b = s1.heap.objs.size + 1 ∨ b = s1.heap.objs.size by simpa using hb) with z | z
      · rw [z]; exact Nat.le_succ _
      · rw [z]; exact Nat.le_refl _
    exact I1.fpOk hle (I1.hok.fresh hle)
theorem for_enumT {K : PySem.W.Frag} {a : Addr} {xs : List V} {g : TG} {tb : TS} {D : Ends} {σ : L2.St} {H : Hp} (Pv : Nat → L2.St → Hp → Prop) (h0 : Pv 0 σ H) (hq : ∀ i σ H, Pv i σ H → SqT K H a xs)
    (hs : ∀ i x T σ H, xs[i]? = some x → Pv i σ H → H T = none → g (.ref T) σ (upd H T (.tup [.int (i : Nat), x])) fun σ2 H2 => tb { D with nx := Pv (i + 1), ct := Pv (i + 1), bk := D.nx } σ2 H2)
    (hd : ∀ σ H, Pv xs.length σ H → D.nx σ H) :
    ∃ W : Nat → Nat → L2.St → Hp → Prop, (∃ m, W 0 m σ H) ∧ ∀ i m σ H, W i m σ H →
      ((IteT K a).stop i H ∧ D.nx σ H) ∨ ((IteT K a).go i H ∧ ∃ N : L2.St → Hp → Prop, (∀ σ' H', N σ' H' → ∃ m', m' < m ∧ W (i + 1) m' σ' H') ∧ ∀ x H', (IteT K a).yld i H x H' → g x σ H' fun σ2 H2 => tb { D with nx := N, ct := N, bk := D.nx } σ2 H2) := by
  refine ⟨fun i m σ H => m = xs.length - i ∧ i ≤ xs.length ∧ Pv i σ H, ⟨xs.length, rfl, Nat.zero_le _, h0⟩, ?_⟩
  rintro i m σ H ⟨rfl, hi, p⟩
  have qx := hq i σ H p
  by_cases hlt : i < xs.length
  · refine .inr ⟨⟨xs, _, qx, List.getElem?_eq_getElem hlt⟩, Pv (i + 1), fun σ' H' p' => ⟨_, by omega, rfl, hlt, p'⟩, fun v H' y => ?_⟩
    obtain ⟨T, x', rfl, hT, rfl, f1⟩ := y
    exact hs i x' T σ H (f1 xs qx) p hT
  · have e : i = xs.length := by omega
    subst e
    exact .inl ⟨⟨xs, qx, Nat.le_refl _⟩, hd σ H p⟩
/-! ### slices and sums of tuples, told by what holds behind -/
theorem cut_whole {xs : List V} {lo hi : Option Int} (h : HT.sIx xs.length 0 lo = 0 ∧ HT.sIx xs.length xs.length hi = xs.length) : cutV xs lo hi = xs := by
  unfold cutV
  rw [h.1, h.2, List.drop_zero, Nat.sub_zero, List.take_length]
def rSlS : V → Option Int → Option Int → Hp → VK → Prop := fun x lo hi H Q => ∃ a xs, x = .ref a ∧ H a = some (.tup xs) ∧
  ∀ t H', DL.Same1 H H' → H' t = some (.tup (cutV xs lo hi)) → Q (.ref t) H'
theorem sl_tupS {X : Cx} : SlR X rSlS := by
  intro pins s σ H x v vl vu lo hi sl Q I rx hs pl pu h
  obtain ⟨a, xs, rfl, ha, q⟩ := h
  exact sl_tupA pins s σ H _ v vl vu lo hi sl Q I rx hs pl pu ⟨a, xs, rfl, SqT.of ha, fun w => q a H (Same.refl _) (by rw [cut_whole w]; exact ha),
    fun _ p hp => q p _ (DL.Same.new hp) upd_same⟩
def rCatS : R2 := fun x y H Q => ∃ a b xs ys, x = .ref a ∧ y = .ref b ∧ H a = some (.tup xs) ∧ H b = some (.tup ys) ∧ xs.length + ys.length ≤ sizeLine ∧
  ∀ t H', DL.Same1 H H' → H' t = some (.tup (xs ++ ys)) → Q (.ref t) H'
theorem op_catS {X : Cx} : OpR X (binaryOp .Add) rCatS := by
  intro pins s σ H x y v u Q I rx ry h
  obtain ⟨a, b, xs, ys, rfl, rfl, ha, hb, hz, q⟩ := h
  refine op_catA pins s σ H _ _ v u Q I rx ry ⟨a, b, xs, ys, rfl, rfl, SqT.of ha, SqT.of hb, hz, fun e => q b H (Same.refl _) ?_, fun _ e => q a H (Same.refl _) ?_, fun _ _ p hp => q p _ (DL.Same.new hp) upd_same⟩
  · rw [e]; exact hb
  · rw [e, List.append_nil]; exact ha
/-! ### a method's call within a comprehension's block -/
theorem pe_bmK {X : Cx} {o e : Expr} {es : List Expr} {to : TE} {t : TA} {name : Str} {apos cpos : Pos} {T id : String} {r : V → List V → Hp → VK → Prop} (K0 : PySem.W.Frag) (hK : X.K = K0)
    (pa : PlainAttrs T) (slot : Slot T name id) (hty : typeOf (.builtin id) = pure (.type "method_descriptor")) (hm : MtR X id r) (ho : PE X o to) (ha : PA X (e :: es) t)
    (hbase : attributeBase o name X.env (eval o X.env) = eval o X.env := by rfl)
    (hfew : ((backTo cpos (starEach (e :: es) X.env)).all (fun x => !x.1) && (backToKw cpos (keywordEach [] X.env)).all (fun x => x.1.isSome)
      && decide ((e :: es).length + ([] : List Keyword).length + (if ([] : List Keyword).isEmpty then 0 else 1) < 30)) = true := by rfl)
    (hline : (apos.endLine == cpos.line) = true := by rfl)
    (hs : starEach (e :: es) X.env = (false, eval e X.env) :: starEach es X.env := by rfl) (hplain : (backTo cpos (starEach es X.env)).any (·.1) = false := by rfl) :
    PE X (.Call (.Attribute o name apos) (e :: es) [] cpos) (tBM K0 T r to t) := hK ▸ pe_bm pa slot hty hm ho ha hbase hfew hline hs hplain
theorem mt_indexK {X : Cx} (K0 : PySem.W.Frag) (hK : X.K = K0) : MtR X "list.index" (rIndex K0) := hK ▸ mt_index
def rLenK (K : PySem.W.Frag) : List V → Hp → VK → Prop := fun xs H Q => ∃ p ys, xs = [V.ref p] ∧ (SqL K H p ys ∨ SqT K H p ys) ∧ Q (.int ys.length) H
theorem call_lenK {X : Cx} (K0 : PySem.W.Frag) (hK : X.K = K0) : CallR X (.builtin "len") (rLenK K0) := hK ▸ call_len_seq
theorem ix_tupK {X : Cx} (K0 : PySem.W.Frag) (hK : X.K = K0) : IxR X (rIxT K0) := hK ▸ ix_tup
theorem ix_listK {X : Cx} (K0 : PySem.W.Frag) (hK : X.K = K0) : IxR X (rIxL K0) := hK ▸ ix_list
theorem ix_seqK {X : Cx} (K0 : PySem.W.Frag) (hK : X.K = K0) : IxR X (rIx K0) := hK ▸ ix_seq
theorem op_catTK {X : Cx} (K0 : PySem.W.Frag) (hK : X.K = K0) : OpR X (binaryOp .Add) (rCatT K0) := hK ▸ op_catT
theorem call_isiK2 {X : Cx} (K0 : PySem.W.Frag) (hK : X.K = K0) : CallR X (.builtin "isinstance") (rIsi K0) := hK ▸ call_isi
/-! ### xs[i] op= e of a list -/
def rGetL (K : PySem.W.Frag) : V → V → Hp → VK → Prop := fun x y H Q => ∃ (p : Addr) (xs : List V) (j : Nat) (v : V), x = .ref p ∧ y = .int (j : Int) ∧ SqL K H p xs ∧ xs[j]? = some v ∧ Q v H
theorem get_list {X : Cx} : PGet X (rGetL X.K) := by
  intro pins s σ H o i ov iv Q I ro ri h
  obtain ⟨p, xs, j, v, rfl, rfl, hq, he, q⟩ := h
  cases ro
  obtain ⟨t, rfl⟩ := ri
  obtain ⟨its, r, pl, hz⟩ := I.list hq
  obtain ⟨u, hu, ru⟩ := r.get he
  have hj := (List.getElem?_eq_some_iff.mp he).1
  have hn := line63
  exact wpAny_getItem_list pl.isList (by omega) (by omega) (x := u) (by simpa using hu) ⟨v, H, I, ru, q⟩
end DLR
namespace DL
open PySem L2
def top (i : Nat) : Stmt := PySem.Challenge.pw_drumlay_k12_whole_papers_bound_all.main.body.getD i (.Pass ⟨0, 0, 0, 0⟩)
structure Bt (mg : Str → Option Value) : Prop where
  len : mg "len" = none
  int : mg "int" = none
  range : mg "range" = none
  isinstance : mg "isinstance" = none
  tuple : mg "tuple" = none
  list : mg "list" = none
  sorted : mg "sorted" = none
  sum : mg "sum" = none
  max : mg "max" = none
  enumerate : mg "enumerate" = none
  zip : mg "zip" = none
  all : mg "all" = none
  bool : mg "bool" = none
  str : mg "str" = none
abbrev sDice : Stmt := top 62
abbrev sNext : Stmt := top 63
def spDice (K : Frg) : Sp := fun vs H Q _ => ∃ (sa : Addr) (ns : List Int), vs = [.ref sa] ∧ SqL K H sa (ns.map V.int) ∧ ns.length ≤ 63 ∧
  ∀ p H', Same H H' → H p = none → Ent K H' p sa ns → Q (.ref p) H'
def spNext (K : Frg) : Sp := fun vs H Q _ => ∃ (d sa : Addr) (ns : List Int) (many : Int), vs = [.ref d, .int many] ∧ Ent K H d sa ns ∧ 0 < many ∧ many < 1073741824 ∧
  ∀ n H', 0 ≤ n → n < many → Dc K H H' d sa ns → Q (.int n) H'
section
variable {P : Program} {w : World} {K : PySem.W.Frag} {mg : Str → Option Value} {base : Heap}
theorem scDice : FnScope ["_law_script", "_law_mixed_here", "_law_cell"] ["_law_script"] (defScope sDice) := ⟨rfl, rfl, rfl, by decide +kernel, rfl, by decide +kernel, by decide +kernel⟩
theorem ok_dice {f : Addr} {fd : FuncData} (F : Fun K "_law_dice" "_law_dice" sDice f fd) (T : Bt mg) : FnOk P w K mg base CX0 1 f fd ["_law_script"] (spDice K) := by
  refine F.ok scDice (fun vs H Q E h => ?_) (fun cdv A outer s H vs Q E hr h => ?_)
  · obtain ⟨sa, ns, rfl, _⟩ := h
    rfl
  · obtain ⟨sa, ns, rfl, hS, hlen, k⟩ := h
    refine ⟨_, pss_cons (ps_set (i := 1) scDice.nd rfl (Or.inl rfl) pe_int)
      (pss_cons (ps_for PassesOwn.never rfl (pi_list (pv 0)) (pg_name (i := 2) scDice.nd rfl (Or.inl rfl))
        (pss_one (ps_set (i := 1) scDice.nd rfl (Or.inl rfl) (pe_op op_mod (pe_op op_add (pe_op op_add (pe_op op_mul (pv 1) pe_int) (pe_op op_mul (pe_op op_mod (pv 2) pe_int) pe_int)) pe_int) pe_int))))
      (pss_one (ps_ret (pe_lst (pa_cons (pv 0) (pa_cons pe_int (pa_cons (pe_op op_mul (pv 1) (pe_callTy call_int1 (by rfl) T.int (by decide +kernel)
        (pa_cons (pe_cmpR op_gt (pe_callB call_len_seq (by rfl) T.len PySem.boot_len (pa_cons (pv 0) pa_nil)) pe_int (nomark _)) pa_nil))) (pa_cons pe_int pa_nil)))))))), ?_⟩
    refine ⟨_, rfl, sa, rfl, ⟨_, hS⟩, for_list (K := K) (a := sa) (xs := ns.map V.int) (fun i σ H' => ∃ (m : Int) (v : Option V), σ = [some (.ref sa), some (.int m), v] ∧ H' = H ∧ 0 ≤ m ∧ m < 2147483647)
      ⟨0, none, rfl, rfl, by decide, by decide⟩ (fun i σ H' _ ⟨_, _, _, e, _⟩ => by rw [e]; exact hS) ?_ ?_⟩
    · rintro i y σ H' hi ⟨m, v, rfl, rfl, h0, h1⟩
      obtain ⟨u, rfl⟩ : ∃ u, y = V.int u := by
        rw [List.getElem?_map] at hi
        cases e : ns[i]? with
        | none => rw [e] at hi; cases hi
        | some u => rw [e] at hi; exact ⟨u, (Option.some.inj hi).symm⟩
      refine ⟨_, rfl, _, _, rfl, rfl, .inl ⟨by omega, by omega⟩, _, rfl, _, _, rfl, rfl, (by show (0 : Int) < 2147483647; decide), _, _, rfl, rfl, .inl ⟨by omega, by omega⟩, _, _, rfl, rfl, _, _, rfl, rfl, _, _, rfl, rfl, (by show (0 : Int) < 2147483647; decide), ?_⟩
      exact ⟨_, _, rfl, rfl, Int.emod_nonneg _ (by decide), Int.emod_lt_of_pos _ (by decide)⟩
    · rintro σ H' ⟨m, v, rfl, rfl, h0, h1⟩
      refine ⟨_, rfl, _, rfl, _, rfl, sa, _, rfl, .inl hS, _, _, rfl, rfl, .inr ⟨_, rfl, ?_⟩⟩
      refine ⟨_, _, rfl, rfl, .inl ⟨by omega, by omega⟩, (by show 4 ≤ sizeLine; decide), fun p hp => ?_⟩
      have hns : (List.map V.int ns).length = ns.length := List.length_map _
      exact k p _ (Same.new hp) hp ⟨⟨_, _, _, upd_same, by decide, by split <;> omega, by split <;> omega⟩, (Same.new hp).seq hS, hlen⟩
theorem scNext : FnScope ["_law_dice_here", "_law_many", "_law_found", "_law_cell"] ["_law_dice_here", "_law_many"] (defScope sNext) := ⟨rfl, rfl, rfl, by decide +kernel, rfl, by decide +kernel, by decide +kernel⟩
theorem ok_next {f : Addr} {fd : FuncData} (F : Fun K "_law_next" "_law_next" sNext f fd) (T : Bt mg) : FnOk P w K mg base CX0 1 f fd ["_law_dice_here", "_law_many"] (spNext K) := by
  refine F.ok scNext (fun vs H Q E h => ?_) (fun cdv A outer s H vs Q E hr h => ?_)
  · obtain ⟨d, sa, ns, many, rfl, _⟩ := h
    rfl
  · obtain ⟨d, sa, ns, many, rfl, hE, hm0, hm1, k⟩ := h
    obtain ⟨⟨i, m, r, hd, hi0, hmx, hmy⟩, hS, hlen⟩ := id hE
    have C0 := Dc.refl hE
    refine ⟨_, pss_cons (ps_if (pt_cmpR op_gt (pe_ix ix_list (pv 0) pe_int (fun _ _ => rfl)) pe_int (nomark _))
        (pss_cons (ps_set (i := 2) scNext.nd rfl (Or.inl rfl) (pe_op op_mod (pe_ix ix_list (pv 0) pe_int (fun _ _ => rfl)) (pv 1)))
        (pss_cons (ps_asg (pe_op op_fdiv (pe_ix ix_list (pv 0) pe_int (fun _ _ => rfl)) (pv 1)) (pg_sub (pv 0) pe_int set_list))
        (pss_one (ps_ret (pv 2))))) pss_nil)
      (pss_cons (ps_asg (pe_op op_add (pe_ix ix_list (pv 0) pe_int (fun _ _ => rfl)) pe_int) (pg_sub (pv 0) pe_int set_list))
      (pss_cons (ps_if (pt_cmpR op_le (pe_ix ix_list (pv 0) pe_int (fun _ _ => rfl)) (pe_callB call_len_seq (by rfl) T.len PySem.boot_len (pa_cons (pe_ix ix_list (pv 0) pe_int (fun _ _ => rfl)) pa_nil)) (nomark _))
        (pss_cons (ps_set (i := 3) scNext.nd rfl (Or.inl rfl) (pe_ix ix_list (pe_ix ix_list (pv 0) pe_int (fun _ _ => rfl)) (pe_op op_sub (pe_ix ix_list (pv 0) pe_int (fun _ _ => rfl)) pe_int) (fun _ _ => rfl)))
        (pss_cons (ps_asg (pe_ifExp (pt_cmpR op_ge (pv 3) (pe_op op_pow pe_int pe_int) (nomark _)) (pe_op op_fdiv (pv 3) (pv 1)) pe_int) (pg_sub (pv 0) pe_int set_list))
        (pss_one (ps_ret (pe_op op_mod (pv 3) (pv 1)))))) pss_nil)
      (pss_cons (ps_asg (pe_op op_mod (pe_op op_mul (pe_ix ix_list (pv 0) pe_int (fun _ _ => rfl)) pe_int) pe_int) (pg_sub (pv 0) pe_int set_list))
      (pss_one (ps_ret (pe_op op_mod (pe_op op_fdiv (pe_ix ix_list (pv 0) pe_int (fun _ _ => rfl)) pe_int) (pv 1))))))), ?_⟩
    refine ⟨_, rfl, d, _, _, _, rfl, rfl, SqL.of hd, at3, _, _, rfl, rfl, _, rfl, ite2 (fun c => ?_) (fun c => ?_)⟩
    · refine ⟨_, rfl, d, _, _, _, rfl, rfl, SqL.of hd, at3, _, rfl, _, _, rfl, rfl, hm0, ?_⟩
      refine ⟨_, rfl, d, _, _, _, rfl, rfl, SqL.of hd, at3, _, rfl, _, _, rfl, rfl, ⟨hm0, hm1⟩, _, rfl, d, _, _, 3, rfl, rfl, hd, rfl, ?_⟩
      exact ⟨_, rfl, k _ _ (Int.emod_nonneg _ (by omega)) (Int.emod_lt_of_pos _ hm0) (C0.roll hi0 hmx hmy)⟩
    · refine ⟨_, rfl, d, _, _, _, rfl, rfl, SqL.of hd, at1, _, _, rfl, rfl, _, rfl, d, _, _, 1, rfl, rfl, hd, rfl, ?_⟩
      have C1 : Dc K H (upd H d (.lst [.ref sa, .int (i + 1), .int m, .int r])) d sa ns := C0.roll (by omega) hmx hmy
      have h1 : (upd H d (.lst [.ref sa, .int (i + 1), .int m, .int r])) d = some (.lst [.ref sa, .int (i + 1), .int m, .int r]) := upd_same
      have hS1 := C1.ent.scr
      revert C1 h1 hS1
      show _ → _ → _ → _
      generalize hH1 : (upd H d (.lst [.ref sa, .int (i + 1), .int m, .int r])) = H1
      intro C1 h1 hS1
      have hH1' : upd H d (.lst (List.set [V.ref sa, .int i, .int m, .int r] 1 (.int (i + 1)))) = H1 := hH1
      rw [hH1']
      refine ⟨_, rfl, d, _, _, _, rfl, rfl, SqL.of h1, at1, _, rfl, d, _, _, _, rfl, rfl, SqL.of h1, at0, sa, _, rfl, .inl hS1, _, _, rfl, rfl, _, rfl, ite2 (fun c => ?_) (fun c => ?_)⟩
      · have c : i + 1 ≤ ((ns.map V.int).length : Int) := of_decide_eq_true c
        rw [List.length_map] at c
        obtain ⟨j, hj⟩ : ∃ j : Nat, i = (j : Int) := ⟨i.toNat, by omega⟩
        have hjl : j < ns.length := by omega
        have hat : atI (ns.map V.int) (i + 1 - 1) = some (.int ns[j]) := by
          have e : i + 1 - 1 = (j : Int) := by omega
          rw [e]
          refine atI_nat ?_
          rw [List.getElem?_map, List.getElem?_eq_getElem hjl]
          rfl
        refine ⟨_, rfl, d, _, _, _, rfl, rfl, SqL.of h1, at0, _, rfl, d, _, _, _, rfl, rfl, SqL.of h1, at1, _, _, rfl, rfl, sa, _, _, _, rfl, rfl, hS1, hat, ?_⟩
        refine ⟨_, rfl, _, _, rfl, rfl, ⟨by decide, by decide, by decide⟩, _, _, rfl, rfl, _, rfl, ite2 (fun c2 => ?_) (fun c2 => ?_)⟩
        · refine ⟨_, rfl, _, rfl, _, _, rfl, rfl, ⟨hm0, hm1⟩, _, rfl, d, _, _, 3, rfl, rfl, h1, rfl, ?_⟩
          exact ⟨_, rfl, _, rfl, _, _, rfl, rfl, hm0, k _ _ (Int.emod_nonneg _ (by omega)) (Int.emod_lt_of_pos _ hm0) (C1.roll (by omega) hmx hmy)⟩
        · refine ⟨_, rfl, d, _, _, 3, rfl, rfl, h1, rfl, ?_⟩
          exact ⟨_, rfl, _, rfl, _, _, rfl, rfl, hm0, k _ _ (Int.emod_nonneg _ (by omega)) (Int.emod_lt_of_pos _ hm0) (C1.roll (by omega) hmx hmy)⟩
      · refine ⟨_, rfl, d, _, _, _, rfl, rfl, SqL.of h1, at2, _, _, rfl, rfl, .inl ⟨by omega, by omega⟩, _, _, rfl, rfl, (by show (0 : Int) < 2147483647; decide), _, rfl, d, _, _, 2, rfl, rfl, h1, rfl, ?_⟩
        refine ⟨_, rfl, d, _, _, _, rfl, rfl, SqL.of upd_same, at2, _, _, rfl, rfl, ⟨by decide, by decide⟩, _, rfl, _, _, rfl, rfl, hm0, ?_⟩
        exact k _ _ (Int.emod_nonneg _ (by omega)) (Int.emod_lt_of_pos _ hm0) (C1.roll (by omega) (Int.emod_nonneg _ (by decide)) (Int.emod_lt_of_pos _ (by decide)))
end
end DL
namespace DL
open PySem L2
/-! ### data: what like compares -/
inductive D where
  | non | bl (b : Bool) | int (i : Int) | str (s : Str) | lst (l : List D) | tup (l : List D)
mutual
def At (H : Hp) : V → D → Prop
  | v, .non => v = .non
  | v, .bl b => v = .bl b
  | v, .int i => v = .int i
  | v, .str s => v = .str s
  | v, .lst ds => ∃ a vs, v = .ref a ∧ H a = some (.lst vs) ∧ Ats H vs ds
  | v, .tup ds => ∃ a vs, v = .ref a ∧ H a = some (.tup vs) ∧ Ats H vs ds
def Ats (H : Hp) : List V → List D → Prop
  | [], [] => True
  | v :: vs, d :: ds => At H v d ∧ Ats H vs ds
  | _, _ => False
end
mutual
def D.dep : D → Nat
  | .lst ds => depL ds + 1
  | .tup ds => depL ds + 1
  | _ => 0
def depL : List D → Nat
  | [] => 0
  | d :: ds => max d.dep (depL ds)
end
mutual
def D.fit : D → Prop
  | .lst ds => ds.length ≤ 100000 ∧ fitL ds
  | .tup ds => ds.length ≤ 100000 ∧ fitL ds
  | _ => True
def fitL : List D → Prop
  | [] => True
  | d :: ds => d.fit ∧ fitL ds
end
theorem fitL_iff : ∀ {ds : List D}, fitL ds ↔ ∀ x ∈ ds, x.fit
  | [] => by simp [fitL]
  | d :: ds => by simp [fitL, fitL_iff (ds := ds)]
theorem D.fit_of {x : D} {ds : List D} (hx : x = .lst ds ∨ x = .tup ds) (h : x.fit) : ds.length ≤ 100000 ∧ fitL ds := by
  rcases hx with rfl | rfl <;> simpa [D.fit] using h
theorem Ats.len {H : Hp} : ∀ {vs : List V} {ds : List D}, Ats H vs ds → vs.length = ds.length
  | [], [], _ => rfl
  | v :: vs, d :: ds, h => by
    have h : At H v d ∧ Ats H vs ds := by simpa [Ats] using h
    show vs.length + 1 = ds.length + 1
    rw [Ats.len h.2]
  | [], _ :: _, h => by simp [Ats] at h
  | _ :: _, [], h => by simp [Ats] at h
theorem Ats.get {H : Hp} : ∀ {vs : List V} {ds : List D} (i : Nat), Ats H vs ds → i < ds.length → ∃ v x, vs[i]? = some v ∧ ds[i]? = some x ∧ At H v x
  | [], [], i, _, hi => by simp at hi
  | v :: vs, d :: ds, 0, h, _ => by
    have h : At H v d ∧ Ats H vs ds := by simpa [Ats] using h
    exact ⟨v, d, rfl, rfl, h.1⟩
  | v :: vs, d :: ds, i + 1, h, hi => by
    have h : At H v d ∧ Ats H vs ds := by simpa [Ats] using h
    obtain ⟨u, x, h1, h2, h3⟩ := Ats.get i h.2 (by simpa using hi)
    exact ⟨u, x, by simpa using h1, by simpa using h2, h3⟩
  | [], _ :: _, i, h, _ => by simp [Ats] at h
  | _ :: _, [], i, h, _ => by simp [Ats] at h
theorem depL_get : ∀ {ds : List D} {i : Nat} {x : D}, ds[i]? = some x → x.dep ≤ depL ds
  | [], i, x, h => by simp at h
  | d :: ds, 0, x, h => by
    have e : d = x := by simpa using h
    subst e
    show d.dep ≤ max d.dep (depL ds)
    omega
  | d :: ds, i + 1, x, h => by
    have := depL_get (ds := ds) (i := i) (x := x) (by simpa using h)
    show x.dep ≤ max d.dep (depL ds)
    omega
def D.ty : D → String
  | .non => "NoneType" | .bl _ => "bool" | .int _ => "int" | .str _ => "str" | .lst _ => "list" | .tup _ => "tuple"
theorem At.ty {K : Frg} {H : Hp} {v : V} : ∀ {x : D}, At H v x → TyX K H v (.type x.ty)
  | .non, h => by
    have h : v = .non := by simpa [At] using h
    subst h; exact .base .non
  | .bl b, h => by
    have h : v = .bl b := by simpa [At] using h
    subst h; exact .base (.bl _)
  | .int i, h => by
    have h : v = .int i := by simpa [At] using h
    subst h; exact .base (.int _)
  | .str s, h => by
    have h : v = .str s := by simpa [At] using h
    subst h; exact .base (.str _)
  | .lst ds, h => by
    obtain ⟨a, vs, rfl, h, _⟩ : ∃ a vs, v = .ref a ∧ H a = some (.lst vs) ∧ Ats H vs ds := by simpa [At] using h
    exact .base (.lst h)
  | .tup ds, h => by
    obtain ⟨a, vs, rfl, h, _⟩ : ∃ a vs, v = .ref a ∧ H a = some (.tup vs) ∧ Ats H vs ds := by simpa [At] using h
    exact .base (.tup h)
theorem isi_go {K : Frg} {H : Hp} {v : V} {x : D} {c : String} {b : Bool} {Q : VK} (h : At H v x) (r : kitB x.ty c = some b) (q : Q (.bl b) H) : rIsi K [v, .ty c] H Q :=
  ⟨_, _, _, _, _, rfl, .ty _, h.ty, kit_ty r, q⟩
def spLike (K : Frg) (n : Nat) : Sp := fun vs H Q _ => ∃ (v u : V) (x : D), vs = [v, u] ∧ At H v x ∧ At H u x ∧ x.dep ≤ n ∧ x.fit ∧ Q (.bl true) H
section
variable {P : Program} {w : World} {K : PySem.W.Frag} {mg : Str → Option Value} {base : Heap}
theorem At.sq {K : Frg} {H : Hp} {v : V} {x : D} {ds : List D} (hx : x = .lst ds ∨ x = .tup ds) (h : At H v x) : ∃ a vs, v = .ref a ∧ (SqL K H a vs ∨ SqT K H a vs) ∧ Ats H vs ds := by
  rcases hx with rfl | rfl
  · obtain ⟨a, vs, rfl, h, z⟩ : ∃ a vs, v = .ref a ∧ H a = some (.lst vs) ∧ Ats H vs ds := by simpa [At] using h
    exact ⟨a, vs, rfl, .inl (SqL.of h), z⟩
  · obtain ⟨a, vs, rfl, h, z⟩ : ∃ a vs, v = .ref a ∧ H a = some (.tup vs) ∧ Ats H vs ds := by simpa [At] using h
    exact ⟨a, vs, rfl, .inr (SqT.of h), z⟩
theorem sq_ix {K : Frg} {H : Hp} {a : Addr} {vs : List V} {i : Nat} {v : V} {Q : VK} (h : SqL K H a vs ∨ SqT K H a vs) (e : vs[i]? = some v) (q : Q v H) : rIx K (.ref a) (.int (i : Int)) H Q := by
  rcases h with h | h
  · exact .inl ⟨a, vs, _, v, rfl, rfl, h, atI_nat e, q⟩
  · exact .inr (.inl ⟨a, vs, _, v, rfl, rfl, h, atI_nat e, q⟩)
theorem D.dep_of {x : D} {ds : List D} (hx : x = .lst ds ∨ x = .tup ds) : x.dep = depL ds + 1 := by
  rcases hx with rfl | rfl <;> rfl
abbrev spNo : Sp := fun _ _ _ _ => False
theorem ok_no {CX : CXT} {k : Nat} {f : Addr} {fd : FuncData} {ps : List Str} : FnOk P w K mg base CX k f fd ps spNo := ⟨fun _ _ _ _ h => h.elim, fun _ _ _ _ _ _ _ _ _ _ _ _ _ h => h.elim⟩
end
end DL
namespace DL
open PySem L2
/-! ### rows -/
inductive Row where
  | load (w n : Nat) | add (w n : Nat) | take (w n : Nat) | store (w n : Nat) | say (n : Nat) | test (a b : Nat) | stop
def rowVs : Row → List V
  | .load w n => [.str "load", .int (w : Int), .int (n : Int)]
  | .add w n => [.str "add", .int (w : Int), .int (n : Int)]
  | .take w n => [.str "take", .int (w : Int), .int (n : Int)]
  | .store w n => [.str "store", .int (w : Int), .int (n : Int)]
  | .say n => [.str "say", .int (n : Int)]
  | .test a b => [.str "test", .int (a : Int), .int (b : Int)]
  | .stop => [.str "stop"]
def Row.ok (W N : Nat) : Row → Prop
  | .load w n => w < W ∧ n < N
  | .add w n => w < W ∧ n < N
  | .take w n => w < W ∧ n < N
  | .store w n => w < W ∧ n < N
  | .say n => n < N
  | .test a b => a < N ∧ b < N
  | .stop => True
def Row.plain : Row → Prop
  | .test _ _ => False
  | .stop => False
  | _ => True
def Row.to (m : Nat) : Row → Row
  | .load w _ => .load w m
  | .add w _ => .add w m
  | .take w _ => .take w m
  | .store w _ => .store w m
  | .say _ => .say m
  | r => r
def isT (r : Row) : Nat := if decide ((rowVs r)[0]? = some (V.str "test")) = true then 1 else 0
def tests (rs : List Row) : Nat := (rs.map isT).sum
theorem isT_le (r : Row) : isT r ≤ 1 := by
  unfold isT
  split <;> decide
theorem isT_plain : ∀ {r : Row}, r.plain → isT r = 0
  | .load _ _, _ => (by decide +kernel : (if decide (some (V.str "load") = some (V.str "test")) = true then 1 else 0) = 0)
  | .add _ _, _ => (by decide +kernel : (if decide (some (V.str "add") = some (V.str "test")) = true then 1 else 0) = 0)
  | .take _ _, _ => (by decide +kernel : (if decide (some (V.str "take") = some (V.str "test")) = true then 1 else 0) = 0)
  | .store _ _, _ => (by decide +kernel : (if decide (some (V.str "store") = some (V.str "test")) = true then 1 else 0) = 0)
  | .say _, _ => (by decide +kernel : (if decide (some (V.str "say") = some (V.str "test")) = true then 1 else 0) = 0)
theorem isT_stop : isT .stop = 0 := (by decide +kernel : (if decide (some (V.str "stop") = some (V.str "test")) = true then 1 else 0) = 0)
theorem isT_to {r : Row} {m : Nat} (p : r.plain) : isT (r.to m) = 0 := by
  cases r <;> first | exact p.elim | exact isT_plain trivial
theorem tests_app : ∀ (a b : List Row), tests (a ++ b) = tests a + tests b
  | [], b => by unfold tests; simp
  | x :: a, b => by
    show isT x + tests (a ++ b) = isT x + tests a + tests b
    rw [tests_app a b]
    omega
theorem tests_cons (x : Row) (a : List Row) : tests (x :: a) = isT x + tests a := rfl
theorem tests_one {r : Row} : tests [r] = isT r := Nat.add_zero _
theorem tests_plain : ∀ {rs : List Row}, (∀ r ∈ rs, r.plain) → tests rs = 0
  | [], _ => rfl
  | x :: rs, h => by
    rw [tests_cons, isT_plain (h x List.mem_cons_self), tests_plain fun r hr => h r (List.mem_cons_of_mem _ hr)]
theorem Row.ok.mono {W N M : Nat} (h : N ≤ M) : ∀ {r : Row}, r.ok W N → r.ok W M := fun {r} k => by
  cases r <;> simp only [Row.ok] at * <;> omega
theorem Row.ok.to {W N m M : Nat} (hm : m < M) : ∀ {r : Row}, r.plain → r.ok W N → (r.to m).ok W M := fun {r} p k => by
  cases r <;> simp only [Row.ok, Row.to, Row.plain] at * <;> omega
theorem Row.vs_to {m : Nat} : ∀ {r : Row}, r.plain → rowVs (r.to m) = (rowVs r).dropLast ++ [V.int (m : Int)] := fun {r} p => by
  cases r <;> first | rfl | exact p.elim
theorem Row.vs_len (r : Row) : 1 ≤ (rowVs r).length ∧ (rowVs r).length ≤ 3 := by cases r <;> simp [rowVs]
def RowsAt (H : Hp) (bs : List Addr) (rs : List Row) : Prop := Paired (fun b r => H b = some (.tup (rowVs r))) bs rs
theorem RowsAt.kp {H H' : Hp} {bs : List Addr} {rs : List Row} (h : RowsAt H bs rs) (k : Kp H H') : RowsAt H' bs rs := Paired.mapP h fun _ _ q => k _ _ q
theorem Paired.app {α β : Type} {F : α → β → Prop} : ∀ {a : List α} {b : List β} {c : List α} {d : List β}, Paired F a b → Paired F c d → Paired F (a ++ c) (b ++ d)
  | _, _, _, _, .nil, h => h
  | _, _, _, _, .cons x t, h => .cons x (Paired.app t h)
theorem Paired.get {α β : Type} {F : α → β → Prop} : ∀ {a : List α} {b : List β} {i : Nat} {x : α}, Paired F a b → a[i]? = some x → ∃ y, b[i]? = some y ∧ F x y
  | _, _, _, _, .nil, e => by simp at e
  | _, _, 0, _, .cons h _, e => by simp at e; subst e; exact ⟨_, rfl, h⟩
  | _, _, i + 1, _, .cons _ t, e => by
    obtain ⟨y, h1, h2⟩ := Paired.get (i := i) t (by simpa using e)
    exact ⟨y, by simpa using h1, h2⟩
theorem Paired.getR {α β : Type} {F : α → β → Prop} : ∀ {a : List α} {b : List β} {i : Nat} {y : β}, Paired F a b → b[i]? = some y → ∃ x, a[i]? = some x ∧ F x y
  | _, _, _, _, .nil, e => by simp at e
  | _, _, 0, _, .cons h _, e => by simp at e; subst e; exact ⟨_, rfl, h⟩
  | _, _, i + 1, _, .cons _ t, e => by
    obtain ⟨y, h1, h2⟩ := Paired.getR (i := i) t (by simpa using e)
    exact ⟨y, by simpa using h1, h2⟩
theorem Paired.one {α β : Type} {F : α → β → Prop} {x : α} {y : β} (h : F x y) : Paired F [x] [y] := .cons h .nil
structure Fd (K : Frg) (mg : Str → Option Value) (x : Str) (st : Stmt) (ps : List Str) where
  f : Addr
  fd : FuncData
  F : Fun K x x st f fd
  b : Binds K fd ps []
  m : mg x = some (.ref f)
abbrev FNext (K : Frg) (mg : Str → Option Value) := Fd K mg "_law_next" sNext ["_law_dice_here", "_law_many"]
abbrev sStraight : Stmt := top 64
abbrev FStraight (K : Frg) (mg : Str → Option Value) := Fd K mg "_law_straight" sStraight ["_law_d", "_law_at"]
def spStraight (K : Frg) : Sp := fun vs H Q _ => ∃ (d sa : Addr) (ns : List Int) (at_ : Nat), vs = [.ref d, .int (at_ : Int)] ∧ Ent K H d sa ns ∧
  ∀ t r H', Dc K H H' d sa ns → H' t = some (.tup (rowVs r)) → r.plain → r.ok 8 (at_ + 2) → Q (.ref t) H'
section
variable {P : Program} {w : World} {K : PySem.W.Frag} {mg : Str → Option Value} {base : Heap}
theorem scStraight : FnScope ["_law_d", "_law_at", "_law_way"] ["_law_d", "_law_at"] (defScope sStraight) := ⟨rfl, rfl, rfl, by decide +kernel, rfl, by decide +kernel, by decide +kernel⟩
theorem ok_straight (c : FStraight K mg) (cN : FNext K mg) (T : Bt mg) : FnOk P w K mg base CX0 2 c.f c.fd ["_law_d", "_law_at"] (spStraight K) := by
  have GN : FnOk P w K mg base CX0 1 cN.f cN.fd ["_law_dice_here", "_law_many"] (spNext K) := ok_next cN.F T
  refine c.F.ok scStraight (fun vs H Q E h => ?_) (fun cdv A outer s H vs Q E hr h => ?_)
  · obtain ⟨d, sa, ns, a, rfl, _⟩ := h
    rfl
  · obtain ⟨d, sa, ns, a, rfl, hE, k⟩ := h
    refine ⟨_, pss_cons (ps_set (i := 2) scStraight.nd rfl (Or.inl rfl) (pe_call GN hr (by rfl) cN.m cN.F.kp cN.b .nil pass0 (pa_cons (pv 0) (pa_cons pe_int pa_nil))))
      (pss_cons (ps_if (pt_cmpR op_eq (pv 2) pe_int (nomark _)) (pss_one (ps_ret (pe_tup (pa_cons pe_str (pa_cons (pe_op op_add (pv 1) pe_int) pa_nil))))) pss_nil)
      (pss_one (ps_ret (pe_tup (pa_cons (pe_ix ix_list (pe_lst (pa_cons pe_str (pa_cons pe_str (pa_cons pe_str (pa_cons pe_str (pa_cons pe_str pa_nil)))))) (pv 2) (fun _ _ => rfl))
        (pa_cons (pe_op op_add pe_int (pe_call GN hr (by rfl) cN.m cN.F.kp cN.b .nil pass0 (pa_cons (pv 0) (pa_cons pe_int pa_nil)))) (pa_cons (pe_op op_add (pv 1) pe_int) pa_nil))))))), ?_⟩
    refine ⟨_, rfl, d, sa, ns, _, rfl, hE, by decide, by decide, fun n H1 n0 n1 C1 => ?_⟩
    refine ⟨_, rfl, rfl, _, rfl, ?_⟩
    refine ite2 (fun e => ?_) (fun e => ?_)
    · refine ⟨_, rfl, _, _, rfl, rfl, (by show 2 ≤ sizeLine; decide), fun t ht => ?_⟩
      refine k t (.say (a + 1)) _ (C1.new ht) (by rw [upd_same]; rfl) trivial (by show a + 1 < a + 2; omega)
    · have n5 : n ≠ 5 := fun q => e (by rw [q]; exact decide_eq_true rfl)
      refine ⟨(by show 5 ≤ sizeLine; decide), fun l hl => ?_⟩
      obtain ⟨j, hj⟩ : ∃ j : Nat, n = (j : Int) := ⟨n.toNat, by omega⟩
      subst hj
      have hj5 : j < 5 := by omega
      obtain ⟨wd, hw⟩ : ∃ wd : Str, ([V.str "load", V.str "add", V.str "take", V.str "store", V.str "add"] : List V)[j]? = some (.str wd) ∧ ∀ x y : Nat, ∃ r : Row, rowVs r = [.str wd, .int (x : Int), .int (y : Int)] ∧ r.plain ∧ (x < 8 → y < a + 2 → r.ok 8 (a + 2)) := by
        match j, hj5 with
        | 0, _ => exact ⟨_, rfl, fun x y => ⟨.load x y, rfl, trivial, fun p q => ⟨p, q⟩⟩⟩
        | 1, _ => exact ⟨_, rfl, fun x y => ⟨.add x y, rfl, trivial, fun p q => ⟨p, q⟩⟩⟩
        | 2, _ => exact ⟨_, rfl, fun x y => ⟨.take x y, rfl, trivial, fun p q => ⟨p, q⟩⟩⟩
        | 3, _ => exact ⟨_, rfl, fun x y => ⟨.store x y, rfl, trivial, fun p q => ⟨p, q⟩⟩⟩
        | 4, _ => exact ⟨_, rfl, fun x y => ⟨.add x y, rfl, trivial, fun p q => ⟨p, q⟩⟩⟩
      have C2 := C1.new (o := .lst [V.str "load", V.str "add", V.str "take", V.str "store", V.str "add"]) hl
      refine ⟨_, rfl, l, _, _, _, rfl, rfl, SqL.of upd_same, atI_nat hw.1, ?_⟩
      refine ⟨_, rfl, d, sa, ns, _, rfl, C2.ent, by decide, by decide, fun m H2 m0 m1 C3 => ?_⟩
      refine ⟨_, _, rfl, rfl, _, rfl, _, _, rfl, rfl, (by show 3 ≤ sizeLine; decide), fun t ht => ?_⟩
      obtain ⟨x, hx⟩ : ∃ x : Nat, (5 : Int) + m = (x : Int) := ⟨(5 + m).toNat, by omega⟩
      obtain ⟨r, r1, r2, r3⟩ := hw.2 x (a + 1)
      refine k t r _ ((C2.trans C3).new ht) ?_ r2 (r3 (by omega) (by omega))
      rw [upd_same, r1, ← hx]
      rfl
end
end DL
namespace DL
open PySem L2
theorem Paired.last {α β : Type} {F : α → β → Prop} {x : α} : ∀ {a : List α} {b : List β}, Paired F (a ++ [x]) b → ∃ b0 y, b = b0 ++ [y] ∧ Paired F a b0 ∧ F x y
  | [], _, .cons h t => by
    cases t
    exact ⟨[], _, rfl, .nil, h⟩
  | c :: a, _, .cons h t => by
    obtain ⟨b0, y, e, h1, h2⟩ := Paired.last (a := a) t
    subst e
    exact ⟨_ :: b0, y, rfl, .cons h h1, h2⟩
theorem snoc_of {α : Type} : ∀ {l : List α}, 1 ≤ l.length → ∃ a x, l = a ++ [x]
  | [], h => by simp at h
  | [x], _ => ⟨[], x, rfl⟩
  | x :: y :: l, _ => by
    obtain ⟨a, z, e⟩ := snoc_of (l := y :: l) (by simp)
    exact ⟨x :: a, z, by rw [e]; rfl⟩
theorem ix_last (n : Nat) : ixN (n + 1) (-1) = some n := by
  unfold ixN
  rw [if_neg (by decide), if_pos (by omega)]
  congr 1
  omega
theorem all_snoc {α : Type} {p : α → Prop} {l : List α} {x : α} (h : ∀ y ∈ l, p y) (hx : p x) : ∀ y ∈ l ++ [x], p y := fun y m => by
  rcases List.mem_append.mp m with q | q
  · exact h y q
  · rw [List.mem_singleton.mp q]; exact hx
theorem all_app {α : Type} {p : α → Prop} {l m : List α} (h : ∀ y ∈ l, p y) (hx : ∀ y ∈ m, p y) : ∀ y ∈ l ++ m, p y := fun y q => by
  rcases List.mem_append.mp q with q | q
  · exact h y q
  · exact hx y q
theorem plain_ne {r : Row} (p : r.plain) : r ≠ .stop := fun z => by rw [z] at p; exact p
theorem to_ne {r : Row} {m : Nat} (p : r.plain) : r.to m ≠ .stop := fun z => by cases r <;> first | exact p | cases z
def Row.okS (r : Row) (W N : Nat) : Prop := r.ok W N ∧ r ≠ .stop
theorem Row.okS.mono {W N M : Nat} (h : N ≤ M) {r : Row} (k : r.okS W N) : r.okS W M := ⟨Row.ok.mono h k.1, k.2⟩
abbrev sFork : Stmt := top 65
abbrev FFork (K : Frg) (mg : Str → Option Value) := Fd K mg "_law_fork" sFork ["_law_d", "_law_at"]
def spFork (K : Frg) : Sp := fun vs H Q _ => ∃ (d sa : Addr) (ns : List Int) (at_ : Nat), vs = [.ref d, .int (at_ : Int)] ∧ Ent K H d sa ns ∧
  ∀ l bs rs H', Dc K H H' d sa ns → H l = none → H' l = some (.lst (bs.map V.ref)) → RowsAt H' bs rs → 1 ≤ rs.length → rs.length ≤ 6 → 4 * tests rs ≤ rs.length → (∀ r ∈ rs, r.okS 8 (at_ + rs.length + 1)) → Q (.ref l) H'
theorem sIx_neg (n d : Nat) : HT.sIx n d (some (-1)) = ((-1 : Int) + n).toNat := by
  show (if (-1 : Int) < 0 then ((-1 : Int) + (n : Int)).toNat else min (-1 : Int).toNat n) = _
  exact if_pos (by decide)
theorem set_last {α : Type} {l : List α} {x y : α} {n : Nat} (h : l.length = n) : (l ++ [x]).set n y = l ++ [y] := by
  subst h
  rw [List.set_append_right _ _ (Nat.le_refl _), Nat.sub_self]
  rfl
theorem cut_last {xs : List V} (h : 1 ≤ xs.length) : cutV xs none (some (-1)) = xs.dropLast := by
  unfold cutV
  rw [sIx_neg, HT.sIx_none, List.drop_zero, List.dropLast_eq_take, Nat.sub_zero]
  congr 1
  omega
theorem cut_not {xs : List V} (h : 1 ≤ xs.length) : ¬ (HT.sIx xs.length 0 none = 0 ∧ HT.sIx xs.length xs.length (some (-1)) = xs.length) := by
  rintro ⟨_, q⟩
  rw [sIx_neg] at q
  omega
theorem row_ne {r : Row} (p : r.plain) : (rowVs r).dropLast ≠ [] := by
  cases r <;> first | exact p.elim | (intro e; cases e)
def StrAt (K : Frg) (H0 : Hp) (d sa : Addr) (ns : List Int) (D : Addr) (at_ : Nat) (i : Nat) (H : Hp) : Prop :=
  ∃ bs rs, Dc K H0 H d sa ns ∧ H0 D = none ∧ H D = some (.lst (bs.map V.ref)) ∧ RowsAt H bs rs ∧ rs.length = i ∧ ∀ r ∈ rs, r.plain ∧ r.ok 8 (at_ + i + 1)
theorem StrAt.zero {K : Frg} {H0 H : Hp} {d sa : Addr} {ns : List Int} {D : Addr} {a : Nat} (C : Dc K H0 H d sa ns) (hD : H D = none) : StrAt K H0 d sa ns D a 0 (upd H D (.lst [])) :=
  ⟨[], [], C.new hD, C.here hD, upd_same, .nil, rfl, fun _ h => absurd h (by simp)⟩
theorem StrAt.step {K : Frg} {H0 H H' : Hp} {d sa : Addr} {ns : List Int} {D t : Addr} {a i : Nat} {bs : List Addr} {rs : List Row} {r : Row} (C : Dc K H0 H d sa ns) (n0 : H0 D = none) (hD : H D = some (.lst (bs.map V.ref))) (ha : RowsAt H bs rs) (hl : rs.length = i) (hr : ∀ r ∈ rs, r.plain ∧ r.ok 8 (a + i + 1))
    (C2 : Dc K H H' d sa ns) (ht : H' t = some (.tup (rowVs r))) (hp : r.plain) (ho : r.ok 8 (a + i + 2)) :
    H' D = some (.lst (bs.map V.ref)) ∧ StrAt K H0 d sa ns D a (i + 1) (upd H' D (.lst (bs.map V.ref ++ [.ref t]))) := by
  have C3 := C.trans C2
  have hD' : H' D = some (.lst (bs.map V.ref)) := C2.but _ _ (C.ned n0) hD
  refine ⟨hD', bs ++ [t], rs ++ [r], C3.mut n0, n0, by rw [upd_same, List.map_append]; rfl, ?_, by rw [List.length_append, hl]; rfl, ?_⟩
  · exact RowsAt.kp (Paired.app (ha.kp C2.kp) (Paired.one ht)) (Kp.lst hD')
  · refine all_snoc (fun y m => ?_) ⟨hp, by rw [show a + (i + 1) + 1 = a + i + 2 by omega]; exact ho⟩
    exact ⟨(hr y m).1, (hr y m).2.mono (by omega)⟩
section
variable {P : Program} {w : World} {K : PySem.W.Frag} {mg : Str → Option Value} {base : Heap}
abbrev nFork : List Str := ["_law_d", "_law_at", "_law_yes", "_law_begin", "_law_no", "_law_k"]
theorem scFork : FnScope nFork ["_law_d", "_law_at"] (defScope sFork) := ⟨rfl, rfl, rfl, by decide +kernel, rfl, by decide +kernel, by decide +kernel⟩
theorem ok_fork (c : FFork K mg) (cS : FStraight K mg) (cN : FNext K mg) (T : Bt mg) : FnOk P w K mg base CX0 3 c.f c.fd ["_law_d", "_law_at"] (spFork K) := by
  have GN : FnOk P w K mg base CX0 1 cN.f cN.fd ["_law_dice_here", "_law_many"] (spNext K) := ok_next cN.F T
  have GS : FnOk P w K mg base CX0 2 cS.f cS.fd ["_law_d", "_law_at"] (spStraight K) := ok_straight cS cN T
  refine c.F.ok scFork (fun vs H Q E h => ?_) (fun cdv A outer s H vs Q E hr h => ?_)
  · obtain ⟨d, sa, ns, a, rfl, _⟩ := h
    rfl
  · obtain ⟨d, sa, ns, a, rfl, hE, k⟩ := h
    have hr1 : Room 1 _ := hr.mono (by decide)
    refine ⟨_, pss_cons (ps_setLc (i := 2) (own := [("_law_k", 5)]) (g := gName 5) (tt := tYes) rfl scFork.nd rfl rfl (sw_true rfl rfl rfl (by decide +kernel))
        (pi_range1 rfl T.range (pa_cons (pe_op op_add pe_int (pe_call GN hr1 (by rfl) cN.m cN.F.kp cN.b .nil pass0 (pa_cons (pv 0) (pa_cons pe_int pa_nil)))) pa_nil))
        (blkOk_by (N := nFork) (sc := defScope sFork) (by decide +kernel)) (fun _ _ _ _ _ => pg_name (i := 5) scFork.nd rfl (Or.inl rfl)) (fun _ _ _ _ _ => pts_nil)
        (fun _ _ _ _ _ => (pe_call GS hr (by rfl) cS.m cS.F.kp cS.b .nil pass0 (pa_cons (pv 0) (pa_cons (pe_op op_add (pe_op op_add (pv 1) pe_int) (pv 5)) pa_nil)))))
      (pss_cons (ps_set (i := 3) scFork.nd rfl (Or.inr rfl) (pe_op op_add (pe_op op_add (pv 1) pe_int) (pe_callB call_len_seq (by rfl) T.len PySem.boot_len (pa_cons (pv 2) pa_nil))))
      (pss_cons (ps_setLc (i := 4) (own := [("_law_k", 5)]) (g := gName 5) (tt := tYes) rfl scFork.nd rfl rfl (sw_true rfl rfl rfl (by decide +kernel))
        (pi_range1 rfl T.range (pa_cons (pe_op op_add pe_int (pe_call GN hr1 (by rfl) cN.m cN.F.kp cN.b .nil pass0 (pa_cons (pv 0) (pa_cons pe_int pa_nil)))) pa_nil))
        (blkOk_by (N := nFork) (sc := defScope sFork) (by decide +kernel)) (fun _ _ _ _ _ => pg_name (i := 5) scFork.nd rfl (Or.inl rfl)) (fun _ _ _ _ _ => pts_nil)
        (fun _ _ _ _ _ => (pe_call GS hr (by rfl) cS.m cS.F.kp cS.b .nil pass0 (pa_cons (pv 0) (pa_cons (pe_op op_add (pv 3) (pv 5)) pa_nil)))))
      (pss_cons (ps_asg (pe_op op_catT (pe_slice sl_tup (pe_ix ix_list (pv 2) (pe_un un_neg pe_int) (fun _ _ => rfl)) po_none (po_some (pe_un un_neg pe_int)))
          (pe_tup (pa_cons (pe_op op_add (pv 3) (pe_callB call_len_seq (by rfl) T.len PySem.boot_len (pa_cons (pv 4) pa_nil))) pa_nil))) (pg_sub (pv 2) (pe_un un_neg pe_int) set_list))
      (pss_one (ps_ret (pe_op op_cat (pe_op op_cat (pe_lst (pa_cons (pe_tup (pa_cons pe_str (pa_cons (pe_op op_add pe_int (pe_call GN hr1 (by rfl) cN.m cN.F.kp cN.b .nil pass0 (pa_cons (pv 0) (pa_cons pe_int pa_nil)))) (pa_cons (pe_op op_add (pv 1) pe_int) pa_nil))))
        (pa_cons (pe_tup (pa_cons pe_str (pa_cons (pe_op op_add (pv 1) pe_int) (pa_cons (pv 3) pa_nil)))) pa_nil))) (pv 2)) (pv 4))))))), ?_⟩
    refine ⟨_, rfl, d, sa, ns, _, rfl, hE, by decide, by decide, fun n H1 n0 n1 C1 => ?_⟩
    refine ⟨_, _, rfl, rfl, _, rfl, by omega, by omega, fun D1 hD1 => ?_⟩
    refine lc_range (lo := 0) (n := (1 + n).toNat) (StrAt K H d sa ns D1 (a + 2)) (StrAt.zero C1 hD1) ?_ ?_
    · rintro i H2 hi ⟨bs, rs, C2, nD, hD, hR, hl, hr⟩
      refine ⟨rfl, _, rfl, _, rfl, _, _, rfl, rfl, _, rfl, _, _, rfl, rfl, d, sa, ns, a + 2 + i, ?_, C2.ent, fun t r H3 C3 ht hp ho => ?_⟩
      · show [V.ref d, V.int ((a : Int) + 2 + (0 + (i : Int)))] = [V.ref d, V.int ((a + 2 + i : Nat) : Int)]
        rw [show ((a + 2 + i : Nat) : Int) = (a : Int) + 2 + (0 + (i : Int)) by omega]
      · obtain ⟨z1, z2⟩ := StrAt.step C2 nD hD hR hl hr C3 ht hp ho
        exact ⟨_, z1, szl (by have := Paired.length hR; rw [List.length_map]; omega), z2⟩
    · rintro H2 ⟨bs1, rs1, C2, nD1, hD1', hR1, hl1, hr1'⟩
      have lb1 := Paired.length hR1
      refine ⟨_, rfl, _, _, rfl, rfl, _, rfl, D1, _, rfl, .inl (SqL.of hD1'), _, _, rfl, rfl, ?_⟩
      refine ⟨_, rfl, d, sa, ns, _, rfl, C2.ent, by decide, by decide, fun n2 H3 n20 n21 C3 => ?_⟩
      refine ⟨_, _, rfl, rfl, _, rfl, by omega, by omega, fun D2 hD2 => ?_⟩
      have C13 := C2.trans C3
      refine lc_range (lo := 0) (n := (1 + n2).toNat) (fun i H4 => StrAt K H d sa ns D2 (a + 2 + rs1.length) i H4 ∧ D2 ≠ D1 ∧ H4 D1 = some (.lst (bs1.map V.ref)) ∧ RowsAt H4 bs1 rs1) ?_ ?_ ?_
      · have nD12 : D2 ≠ D1 := (ne_of_none (C3.but _ _ (C2.ned nD1) hD1') hD2).symm
        exact ⟨StrAt.zero C13 hD2, nD12, by rw [upd_ne nD12.symm]; exact C3.but _ _ (C2.ned nD1) hD1', (hR1.kp C3.kp).kp (Kp.new hD2)⟩
      · rintro i H4 hi ⟨⟨bs, rs, C4, nD, hD, hR, hl, hr⟩, nD12, h1, hR1⟩
        refine ⟨rfl, _, rfl, _, rfl, _, rfl, _, _, rfl, rfl, d, sa, ns, a + 2 + rs1.length + i, ?_, C4.ent, fun t r H5 C5 ht hp ho => ?_⟩
        · show [V.ref d, V.int ((a : Int) + 2 + (((bs1.map V.ref).length : Nat) : Int) + (0 + (i : Int)))] = [V.ref d, V.int ((a + 2 + rs1.length + i : Nat) : Int)]
          rw [List.length_map, lb1, show ((a + 2 + rs1.length + i : Nat) : Int) = (a : Int) + 2 + (rs1.length : Int) + (0 + (i : Int)) by omega]
        · obtain ⟨z1, z2⟩ := StrAt.step C4 nD hD hR hl hr C5 ht hp ho
          refine ⟨_, z1, szl (by have := Paired.length hR; rw [List.length_map]; omega), z2, nD12, ?_, ?_⟩
          · rw [upd_ne nD12.symm]
            exact C5.but _ _ (C4.ned nD1) h1
          · exact (hR1.kp C5.kp).kp (Kp.lst z1)
      · rintro H4 ⟨⟨bs2, rs2, C4, nD2, hD2', hR2, hl2, hr2⟩, nD12, h1, hR1⟩
        have lb2 := Paired.length hR2
        obtain ⟨bs0, b, e⟩ := snoc_of (l := bs1) (by omega)
        subst e
        obtain ⟨rs0, r, e, hR0, hb⟩ := Paired.last hR1
        subst e
        have hr0 := hr1' r (List.mem_append_right _ List.mem_cons_self)
        have h1 : H4 D1 = some (.lst (bs0.map V.ref ++ [.ref b])) := by rw [List.map_append] at h1; exact h1
        have rl := Row.vs_len r
        refine ⟨_, rfl, _, rfl, D1, _, _, _, rfl, rfl, SqL.of h1, atI_last _ _, _, rfl, _, rfl, b, _, rfl, SqT.of hb, cut_not rl.1, fun p1 hp1 => ?_⟩
        rw [cut_last rl.1]
        refine alloc hp1 fun H5 s5 e5 => ?_
        refine ⟨_, rfl, _, rfl, D2, _, rfl, .inl (SqL.of (s5 _ _ hD2')), _, _, rfl, rfl, (by show 1 ≤ sizeLine; decide), fun p2 hp2 => ?_⟩
        refine alloc hp2 fun H6 s6 e6 => ?_
        have hsz : (rowVs r).dropLast.length + 1 ≤ sizeLine := sz (by rw [List.length_dropLast]; omega)
        refine ⟨p1, p2, _, _, rfl, rfl, SqT.of (s6 _ _ e5), SqT.of e6, row_ne hr0.1, hsz, (fun e => nomatch e), fun _ p3 hp3 => ?_⟩
        refine alloc hp3 fun H7 s7 e7 => ?_
        have S47 := (s5.trans s6).trans s7
        have h17 := S47 _ _ h1
        refine ⟨_, rfl, _, rfl, D1, _, _, bs0.length, rfl, rfl, h17, ?_, ?_⟩
        · rw [List.length_append, List.length_map]
          exact ix_last _
        rw [set_last (by rw [List.length_map])]
        have nD1' : D1 ≠ D2 := nD12.symm
        have C7 := (C4.same S47).mut (o := .lst (bs0.map V.ref ++ [.ref p3])) nD1
        have hp3 : p3 ≠ D1 := ne_of e7 h17 (by intro z; cases z)
        have R7 : RowsAt H7 (bs0 ++ [p3]) (rs0 ++ [r.to (a + 2 + rs0.length + 1 + rs2.length)]) := by
          refine Paired.app (RowsAt.kp hR0 (Kp.same S47)) (Paired.one ?_)
          rw [e7, Row.vs_to hr0.1]
          congr 3
          show [V.int ((a : Int) + 2 + (((bs0 ++ [b]).map V.ref).length : Int) + ((bs2.map V.ref).length : Int))] = _
          rw [List.length_map, List.length_map, lb1, lb2, List.length_append]
          congr 2
        have R72 : RowsAt H7 bs2 rs2 := RowsAt.kp hR2 (Kp.same S47)
        have K7 : Kp H7 (upd H7 D1 (.lst (bs0.map V.ref ++ [.ref p3]))) := Kp.lst h17
        have hD28 : (upd H7 D1 (.lst (bs0.map V.ref ++ [.ref p3]))) D2 = some (.lst (bs2.map V.ref)) := by rw [upd_ne nD12]; exact S47 _ _ hD2'
        revert C7 K7 hD28
        refine change fun H8 b8 e8 => ?_
        intro C8 K8 hD28
        have R8 := R7.kp K8
        have R82 := R72.kp K8
        refine ⟨_, rfl, d, sa, ns, _, rfl, C8.ent, by decide, by decide, fun m H9 m0 m1 C9 => ?_⟩
        refine ⟨_, _, rfl, rfl, _, rfl, _, _, rfl, rfl, (by show 3 ≤ sizeLine; decide), fun t1 ht1 => ?_⟩
        refine alloc ht1 fun H10 s10 e10 => ?_
        refine ⟨_, rfl, _, _, rfl, rfl, _, rfl, (by show 3 ≤ sizeLine; decide), fun t2 ht2 => ?_⟩
        refine alloc ht2 fun H11 s11 e11 => ?_
        refine ⟨(by show 2 ≤ sizeLine; decide), fun l1 hl1n => ?_⟩
        refine alloc hl1n fun H12 s12 e12 => ?_
        have S9 := (s10.trans s11).trans s12
        have g1 : H12 D1 = some (.lst (bs0.map V.ref ++ [.ref p3])) := S9 _ _ (C9.but _ _ (C8.ned nD1) e8)
        have g2 : H12 D2 = some (.lst (bs2.map V.ref)) := S9 _ _ (C9.but _ _ (C8.ned nD2) hD28)
        have C12 := (C8.trans C9).same S9
        refine ⟨_, rfl, l1, D1, _, _, rfl, rfl, e12, g1, ?_, fun l2 hl2n => ?_⟩
        · refine sz ?_
          rw [List.length_append, List.length_map]
          have z1 := Paired.length hR0
          rw [List.length_append] at hl1
          show 2 + (bs0.length + 1) ≤ 100000
          simp only [List.length_singleton] at hl1
          omega
        refine alloc hl2n fun H13 s13 e13 => ?_
        refine ⟨_, rfl, l2, D2, _, _, rfl, rfl, e13, s13 _ _ g2, ?_, fun l3 hl3n => ?_⟩
        · refine sz ?_
          rw [List.length_append, List.length_append, List.length_map, List.length_map]
          have z1 := Paired.length hR0
          rw [List.length_append] at hl1
          show 2 + (bs0.length + 1) + bs2.length ≤ 100000
          simp only [List.length_singleton] at hl1
          omega
        have C13' := C12.same s13
        have K13 : Kp H8 H13 := (C9.kp.trans (Kp.same S9)).trans (Kp.same s13)
        have rl0 := Paired.length hR0
        have hlen1 : rs0.length + 1 = (1 + n).toNat := by rw [← hl1, List.length_append]; rfl
        obtain ⟨x, hx⟩ : ∃ x : Nat, (5 : Int) + m = (x : Int) := ⟨(5 + m).toNat, by omega⟩
        have hm8 : x < 8 := by omega
        refine k l3 (t1 :: t2 :: (bs0 ++ [p3]) ++ bs2) (.load x (a + 1) :: .test (a + 2) (a + 2 + rs0.length + 1) :: (rs0 ++ [r.to (a + 2 + rs0.length + 1 + rs2.length)]) ++ rs2) _ (C13'.new hl3n) (C13'.here hl3n) ?_ ?_ ?_ ?_ ?_ ?_
        · rw [upd_same]
          simp only [List.map_append, List.map_cons, List.map_nil]
          rfl
        · refine RowsAt.kp ?_ (Kp.new hl3n)
          refine Paired.app (.cons ?_ (.cons ?_ (R8.kp K13))) (R82.kp K13)
          · refine (s11.trans (s12.trans s13)) _ _ (e10.trans ?_)
            show some (HO.tup [V.str "load", V.int (5 + m), V.int ((a : Int) + 1)]) = some (.tup [V.str "load", V.int (x : Int), V.int ((a + 1 : Nat) : Int)])
            rw [hx]
            rfl
          · refine (s12.trans s13) _ _ (e11.trans ?_)
            show some (HO.tup [V.str "test", V.int ((a : Int) + 2), V.int ((a : Int) + 2 + (((bs0 ++ [b]).map V.ref).length : Int))]) = some (.tup [V.str "test", V.int ((a + 2 : Nat) : Int), V.int ((a + 2 + rs0.length + 1 : Nat) : Int)])
            rw [List.length_map, List.length_append, rl0]
            rfl
        · simp
        · simp only [List.length_append, List.length_cons, List.length_nil]
          omega
        · have t2 : tests rs2 = 0 := tests_plain fun y hy => (hr2 y hy).1
          have t0 : tests rs0 = 0 := tests_plain fun y hy => (hr1' y (List.mem_append_left _ hy)).1
          have t1 := isT_le (.test (a + 2) (a + 2 + rs0.length + 1))
          have tl : isT (.load x (a + 1)) = 0 := isT_plain trivial
          have tr := isT_to (m := a + 2 + rs0.length + 1 + rs2.length) hr0.1
          rw [List.cons_append, List.cons_append, tests_cons, tests_cons, tests_app, tests_app, tests_one, t2, t0, tl, tr]
          simp only [List.length_append, List.length_cons, List.length_nil]
          omega
        · have hL : (Row.load x (a + 1) :: .test (a + 2) (a + 2 + rs0.length + 1) :: (rs0 ++ [r.to (a + 2 + rs0.length + 1 + rs2.length)]) ++ rs2).length = rs0.length + rs2.length + 3 := by
            simp only [List.length_append, List.length_cons, List.length_nil]
            omega
          rw [hL]
          intro y hy
          rcases List.mem_append.mp hy with hy | hy
          · rcases List.mem_cons.mp hy with rfl | hy
            · exact ⟨⟨hm8, by omega⟩, fun z => by cases z⟩
            · rcases List.mem_cons.mp hy with rfl | hy
              · exact ⟨⟨by omega, by omega⟩, fun z => by cases z⟩
              · rcases List.mem_append.mp hy with hy | hy
                · exact ⟨(hr1' y (List.mem_append_left _ hy)).2.mono (by omega), plain_ne (hr1' y (List.mem_append_left _ hy)).1⟩
                · rw [List.mem_singleton.mp hy]
                  exact ⟨hr0.2.to (by omega) hr0.1, to_ne hr0.1⟩
          · refine ⟨(hr2 y hy).2.mono ?_, plain_ne (hr2 y hy).1⟩
            rw [List.length_append, List.length_singleton]
            omega
end
end DL
namespace DL
open PySem L2
theorem if_elim {c : TT} {t u : TS} {D : Ends} {σ : St} {H : Hp} (R : Bool → Hp → Prop) (key : ∀ b H', R b H' → if b = true then t D σ H' else u D σ H') (test : ∀ F' : Bool → Hp → Prop, (∀ b H', R b H' → F' b H') → c σ H F') : tIfS c t u D σ H := test _ key
def PB : Nat → Nat
  | 0 => 6
  | n + 1 => 6 + 3 * PB n
abbrev sBody : Stmt := top 66
abbrev pBody : List Str := ["_law_d", "_law_at", "_law_deep"]
abbrev FBody (K : Frg) (mg : Str → Option Value) := Fd K mg "_law_body" sBody pBody
def spBody (K : Frg) (n : Nat) : Sp := fun vs H Q _ => ∃ (d sa : Addr) (ns : List Int) (at_ : Nat), vs = [.ref d, .int (at_ : Int), .int (n : Int)] ∧ n ≤ 2 ∧ Ent K H d sa ns ∧
  ∀ l bs rs H', Dc K H H' d sa ns → H l = none → H' l = some (.lst (bs.map V.ref)) → RowsAt H' bs rs → rs.length ≤ 3 * PB n → 4 * tests rs ≤ rs.length → (∀ r ∈ rs, r.okS 8 (at_ + rs.length + 1)) → Q (.ref l) H'
def BodyAt (K : Frg) (H0 : Hp) (d sa : Addr) (ns : List Int) (l : Addr) (at_ : Nat) (z : Nat) (H : Hp) : Prop :=
  ∃ bs rs, Dc K H0 H d sa ns ∧ H0 l = none ∧ H l = some (.lst (bs.map V.ref)) ∧ RowsAt H bs rs ∧ rs.length ≤ z ∧ 4 * tests rs ≤ rs.length ∧ ∀ r ∈ rs, r.okS 8 (at_ + rs.length + 1)
theorem BodyAt.after {K : Frg} {H0 H H' : Hp} {d sa : Addr} {ns : List Int} {l : Addr} {a z : Nat} (h : BodyAt K H0 d sa ns l a z H) (C : Dc K H H' d sa ns) : BodyAt K H0 d sa ns l a z H' := by
  obtain ⟨bs, rs, C0, n0, hl, hR, hz, hT, ho⟩ := h
  exact ⟨bs, rs, C0.trans C, n0, C.but _ _ (C0.ned n0) hl, hR.kp C.kp, hz, hT, ho⟩
theorem PB_le : ∀ {n : Nat}, n ≤ 2 → PB n ≤ 78
  | 0, _ => by decide
  | 1, _ => by decide
  | 2, _ => by decide
section
variable {P : Program} {w : World} {K : PySem.W.Frag} {mg : Str → Option Value} {base : Heap}
abbrev nBody : List Str := ["_law_d", "_law_at", "_law_deep", "_law_found", "_law_turn", "_law_here", "_law_way", "_law_inner", "_law_behind"]
theorem scBody : FnScope nBody pBody (defScope sBody) := ⟨rfl, rfl, rfl, by decide +kernel, rfl, by decide +kernel, by decide +kernel⟩
theorem body_one {k n : Nat} {sp : Sp} (cBody : FBody K mg) (cFork : FFork K mg) (cStraight : FStraight K mg) (cNext : FNext K mg) (T : Bt mg) (h3 : 3 ≤ k) (GBody : FnOk P w K mg base CX0 k cBody.f cBody.fd pBody sp) (hk : 0 < n → ∀ vs H Q E, spBody K (n - 1) vs H Q E → sp vs H Q E) :
    FnOk P w K mg base CX0 (k + 1) cBody.f cBody.fd pBody (spBody K n) := by
  have GNext : FnOk P w K mg base CX0 1 cNext.f cNext.fd ["_law_dice_here", "_law_many"] (spNext K) := ok_next cNext.F T
  have GStraight : FnOk P w K mg base CX0 2 cStraight.f cStraight.fd ["_law_d", "_law_at"] (spStraight K) := ok_straight cStraight cNext T
  have GFork : FnOk P w K mg base CX0 3 cFork.f cFork.fd ["_law_d", "_law_at"] (spFork K) := ok_fork cFork cStraight cNext T
  refine cBody.F.ok scBody (fun vs H Q E h => ?_) (fun cdv A outer s H vs Q E hr h => ?_)
  · obtain ⟨d, sa, ns, a, rfl, _⟩ := h
    rfl
  · obtain ⟨d, sa, ns, a, rfl, n2, hE, kq⟩ := h
    refine ⟨_, (pss_cons (ps_set (i := 3) scBody.nd rfl (Or.inl rfl) (pe_lst pa_nil))
      (pss_cons (ps_for PassesOwn.never rfl (pi_range1 rfl T.range (pa_cons (pe_op op_add pe_int (pe_call GNext (hr.mono (by first | omega | decide)) (by rfl) cNext.m cNext.F.kp cNext.b .nil pass0 (pa_cons (pv 0) (pa_cons pe_int pa_nil)))) pa_nil)) (pg_name (i := 4) scBody.nd rfl (Or.inl rfl))
          (pss_cons (ps_set (i := 5) scBody.nd rfl (Or.inl rfl) (pe_op op_add (pv 1) (pe_callB call_len_seq (by rfl) T.len PySem.boot_len (pa_cons (pv 3) pa_nil))))
          (pss_cons (ps_set (i := 6) scBody.nd rfl (Or.inl rfl) (pe_call GNext (hr.mono (by first | omega | decide)) (by rfl) cNext.m cNext.F.kp cNext.b .nil pass0 (pa_cons (pv 0) (pa_cons pe_int pa_nil))))
          (pss_one (ps_if (PW.pt (pw_or (pt_cmpR op_lt (pv 6) pe_int (nomark _)) (pw_or1 (PW.pt (pw_and (pt_cmpR op_eq (pv 6) pe_int (nomark _)) (pw_and (pt_cmpR op_lt (pv 2) pe_int (nomark _)) (pw_and1 (pt_cmpR op_eq (pe_call GNext (hr.mono (by first | omega | decide)) (by rfl) cNext.m cNext.F.kp cNext.b .nil pass0 (pa_cons (pv 0) (pa_cons pe_int pa_nil))) pe_int (nomark _)))))))))
              (pss_one (ps_expr (pe_bm PySem.F.plainAttrs_list PySem.F.slot_list_append PySem.F.type_list_append mt_append (pv 3) (pa_cons (pe_call GStraight (hr.mono (by first | omega | decide)) (by rfl) cStraight.m cStraight.F.kp cStraight.b .nil pass0 (pa_cons (pv 0) (pa_cons (pv 5) pa_nil))) pa_nil))))
              (pss_one (ps_if (pt_cmpR op_eq (pv 6) pe_int (nomark _))
                  (pss_one (ps_set (i := 3) scBody.nd rfl (Or.inl rfl) (pe_op op_cat (pv 3) (pe_call GFork (hr.mono (by first | omega | decide)) (by rfl) cFork.m cFork.F.kp cFork.b .nil pass0 (pa_cons (pv 0) (pa_cons (pv 5) pa_nil))))))
                  (pss_one (ps_if (pt_cmpR op_gt (pv 2) pe_int (nomark _))
                      (pss_cons (ps_set (i := 7) scBody.nd rfl (Or.inl rfl) (pe_call GBody (hr.mono (by first | omega | decide)) (by rfl) cBody.m cBody.F.kp cBody.b .nil pass0 (pa_cons (pv 0) (pa_cons (pe_op op_add (pv 5) pe_int) (pa_cons (pe_op op_sub (pv 2) pe_int) pa_nil)))))
                      (pss_cons (ps_set (i := 8) scBody.nd rfl (Or.inl rfl) (pe_op op_add (pe_op op_add (pv 5) pe_int) (pe_callB call_len_seq (by rfl) T.len PySem.boot_len (pa_cons (pv 7) pa_nil))))
                      (pss_cons (ps_set (i := 3) scBody.nd rfl (Or.inl rfl) (pe_op op_cat (pe_op op_cat (pv 3) (pe_lst (pa_cons (pe_tup (pa_cons pe_str (pa_cons (pv 2) (pa_cons (pe_op op_add (pv 5) pe_int) pa_nil)))) (pa_cons (pe_tup (pa_cons pe_str (pa_cons (pe_op op_add pe_int (pv 2)) (pa_cons (pe_op op_add (pv 5) pe_int) pa_nil)))) pa_nil)))) (pv 7)))
                      (pss_cons (ps_set (i := 3) scBody.nd rfl (Or.inl rfl) (pe_op op_cat (pv 3) (pe_lst (pa_cons (pe_tup (pa_cons pe_str (pa_cons (pe_op op_add pe_int (pv 2)) (pa_cons (pe_op op_add (pv 8) pe_int) pa_nil)))) (pa_cons (pe_tup (pa_cons pe_str (pa_cons pe_int (pa_cons (pe_op op_add (pv 8) pe_int) pa_nil)))) (pa_cons (pe_tup (pa_cons pe_str (pa_cons (pe_op op_add pe_int (pv 2)) (pa_cons (pe_op op_add (pv 8) pe_int) pa_nil)))) pa_nil))))))
                      (pss_one (ps_expr (pe_bm PySem.F.plainAttrs_list PySem.F.slot_list_append PySem.F.type_list_append mt_append (pv 3) (pa_cons (pe_tup (pa_cons pe_str (pa_cons (pe_op op_add (pv 8) pe_int) (pa_cons (pe_op op_add (pv 5) pe_int) pa_nil)))) pa_nil))))))))
                      pss_nil)))))))))
      (pss_one (ps_ret (pv 3))))), ?_⟩
    refine ⟨Nat.zero_le _, fun l0 hl0 => ?_⟩
    have B0 : BodyAt K H d sa ns l0 a 0 (upd H l0 (.lst [])) := ⟨[], [], (Dc.refl hE).new hl0, hl0, upd_same, .nil, Nat.le_refl _, Nat.le_refl 0, fun _ h => absurd h (by simp)⟩
    have C0 : Dc K H (upd H l0 (.lst [])) d sa ns := (Dc.refl hE).new hl0
    refine ⟨_, rfl, d, sa, ns, _, rfl, C0.ent, by decide, by decide, fun n3 H1 n30 n31 C1 => ?_⟩
    refine ⟨_, _, rfl, rfl, _, rfl, by omega, by omega, ?_⟩
    refine for_range (lo := 0) (n := (1 + n3).toNat) (fun i σ H' => ∃ (l : Addr) (x4 x5 x6 x7 x8 : Option V), σ = [some (.ref d), some (.int (a : Int)), some (.int (n : Int)), some (.ref l), x4, x5, x6, x7, x8] ∧ BodyAt K H d sa ns l a (i * PB n) H')
      ⟨l0, _, _, _, _, _, rfl, by rw [Nat.zero_mul]; exact B0.after C1⟩ ?_ ?_
    · rintro i σ H2 hi ⟨l, x4, x5, x6, x7, x8, rfl, bs, rs, C2, l0, hl, hR, hz, hT, ho⟩
      have hbl := Paired.length hR
      refine ⟨_, rfl, _, rfl, l, _, rfl, .inl (SqL.of hl), _, _, rfl, rfl, ?_⟩
      refine ⟨_, rfl, d, sa, ns, _, rfl, C2.ent, by decide, by decide, fun n6 H3 n60 n61 C3 => ?_⟩
      dsimp only [gName]
      refine if_elim (fun _ H4 => Dc K H2 H4 d sa ns) ?_ ?_
      · intro bb H4 C4
        have C24 := C2.trans C4
        have hl4 := C4.but _ _ (C2.ned l0) hl
        have hR4 := hR.kp C4.kp
        have hh : (a : Int) + ((bs.map V.ref).length : Int) = ((a + rs.length : Nat) : Int) := by rw [List.length_map, hbl]; rfl
        have hm : (i + 1) * PB n = i * PB n + PB n := Nat.succ_mul _ _
        have hp6 : 6 ≤ PB n := by cases n with
          | zero => exact Nat.le_refl _
          | succ n => show 6 ≤ 6 + 3 * PB n; omega
        have hi3 : i < 3 := by omega
        have hbig : i * PB n ≤ 300 := by
          have h1 := PB_le n2
          have h2 := Nat.mul_le_mul (show i ≤ 3 by omega) h1
          omega
        cases bb with
        | true =>
          refine ⟨_, rfl, .inl ⟨rfl, _, SqL.of hl4⟩, _, rfl, _, rfl, d, sa, ns, a + rs.length, ?_, C24.ent, fun t r H5 C5 ht hp ho5 => ?_⟩
          · show [V.ref d, V.int ((a : Int) + ((bs.map V.ref).length : Int))] = _
            rw [hh]
          · have hl5 := C5.but _ _ (C24.ned l0) hl4
            refine ⟨l, _, _, rfl, rfl, hl5, szl (by rw [List.length_map]; omega), ?_⟩
            refine ⟨l, _, _, _, _, _, rfl, bs ++ [t], rs ++ [r], (C24.trans C5).mut l0, l0, by rw [upd_same, List.map_append]; rfl, ?_, by rw [List.length_append, List.length_singleton]; omega, by rw [tests_app, tests_one, isT_plain hp, List.length_append, List.length_singleton]; omega, ?_⟩
            · exact RowsAt.kp (Paired.app (hR4.kp C5.kp) (Paired.one ht)) (Kp.lst hl5)
            · rw [List.length_append, List.length_singleton]
              exact all_snoc (fun y m => (ho y m).mono (by omega)) ⟨ho5.mono (by omega), plain_ne hp⟩
        | false =>
          refine ⟨_, rfl, rfl, _, rfl, ite2 (fun _ => ?_) (fun _ => ?_)⟩
          · refine ⟨_, rfl, _, rfl, _, rfl, d, sa, ns, a + rs.length, ?_, C24.ent, fun l2 bs2 rs2 H5 C5 nl2 hl2 hR2 h21 h26 hT2 ho2 => ?_⟩
            · show [V.ref d, V.int ((a : Int) + ((bs.map V.ref).length : Int))] = _
              rw [hh]
            · have hl5 := C5.but _ _ (C24.ned l0) hl4
              have hb2 := Paired.length hR2
              refine ⟨l, l2, _, _, rfl, rfl, hl5, hl2, sz (by rw [List.length_map, List.length_map]; omega), fun l3 hl3 => ?_⟩
              refine ⟨l3, _, _, _, _, _, rfl, bs ++ bs2, rs ++ rs2, (C24.trans C5).new hl3, (C24.trans C5).here hl3, by rw [upd_same, List.map_append], ?_, by rw [List.length_append]; omega, by rw [tests_app, List.length_append]; omega, ?_⟩
              · exact RowsAt.kp (Paired.app (hR4.kp C5.kp) hR2) (Kp.new hl3)
              · rw [List.length_append]
                exact all_app (fun y m => (ho y m).mono (by omega)) (fun y m => (ho2 y m).mono (by omega))
          · refine ⟨_, rfl, _, _, rfl, rfl, _, rfl, ite2 (fun c => ?_) (fun _ => ?_)⟩
            · have hn0 : 0 < n := by
                have c := of_decide_eq_true c
                omega
              have hPn : PB n = 6 + 3 * PB (n - 1) := by
                obtain ⟨n', e⟩ : ∃ n', n = n' + 1 := ⟨n - 1, by omega⟩
                subst e
                rfl
              have hP1 := PB_le (n := n - 1) (by omega)
              refine ⟨_, rfl, _, rfl, _, _, rfl, rfl, _, rfl, _, _, rfl, rfl, ?_⟩
              refine hk hn0 _ _ _ _ ⟨d, sa, ns, a + rs.length + 2, ?_, by omega, C24.ent, fun li bsi rsi H5 C5 nli hli hRi hzi hTi hoi => ?_⟩
              · show [V.ref d, V.int ((a : Int) + ((bs.map V.ref).length : Int) + 2), V.int ((n : Int) - 1)] = [V.ref d, V.int ((a + rs.length + 2 : Nat) : Int), V.int ((n - 1 : Nat) : Int)]
                rw [hh, show ((n - 1 : Nat) : Int) = (n : Int) - 1 by omega]
                rfl
              · have hl5 := C5.but _ _ (C24.ned l0) hl4
                have hR5 := hR4.kp C5.kp
                have hbi := Paired.length hRi
                have C25 := C24.trans C5
                have nlli : l ≠ li := ne_of_none hl4 nli
                refine ⟨_, rfl, _, _, rfl, rfl, _, rfl, li, _, rfl, .inl (SqL.of hli), _, _, rfl, rfl, ?_⟩
                refine ⟨_, rfl, _, rfl, _, rfl, _, _, rfl, rfl, (by show 3 ≤ sizeLine; decide), fun t1 ht1 => ?_⟩
                refine alloc ht1 fun H6 s6 e6 => ?_
                refine ⟨_, rfl, _, _, rfl, rfl, _, rfl, _, _, rfl, rfl, (by show 3 ≤ sizeLine; decide), fun t2 ht2 => ?_⟩
                refine alloc ht2 fun H7 s7 e7 => ?_
                refine ⟨(by show 2 ≤ sizeLine; decide), fun l6 hl6 => ?_⟩
                refine alloc hl6 fun H8 s8 e8 => ?_
                have S58 := (s6.trans s7).trans s8
                refine ⟨l, l6, _, _, rfl, rfl, S58 _ _ hl5, e8, sz (by rw [List.length_map]; show _ + 2 ≤ _; omega), fun l7 hl7 => ?_⟩
                refine alloc hl7 fun H9 s9 e9 => ?_
                refine ⟨_, rfl, l7, li, _, _, rfl, rfl, e9, (S58.trans s9) _ _ hli, sz (by rw [List.length_append, List.length_map, List.length_map]; show _ + 2 + _ ≤ _; omega), fun l8 hl8 => ?_⟩
                refine alloc hl8 fun H10 s10 e10 => ?_
                refine ⟨_, rfl, _, rfl, _, _, rfl, rfl, _, rfl, _, _, rfl, rfl, (by show 3 ≤ sizeLine; decide), fun t3 ht3 => ?_⟩
                refine alloc ht3 fun H11 s11 e11 => ?_
                refine ⟨_, rfl, _, _, rfl, rfl, (by show 3 ≤ sizeLine; decide), fun t4 ht4 => ?_⟩
                refine alloc ht4 fun H12 s12 e12 => ?_
                refine ⟨_, rfl, _, _, rfl, rfl, _, rfl, _, _, rfl, rfl, (by show 3 ≤ sizeLine; decide), fun t5 ht5 => ?_⟩
                refine alloc ht5 fun H13 s13 e13 => ?_
                refine ⟨(by show 3 ≤ sizeLine; decide), fun l9 hl9 => ?_⟩
                refine alloc hl9 fun H14 s14 e14 => ?_
                have S1014 := ((s11.trans s12).trans s13).trans s14
                refine ⟨l8, l9, _, _, rfl, rfl, S1014 _ _ e10, e14, sz (by rw [List.length_append, List.length_append, List.length_map, List.length_map]; show _ + 2 + _ + 3 ≤ _; omega), fun l10 hl10 => ?_⟩
                refine alloc hl10 fun H15 s15 e15 => ?_
                refine ⟨_, rfl, .inl ⟨rfl, _, SqL.of e15⟩, _, rfl, _, _, rfl, rfl, _, rfl, _, _, rfl, rfl, (by show 3 ≤ sizeLine; decide), fun t6 ht6 => ?_⟩
                refine alloc ht6 fun H16 s16 e16 => ?_
                have S516 := (((S58.trans s9).trans s10).trans S1014).trans (s15.trans s16)
                have C26 := C25.same S516
                have n10 : H l10 = none := C25.here ((((S58.trans s9).trans s10).trans S1014).free hl10)
                have f10 : H16 l10 = some (.lst (((bs.map V.ref ++ [.ref t1, .ref t2]) ++ bsi.map V.ref) ++ [.ref t3, .ref t4, .ref t5])) := s16 _ _ e15
                refine ⟨l10, _, _, rfl, rfl, f10, szl (by simp only [List.length_append, List.length_map, List.length_cons, List.length_nil]; omega), ?_⟩
                refine ⟨l10, _, _, _, _, _, rfl, ((bs ++ [t1, t2]) ++ bsi) ++ ([t3, t4, t5] ++ [t6]),
                  ((rs ++ [Row.load n (a + rs.length + 1), .store (2 + n) (a + rs.length + 2)]) ++ rsi) ++ ([Row.load (2 + n) (a + rs.length + 2 + rsi.length + 1), .take 0 (a + rs.length + 2 + rsi.length + 2), .store (2 + n) (a + rs.length + 2 + rsi.length + 3)] ++ [Row.test (a + rs.length + 2 + rsi.length + 4) (a + rs.length + 2)]),
                  C26.mut n10, n10, ?_, ?_, ?_, ?_, ?_⟩
                · rw [upd_same]
                  simp only [List.map_append, List.map_cons, List.map_nil, List.append_assoc]
                · refine RowsAt.kp ?_ (Kp.lst f10)
                  have hbe : (a : Int) + ((bs.map V.ref).length : Int) + 2 + ((bsi.map V.ref).length : Int) = ((a + rs.length + 2 + rsi.length : Nat) : Int) := by rw [hh, List.length_map, hbi]; rfl
                  refine Paired.app (Paired.app (Paired.app (hR5.kp (Kp.same S516)) (.cons ?_ (.cons ?_ .nil))) (hRi.kp (Kp.same S516))) (Paired.app (.cons ?_ (.cons ?_ (.cons ?_ .nil))) (Paired.one ?_))
                  · refine (s7.trans (s8.trans (s9.trans (s10.trans (S1014.trans (s15.trans s16)))))) _ _ (e6.trans ?_)
                    show some (HO.tup [V.str "load", V.int (n : Int), V.int ((a : Int) + ((bs.map V.ref).length : Int) + 1)]) = _
                    rw [hh]
                    rfl
                  · refine (s8.trans (s9.trans (s10.trans (S1014.trans (s15.trans s16))))) _ _ (e7.trans ?_)
                    show some (HO.tup [V.str "store", V.int (2 + (n : Int)), V.int ((a : Int) + ((bs.map V.ref).length : Int) + 2)]) = _
                    rw [hh, show (2 : Int) + (n : Int) = ((2 + n : Nat) : Int) by omega]
                    rfl
                  · refine (s12.trans (s13.trans (s14.trans (s15.trans s16)))) _ _ (e11.trans ?_)
                    show some (HO.tup [V.str "load", V.int (2 + (n : Int)), V.int ((a : Int) + ((bs.map V.ref).length : Int) + 2 + ((bsi.map V.ref).length : Int) + 1)]) = _
                    rw [hbe, show (2 : Int) + (n : Int) = ((2 + n : Nat) : Int) by omega]
                    rfl
                  · refine (s13.trans (s14.trans (s15.trans s16))) _ _ (e12.trans ?_)
                    show some (HO.tup [V.str "take", V.int 0, V.int ((a : Int) + ((bs.map V.ref).length : Int) + 2 + ((bsi.map V.ref).length : Int) + 2)]) = _
                    rw [hbe]
                    rfl
                  · refine (s14.trans (s15.trans s16)) _ _ (e13.trans ?_)
                    show some (HO.tup [V.str "store", V.int (2 + (n : Int)), V.int ((a : Int) + ((bs.map V.ref).length : Int) + 2 + ((bsi.map V.ref).length : Int) + 3)]) = _
                    rw [hbe, show (2 : Int) + (n : Int) = ((2 + n : Nat) : Int) by omega]
                    rfl
                  · refine e16.trans ?_
                    show some (HO.tup [V.str "test", V.int ((a : Int) + ((bs.map V.ref).length : Int) + 2 + ((bsi.map V.ref).length : Int) + 4), V.int ((a : Int) + ((bs.map V.ref).length : Int) + 2)]) = _
                    rw [hbe, hh]
                    rfl
                · simp only [List.length_append, List.length_cons, List.length_nil]
                  omega
                · have t1 := isT_le (.test (a + rs.length + 2 + rsi.length + 4) (a + rs.length + 2))
                  have q1 : isT (.load n (a + rs.length + 1)) = 0 := isT_plain trivial
                  have q2 : isT (.store (2 + n) (a + rs.length + 2)) = 0 := isT_plain trivial
                  have q3 : isT (.load (2 + n) (a + rs.length + 2 + rsi.length + 1)) = 0 := isT_plain trivial
                  have q4 : isT (.take 0 (a + rs.length + 2 + rsi.length + 2)) = 0 := isT_plain trivial
                  have q5 : isT (.store (2 + n) (a + rs.length + 2 + rsi.length + 3)) = 0 := isT_plain trivial
                  simp only [tests_app, tests_cons, tests_one, show tests [] = 0 from rfl, q1, q2, q3, q4, q5, List.length_append, List.length_cons, List.length_nil]
                  omega
                · have hL : (((rs ++ [Row.load n (a + rs.length + 1), .store (2 + n) (a + rs.length + 2)]) ++ rsi) ++ ([Row.load (2 + n) (a + rs.length + 2 + rsi.length + 1), .take 0 (a + rs.length + 2 + rsi.length + 2), .store (2 + n) (a + rs.length + 2 + rsi.length + 3)] ++ [Row.test (a + rs.length + 2 + rsi.length + 4) (a + rs.length + 2)])).length = rs.length + rsi.length + 6 := by
                    simp only [List.length_append, List.length_cons, List.length_nil]
                    omega
                  rw [hL]
                  refine all_app (all_app (all_app (fun y m => (ho y m).mono (by omega)) ?_) (fun y m => (hoi y m).mono (by omega))) (all_app ?_ ?_)
                  all_goals
                    intro y m
                    simp only [List.mem_cons, List.mem_singleton, List.not_mem_nil, or_false] at m
                    first
                      | (rcases m with rfl | rfl | rfl <;> exact ⟨by simp only [Row.ok]; omega, fun z => by cases z⟩)
                      | (rcases m with rfl | rfl <;> exact ⟨by simp only [Row.ok]; omega, fun z => by cases z⟩)
                      | (rcases m with rfl; exact ⟨by simp only [Row.ok]; omega, fun z => by cases z⟩)
            · exact ⟨l, _, _, _, _, _, rfl, bs, rs, C24, l0, hl4, hR4, by omega, hT, ho⟩
      · intro F' hF
        refine ⟨_, rfl, _, _, rfl, rfl, _, rfl, ite2 (fun _ => hF _ _ C3) (fun _ => ?_)⟩
        refine ⟨_, rfl, rfl, _, rfl, ite2 (fun _ => ?_) (fun _ => hF _ _ C3)⟩
        refine ⟨_, rfl, _, _, rfl, rfl, _, rfl, ite2 (fun _ => ?_) (fun _ => hF _ _ C3)⟩
        refine ⟨_, rfl, d, sa, ns, _, rfl, (C2.trans C3).ent, by decide, by decide, fun n7 H5 n70 n71 C5 => ?_⟩
        exact ⟨rfl, _, rfl, hF _ _ (C3.trans C5)⟩
    · rintro σ H2 ⟨l, x4, x5, x6, x7, x8, rfl, bs, rs, C2, l0, hl, hR, hz, hT, ho⟩
      refine ⟨_, rfl, kq l bs rs H2 C2 l0 hl hR ?_ hT ho⟩
      refine Nat.le_trans hz (Nat.mul_le_mul_right _ ?_)
      omega
theorem ok_body (cBody : FBody K mg) (cFork : FFork K mg) (cStraight : FStraight K mg) (cNext : FNext K mg) (T : Bt mg) : ∀ n : Nat, FnOk P w K mg base CX0 (n + 4) cBody.f cBody.fd pBody (spBody K n)
  | 0 => body_one (k := 3) cBody cFork cStraight cNext T (Nat.le_refl _) ok_no (fun h => absurd h (Nat.lt_irrefl 0))
  | n + 1 => body_one (k := n + 4) cBody cFork cStraight cNext T (by omega) (ok_body cBody cFork cStraight cNext T n) (fun _ vs H Q E h => h)
def spBodyU (K : Frg) : Sp := fun vs H Q E => ∃ n, n ≤ 2 ∧ spBody K n vs H Q E
theorem ok_bodyU (cBody : FBody K mg) (cFork : FFork K mg) (cStraight : FStraight K mg) (cNext : FNext K mg) (T : Bt mg) : FnOk P w K mg base CX0 6 cBody.f cBody.fd pBody (spBodyU K) := by
  refine ⟨fun vs H Q E ⟨n, hn, h⟩ => (ok_body (P := P) (w := w) (base := base) cBody cFork cStraight cNext T n).len _ _ _ _ h, fun A outer s H args us vs Q E hr he hb hv ⟨n, hn, h⟩ => ?_⟩
  exact ((ok_body cBody cFork cStraight cNext T n).mono (by omega)).run A outer s H args us vs Q E hr he hb hv h
end
end DL
namespace DL
open PySem L2 DLR
/-! ### programs -/
structure Prog where
  ws : List Int
  rows : List Row
structure Good (p : Prog) : Prop where
  r1 : 1 ≤ p.rows.length
  r40 : p.rows.length ≤ 40
  w8 : p.ws.length ≤ 8
  num : ∀ x ∈ p.ws, -1000000 ≤ x ∧ x ≤ 1000000
  ok : ∀ r ∈ p.rows, r.ok p.ws.length p.rows.length
def ProgAt (H : Hp) (a : Addr) (p : Prog) : Prop :=
  ∃ (wa ra : Addr) (bs : List Addr), H a = some (.tup [.ref wa, .ref ra]) ∧ H wa = some (.tup (p.ws.map V.int)) ∧ H ra = some (.tup (bs.map V.ref)) ∧ RowsAt H bs p.rows
theorem ProgAt.kp {H H' : Hp} {a : Addr} {p : Prog} (h : ProgAt H a p) (k : Kp H H') : ProgAt H' a p := by
  obtain ⟨wa, ra, bs, h1, h2, h3, h4⟩ := h
  exact ⟨wa, ra, bs, k _ _ h1, k _ _ h2, k _ _ h3, h4.kp k⟩
def nI (n : Nat) : V := .int (n : Int)
def PopAt (K : Frg) (H0 : Hp) (d sa : Addr) (ns : List Int) (D l : Addr) (all : List Nat) (i : Nat) (H : Hp) : Prop :=
  ∃ ks ls : List Nat, Dc K H0 H d sa ns ∧ H0 D = none ∧ H0 l = none ∧ D ≠ l ∧ H D = some (.lst (ks.map nI)) ∧ H l = some (.lst (ls.map nI)) ∧ (ks ++ ls).Perm all ∧ ks.length = i
theorem PopAt.perm {K : Frg} {H0 H : Hp} {d sa : Addr} {ns : List Int} {D l : Addr} {all : List Nat} (h : PopAt K H0 d sa ns D l all all.length H) :
    ∃ ks : List Nat, Dc K H0 H d sa ns ∧ H0 D = none ∧ H D = some (.lst (ks.map nI)) ∧ ks.Perm all := by
  obtain ⟨ks, ls, C, nD, nl, ne, hD, hl, hp, hk⟩ := h
  have e := hp.length_eq
  rw [List.length_append, hk] at e
  have z : ls = [] := List.length_eq_zero_iff.mp (by omega)
  subst z
  rw [List.append_nil] at hp
  exact ⟨ks, C, nD, hD, hp⟩
theorem erase_pm {α : Type} : ∀ {l : List α} {j : Nat} {x : α}, l[j]? = some x → (x :: l.eraseIdx j).Perm l
  | [], j, x, h => by simp at h
  | y :: l, 0, x, h => by
    have e : y = x := by simpa using h
    subst e
    exact List.Perm.refl _
  | y :: l, j + 1, x, h => by
    have ih := erase_pm (l := l) (j := j) (x := x) (by simpa using h)
    exact (List.Perm.swap y x _).trans (List.Perm.cons y ih)
theorem sl1 {xs : List V} (h : 1 ≤ xs.length) : cutV xs none (some 1) = xs.take 1 := by
  unfold cutV
  have e : HT.sIx xs.length xs.length (some 1) = min 1 xs.length := HT.sIx_nat _ _ 1
  rw [e, HT.sIx_none, List.drop_zero, Nat.sub_zero, Nat.min_eq_left h]
theorem drop1 {xs : List V} : cutV xs (some 1) none = xs.drop 1 := by
  unfold cutV
  have e : HT.sIx xs.length 0 (some 1) = min 1 xs.length := HT.sIx_nat _ _ 1
  rw [e, HT.sIx_none]
  cases xs with
  | nil => rfl
  | cons x xs =>
    have q : min 1 (x :: xs).length = 1 := Nat.min_eq_left (by simp)
    rw [q]
    exact List.take_of_length_le (by simp)
theorem map_erase {α β : Type} (f : α → β) : ∀ (l : List α) (j : Nat), (l.eraseIdx j).map f = (l.map f).eraseIdx j
  | [], _ => rfl
  | _ :: _, 0 => rfl
  | x :: l, j + 1 => by
    show f x :: (l.eraseIdx j).map f = f x :: (l.map f).eraseIdx j
    rw [map_erase f l j]
theorem pop_perm {ks ls all : List Nat} {j : Nat} {x : Nat} (h : (ks ++ ls).Perm all) (e : ls[j]? = some x) : ((ks ++ [x]) ++ ls.eraseIdx j).Perm all := by
  refine List.Perm.trans ?_ h
  rw [List.append_assoc]
  exact List.Perm.append_left _ (erase_pm e)
theorem nI_get {l : List Nat} {j : Nat} (h : j < l.length) : (l.map nI)[j]? = some (.int ((l[j] : Nat) : Int)) := by
  rw [List.getElem?_map, List.getElem?_eq_getElem h]
  rfl
theorem nI_getD {l : List Nat} {j : Nat} (h : j < l.length) : (l.map nI)[j]? = some (.int ((l.getD j 0 : Nat) : Int)) := by
  rw [nI_get h, List.getD_eq_getElem?_getD, List.getElem?_eq_getElem h]
  rfl
theorem nI_flat (l : List Nat) : (l.map nI).all flatV = true := by
  rw [List.all_eq_true]
  intro x hx
  obtain ⟨n, _, rfl⟩ := List.mem_map.mp hx
  rfl
theorem nI_none {l : List Nat} {x m : Nat} {z : V} (h : l[m]? ≠ some x) (e : (l.map nI)[m]? = some z) : eqV z (.int (x : Int)) = false := by
  rw [List.getElem?_map] at e
  cases q : l[m]? with
  | none => rw [q] at e; cases e
  | some y =>
    rw [q] at e
    have ez : nI y = z := Option.some.inj e
    subst ez
    show ((y : Int) == (x : Int)) = false
    refine beq_eq_false_iff_ne.mpr fun z => h ?_
    rw [q, Int.ofNat_inj.mp z]
theorem rgV_nI (n : Nat) : rgV 0 (n : Int) = (List.range n).map nI := by
  unfold rgV
  have e : ((n : Int) - 0).toNat = n := by omega
  rw [e]
  refine List.map_congr_left fun i _ => ?_
  show V.int (0 + (i : Int)) = V.int (i : Int)
  rw [Int.zero_add]
theorem rgV_nI1 (n : Nat) : rgV 1 (n : Int) = ((List.range (n - 1)).map (· + 1)).map nI := by
  unfold rgV
  have e : ((n : Int) - 1).toNat = n - 1 := by omega
  rw [e, List.map_map]
  refine List.map_congr_left fun i _ => ?_
  show V.int (1 + (i : Int)) = V.int ((i + 1 : Nat) : Int)
  rw [show ((i + 1 : Nat) : Int) = 1 + (i : Int) by omega]
def Row.ren (f g : Nat → Nat) : Row → Row
  | .load w n => .load (f w) (g n)
  | .add w n => .add (f w) (g n)
  | .take w n => .take (f w) (g n)
  | .store w n => .store (f w) (g n)
  | .say n => .say (g n)
  | .test a b => .test (g a) (g b)
  | .stop => .stop
def Row.uses : Row → Bool
  | .load _ _ => true
  | .add _ _ => true
  | .take _ _ => true
  | .store _ _ => true
  | _ => false
def Row.word : Row → Str
  | .load _ _ => "load"
  | .add _ _ => "add"
  | .take _ _ => "take"
  | .store _ _ => "store"
  | .say _ => "say"
  | .test _ _ => "test"
  | .stop => "stop"
theorem Row.w0 (r : Row) : (rowVs r)[0]? = some (.str r.word) := by cases r <;> rfl
theorem Row.ren_len (f g : Nat → Nat) (r : Row) : (rowVs (r.ren f g)).length = (rowVs r).length := by cases r <;> rfl
theorem Row.ren_w (f g : Nat → Nat) (r : Row) : (rowVs r).take 1 = (rowVs (r.ren f g)).take 1 := by cases r <;> rfl
theorem Row.ren_ok {f g : Nat → Nat} {W N : Nat} (hf : ∀ x, x < W → f x < W) (hg : ∀ x, x < N → g x < N) : ∀ {r : Row}, r.ok W N → (r.ren f g).ok W N := fun {r} h => by
  cases r <;> simp only [Row.ok, Row.ren] at * <;> first | exact ⟨hf _ h.1, hg _ h.2⟩ | exact ⟨hg _ h.1, hg _ h.2⟩ | exact hg _ h
theorem Row.ren_at {f g : Nat → Nat} {W N : Nat} : ∀ {r : Row} {i : Nat}, r.ok W N → i + 1 < (rowVs r).length → ∃ x : Nat, (rowVs r)[i + 1]? = some (.int (x : Int)) ∧
    ((i == 0 && r.uses) = true → x < W ∧ (rowVs (r.ren f g))[i + 1]? = some (.int (f x : Int))) ∧ ((i == 0 && r.uses) = false → x < N ∧ (rowVs (r.ren f g))[i + 1]? = some (.int (g x : Int))) := by
  intro r i h hi
  have hi3 : i < 2 := by have := Row.vs_len r; omega
  match i, hi3 with
  | 0, _ =>
    cases r <;> first
      | exact ⟨_, rfl, fun _ => ⟨h.1, rfl⟩, fun e => Bool.noConfusion e⟩
      | exact ⟨_, rfl, fun e => Bool.noConfusion e, fun _ => ⟨h, rfl⟩⟩
      | exact ⟨_, rfl, fun e => Bool.noConfusion e, fun _ => ⟨h.1, rfl⟩⟩
      | (exfalso; simp [rowVs] at hi)
  | 1, _ =>
    cases r <;> first
      | exact ⟨_, rfl, fun e => Bool.noConfusion e, fun _ => ⟨h.2, rfl⟩⟩
      | (exfalso; simp [rowVs] at hi)
theorem Row.in4 (r : Row) : inV (.str r.word) [.str "load", .str "add", .str "take", .str "store"] = r.uses := by cases r <;> (dsimp only [Row.word, Row.uses]; decide +kernel)
theorem first_of {l : List Nat} {x : Nat} (h : x ∈ l) : ∃ j, j < l.length ∧ l[j]? = some x ∧ ∀ m, m < j → l[m]? ≠ some x := by
  induction l with
  | nil => cases h
  | cons y l ih =>
    by_cases e : y = x
    · exact ⟨0, by simp, by simp [e], fun m hm => absurd hm (Nat.not_lt_zero _)⟩
    · obtain ⟨j, h1, h2, h3⟩ := ih ((List.mem_cons.mp h).resolve_left fun z => e z.symm)
      refine ⟨j + 1, by simp; omega, by simpa using h2, fun m hm => ?_⟩
      cases m with
      | zero => simpa using e
      | succ m => simpa using h3 m (by omega)
theorem refs_of {F : Addr → Row → Prop} : ∀ {l : List V}, (∀ i, i < l.length → ∃ b r, l[i]? = some (.ref b) ∧ F b r) → ∃ bs rs, l = bs.map V.ref ∧ Paired F bs rs
  | [], _ => ⟨[], [], rfl, .nil⟩
  | x :: l, h => by
    obtain ⟨b, r, h1, h2⟩ := h 0 (by simp)
    obtain ⟨bs, rs, h3, h4⟩ := refs_of (l := l) fun i hi => by
      obtain ⟨b, r, q1, q2⟩ := h (i + 1) (by simp; omega)
      exact ⟨b, r, by simpa using q1, q2⟩
    have e : x = .ref b := by simpa using h1
    exact ⟨b :: bs, r :: rs, by rw [e, h3]; rfl, .cons h2 h4⟩
theorem asg_elim {te : TE} {g : TG} {D : Ends} {σ : L2.St} {H : Hp} (R : V → Hp → Prop) (key : ∀ v H', R v H' → g v σ H' D.nx) (test : ∀ Q' : VK, (∀ v H', R v H' → Q' v H') → te σ H Q') : tAsg te g D σ H := test _ key
theorem ixN_nat {n x : Nat} (h : x < n) : ixN n (x : Int) = some x := by
  unfold ixN
  rw [if_pos (by omega), if_pos (by omega)]
  rfl
def kindR (r : Row) : Nat := isT r + if decide ((rowVs r)[0]? = some (V.str "stop")) = true then 2 else 0
structure MixAt (K : Frg) (H0 : Hp) (d sa : Addr) (ns : List Int) (D1 ln lf : Addr) (ks nums ts : List Nat) (W N : Nat) (i : Nat) (H : Hp) : Prop where
  dc : Dc K H0 H d sa ns
  nf : H0 lf = none
  ne1 : D1 ≠ lf
  ne2 : ln ≠ lf
  names : H D1 = some (.lst (ks.map nI))
  numbers : H ln = some (.lst (nums.map nI))
  found : ∃ fs : List V, H lf = some (.lst fs) ∧ fs.length = N ∧ ∀ x, x < N → x ∈ nums.take i → ∃ b r, fs[x]? = some (.ref b) ∧ H b = some (.tup (rowVs r)) ∧ r.ok W N ∧ ∃ j, nums[j]? = some x ∧ kindR r = ts.getD j 0
theorem MixAt.same {K : Frg} {H0 H H' : Hp} {d sa : Addr} {ns : List Int} {D1 ln lf : Addr} {ks nums ts : List Nat} {W N i : Nat} (m : MixAt K H0 d sa ns D1 ln lf ks nums ts W N i H) (s : Same1 H H') : MixAt K H0 d sa ns D1 ln lf ks nums ts W N i H' := by
  obtain ⟨fs, h1, h2, h3⟩ := m.found
  refine ⟨m.dc.same s, m.nf, m.ne1, m.ne2, s _ _ m.names, s _ _ m.numbers, fs, s _ _ h1, h2, fun x hx hm => ?_⟩
  obtain ⟨b, r, q1, q2, q3⟩ := h3 x hx hm
  exact ⟨b, r, q1, s _ _ q2, q3⟩
theorem MixAt.put {K : Frg} {H0 H : Hp} {d sa : Addr} {ns : List Int} {D1 ln lf : Addr} {ks nums ts : List Nat} {W N i y : Nat} {t : Addr} {r : Row} {fs : List V} (m : MixAt K H0 d sa ns D1 ln lf ks nums ts W N i H) (hf : H lf = some (.lst fs)) (hy : nums[i]? = some y) (hyN : y < N)
    (ht : H t = some (.tup (rowVs r))) (ho : r.ok W N) (hT : kindR r = ts.getD i 0) : MixAt K H0 d sa ns D1 ln lf ks nums ts W N (i + 1) (upd H lf (.lst (fs.set y (.ref t)))) := by
  obtain ⟨fs', h1, h2, h3⟩ := m.found
  rw [hf] at h1
  have e : fs = fs' := by injection (Option.some.inj h1)
  subst e
  have kp : Kp H (upd H lf (.lst (fs.set y (.ref t)))) := Kp.lst hf
  refine ⟨m.dc.mut m.nf, m.nf, m.ne1, m.ne2, by rw [upd_ne m.ne1]; exact m.names, by rw [upd_ne m.ne2]; exact m.numbers, fs.set y (.ref t), upd_same, by rw [List.length_set]; exact h2, fun x hx hm => ?_⟩
  by_cases e : y = x
  · subst e
    exact ⟨t, r, by rw [List.getElem?_set_self (by omega)], kp _ _ ht, ho, i, hy, hT⟩
  · rw [List.getElem?_set_ne e]
    rw [List.take_add_one, hy] at hm
    rcases List.mem_append.mp hm with q | q
    · obtain ⟨b, r, q1, q2, q3⟩ := h3 x hx q
      exact ⟨b, r, q1, kp _ _ q2, q3⟩
    · have q : x = y := by simpa using q
      exact absurd q.symm e
theorem isT_of {r r' : Row} (h : rowVs r = rowVs r') : isT r = isT r' := by
  unfold isT
  rw [h]
theorem isT_ren (f g : Nat → Nat) (r : Row) : isT (r.ren f g) = isT r := by
  unfold isT
  have e : (rowVs (r.ren f g))[0]? = (rowVs r)[0]? := by cases r <;> rfl
  rw [e]
theorem kindR_ren (f g : Nat → Nat) (r : Row) : kindR (r.ren f g) = kindR r := by
  unfold kindR
  have e : (rowVs (r.ren f g))[0]? = (rowVs r)[0]? := by cases r <;> rfl
  rw [e, isT_ren]
theorem kindR_T (r : Row) : isT r = kindR r % 2 := by
  have := isT_le r
  unfold kindR
  split <;> omega
theorem kindR_of {r r' : Row} (h : rowVs r = rowVs r') : kindR r = kindR r' := by
  unfold kindR isT
  rw [h]
theorem kindR_stop : kindR .stop = 2 := by
  unfold kindR
  rw [isT_stop, if_pos (by decide +kernel)]
theorem kindR_ne {r : Row} (h : kindR r = 2) : r = .stop := by
  cases r with
  | stop => rfl
  | _ =>
    have hle := isT_le
    unfold kindR at h
    rw [if_neg (by show decide (some (V.str _) = some (V.str "stop")) ≠ true; decide +kernel)] at h
    unfold isT at h
    split at h <;> omega
theorem permN_sum {α : Type} {f : α → Nat} {l m : List α} (h : l.Perm m) : (l.map f).sum = (m.map f).sum := by
  induction h with
  | nil => rfl
  | cons x _ ih => rw [List.map_cons, List.map_cons, List.sum_cons, List.sum_cons, ih]
  | swap x y l =>
    rw [List.map_cons, List.map_cons, List.map_cons, List.map_cons, List.sum_cons, List.sum_cons, List.sum_cons, List.sum_cons]
    omega
  | trans _ _ a b => rw [a, b]
theorem tests_range (rs : List Row) : tests rs = ((List.range rs.length).map fun x => isT (rs.getD x .stop)).sum := by
  unfold tests
  congr 1
  refine List.ext_getElem (by simp) fun i h1 h2 => ?_
  rw [List.length_map] at h1
  rw [List.getElem_map, List.getElem_map, List.getElem_range, List.getD_eq_getElem?_getD, List.getElem?_eq_getElem h1]
  rfl
theorem tests_perm {rs rs' : List Row} {nums : List Nat} (hl : rs'.length = rs.length) (hp : nums.Perm (List.range rs.length)) (h : ∀ x, x < rs.length → ∃ j, nums[j]? = some x ∧ isT (rs'.getD x .stop) = (rs.map isT).getD j 0) : tests rs' = tests rs := by
  have nd : nums.Nodup := hp.nodup_iff.mpr List.nodup_range
  rw [tests_range rs', hl, ← permN_sum hp]
  unfold tests
  congr 1
  have nl : nums.length = rs.length := by rw [hp.length_eq, List.length_range]
  refine List.ext_getElem (by rw [List.length_map, List.length_map, nl]) fun i h1 h2 => ?_
  rw [List.length_map] at h1 h2
  rw [List.getElem_map, List.getElem_map]
  have hx : nums[i] < rs.length := List.mem_range.mp (hp.mem_iff.mp (List.getElem_mem h1))
  obtain ⟨j, hj, e⟩ := h nums[i] hx
  obtain ⟨hj1, hj2⟩ := List.getElem?_eq_some_iff.mp hj
  have ij : j = i := (List.getElem_inj nd).mp hj2
  subst ij
  rw [e, List.getD_eq_getElem?_getD, List.getElem?_map, List.getElem?_eq_getElem h2]
  rfl
abbrev sMixed : Stmt := top 67
abbrev pMixed : List Str := ["_law_d", "_law_program"]
abbrev FMixed (K : Frg) (mg : Str → Option Value) := Fd K mg "_law_mixed" sMixed pMixed
def spMixed (K : Frg) : Sp := fun vs H Q _ => ∃ (d sa : Addr) (ns : List Int) (a : Addr) (p : Prog), vs = [.ref d, .ref a] ∧ Ent K H d sa ns ∧ ProgAt H a p ∧ Good p ∧
  ∀ b q H', Dc K H H' d sa ns → ProgAt H' b q → Good q → tests q.rows = tests p.rows → q.rows.length = p.rows.length → (p.rows.getD 0 .stop ≠ .stop → q.rows.getD 0 .stop ≠ .stop) → Q (.ref b) H'
section
variable {P : Program} {w : World} {K : PySem.W.Frag} {mg : Str → Option Value} {base : Heap}
abbrev nMixed : List Str := ["_law_d", "_law_program", "_law_worths", "_law_rows", "_law_left", "_law_names", "_law_row", "_law_numbers", "_law_found", "_law_number", "_law_told", "_law_k", "_law_is_worth", "_law_order", "_law_worth"]
theorem scMixed : FnScope nMixed pMixed (defScope sMixed) := ⟨rfl, rfl, rfl, by decide +kernel, rfl, by decide +kernel, by decide +kernel⟩
theorem ok_mixed (cMixed : FMixed K mg) (cNext : FNext K mg) (T : Bt mg) : FnOk P w K mg base CX0 2 cMixed.f cMixed.fd pMixed (spMixed K) := by
  have GNext : FnOk P w K mg base CX0 1 cNext.f cNext.fd ["_law_dice_here", "_law_many"] (spNext K) := ok_next cNext.F T
  refine cMixed.F.ok scMixed (fun vs H Q E h => ?_) (fun cdv A outer s H vs Q E hr h => ?_)
  · obtain ⟨d, sa, ns, a, p, rfl, _⟩ := h
    rfl
  · obtain ⟨d, sa, ns, a, p, rfl, hE, ⟨wa, ra, bs, ha, hwa, hra, hR⟩, g, kq⟩ := h
    refine ⟨_, (pss_cons (ps_asg (pv 1) (pg_tup rfl (pgs_cons (pg_name (i := 2) scMixed.nd rfl (Or.inr rfl)) (pgs_cons (pg_name (i := 3) scMixed.nd rfl (Or.inl rfl)) pgs_nil))))
      (pss_cons (ps_set (i := 4) scMixed.nd rfl (Or.inr rfl) (pe_listRg rfl (by rfl) T.list (prg_1 (by rfl) T.range (pe_callB call_len_seq (by rfl) T.len PySem.boot_len (pa_cons (pv 2) pa_nil)))))
      (pss_cons (ps_set (i := 5) scMixed.nd rfl (Or.inr rfl) (pe_lc (own := [("_law_worth", 14)]) (g := gName 14) (tt := tYes) rfl scMixed.nd (pi_tup (pv 2)) (blkOk_by (N := nMixed) (sc := defScope sMixed) (by decide +kernel)) (fun _ _ _ _ _ => (pg_name (i := 14) scMixed.nd rfl (Or.inl rfl))) (fun _ _ _ _ _ => pts_nil) (fun _ _ _ _ _ => (pe_bmK K rfl PySem.F.plainAttrs_list PySem.F.slot_list_pop PySem.F.type_list_pop mt_popAt (pv 4) (pa_cons (pe_call GNext (hr.mono (by first | omega | decide)) (by rfl) cNext.m cNext.F.kp cNext.b .nil pass0 (pa_cons (pv 0) (pa_cons (pe_callB (call_lenK K rfl) (by rfl) T.len PySem.boot_len (pa_cons (pv 4) pa_nil)) pa_nil))) pa_nil)))))
      (pss_cons (ps_set (i := 4) scMixed.nd rfl (Or.inr rfl) (pe_listRg rfl (by rfl) T.list (prg_2 (by rfl) T.range pe_int (pe_callB call_len_seq (by rfl) T.len PySem.boot_len (pa_cons (pv 3) pa_nil)))))
      (pss_cons (ps_set (i := 7) scMixed.nd rfl (Or.inl rfl) (pe_op op_cat (pe_lst (pa_cons pe_int pa_nil)) (pe_lc (own := [("_law_row", 6)]) (g := gName 6) (tt := tYes) rfl scMixed.nd (pi_tup (pe_slice sl_tupS (pv 3) (po_some pe_int) po_none)) (blkOk_by (N := nMixed) (sc := defScope sMixed) (by decide +kernel)) (fun _ _ _ _ _ => (pg_name (i := 6) scMixed.nd rfl (Or.inl rfl))) (fun _ _ _ _ _ => pts_nil) (fun _ _ _ _ _ => (pe_bmK K rfl PySem.F.plainAttrs_list PySem.F.slot_list_pop PySem.F.type_list_pop mt_popAt (pv 4) (pa_cons (pe_call GNext (hr.mono (by first | omega | decide)) (by rfl) cNext.m cNext.F.kp cNext.b .nil pass0 (pa_cons (pv 0) (pa_cons (pe_callB (call_lenK K rfl) (by rfl) T.len PySem.boot_len (pa_cons (pv 4) pa_nil)) pa_nil))) pa_nil))))))
      (pss_cons (ps_set (i := 8) scMixed.nd rfl (Or.inl rfl) (pe_op op_rep (pe_lst (pa_cons pe_non pa_nil)) (pe_callB call_len_seq (by rfl) T.len PySem.boot_len (pa_cons (pv 3) pa_nil))))
      (pss_cons (ps_for PassesOwn.never rfl (pi_enumT (by rfl) T.enumerate (pa_cons (pv 3) pa_nil)) (pg_tup rfl (pgs_cons (pg_name (i := 9) scMixed.nd rfl (Or.inl rfl)) (pgs_cons (pg_name (i := 6) scMixed.nd rfl (Or.inl rfl)) pgs_nil)))
          (pss_cons (ps_set (i := 10) scMixed.nd rfl (Or.inl rfl) (pe_slice sl_tupS (pv 6) po_none (po_some pe_int)))
          (pss_cons (ps_for PassesOwn.never rfl (pi_range2 rfl T.range (pa_cons pe_int (pa_cons (pe_callB call_len_seq (by rfl) T.len PySem.boot_len (pa_cons (pv 6) pa_nil)) pa_nil))) (pg_name (i := 11) scMixed.nd rfl (Or.inl rfl))
              (pss_cons (ps_set (i := 12) scMixed.nd rfl (Or.inl rfl) (pe_and (pe_cmpR op_eq (pv 11) pe_int (nomark _)) (pe_one (pe_cmpR op_in_seq (pe_ix ix_tup (pv 6) pe_int (fun _ _ => rfl)) (pe_tup (pa_cons pe_str (pa_cons pe_str (pa_cons pe_str (pa_cons pe_str pa_nil))))) rfl))))
              (pss_one (ps_set (i := 10) scMixed.nd rfl (Or.inl rfl) (pe_op op_catS (pv 10) (pe_tup (pa_cons (pe_ix ix_list (pe_ifExp (pt_val (pv 12)) (pv 5) (pv 7)) (pe_ix ix_tup (pv 6) (pv 11) (fun _ _ => rfl)) (fun _ _ => rfl)) pa_nil)))))))
          (pss_one (ps_asg (pv 10) (pg_sub (pv 8) (pe_ix ix_list (pv 7) (pv 9) (fun _ _ => rfl)) set_list))))))
      (pss_cons (ps_setLc (i := 13) (own := [("_law_worth", 14)]) (g := gName 14) (tt := tYes) rfl scMixed.nd rfl rfl (sw_true rfl rfl rfl (by decide +kernel)) (pi_range1 rfl T.range (pa_cons (pe_callB call_len_seq (by rfl) T.len PySem.boot_len (pa_cons (pv 2) pa_nil)) pa_nil)) (blkOk_by (N := nMixed) (sc := defScope sMixed) (by decide +kernel)) (fun _ _ _ _ _ => (pg_name (i := 14) scMixed.nd rfl (Or.inl rfl))) (fun _ _ _ _ _ => pts_nil) (fun _ _ _ _ _ => (pe_bmK K rfl PySem.F.plainAttrs_list PySem.F.slot_list_index PySem.F.type_list_index (mt_indexK K rfl) (pv 5) (pa_cons (pv 14) pa_nil))))
      (pss_one (ps_ret (pe_tup (pa_cons (pe_callTy call_tuple_of (by rfl) T.tuple (by decide +kernel) (pa_cons (pe_lc (own := [("_law_worth", 14)]) (g := gName 14) (tt := tYes) rfl scMixed.nd (pi_list (pv 13)) (blkOk_by (N := nMixed) (sc := defScope sMixed) (by decide +kernel)) (fun _ _ _ _ _ => (pg_name (i := 14) scMixed.nd rfl (Or.inl rfl))) (fun _ _ _ _ _ => pts_nil) (fun _ _ _ _ _ => (pe_ix (ix_tupK K rfl) (pv 2) (pv 14) (fun _ _ => rfl)))) pa_nil)) (pa_cons (pe_callTy call_tuple_of (by rfl) T.tuple (by decide +kernel) (pa_cons (pv 8) pa_nil)) pa_nil))))))))))))), ?_⟩
    have hK0 := Dc.refl hE
    have hbr := Paired.length hR
    refine ⟨_, rfl, a, _, rfl, SqT.of ha, rfl, .ref wa, _, rfl, .ref ra, _, rfl, rfl, ?_⟩
    have hW8 := g.w8
    have hR40 := g.r40
    have hR1 := g.r1
    refine ⟨_, rfl, wa, _, rfl, .inr (SqT.of hwa), _, rfl, RgOk.of_le (Int.le_refl _) (by rw [List.length_map]; omega) (by omega) (by omega), fun l1 hl1 => ?_⟩
    refine alloc hl1 fun H1 s1 e1 => ?_
    rw [List.length_map, rgV_nI] at e1
    have C1 := hK0.same s1
    refine ⟨_, rfl, wa, rfl, ⟨_, SqT.of (s1 _ _ hwa)⟩, fun D1 hD1 => ?_⟩
    have nDl : D1 ≠ l1 := (ne_of_none e1 hD1).symm
    refine lc_tup (K := K) (a := wa) (xs := p.ws.map V.int) (PopAt K H d sa ns D1 l1 (List.range p.ws.length))
      ⟨[], _, C1.new hD1, C1.here hD1, hl1, nDl, upd_same, by rw [upd_ne nDl.symm]; exact e1, List.Perm.refl _, rfl⟩ (fun i H2 _ ⟨_, _, C, _⟩ => SqT.of (C.kp _ _ hwa)) ?_ ?_
    · rintro i x H2 hi ⟨ks, ls, C2, nD, nl, ne, hD, hl, hp, hk⟩
      have hiW : i < p.ws.length := by
        have q := (List.getElem?_eq_some_iff.mp hi).1
        rwa [List.length_map] at q
      have hle := hp.length_eq
      rw [List.length_append, hk, List.length_range] at hle
      refine ⟨rfl, _, rfl, .inl ⟨rfl, _, SqL.of hl⟩, _, rfl, _, rfl, l1, _, rfl, .inl (SqL.of hl), d, sa, ns, _, rfl, C2.ent, ?_, ?_, fun n H3 n0 n1 C3 => ?_⟩
      · rw [List.length_map]; omega
      · rw [List.length_map]; omega
      · rw [List.length_map] at n1
        obtain ⟨j, hj⟩ : ∃ j : Nat, n = (j : Int) := ⟨n.toNat, by omega⟩
        subst hj
        have hjl : j < ls.length := by omega
        have hl3 := C3.but _ _ (C2.ned nl) hl
        have hD3 := C3.but _ _ (C2.ned nD) hD
        refine ⟨l1, _, _, j, _, rfl, rfl, hl3, by omega, by omega, ?_, nI_get hjl, _, ?_, szl (show (ks.map nI).length < 100000 by rw [List.length_map]; omega), ?_⟩
        · rw [List.length_map, seqIndex_of (by omega) (by omega)]
          rfl
        · rw [upd_ne ne]; exact hD3
        · refine ⟨ks ++ [ls[j]], ls.eraseIdx j, ((C2.trans C3).mut nl).mut nD, nD, nl, ne, ?_, ?_, pop_perm hp (List.getElem?_eq_getElem hjl), by rw [List.length_append, hk]; rfl⟩
          · rw [upd_same, List.map_append]; rfl
          · rw [upd_ne ne.symm, upd_same, map_erase]
    · intro H2 h2
      rw [List.length_map] at h2
      obtain ⟨ks, C2, nD1, hks, hkp⟩ := PopAt.perm (all := List.range p.ws.length) (by rw [List.length_range]; exact h2)
      have hra2 := C2.kp _ _ hra
      refine ⟨_, rfl, ra, _, rfl, .inr (SqT.of hra2), _, _, rfl, rfl, RgOk.of_le (by decide) (by rw [List.length_map]; omega) (by decide) (by omega), fun l2 hl2 => ?_⟩
      refine alloc hl2 fun H3 s3 e3 => ?_
      rw [List.length_map, hbr, rgV_nI1] at e3
      have C3 := C2.same s3
      refine ⟨(by show 1 ≤ sizeLine; decide), fun l0 hl0 => ?_⟩
      refine alloc hl0 fun H4 s4 e4 => ?_
      have C4 := C3.same s4
      refine ⟨_, rfl, _, rfl, ra, _, rfl, C4.kp _ _ hra, fun p2 H5 s5 e5 => ?_⟩
      rw [drop1] at e5
      have C5 := C4.same s5
      refine ⟨p2, rfl, ⟨_, SqT.of e5⟩, fun D2 hD2 => ?_⟩
      have hxl : ((bs.map V.ref).drop 1).length = p.rows.length - 1 := by rw [List.length_drop, List.length_map, hbr]
      have el2 : H5 l2 = some (.lst (((List.range (p.rows.length - 1)).map (· + 1)).map nI)) := (s4.trans s5) _ _ e3
      have el0 : H5 l0 = some (.lst [.int 0]) := s5 _ _ e4
      have hks5 : H5 D1 = some (.lst (ks.map nI)) := ((s3.trans s4).trans s5) _ _ hks
      have nDl2 : D2 ≠ l2 := (ne_of_none el2 hD2).symm
      have nl2 : H l2 = none := C2.here hl2
      have nl0 : H l0 = none := C3.here hl0
      have nDa : D1 ≠ l2 := ne_of_none hks hl2
      have nDb : D1 ≠ D2 := ne_of_none hks5 hD2
      have nl02 : l0 ≠ l2 := (ne_of_none e3 hl0).symm
      have nl0D : l0 ≠ D2 := ne_of_none el0 hD2
      refine lc_tup (K := K) (a := p2) (xs := (bs.map V.ref).drop 1)
        (fun i H6 => PopAt K H d sa ns D2 l2 ((List.range (p.rows.length - 1)).map (· + 1)) i H6 ∧ H6 D1 = some (.lst (ks.map nI)) ∧ H6 l0 = some (.lst [.int 0]) ∧ H6 p2 = some (.tup ((bs.map V.ref).drop 1)))
        ⟨⟨[], _, C5.new hD2, C5.here hD2, nl2, nDl2, upd_same, by rw [upd_ne nDl2.symm]; exact el2, List.Perm.refl _, rfl⟩, by rw [upd_ne nDb]; exact hks5, by rw [upd_ne nl0D]; exact el0,
          by rw [upd_ne (ne_of_none e5 hD2)]; exact e5⟩ (fun i H2 _ ⟨_, _, _, q⟩ => SqT.of q) ?_ ?_
      · rintro i x H2 hi ⟨⟨ks2, ls, C2, nD, nl, ne, hD, hl, hp, hk⟩, g1, g0, g2⟩
        have hiW : i < p.rows.length - 1 := by
          have q := (List.getElem?_eq_some_iff.mp hi).1
          rwa [hxl] at q
        have hle := hp.length_eq
        rw [List.length_append, hk, List.length_map, List.length_range] at hle
        refine ⟨rfl, _, rfl, .inl ⟨rfl, _, SqL.of hl⟩, _, rfl, _, rfl, l2, _, rfl, .inl (SqL.of hl), d, sa, ns, _, rfl, C2.ent, ?_, ?_, fun n H3 n0 n1 C3 => ?_⟩
        · rw [List.length_map]; omega
        · rw [List.length_map]; omega
        · rw [List.length_map] at n1
          obtain ⟨j, hj⟩ : ∃ j : Nat, n = (j : Int) := ⟨n.toNat, by omega⟩
          subst hj
          have hjl : j < ls.length := by omega
          have hl3 := C3.but _ _ (C2.ned nl) hl
          have hD3 := C3.but _ _ (C2.ned nD) hD
          refine ⟨l2, _, _, j, _, rfl, rfl, hl3, by omega, by omega, ?_, nI_get hjl, _, ?_, szl (show (ks2.map nI).length < 100000 by rw [List.length_map]; omega), ?_⟩
          · rw [List.length_map, seqIndex_of (by omega) (by omega)]
            rfl
          · rw [upd_ne ne]; exact hD3
          · refine ⟨⟨ks2 ++ [ls[j]], ls.eraseIdx j, ((C2.trans C3).mut nl).mut nD, nD, nl, ne, ?_, ?_, pop_perm hp (List.getElem?_eq_getElem hjl), by rw [List.length_append, hk]; rfl⟩, ?_, ?_, ?_⟩
            · rw [upd_same, List.map_append]; rfl
            · rw [upd_ne ne.symm, upd_same, map_erase]
            · rw [upd_ne nDb, upd_ne nDa]; exact C3.but _ _ (C2.ned nD1) g1
            · rw [upd_ne nl0D, upd_ne nl02]; exact C3.but _ _ (C2.ned nl0) g0
            · exact ((C3.kp.trans (Kp.lst hl3)).trans (Kp.lst (by rw [upd_ne ne]; exact hD3))) _ _ g2
      · rintro H6 ⟨h6, g1, g0, g2⟩
        rw [hxl] at h6
        obtain ⟨ms, C6, nD2, hms, hmp⟩ := PopAt.perm (all := (List.range (p.rows.length - 1)).map (· + 1)) (by rw [List.length_map, List.length_range]; exact h6)
        have hml := hmp.length_eq
        rw [List.length_map, List.length_range] at hml
        refine ⟨l0, D2, _, _, rfl, rfl, g0, hms, sz (by rw [List.length_map]; show 1 + _ ≤ _; omega), fun ln hln => ?_⟩
        refine alloc hln fun H7 s7 e7 => ?_
        have e7 : H7 ln = some (.lst ((0 :: ms).map nI)) := e7
        have C7 := C6.same s7
        refine ⟨(by show 1 ≤ sizeLine; decide), fun l7 hl7 => ?_⟩
        refine alloc hl7 fun H8 s8 e8 => ?_
        have C8 := C7.same s8
        have hra8 := C8.kp _ _ hra
        refine ⟨_, rfl, ra, _, rfl, .inr (SqT.of hra8), l7, _, _, rfl, rfl, e8, ?_, ?_, ?_, fun lf hlf => ?_⟩
        · rw [List.length_map]; omega
        · rw [List.length_map]; omega
        · refine sz ?_
          show 1 * _ ≤ _
          rw [List.length_map]; omega
        refine alloc hlf fun H9 s9 e9 => ?_
        rw [List.flatten_replicate_singleton, List.length_map, hbr] at e9
        have C9 := C8.same s9
        have n1f : D1 ≠ lf := ne_of_none ((s7.trans s8) _ _ g1) hlf
        have n2f : ln ≠ lf := ne_of_none (s8 _ _ e7) hlf
        have hmem : ∀ x, x ∈ (0 :: ms) ↔ x < p.rows.length := fun x => by
          rw [List.mem_cons, hmp.mem_iff, List.mem_map]
          constructor
          · rintro (q | ⟨y, q1, q2⟩)
            · omega
            · have := List.mem_range.mp q1; omega
          · intro q
            cases x with
            | zero => exact .inl rfl
            | succ x => exact .inr ⟨x, List.mem_range.mpr (by omega), rfl⟩
        have hpm : (0 :: ms).Perm (List.range p.rows.length) := by
          have e : List.range p.rows.length = 0 :: (List.range (p.rows.length - 1)).map (· + 1) := by
            rw [show p.rows.length = (p.rows.length - 1) + 1 by omega, List.range_succ_eq_map]
            rfl
          rw [e]
          exact hmp.cons 0
        have hkm : ∀ x, x ∈ ks ↔ x < p.ws.length := fun x => by rw [hkp.mem_iff, List.mem_range]
        have hnl : (0 :: ms).length = p.rows.length := by show ms.length + 1 = _; omega
        have hkl : ks.length = p.ws.length := by rw [hkp.length_eq, List.length_range]
        have hf : ∀ x, x < p.ws.length → ks.getD x 0 < p.ws.length := fun x hx => by
          rw [List.getD_eq_getElem?_getD, List.getElem?_eq_getElem (by omega)]
          exact (hkm _).mp (List.getElem_mem _)
        have hg : ∀ x, x < p.rows.length → (0 :: ms).getD x 0 < p.rows.length := fun x hx => by
          rw [List.getD_eq_getElem?_getD, List.getElem?_eq_getElem (by omega)]
          exact (hmem _).mp (List.getElem_mem _)
        refine ⟨_, rfl, ra, _, rfl, SqT.of (C9.kp _ _ hra), for_enumT (K := K) (a := ra) (xs := bs.map V.ref)
          (fun i σ H' => ∃ x6 x9 x10 x11 x12 : Option V, σ = [some (.ref d), some (.ref a), some (.ref wa), some (.ref ra), some (.ref l2), some (.ref D1), x6, some (.ref ln), some (.ref lf), x9, x10, x11, x12, none, none] ∧
            MixAt K H d sa ns D1 ln lf ks (0 :: ms) (p.rows.map kindR) p.ws.length p.rows.length i H')
          ⟨_, _, _, _, _, rfl, C9, C8.here hlf, n1f, n2f, ((s7.trans s8).trans s9) _ _ g1, (s8.trans s9) _ _ e7, _, e9, List.length_replicate, fun _ _ q => absurd q (by simp)⟩
          (fun i σ H' ⟨_, _, _, _, _, _, m⟩ => SqT.of (m.dc.kp _ _ hra)) ?_ ?_⟩
        · rintro i x T' σ H' hi ⟨x6, x9, x10, x11, x12, rfl, m⟩ hT'
          have hiR : i < p.rows.length := by
            have q := (List.getElem?_eq_some_iff.mp hi).1
            rwa [List.length_map, hbr] at q
          obtain ⟨r, hr1⟩ : ∃ r, p.rows[i]? = some r := ⟨_, List.getElem?_eq_getElem hiR⟩
          obtain ⟨b, hb1, hb2⟩ := Paired.getR hR hr1
          have hrm : r ∈ p.rows := List.mem_of_getElem? hr1
          have hro := g.ok r hrm
          have ex : x = V.ref b := by
            rw [List.getElem?_map, hb1] at hi
            exact (Option.some.inj hi).symm
          subst ex
          refine alloc hT' fun H2 s2 e2 => ?_
          have m2 := m.same s2
          have hb3 := m2.dc.kp _ _ hb2
          refine ⟨T', _, rfl, SqT.of e2, rfl, _, _, rfl, _, _, rfl, rfl, ?_⟩
          refine ⟨_, rfl, _, rfl, b, _, rfl, hb3, fun t H3 s3 e3 => ?_⟩
          have rl := Row.vs_len r
          rw [sl1 rl.1, Row.ren_w (fun x => ks.getD x 0) (fun x => (0 :: ms).getD x 0)] at e3
          have m3 := m2.same s3
          have hb4 := s3 _ _ hb3
          refine ⟨_, rfl, b, _, rfl, .inr (SqT.of hb4), _, _, rfl, ⟨by decide, by decide, by omega, by omega⟩, ?_⟩
          refine for_range (lo := 1) (n := (((rowVs r).length : Int) - 1).toNat) (fun j σ H' => ∃ (x11 x12 : Option V) (t : Addr), σ = [some (.ref d), some (.ref a), some (.ref wa), some (.ref ra), some (.ref l2), some (.ref D1), some (.ref b), some (.ref ln), some (.ref lf), some (.int (i : Int)), some (.ref t), x11, x12, none, none] ∧
            Same1 H3 H' ∧ H' t = some (.tup ((rowVs (r.ren (fun x => ks.getD x 0) (fun x => (0 :: ms).getD x 0))).take (1 + j)))) ⟨_, _, t, rfl, Same.refl _, e3⟩ ?_ ?_
          · rintro j σ H4 hj ⟨x11, x12, t, rfl, S4, ht⟩
            have hj1 : j + 1 < (rowVs r).length := by omega
            obtain ⟨x, hx, hx1, hx2⟩ := Row.ren_at (f := fun x => ks.getD x 0) (g := fun x => (0 :: ms).getD x 0) hro hj1
            have hb5 := S4 _ _ hb4
            have ej : (1 : Int) + (j : Int) = ((j + 1 : Nat) : Int) := by omega
            refine asg_elim (fun v H' => v = .bl (j == 0 && r.uses) ∧ Same1 H4 H') ?_ ?_
            · rintro v H5 ⟨rfl, s5⟩
              have S5 := S4.trans s5
              have m5 := m3.same S5
              have fin : ∀ (y : Nat) (t5 t6 : Addr) (H6 H7 : Hp) (c : Bool), (rowVs (r.ren (fun x => ks.getD x 0) (fun x => (0 :: ms).getD x 0)))[j + 1]? = some (.int (y : Int)) → Same1 H5 H6 → Same1 H6 H7 →
                  H7 t6 = some (.tup ((rowVs (r.ren (fun x => ks.getD x 0) (fun x => (0 :: ms).getD x 0))).take (1 + j) ++ [.int (y : Int)])) →
                  Same1 H3 H7 ∧ H7 t6 = some (.tup ((rowVs (r.ren (fun x => ks.getD x 0) (fun x => (0 :: ms).getD x 0))).take (1 + (j + 1)))) := by
                intro y t5 t6 H6 H7 c q1 q2 q3 q4
                refine ⟨(S5.trans q2).trans q3, q4.trans ?_⟩
                rw [show 1 + (j + 1) = (1 + j) + 1 by omega, List.take_add_one, show 1 + j = j + 1 by omega, q1]
                rfl
              cases hc : (j == 0 && r.uses) with
              | true =>
                obtain ⟨q1, q2⟩ := hx1 hc
                refine ⟨_, rfl, _, rfl, _, rfl, _, rfl, _, rfl, _, rfl, b, _, _, .int (x : Int), rfl, rfl, SqT.of (s5 _ _ hb5), by rw [ej]; exact atI_nat hx, D1, _, _, _, rfl, rfl, SqL.of m5.names, atI_nat (nI_getD (by rw [hkl]; exact q1)), (by show 1 ≤ sizeLine; decide), fun t5 ht5 => ?_⟩
                refine alloc ht5 fun H6 s6 e6 => ?_
                refine ⟨t, t5, _, _, rfl, rfl, (s5.trans s6) _ _ ht, e6, sz (by rw [List.length_take]; show _ + 1 ≤ _; omega), fun t6 H7 s7 e7 => ?_⟩
                exact ⟨_, _, t6, rfl, fin _ t5 t6 H6 H7 true q2 s6 s7 e7⟩
              | false =>
                obtain ⟨q1, q2⟩ := hx2 hc
                refine ⟨_, rfl, _, rfl, _, rfl, _, rfl, _, rfl, _, rfl, b, _, _, .int (x : Int), rfl, rfl, SqT.of (s5 _ _ hb5), by rw [ej]; exact atI_nat hx, ln, _, _, _, rfl, rfl, SqL.of m5.numbers, atI_nat (nI_getD (by rw [hnl]; exact q1)), (by show 1 ≤ sizeLine; decide), fun t5 ht5 => ?_⟩
                refine alloc ht5 fun H6 s6 e6 => ?_
                refine ⟨t, t5, _, _, rfl, rfl, (s5.trans s6) _ _ ht, e6, sz (by rw [List.length_take]; show _ + 1 ≤ _; omega), fun t6 H7 s7 e7 => ?_⟩
                exact ⟨_, _, t6, rfl, fin _ t5 t6 H6 H7 true q2 s6 s7 e7⟩
            · intro Q' hQ
              refine ⟨_, rfl, rfl, _, rfl, ite2 (fun c => ?_) (fun c => ?_)⟩
              · have c := of_decide_eq_true c
                have c : (1 : Int) + (j : Int) = 1 := by injection c
                have j0 : j = 0 := by omega
                subst j0
                refine ⟨_, rfl, b, _, _, _, rfl, rfl, SqT.of hb5, atI_nat (j := 0) (Row.w0 r), (by show 4 ≤ sizeLine; decide), fun t4 ht4 => ?_⟩
                refine alloc ht4 fun H5 s5 e5 => ?_
                refine ⟨t4, _, rfl, .inr (SqT.of e5), rfl, rfl, hQ _ _ ⟨?_, s5⟩⟩
                show V.bl (inV (.str r.word) [.str "load", .str "add", .str "take", .str "store"]) = V.bl (0 == 0 && r.uses)
                rw [Row.in4]
                rfl
              · refine hQ _ _ ⟨?_, Same.refl _⟩
                have hj0 : j ≠ 0 := fun e => by subst e; exact c (decide_eq_true rfl)
                rw [beq_false_of_ne hj0]
                rfl
          · rintro σ H4 ⟨x11, x12, t, rfl, S4, ht⟩
            have m4 := m3.same S4
            rw [List.take_of_length_le (by rw [Row.ren_len]; omega)] at ht
            obtain ⟨fs, hf1, hf2, hf3⟩ := m4.found
            have hy := nI_getD (l := 0 :: ms) (j := i) (by rw [hnl]; exact hiR)
            have hy2 : (0 :: ms)[i]? = some ((0 :: ms).getD i 0) := by
              rw [List.getD_eq_getElem?_getD, List.getElem?_eq_getElem (by rw [hnl]; exact hiR)]
              rfl
            have hyN := hg i hiR
            refine ⟨_, rfl, _, rfl, _, rfl, _, rfl, ln, _, _, _, rfl, rfl, SqL.of m4.numbers, atI_nat hy, lf, fs, _, (0 :: ms).getD i 0, rfl, rfl, hf1, ixN_nat (by rw [hf2]; exact hyN), ?_⟩
            exact ⟨_, _, _, _, _, rfl, m4.put hf1 hy2 hyN ht (Row.ren_ok hf hg hro) (by rw [kindR_ren, List.getD_eq_getElem?_getD, List.getElem?_map, hr1]; rfl)⟩
        · rintro σ H' ⟨x6, x9, x10, x11, x12, rfl, m⟩
          rw [List.length_map, hbr] at m
          obtain ⟨fs, hf1, hf2, hf3⟩ := m.found
          obtain ⟨bs', rs', hfs, hF⟩ := refs_of (F := fun b r => H' b = some (.tup (rowVs r)) ∧ r.ok p.ws.length p.rows.length) (l := fs) (fun i hi => by
            obtain ⟨b, r, q1, q2, q3, _⟩ := hf3 i (by omega) (by rw [List.take_of_length_le (by omega)]; exact (hmem i).mpr (by omega))
            exact ⟨b, r, q1, q2, q3⟩)
          have hwa2 := m.dc.kp _ _ hwa
          have hfl : bs'.length = p.rows.length := by rw [← hf2, hfs, List.length_map]
          have hrl : rs'.length = p.rows.length := by rw [← Paired.length hF, hfl]
          have hTT : tests rs' = tests p.rows := by
            refine tests_perm (nums := 0 :: ms) hrl hpm fun x hx => ?_
            obtain ⟨b, r, q1, q2, q3, j, q4, q5⟩ := hf3 x (by omega) (by rw [List.take_of_length_le (by omega)]; exact (hmem x).mpr hx)
            refine ⟨j, q4, ?_⟩
            have q6 : isT r = (p.rows.map isT).getD j 0 := by
              rw [kindR_T, q5, List.getD_eq_getElem?_getD, List.getD_eq_getElem?_getD, List.getElem?_map, List.getElem?_map]
              cases hpj : p.rows[j]? with
              | none => rfl
              | some rr => exact (kindR_T rr).symm
            rw [← q6]
            have hx' : x < rs'.length := by omega
            obtain ⟨b', hb1, hb2⟩ := Paired.getR hF (List.getElem?_eq_getElem hx')
            have eb : b' = b := by
              rw [hfs, List.getElem?_map, hb1] at q1
              exact V.ref.inj (Option.some.inj q1)
            subst eb
            have e2 := hb2.1
            rw [q2] at e2
            rw [List.getD_eq_getElem?_getD, List.getElem?_eq_getElem hx']
            exact (isT_of (HO.tup.inj (Option.some.inj e2))).symm
          have hST : p.rows.getD 0 .stop ≠ .stop → rs'.getD 0 .stop ≠ .stop := fun hn0 hz => by
            have r1 := g.r1
            obtain ⟨b, r, q1, q2, q3, j, q4, q5⟩ := hf3 0 (by omega) (by rw [List.take_of_length_le (by omega)]; exact (hmem 0).mpr (by omega))
            have hj0 : j = 0 := by
              have nd : (0 :: ms).Nodup := hpm.nodup_iff.mpr List.nodup_range
              cases j with
              | zero => rfl
              | succ j => exact absurd (List.mem_of_getElem? (show ms[j]? = some 0 from q4)) (List.nodup_cons.mp nd).1
            subst hj0
            have hx' : 0 < rs'.length := by omega
            obtain ⟨b', hb1, hb2⟩ := Paired.getR hF (List.getElem?_eq_getElem hx')
            have eb : b' = b := by
              rw [hfs, List.getElem?_map, hb1] at q1
              exact V.ref.inj (Option.some.inj q1)
            subst eb
            have e2 := hb2.1
            rw [q2] at e2
            have ek := kindR_of (HO.tup.inj (Option.some.inj e2))
            rw [List.getD_eq_getElem?_getD, List.getElem?_eq_getElem hx'] at hz
            have hz : rs'[0] = .stop := hz
            rw [hz, kindR_stop, q5] at ek
            refine hn0 (kindR_ne ?_)
            rw [← ek, List.getD_eq_getElem?_getD, List.getD_eq_getElem?_getD, List.getElem?_map, List.getElem?_eq_getElem (show 0 < p.rows.length by omega)]
            rfl
          refine ⟨_, rfl, wa, _, rfl, .inr (SqT.of hwa2), _, rfl, by rw [List.length_map]; omega, by rw [List.length_map]; omega, fun D3 hD3 => ?_⟩
          have n13 : D1 ≠ D3 := ne_of_none m.names hD3
          have nf3 : lf ≠ D3 := ne_of_none hf1 hD3
          refine lc_range (lo := 0) (n := (((p.ws.map V.int).length : Nat) : Int).toNat) (fun i H2 => ∃ js : List Nat, Dc K H H2 d sa ns ∧ H D3 = none ∧ H2 D3 = some (.lst (js.map nI)) ∧ js.length = i ∧ (∀ x ∈ js, x < p.ws.length) ∧ Kp H' H2 ∧ H2 D1 = some (.lst (ks.map nI)) ∧ H2 lf = some (.lst fs))
            ⟨[], m.dc.new hD3, m.dc.here hD3, upd_same, rfl, fun _ h => absurd h (by simp), Kp.new hD3, by rw [upd_ne n13]; exact m.names, by rw [upd_ne nf3]; exact hf1⟩ ?_ ?_
          · rintro i H2 hi ⟨js, C, nD3, hj, hjl, hjm, k2, g1, g2⟩
            have hiW : i < p.ws.length := by rw [List.length_map] at hi; omega
            obtain ⟨j, j1, j2, j3⟩ := first_of ((hkm i).mpr hiW)
            have e0 : (0 : Int) + (i : Int) = (i : Int) := Int.zero_add _
            rw [e0]
            refine ⟨rfl, _, rfl, .inl ⟨rfl, _, SqL.of g1⟩, _, rfl, D1, _, _, j, .int (i : Int), rfl, rfl, SqL.of g1, rfl, nI_flat ks, ?_, ?_, fun m z hm e => nI_none (j3 m hm) e, _, hj, szl (by rw [List.length_map]; omega), ?_⟩
            · rw [List.getElem?_map, j2]; rfl
            · show ((i : Int) == (i : Int)) = true
              exact beq_self_eq_true _
            · refine ⟨js ++ [j], C.mut nD3, nD3, by rw [upd_same, List.map_append]; rfl, by rw [List.length_append, hjl]; rfl, all_snoc hjm (by omega), k2.trans (Kp.lst hj), by rw [upd_ne n13]; exact g1, by rw [upd_ne nf3]; exact g2⟩
          · rintro H2 ⟨js, C, nD3, hj, hjl, hjm, k2, g1, g2⟩
            rw [List.length_map, Int.toNat_natCast] at hjl
            have hwa3 := k2 _ _ hwa2
            refine ⟨_, rfl, D3, rfl, ⟨_, SqL.of hj⟩, fun D4 hD4 => ?_⟩
            have nf4 : lf ≠ D4 := ne_of_none g2 hD4
            have n34 : D3 ≠ D4 := ne_of_none hj hD4
            refine lc_list (K := K) (a := D3) (xs := js.map nI) (fun i H3 => ∃ us : List Int, Dc K H H3 d sa ns ∧ H D4 = none ∧ H3 D4 = some (.lst (us.map V.int)) ∧ us.length = i ∧ (∀ x ∈ us, x ∈ p.ws) ∧ Kp H2 H3 ∧ H3 D3 = some (.lst (js.map nI)) ∧ H3 lf = some (.lst fs))
              ⟨[], C.new hD4, C.here hD4, upd_same, rfl, fun _ h => absurd h (by simp), Kp.new hD4, by rw [upd_ne n34]; exact hj, by rw [upd_ne nf4]; exact g2⟩ (fun i H3 _ ⟨_, _, _, _, _, _, _, q, _⟩ => SqL.of q) ?_ ?_
            · rintro i x H3 hi ⟨us, C3, nD4, hu, hul, hum, k3, g3, g4⟩
              have hij : i < js.length := by
                have q := (List.getElem?_eq_some_iff.mp hi).1
                rwa [List.length_map] at q
              have ex : x = .int ((js[i] : Nat) : Int) := by
                rw [nI_get hij] at hi
                exact (Option.some.inj hi).symm
              subst ex
              have hjw := hjm _ (List.getElem_mem hij)
              have hat : (p.ws.map V.int)[js[i]]? = some (.int p.ws[js[i]]) := by
                rw [List.getElem?_map, List.getElem?_eq_getElem hjw]
                rfl
              refine ⟨rfl, _, rfl, _, rfl, wa, _, _, _, rfl, rfl, SqT.of (k3 _ _ hwa3), atI_nat hat, _, hu, szl (by rw [List.length_map]; omega), ?_⟩
              exact ⟨us ++ [p.ws[js[i]]], C3.mut nD4, nD4, by rw [upd_same, List.map_append]; rfl, by rw [List.length_append, hul]; rfl, all_snoc hum (List.getElem_mem _), k3.trans (Kp.lst hu), by rw [upd_ne n34]; exact g3, by rw [upd_ne nf4]; exact g4⟩
            · rintro H3 ⟨us, C3, nD4, hu, hul, hum, k3, g3, g4⟩
              rw [List.length_map, hjl] at hul
              refine ⟨D4, _, rfl, .inl ⟨SqL.of hu, fun t1 ht1 => ?_⟩⟩
              refine alloc ht1 fun H4 s4 e4 => ?_
              refine ⟨_, rfl, lf, _, rfl, .inl ⟨SqL.of (s4 _ _ g4), fun t2 ht2 => ?_⟩⟩
              refine alloc ht2 fun H5 s5 e5 => ?_
              refine ⟨(by show 2 ≤ sizeLine; decide), fun t3 ht3 => ?_⟩
              refine alloc ht3 fun H6 s6 e6 => ?_
              have S36 := (s4.trans s5).trans s6
              have kF : Kp H' H6 := (k2.trans k3).trans (Kp.same S36)
              refine kq t3 ⟨us, rs'⟩ H6 (C3.same S36) ⟨t1, t2, bs', e6, (s5.trans s6) _ _ e4, ?_, ?_⟩ ⟨?_, ?_, ?_, ?_, ?_⟩ hTT hrl hST
              · rw [← hfs]; exact s6 _ _ e5
              · exact Paired.mapP hF fun b r q => kF _ _ q.1
              · show 1 ≤ rs'.length
                omega
              · show rs'.length ≤ 40
                omega
              · show us.length ≤ 8
                omega
              · exact fun x hx => g.num x (hum x hx)
              · intro r hr
                show r.ok us.length rs'.length
                rw [hul, hrl]
                obtain ⟨i, hi⟩ := List.getElem?_of_mem hr
                obtain ⟨b, _, q⟩ := Paired.getR hF hi
                exact q.2
end
end DL
namespace DL
open PySem L2 DLR
def rowD : Row → PyData
  | .load w n => .tuple [.str "load", .int (w : Int), .int (n : Int)]
  | .add w n => .tuple [.str "add", .int (w : Int), .int (n : Int)]
  | .take w n => .tuple [.str "take", .int (w : Int), .int (n : Int)]
  | .store w n => .tuple [.str "store", .int (w : Int), .int (n : Int)]
  | .say n => .tuple [.str "say", .int (n : Int)]
  | .test a b => .tuple [.str "test", .int (a : Int), .int (b : Int)]
  | .stop => .tuple [.str "stop"]
theorem rowD_dp {K : Frg} {H : Hp} {b : Addr} {r : Row} (h : H b = some (.tup (rowVs r))) : Dp K H (.ref b) (rowD r) := by
  cases r <;> exact .tup (SqT.of h) (by first | exact .cons (.str _) (.cons (.int _) (.cons (.int _) .nil)) | exact .cons (.str _) (.cons (.int _) .nil) | exact .cons (.str _) .nil)
theorem rowsD_dp {K : Frg} {H : Hp} : ∀ {bs : List Addr} {rs : List Row}, RowsAt H bs rs → DpAll K H (bs.map V.ref) (rs.map rowD)
  | _, _, .nil => .nil
  | _, _, .cons h t => .cons (rowD_dp h) (rowsD_dp t)
theorem strOk4 : (["load", "add", "take", "store", "say", "test", "stop"] : List Str).all PyData.strOk = true := by decide +kernel
theorem rowD_lay (r : Row) : (rowD r).canLay0 = true := by
  have k : ∀ x ∈ (["load", "add", "take", "store", "say", "test", "stop"] : List Str), PyData.strOk x = true := List.all_eq_true.mp strOk4
  cases r <;> (simp only [rowD, PyData.canLay0, PyData.canLayAll0, Bool.and_true, Bool.and_eq_true]; apply k; simp)
theorem rowsD_lay : ∀ rs : List Row, PyData.canLayAll0 (rs.map rowD) = true
  | [] => rfl
  | r :: rs => by
    show ((rowD r).canLay0 && PyData.canLayAll0 (rs.map rowD)) = true
    rw [rowD_lay, rowsD_lay rs]
    rfl
theorem rowsD_dep : ∀ rs : List Row, PyData.depthAll (rs.map rowD) ≤ 3
  | [] => by decide
  | r :: rs => by
    have h := rowsD_dep rs
    show max (rowD r).depth (PyData.depthAll (rs.map rowD)) ≤ 3
    have : (rowD r).depth ≤ 3 := by cases r <;> simp [rowD, PyData.depth, PyData.depthAll]
    omega
theorem eq_nil {K : Frg} {H : Hp} {l e : Addr} {bs : List Addr} {rs : List Row} {Q : VK} (hl : H l = some (.lst (bs.map V.ref))) (hR : RowsAt H bs rs) (he : H e = some (.lst [])) (q : Q (.bl rs.isEmpty) H) : rEqD K (.ref l) (.ref e) H Q := by
  refine ⟨.list (rs.map rowD), .list [], .lst (SqL.of hl) (rowsD_dp hR), .lst (SqL.of he) .nil, ?_, by decide +kernel, ?_⟩
  · show (PyData.canLayAll0 (rs.map rowD) && decide (PyData.depth (.list (rs.map rowD)) ≤ 64)) = true
    rw [rowsD_lay]
    refine decide_eq_true ?_
    have := rowsD_dep rs
    show _ + _ ≤ 64
    omega
  · have e : PyData.eqv (.list (rs.map rowD)) (.list []) = rs.isEmpty := by cases rs <;> rfl
    rw [e]; exact q
theorem seq_elim {t u : TS} {D : Ends} {σ : L2.St} {H : Hp} (R : L2.St → Hp → Prop) (key : ∀ σ' H', R σ' H' → u D σ' H') (first : ∀ N : L2.St → Hp → Prop, (∀ σ' H', R σ' H' → N σ' H') → t { D with nx := N } σ H) : tSeq t u D σ H := first _ key
def RowsL (K : Frg) (H0 : Hp) (d sa : Addr) (ns : List Int) (t3 : Addr) (ws : List Int) (l : Addr) (z : Nat) (H : Hp) : Prop :=
  ∃ bs rs, Dc K H0 H d sa ns ∧ H t3 = some (.tup (ws.map V.int)) ∧ H l = some (.lst (bs.map V.ref)) ∧ RowsAt H bs rs ∧ rs.length ≤ z ∧ 4 * tests rs ≤ rs.length ∧ ∀ r ∈ rs, r.okS 8 (rs.length + 1)
abbrev sStopping : Stmt := top 68
abbrev pStopping : List Str := ["_law_d", "_law_deep"]
abbrev FStopping (K : Frg) (mg : Str → Option Value) := Fd K mg "_law_stopping" sStopping pStopping
def spStopping (K : Frg) : Sp := fun vs H Q _ => ∃ (d sa : Addr) (ns : List Int) (n : Nat), vs = [.ref d, .int (n : Int)] ∧ n ≤ 2 ∧ Ent K H d sa ns ∧
  ∀ b q H', Dc K H H' d sa ns → ProgAt H' b q → Good q → 4 * tests q.rows ≤ q.rows.length ∧ q.rows.getD 0 .stop ≠ .stop → Q (.ref b) H'
section
variable {P : Program} {w : World} {K : PySem.W.Frag} {mg : Str → Option Value} {base : Heap}
abbrev nStopping : List Str := ["_law_d", "_law_deep", "_law_worths", "_law_rows", "_law_program", "_law_k"]
theorem scStopping : FnScope nStopping pStopping (defScope sStopping) := ⟨rfl, rfl, rfl, by decide +kernel, rfl, by decide +kernel, by decide +kernel⟩
theorem ok_stopping (cStopping : FStopping K mg) (cMixed : FMixed K mg) (cBody : FBody K mg) (cFork : FFork K mg) (cStraight : FStraight K mg) (cNext : FNext K mg) (T : Bt mg) : FnOk P w K mg base CX0 7 cStopping.f cStopping.fd pStopping (spStopping K) := by
  have GNext : FnOk P w K mg base CX0 1 cNext.f cNext.fd ["_law_dice_here", "_law_many"] (spNext K) := ok_next cNext.F T
  have GStraight : FnOk P w K mg base CX0 2 cStraight.f cStraight.fd ["_law_d", "_law_at"] (spStraight K) := ok_straight cStraight cNext T
  have GBody : FnOk P w K mg base CX0 6 cBody.f cBody.fd pBody (spBodyU K) := ok_bodyU cBody cFork cStraight cNext T
  have GMixed : FnOk P w K mg base CX0 2 cMixed.f cMixed.fd pMixed (spMixed K) := ok_mixed cMixed cNext T
  refine cStopping.F.ok scStopping (fun vs H Q E h => ?_) (fun cdv A outer s H vs Q E hr h => ?_)
  · obtain ⟨d, sa, ns, n, rfl, _⟩ := h
    rfl
  · obtain ⟨d, sa, ns, n, rfl, hn, hE, kq⟩ := h
    refine ⟨_, (pss_cons (ps_set (i := 2) scStopping.nd rfl (Or.inl rfl) (pe_tup (pa_cons pe_int (pa_cons (pe_op op_add pe_int (pe_call GNext (hr.mono (by first | omega | decide)) (by rfl) cNext.m cNext.F.kp cNext.b .nil pass0 (pa_cons (pv 0) (pa_cons pe_int pa_nil)))) (pa_cons (pe_op op_add pe_int (pe_call GNext (hr.mono (by first | omega | decide)) (by rfl) cNext.m cNext.F.kp cNext.b .nil pass0 (pa_cons (pv 0) (pa_cons pe_int pa_nil)))) (pa_cons pe_int (pa_cons pe_int pa_nil)))))))
      (pss_cons (ps_set (i := 2) scStopping.nd rfl (Or.inl rfl) (pe_op op_catS (pv 2) (pe_callTy call_tuple_of (by rfl) T.tuple (by decide +kernel) (pa_cons (pe_lc (own := [("_law_k", 5)]) (g := gName 5) (tt := tYes) rfl scStopping.nd (pi_range1 rfl T.range (pa_cons pe_int pa_nil)) (blkOk_by (N := nStopping) (sc := defScope sStopping) (by decide +kernel)) (fun _ _ _ _ _ => (pg_name (i := 5) scStopping.nd rfl (Or.inl rfl))) (fun _ _ _ _ _ => pts_nil) (fun _ _ _ _ _ => (pe_op op_sub (pe_call GNext (hr.mono (by first | omega | decide)) (by rfl) cNext.m cNext.F.kp cNext.b .nil pass0 (pa_cons (pv 0) (pa_cons pe_int pa_nil))) pe_int))) pa_nil))))
      (pss_cons (ps_set (i := 3) scStopping.nd rfl (Or.inl rfl) (pe_call GBody (hr.mono (by first | omega | decide)) (by rfl) cBody.m cBody.F.kp cBody.b .nil pass0 (pa_cons (pv 0) (pa_cons pe_int (pa_cons (pv 1) pa_nil)))))
      (pss_cons (ps_while PassesOwn.never (pt_cmpR op_gt (pe_callB call_len_seq (by rfl) T.len PySem.boot_len (pa_cons (pv 3) pa_nil)) pe_int (nomark _))
          (pss_one (ps_set (i := 3) scStopping.nd rfl (Or.inl rfl) (pe_call GBody (hr.mono (by first | omega | decide)) (by rfl) cBody.m cBody.F.kp cBody.b .nil pass0 (pa_cons (pv 0) (pa_cons pe_int (pa_cons pe_int pa_nil)))))))
      (pss_cons (ps_if (pt_cmpR (op_eqD hr.units) (pv 3) (pe_lst pa_nil) (nomark _))
          (pss_one (ps_set (i := 3) scStopping.nd rfl (Or.inl rfl) (pe_lst (pa_cons (pe_call GStraight (hr.mono (by first | omega | decide)) (by rfl) cStraight.m cStraight.F.kp cStraight.b .nil pass0 (pa_cons (pv 0) (pa_cons pe_int pa_nil))) pa_nil))))
          pss_nil)
      (pss_cons (ps_set (i := 4) scStopping.nd rfl (Or.inl rfl) (pe_tup (pa_cons (pv 2) (pa_cons (pe_op op_catS (pe_callTy call_tuple_of (by rfl) T.tuple (by decide +kernel) (pa_cons (pv 3) pa_nil)) (pe_tup (pa_cons (pe_tup (pa_cons pe_str pa_nil)) pa_nil))) pa_nil))))
      (pss_one (ps_ret (pe_ifExp (pt_cmpR op_eq (pe_call GNext (hr.mono (by first | omega | decide)) (by rfl) cNext.m cNext.F.kp cNext.b .nil pass0 (pa_cons (pv 0) (pa_cons pe_int pa_nil))) pe_int (nomark _)) (pe_call GMixed (hr.mono (by first | omega | decide)) (by rfl) cMixed.m cMixed.F.kp cMixed.b .nil pass0 (pa_cons (pv 0) (pa_cons (pv 4) pa_nil))) (pv 4)))))))))), ?_⟩
    refine ⟨_, rfl, d, sa, ns, _, rfl, hE, by decide, by decide, fun n5 H1 a0 a1 C1 => ?_⟩
    refine ⟨_, _, rfl, rfl, _, rfl, d, sa, ns, _, rfl, C1.ent, by decide, by decide, fun n4 H2 b0 b1 C2 => ?_⟩
    refine ⟨_, _, rfl, rfl, (by show 5 ≤ sizeLine; decide), fun t1 ht1 => ?_⟩
    refine alloc ht1 fun H3 s3 e3 => ?_
    have C3 := (C1.trans C2).same s3
    refine ⟨_, rfl, _, rfl, by decide, by decide, fun D hD => ?_⟩
    refine lc_range (lo := 0) (n := 3) (fun i H4 => ∃ us : List Int, Dc K H H4 d sa ns ∧ H D = none ∧ H4 D = some (.lst (us.map V.int)) ∧ us.length = i ∧ (∀ x ∈ us, -3 ≤ x ∧ x ≤ 3) ∧ Kp H3 H4)
      ⟨[], C3.new hD, C3.here hD, upd_same, rfl, fun _ h => absurd h (by simp), Kp.new hD⟩ ?_ ?_
    · rintro i H4 hi ⟨us, C4, nD, hu, hul, hum, k4⟩
      refine ⟨rfl, _, rfl, d, sa, ns, _, rfl, C4.ent, by decide, by decide, fun m H5 m0 m1 C5 => ?_⟩
      have hu5 := C5.but _ _ (C4.ned nD) hu
      refine ⟨_, _, rfl, rfl, _, hu5, szl (by rw [List.length_map]; omega), us ++ [m - 3], (C4.trans C5).mut nD, nD, by rw [upd_same, List.map_append]; rfl, by rw [List.length_append, hul]; rfl, all_snoc hum (by omega), (k4.trans C5.kp).trans (Kp.lst hu5)⟩
    · rintro H4 ⟨us, C4, nD, hu, hul, hum, k4⟩
      refine ⟨D, _, rfl, .inl ⟨SqL.of hu, fun t2 ht2 => ?_⟩⟩
      refine alloc ht2 fun H5 s5 e5 => ?_
      refine ⟨t1, t2, _, _, rfl, rfl, s5 _ _ (k4 _ _ e3), e5, sz (by rw [List.length_map]; show 5 + _ ≤ _; omega), fun t3 H6 s6 e6 => ?_⟩
      have e6 : H6 t3 = some (.tup (([1, 1 + n5, 1 + n4, 0, 0] ++ us).map V.int)) := by rw [e6, List.map_append]; rfl
      have hwl : ([1, 1 + n5, 1 + n4, 0, 0] ++ us).length = 8 := by simp [hul]
      have hwm : ∀ x ∈ ([1, 1 + n5, 1 + n4, 0, 0] ++ us), -1000000 ≤ x ∧ x ≤ 1000000 := by
        intro x hx
        rcases List.mem_append.mp hx with q | q
        · simp only [List.mem_cons, List.not_mem_nil, or_false] at q
          omega
        · have := hum x q; omega
      revert e6 hwl hwm
      generalize ([1, 1 + n5, 1 + n4, 0, 0] ++ us) = ws
      intro e6 hwl hwm
      have C6 := (C4.same s5).same s6
      have hP := PB_le hn
      refine ⟨_, rfl, _, rfl, n, hn, d, sa, ns, 0, rfl, hn, C6.ent, fun l bs rs H7 C7 nl hl hR hz hT ho => ?_⟩
      have w0 : RowsL K H d sa ns t3 ws l 300 H7 := ⟨bs, rs, C6.trans C7, C7.kp _ _ e6, hl, hR, by omega, hT, fun r hr => (ho r hr).mono (by omega)⟩
      refine ⟨fun m σ H' => ∃ l, σ = [some (.ref d), some (.int (n : Int)), some (.ref t3), some (.ref l), none, none] ∧ RowsL K H d sa ns t3 ws l (39 + m * 300) H', ⟨1, l, rfl, ?_⟩, ?_⟩
      · obtain ⟨bs, rs, q1, q2, q3, q4, q5, q6⟩ := w0
        exact ⟨bs, rs, q1, q2, q3, q4, by omega, q6⟩
      rintro m σ H8 ⟨l, rfl, bs, rs, C8, ht3, hl, hR, hz, hT, ho⟩
      have hbr := Paired.length hR
      refine ⟨_, rfl, l, _, rfl, .inl (SqL.of hl), _, _, rfl, rfl, _, rfl, ite2 (fun c => ?_) (fun c => ?_)⟩
      · have c : (39 : Int) < (((bs.map V.ref).length : Nat) : Int) := of_decide_eq_true c
        rw [List.length_map, hbr] at c
        refine ⟨_, fun σ' H' q => q, _, rfl, 0, by decide, d, sa, ns, 0, rfl, by decide, C8.ent, fun l2 bs2 rs2 H9 C9 nl2 hl2 hR2 hz2 hT2 ho2 => ?_⟩
        refine ⟨0, ?_, l2, rfl, bs2, rs2, C8.trans C9, C9.kp _ _ ht3, hl2, hR2, ?_, hT2, fun r hr => (ho2 r hr).mono (by omega)⟩
        · cases m with
          | zero => omega
          | succ m => exact Nat.succ_pos m
        · have z : rs2.length ≤ 3 * 6 := hz2
          omega
      · have c : ¬ (39 : Int) < (((bs.map V.ref).length : Nat) : Int) := fun q => c (decide_eq_true q)
        rw [List.length_map, hbr] at c
        dsimp only
        refine seq_elim (fun σ' H' => ∃ l bs rs, σ' = [some (.ref d), some (.int (n : Int)), some (.ref t3), some (.ref l), none, none] ∧ Dc K H H' d sa ns ∧ H' t3 = some (.tup (ws.map V.int)) ∧ H' l = some (.lst (bs.map V.ref)) ∧ RowsAt H' bs rs ∧ 1 ≤ rs.length ∧ rs.length ≤ 39 ∧ 4 * tests rs ≤ rs.length ∧ ∀ r ∈ rs, r.okS 8 (rs.length + 1)) ?_ ?_
        · rintro σ' H9 ⟨l, bs, rs, rfl, C9, ht3, hl, hR, h1, h39, hT, ho⟩
          have hbr := Paired.length hR
          refine ⟨_, rfl, _, rfl, l, _, rfl, .inl ⟨SqL.of hl, fun t4 ht4 => ?_⟩⟩
          refine alloc ht4 fun H10 s10 e10 => ?_
          refine ⟨(by show 1 ≤ sizeLine; decide), fun t5 ht5 => ?_⟩
          refine alloc ht5 fun H11 s11 e11 => ?_
          refine ⟨(by show 1 ≤ sizeLine; decide), fun t6 ht6 => ?_⟩
          refine alloc ht6 fun H12 s12 e12 => ?_
          refine ⟨t4, t6, _, _, rfl, rfl, (s11.trans s12) _ _ e10, e12, sz (by rw [List.length_map]; show _ + 1 ≤ _; omega), fun t7 H13 s13 e13 => ?_⟩
          refine ⟨(by show 2 ≤ sizeLine; decide), fun t8 ht8 => ?_⟩
          refine alloc ht8 fun H14 s14 e14 => ?_
          have S914 := ((((s10.trans s11).trans s12).trans s13).trans s14)
          have C14 := C9.same S914
          have hP : ProgAt H14 t8 ⟨ws, rs ++ [.stop]⟩ := by
            refine ⟨t3, t7, bs ++ [t5], e14, S914 _ _ ht3, ?_, ?_⟩
            · rw [s14 _ _ e13, List.map_append]; rfl
            · exact Paired.app (hR.kp (Kp.same S914)) (Paired.one (((s12.trans s13).trans s14) _ _ e11))
          have hG : Good ⟨ws, rs ++ [.stop]⟩ := by
            refine ⟨?_, ?_, ?_, hwm, ?_⟩
            · show 1 ≤ (rs ++ [Row.stop]).length
              rw [List.length_append]; exact Nat.le_add_left 1 _
            · show (rs ++ [Row.stop]).length ≤ 40
              rw [List.length_append]; show _ + 1 ≤ 40; omega
            · show ws.length ≤ 8
              omega
            · intro r hr
              show r.ok ws.length (rs ++ [Row.stop]).length
              rw [hwl, List.length_append]
              rcases List.mem_append.mp hr with q | q
              · exact (ho r q).1
              · rw [List.mem_singleton.mp q]; trivial
          have hTs : 4 * tests (rs ++ [Row.stop]) ≤ (rs ++ [Row.stop]).length := by
            rw [tests_app, tests_one, isT_stop, List.length_append]
            omega
          have hS0 : (rs ++ [Row.stop]).getD 0 .stop ≠ .stop := by
            cases rs with
            | nil => exact absurd h1 (by decide)
            | cons r0 rs0 => exact (ho r0 List.mem_cons_self).2
          refine ⟨_, rfl, d, sa, ns, _, rfl, C14.ent, by decide, by decide, fun n2 H15 m0 m1 C15 => ?_⟩
          refine ⟨rfl, _, rfl, ite2 (fun _ => ?_) (fun _ => ?_)⟩
          · exact ⟨_, rfl, _, rfl, d, sa, ns, t8, _, rfl, C15.ent, hP.kp C15.kp, hG, fun b q H16 C16 hp hg hT1 hT2 hS1 => kq b q H16 ((C14.trans C15).trans C16) hp hg ⟨(by rw [hT1, hT2]; exact hTs), hS1 hS0⟩⟩
          · exact ⟨_, rfl, kq t8 _ H15 (C14.trans C15) (hP.kp C15.kp) hG ⟨hTs, hS0⟩⟩
        · intro N hN
          refine ⟨_, rfl, Nat.zero_le _, fun e he => ?_⟩
          refine alloc he fun H9 s9 e9 => ?_
          have C9 := C8.same s9
          refine eq_nil (s9 _ _ hl) (hR.kp (Kp.same s9)) e9 ⟨_, rfl, ?_⟩
          cases rs with
          | nil =>
            refine ⟨_, rfl, d, sa, ns, 0, rfl, C9.ent, fun t r H10 C10 ht hp ho2 => ?_⟩
            refine ⟨(by show 1 ≤ sizeLine; decide), fun l9 hl9 => hN _ _ ?_⟩
            exact ⟨l9, [t], [r], rfl, (C9.trans C10).new hl9, (C10.kp.trans (Kp.new hl9)) _ _ (s9 _ _ ht3), upd_same, Paired.one (Kp.new hl9 _ _ ht), Nat.le_refl _, (by show 1 ≤ 39; decide), (by rw [tests_one, isT_plain hp]; exact Nat.zero_le _), fun y hy => by rw [List.mem_singleton.mp hy]; exact ⟨ho2, plain_ne hp⟩⟩
          | cons r rs =>
            exact hN _ _ ⟨l, bs, r :: rs, rfl, C9, s9 _ _ ht3, s9 _ _ hl, hR.kp (Kp.same s9), by simp, by omega, hT, ho⟩
end
end DL
namespace DL
open PySem L2 DLR
theorem word5 {a : Nat} {j : Nat} (hj : j < 5) : ∃ wd : Str, ([V.str "load", V.str "add", V.str "take", V.str "store", V.str "add"] : List V)[j]? = some (.str wd) ∧ ∀ x y : Nat, ∃ r : Row, rowVs r = [.str wd, .int (x : Int), .int (y : Int)] ∧ ∀ W N, x < W → y < N → r.ok W N := by
  match j, hj with
  | 0, _ => exact ⟨_, rfl, fun x y => ⟨.load x y, rfl, fun _ _ p q => ⟨p, q⟩⟩⟩
  | 1, _ => exact ⟨_, rfl, fun x y => ⟨.add x y, rfl, fun _ _ p q => ⟨p, q⟩⟩⟩
  | 2, _ => exact ⟨_, rfl, fun x y => ⟨.take x y, rfl, fun _ _ p q => ⟨p, q⟩⟩⟩
  | 3, _ => exact ⟨_, rfl, fun x y => ⟨.store x y, rfl, fun _ _ p q => ⟨p, q⟩⟩⟩
  | 4, _ => exact ⟨_, rfl, fun x y => ⟨.add x y, rfl, fun _ _ p q => ⟨p, q⟩⟩⟩
def AnyAt (K : Frg) (H0 : Hp) (d sa : Addr) (ns : List Int) (wt : Addr) (us : List Int) (l : Addr) (N : Nat) (i : Nat) (H : Hp) : Prop :=
  ∃ bs rs, Dc K H0 H d sa ns ∧ H0 l = none ∧ H wt = some (.tup (us.map V.int)) ∧ H l = some (.lst (bs.map V.ref)) ∧ RowsAt H bs rs ∧ rs.length = i ∧ ∀ r ∈ rs, r.ok us.length N
theorem AnyAt.put {K : Frg} {H0 H : Hp} {d sa : Addr} {ns : List Int} {wt : Addr} {us : List Int} {l : Addr} {N : Nat} {i : Nat} {bs : List Addr} {rs : List Row} {t : Addr} {r : Row} (C : Dc K H0 H d sa ns) (n0 : H0 l = none) (hw : H wt = some (.tup (us.map V.int)))
    (hl : H l = some (.lst (bs.map V.ref))) (hR : RowsAt H bs rs) (hi : rs.length = i) (ho : ∀ r ∈ rs, r.ok us.length N) (ht : H t = some (.tup (rowVs r))) (hr : r.ok us.length N) : AnyAt K H0 d sa ns wt us l N (i + 1) (upd H l (.lst (bs.map V.ref ++ [.ref t]))) := by
  have k : Kp H (upd H l (.lst (bs.map V.ref ++ [.ref t]))) := Kp.lst hl
  exact ⟨bs ++ [t], rs ++ [r], C.mut n0, n0, k _ _ hw, by rw [upd_same, List.map_append]; rfl, RowsAt.kp (Paired.app hR (Paired.one ht)) k, by rw [List.length_append, hi]; rfl, all_snoc ho hr⟩
def spAny (K : Frg) : Sp := fun vs H Q _ => ∃ (d sa : Addr) (ns : List Int), vs = [.ref d] ∧ Ent K H d sa ns ∧
  ∀ b q H', Dc K H H' d sa ns → ProgAt H' b q → Good q → Q (.ref b) H'
section
variable {P : Program} {w : World} {K : PySem.W.Frag} {mg : Str → Option Value} {base : Heap}
abbrev nAny : List Str := ["_law_d", "_law_many", "_law_rows", "_law_worths", "_law_size", "_law_number", "_law_near", "_law_way", "_law_k"]
end
end DL
namespace DL
open PySem L2 DLR
/-! ### the machine -/
def ring (n : Int) : Int := (n + 1000000000) % 2000000000 - 1000000000
structure Mach where
  desk : Int
  ws : List Int
  said : List Int
def InR (x : Int) : Prop := -1000000000 ≤ x ∧ x < 1000000000
theorem ring_in (n : Int) : InR (ring n) := by
  have h0 := Int.emod_nonneg (n + 1000000000) (show (2000000000 : Int) ≠ 0 by decide)
  have h1 := Int.emod_lt_of_pos (n + 1000000000) (show (0 : Int) < 2000000000 by decide)
  unfold ring InR
  omega
theorem ring_id {n : Int} (h : InR n) : ring n = n := by
  unfold ring
  rw [Int.emod_eq_of_lt (by unfold InR at h; omega) (by unfold InR at h; omega)]
  omega
theorem ring_add (a b : Int) : ring (ring a + b) = ring (a + b) := by
  unfold ring
  have e : (a + 1000000000) % 2000000000 - 1000000000 + b + 1000000000 = (a + 1000000000) % 2000000000 + b := by omega
  rw [e, Int.emod_add_emod]
  have e2 : a + 1000000000 + b = a + b + 1000000000 := by omega
  rw [e2]
structure MOk (m : Mach) : Prop where
  desk : InR m.desk
  ws : ∀ x ∈ m.ws, InR x
def Mach.at (m : Mach) (w : Nat) : Int := m.ws.getD w 0
def stepM (m : Mach) : Row → Mach × Option Nat
  | .load w n => ({ m with desk := m.at w }, some n)
  | .add w n => ({ m with desk := ring (m.desk + m.at w) }, some n)
  | .take w n => ({ m with desk := ring (m.desk - m.at w) }, some n)
  | .store w n => ({ m with ws := m.ws.set w m.desk }, some n)
  | .say n => ({ m with said := m.said ++ [m.desk] }, some n)
  | .test a b => (m, some (if m.desk = 0 then a else b))
  | .stop => (m, none)
theorem at_in {m : Mach} (h : MOk m) {w : Nat} (hw : w < m.ws.length) : m.ws[w]? = some (m.at w) ∧ InR (m.at w) := by
  have e : m.ws[w]? = some (m.at w) := by
    unfold Mach.at
    rw [List.getD_eq_getElem?_getD, List.getElem?_eq_getElem hw]
    rfl
  exact ⟨e, h.ws _ (List.mem_of_getElem? e)⟩
theorem stepM_ok {m : Mach} (h : MOk m) {r : Row} {N : Nat} (ho : r.ok m.ws.length N) : MOk (stepM m r).1 ∧ (stepM m r).1.ws.length = m.ws.length ∧ (stepM m r).1.said.length ≤ m.said.length + 1 ∧ ∀ n, (stepM m r).2 = some n → n < N := by
  cases r with
  | load w n => exact ⟨⟨(at_in h ho.1).2, h.ws⟩, rfl, Nat.le_succ _, fun k e => by cases e; exact ho.2⟩
  | add w n => exact ⟨⟨ring_in _, h.ws⟩, rfl, Nat.le_succ _, fun k e => by cases e; exact ho.2⟩
  | take w n => exact ⟨⟨ring_in _, h.ws⟩, rfl, Nat.le_succ _, fun k e => by cases e; exact ho.2⟩
  | store w n =>
    refine ⟨⟨h.desk, fun x hx => ?_⟩, List.length_set .., Nat.le_succ _, fun k e => by cases e; exact ho.2⟩
    rcases List.mem_or_eq_of_mem_set hx with q | q
    · exact h.ws x q
    · rw [q]; exact h.desk
  | say n => exact ⟨⟨h.desk, h.ws⟩, rfl, by show (m.said ++ [m.desk]).length ≤ _; rw [List.length_append]; exact Nat.le_refl _, fun k e => by cases e; exact ho⟩
  | test a b =>
    refine ⟨h, rfl, Nat.le_succ _, fun k e => ?_⟩
    have e : (if m.desk = 0 then a else b) = k := Option.some.inj e
    rw [← e]
    split
    · exact ho.1
    · exact ho.2
  | stop => exact ⟨h, rfl, Nat.le_succ _, fun k e => by cases e⟩
def oV : Option Nat → V
  | none => .non
  | some n => .int (n : Int)
/-! ### the law's own machine: a dict -/
def kW : Key := .inr "worths"
def kD : Key := .inr "desk"
def kS : Key := .inr "said"
theorem k_WD : kW ≠ kD := by decide +kernel
theorem k_WS : kW ≠ kS := by decide +kernel
theorem k_DS : kD ≠ kS := by decide +kernel
structure LawM (ex : Key → Option V) (H : Hp) (ad aw as_ : Addr) (m : Mach) : Prop where
  dic : ∃ kvs : List (Key × V), H ad = some (.dK kvs) ∧ kvs.length ≤ 100 ∧ valV kvs kW = some (.ref aw) ∧ valV kvs kD = some (.int m.desk) ∧ valV kvs kS = some (.ref as_) ∧ ∀ k, k ≠ kW → k ≠ kD → k ≠ kS → valV kvs k = ex k
  ws : H aw = some (.lst (m.ws.map V.int))
  said : H as_ = some (.lst (m.said.map V.int))
  ne : aw ≠ as_
def But3 (a b c : Addr) (H H' : Hp) : Prop := ∀ x o, x ≠ a → x ≠ b → x ≠ c → H x = some o → H' x = some o
theorem But3.of {a b c : Addr} {H H' : Hp} (s : Same1 H H') : But3 a b c H H' := fun x o _ _ _ h => s x o h
theorem But3.trans {a b c : Addr} {H H1 H2 : Hp} (s : But3 a b c H H1) (t : But3 a b c H1 H2) : But3 a b c H H2 := fun x o h1 h2 h3 h => t x o h1 h2 h3 (s x o h1 h2 h3 h)
theorem But3.upd1 {a b c : Addr} {H : Hp} {o : HO} : But3 a b c H (upd H a o) := fun x u h _ _ e => by rw [upd_ne h]; exact e
theorem But3.upd2 {a b c : Addr} {H : Hp} {o : HO} : But3 a b c H (upd H b o) := fun x u _ h _ e => by rw [upd_ne h]; exact e
theorem But3.upd3 {a b c : Addr} {H : Hp} {o : HO} : But3 a b c H (upd H c o) := fun x u _ _ h e => by rw [upd_ne h]; exact e
theorem LawM.same {ex : Key → Option V} {H H' : Hp} {ad aw as_ : Addr} {m : Mach} (h : LawM ex H ad aw as_ m) (s : Same1 H H') : LawM ex H' ad aw as_ m := by
  obtain ⟨⟨kvs, h1, h2⟩, h3, h4, h5⟩ := h
  exact ⟨⟨kvs, s _ _ h1, h2⟩, s _ _ h3, s _ _ h4, h5⟩
theorem put_len {κ : Type} [DecidableEq κ] {kvs : List (κ × V)} {k : κ} {v x : V} (h : valV kvs k = some x) : (putK kvs k v).length = kvs.length := by
  unfold putK
  rw [valV_any, h, if_pos (by rfl), List.length_map]
theorem LawM.put {ex : Key → Option V} {H : Hp} {ad aw as_ : Addr} {m : Mach} {kvs : List (Key × V)} {z : Int} (h : LawM ex H ad aw as_ m) (e : H ad = some (.dK kvs)) : LawM ex (upd H ad (.dK (putK kvs kD (.int z)))) ad aw as_ { m with desk := z } := by
  obtain ⟨⟨kvs', h1, h2, h3, h4, h5, h9⟩, h6, h7, h8⟩ := h
  rw [e] at h1
  have q : kvs = kvs' := by injection (Option.some.inj h1)
  subst q
  have nw : aw ≠ ad := ne_of h6 e (by intro z; cases z)
  have ns : as_ ≠ ad := ne_of h7 e (by intro z; cases z)
  refine ⟨⟨putK kvs kD (.int z), upd_same, by rw [put_len h4]; exact h2, ?_, ?_, ?_, fun k a b c => by rw [valV_put, if_neg (fun z => b z)]; exact h9 k a b c⟩, by rw [upd_ne nw]; exact h6, by rw [upd_ne ns]; exact h7, h8⟩
  · rw [valV_put, if_neg k_WD]; exact h3
  · rw [valV_put, if_pos rfl]
  · rw [valV_put, if_neg k_DS.symm]; exact h5
theorem dget {H : Hp} {a : Addr} {kvs : List (Key × V)} {k : Key} {v : V} (e : H a = some (.dK kvs)) (h : valV kvs k = some v) : DGet H a (kV k) (some v) := by
  have q := DGet.k (k := k) e
  rw [h] at q
  exact q
def Row.ar : Row → Bool
  | .load _ _ => true
  | .add _ _ => true
  | .take _ _ => true
  | _ => false
theorem Row.in3 (r : Row) : inV (.str r.word) [.str "load", .str "add", .str "take"] = r.ar := by cases r <;> (dsimp only [Row.word, Row.ar]; decide +kernel)
def Row.isWd (s : Str) (r : Row) : Bool := decide (V.str r.word = V.str s)
def Row.fac (r : Row) : Int × Int := match r with
  | .load _ _ => (0, 1)
  | .take _ _ => (1, -1)
  | _ => (1, 1)
theorem Row.f1 (r : Row) : (if (!decide (V.str r.word = V.str "load")) = true then (1 : Int) else 0) = r.fac.1 := by
  cases r with
  | load _ _ => exact (by decide +kernel : (if (!decide (V.str "load" = V.str "load")) = true then (1 : Int) else 0) = 0)
  | add _ _ => exact (by decide +kernel : (if (!decide (V.str "add" = V.str "load")) = true then (1 : Int) else 0) = 1)
  | take _ _ => exact (by decide +kernel : (if (!decide (V.str "take" = V.str "load")) = true then (1 : Int) else 0) = 1)
  | store _ _ => exact (by decide +kernel : (if (!decide (V.str "store" = V.str "load")) = true then (1 : Int) else 0) = 1)
  | say _ => exact (by decide +kernel : (if (!decide (V.str "say" = V.str "load")) = true then (1 : Int) else 0) = 1)
  | test _ _ => exact (by decide +kernel : (if (!decide (V.str "test" = V.str "load")) = true then (1 : Int) else 0) = 1)
  | stop  => exact (by decide +kernel : (if (!decide (V.str "stop" = V.str "load")) = true then (1 : Int) else 0) = 1)
theorem Row.f2 (r : Row) : atI ([V.int 1, V.int (-1)] : List V) (if decide (V.str r.word = V.str "take") = true then (1 : Int) else 0) = some (.int r.fac.2) := by
  cases r with
  | load _ _ => exact (by decide +kernel : atI ([V.int 1, V.int (-1)] : List V) (if decide (V.str "load" = V.str "take") = true then (1 : Int) else 0) = some (.int (1)))
  | add _ _ => exact (by decide +kernel : atI ([V.int 1, V.int (-1)] : List V) (if decide (V.str "add" = V.str "take") = true then (1 : Int) else 0) = some (.int (1)))
  | take _ _ => exact (by decide +kernel : atI ([V.int 1, V.int (-1)] : List V) (if decide (V.str "take" = V.str "take") = true then (1 : Int) else 0) = some (.int (-1)))
  | store _ _ => exact (by decide +kernel : atI ([V.int 1, V.int (-1)] : List V) (if decide (V.str "store" = V.str "take") = true then (1 : Int) else 0) = some (.int (1)))
  | say _ => exact (by decide +kernel : atI ([V.int 1, V.int (-1)] : List V) (if decide (V.str "say" = V.str "take") = true then (1 : Int) else 0) = some (.int (1)))
  | test _ _ => exact (by decide +kernel : atI ([V.int 1, V.int (-1)] : List V) (if decide (V.str "test" = V.str "take") = true then (1 : Int) else 0) = some (.int (1)))
  | stop  => exact (by decide +kernel : atI ([V.int 1, V.int (-1)] : List V) (if decide (V.str "stop" = V.str "take") = true then (1 : Int) else 0) = some (.int (1)))
theorem Row.wd_eq (r : Row) : r.isWd "test" = (match r with | .test _ _ => true | _ => false) ∧ r.isWd "store" = (match r with | .store _ _ => true | _ => false) ∧ r.isWd "say" = (match r with | .say _ => true | _ => false) ∧ r.isWd "stop" = (match r with | .stop => true | _ => false) := by
  cases r with
  | load _ _ => exact (by decide +kernel : decide (V.str "load" = V.str "test") = false ∧ decide (V.str "load" = V.str "store") = false ∧ decide (V.str "load" = V.str "say") = false ∧ decide (V.str "load" = V.str "stop") = false)
  | add _ _ => exact (by decide +kernel : decide (V.str "add" = V.str "test") = false ∧ decide (V.str "add" = V.str "store") = false ∧ decide (V.str "add" = V.str "say") = false ∧ decide (V.str "add" = V.str "stop") = false)
  | take _ _ => exact (by decide +kernel : decide (V.str "take" = V.str "test") = false ∧ decide (V.str "take" = V.str "store") = false ∧ decide (V.str "take" = V.str "say") = false ∧ decide (V.str "take" = V.str "stop") = false)
  | store _ _ => exact (by decide +kernel : decide (V.str "store" = V.str "test") = false ∧ decide (V.str "store" = V.str "store") = true ∧ decide (V.str "store" = V.str "say") = false ∧ decide (V.str "store" = V.str "stop") = false)
  | say _ => exact (by decide +kernel : decide (V.str "say" = V.str "test") = false ∧ decide (V.str "say" = V.str "store") = false ∧ decide (V.str "say" = V.str "say") = true ∧ decide (V.str "say" = V.str "stop") = false)
  | test _ _ => exact (by decide +kernel : decide (V.str "test" = V.str "test") = true ∧ decide (V.str "test" = V.str "store") = false ∧ decide (V.str "test" = V.str "say") = false ∧ decide (V.str "test" = V.str "stop") = false)
  | stop  => exact (by decide +kernel : decide (V.str "stop" = V.str "test") = false ∧ decide (V.str "stop" = V.str "store") = false ∧ decide (V.str "stop" = V.str "say") = false ∧ decide (V.str "stop" = V.str "stop") = true)
theorem Row.ar_of {r : Row} (h : r.ar = true) {W N : Nat} (ho : r.ok W N) : ∃ w n : Nat, (rowVs r)[1]? = some (.int (w : Int)) ∧ w < W ∧ atI (rowVs r) (-1) = some (.int (n : Int)) ∧
    ∀ m : Mach, MOk m → w < m.ws.length → stepM m r = ({ m with desk := ring (m.desk * r.fac.1 + m.at w * r.fac.2) }, some n) := by
  cases r with
  | load w n =>
    refine ⟨w, n, rfl, ho.1, rfl, fun m hm hw => ?_⟩
    show ({ m with desk := m.at w }, some n) = ({ m with desk := ring (m.desk * 0 + m.at w * 1) }, some n)
    rw [Int.mul_zero, Int.zero_add, Int.mul_one, ring_id (at_in hm hw).2]
  | add w n =>
    refine ⟨w, n, rfl, ho.1, rfl, fun m hm hw => ?_⟩
    show ({ m with desk := ring (m.desk + m.at w) }, some n) = ({ m with desk := ring (m.desk * 1 + m.at w * 1) }, some n)
    rw [Int.mul_one, Int.mul_one]
  | take w n =>
    refine ⟨w, n, rfl, ho.1, rfl, fun m hm hw => ?_⟩
    show ({ m with desk := ring (m.desk - m.at w) }, some n) = ({ m with desk := ring (m.desk * 1 + m.at w * -1) }, some n)
    rw [Int.mul_one, Int.mul_neg_one]
    rfl
  | store w n => cases h
  | say n => cases h
  | test a b => cases h
  | stop => cases h
theorem Row.fb (r : Row) : (0 ≤ r.fac.1 ∧ r.fac.1 ≤ 1) ∧ (-1 ≤ r.fac.2 ∧ r.fac.2 ≤ 1) := by cases r <;> (dsimp only [Row.fac]; decide)
abbrev sRing : Stmt := top 70
abbrev FRing (K : Frg) (mg : Str → Option Value) := Fd K mg "_law_ring" sRing ["_law_number"]
def spRing : Sp := fun vs H Q _ => ∃ n : Int, vs = [.int n] ∧ Q (.int (ring n)) H
abbrev sStep : Stmt := top 71
abbrev FStep (K : Frg) (mg : Str → Option Value) := Fd K mg "_law_step" sStep ["_law_s", "_law_row"]
def spStep : Sp := fun vs H Q _ => ∃ (ex : Key → Option V) (ad aw as_ ra : Addr) (m : Mach) (r : Row) (N : Nat), vs = [.ref ad, .ref ra] ∧ LawM ex H ad aw as_ m ∧ MOk m ∧ m.said.length ≤ 9000 ∧ H ra = some (.tup (rowVs r)) ∧ r.ok m.ws.length N ∧
  ∀ H', But3 ad aw as_ H H' → LawM ex H' ad aw as_ (stepM m r).1 → Q (oV (stepM m r).2) H'
section
variable {P : Program} {w : World} {K : PySem.W.Frag} {mg : Str → Option Value} {base : Heap}
theorem scRing : FnScope ["_law_number"] ["_law_number"] (defScope sRing) := ⟨rfl, rfl, rfl, by decide +kernel, rfl, by decide +kernel, by decide +kernel⟩
theorem ok_ring (c : FRing K mg) : FnOk P w K mg base CX0 1 c.f c.fd ["_law_number"] spRing := by
  refine c.F.ok scRing (fun vs H Q E h => ?_) (fun cdv A outer s H vs Q E hr h => ?_)
  · obtain ⟨n, rfl, _⟩ := h
    rfl
  · obtain ⟨n, rfl, k⟩ := h
    refine ⟨_, (pss_one (ps_ret (pe_op op_sub (pe_op op_mod (pe_op op_add (pv 0) (pe_op op_pow pe_int pe_int)) (pe_op op_mul pe_int (pe_op op_pow pe_int pe_int))) (pe_op op_pow pe_int pe_int)))), ?_⟩
    refine ⟨_, rfl, _, _, rfl, rfl, ⟨by decide, by decide, by decide⟩, _, _, rfl, rfl, _, _, rfl, rfl, ⟨by decide, by decide, by decide⟩, _, _, rfl, rfl, .inl ⟨by decide, by decide⟩, _, _, rfl, rfl, ?_, _, _, rfl, rfl, ⟨by decide, by decide, by decide⟩, _, _, rfl, rfl, ?_⟩
    · show (0 : Int) < 2 * 10 ^ (9 : Int).toNat
      decide
    · have e : (10 : Int) ^ (9 : Int).toNat = 1000000000 := by decide
      show Q (V.int ((n + 10 ^ (9 : Int).toNat) % (2 * 10 ^ (9 : Int).toNat) - 10 ^ (9 : Int).toNat)) H
      rw [e, show (2 : Int) * 1000000000 = 2000000000 by decide]
      exact k
abbrev nStep : List Str := ["_law_s", "_law_row", "_law_number"]
theorem scStep : FnScope nStep ["_law_s", "_law_row"] (defScope sStep) := ⟨rfl, rfl, rfl, by decide +kernel, rfl, by decide +kernel, by decide +kernel⟩
theorem ok_step (cStep : FStep K mg) (cRing : FRing K mg) (T : Bt mg) : FnOk P w K mg base CX0 2 cStep.f cStep.fd ["_law_s", "_law_row"] spStep := by
  have GRing : FnOk P w K mg base CX0 1 cRing.f cRing.fd ["_law_number"] spRing := ok_ring cRing
  refine cStep.F.ok scStep (fun vs H Q E h => ?_) (fun cdv A outer s H vs Q E hr h => ?_)
  · obtain ⟨ex, ad, aw, as_, ra, m, r, N, rfl, _⟩ := h
    rfl
  · obtain ⟨ex, ad, aw, as_, ra, m, r, N, rfl, hM, hO, hS, hr0, ho, k⟩ := h
    refine ⟨_, (pss_cons (ps_if (pt_cmpR op_in_seq (pe_ix ix_tup (pv 1) pe_int (fun _ _ => rfl)) (pe_tup (pa_cons pe_str (pa_cons pe_str (pa_cons pe_str pa_nil)))) rfl)
          (pss_cons (ps_set (i := 2) scStep.nd rfl (Or.inl rfl) (pe_ix ix_list (pe_dget (hu_of hr) (pv 0) pe_str (fun _ _ => rfl)) (pe_ix ix_tup (pv 1) pe_int (fun _ _ => rfl)) (fun _ _ => rfl)))
          (pss_one (ps_dput (hu_of hr) (pv 0) pe_str (pe_call GRing (hr.mono (by first | omega | decide)) (by rfl) cRing.m cRing.F.kp cRing.b .nil pass0 (pa_cons (pe_op op_add (pe_op op_mul (pe_dget (hu_of hr) (pv 0) pe_str (fun _ _ => rfl)) (pe_callTy call_int1 (by rfl) T.int (by decide +kernel) (pa_cons (pe_cmpR op_ne (pe_ix ix_tup (pv 1) pe_int (fun _ _ => rfl)) pe_str (nomark _)) pa_nil))) (pe_op op_mul (pv 2) (pe_ix ix_list (pe_lst (pa_cons pe_int (pa_cons (pe_un un_neg pe_int) pa_nil))) (pe_callTy call_int1 (by rfl) T.int (by decide +kernel) (pa_cons (pe_cmpR op_eq (pe_ix ix_tup (pv 1) pe_int (fun _ _ => rfl)) pe_str (nomark _)) pa_nil)) (fun _ _ => rfl)))) pa_nil)) rfl)))
          (pss_one (ps_if (pt_cmpR op_eq (pe_ix ix_tup (pv 1) pe_int (fun _ _ => rfl)) pe_str (nomark _))
              (pss_one (ps_asg (pe_dget (hu_of hr) (pv 0) pe_str (fun _ _ => rfl)) (pg_sub (pe_dget (hu_of hr) (pv 0) pe_str (fun _ _ => rfl)) (pe_ix ix_tup (pv 1) pe_int (fun _ _ => rfl)) set_list)))
              (pss_one (ps_if (pt_cmpR op_eq (pe_ix ix_tup (pv 1) pe_int (fun _ _ => rfl)) pe_str (nomark _))
                  (pss_one (ps_expr (pe_bm PySem.F.plainAttrs_list PySem.F.slot_list_append PySem.F.type_list_append mt_append (pe_dget (hu_of hr) (pv 0) pe_str (fun _ _ => rfl)) (pa_cons (pe_dget (hu_of hr) (pv 0) pe_str (fun _ _ => rfl)) pa_nil))))
                  (pss_one (ps_if (pt_cmpR op_eq (pe_ix ix_tup (pv 1) pe_int (fun _ _ => rfl)) pe_str (nomark _))
                      (pss_one (ps_ret pe_non))
                      pss_nil)))))))
      (pss_one (ps_ret (pe_ifExp (pt_cmpR op_eq (pe_ix ix_tup (pv 1) pe_int (fun _ _ => rfl)) pe_str (nomark _)) (pe_ix ix_tup (pv 1) (pe_op op_add pe_int (pe_callTy call_int1 (by rfl) T.int (by decide +kernel) (pa_cons (pe_cmpR op_ne (pe_dget (hu_of hr) (pv 0) pe_str (fun _ _ => rfl)) pe_int (nomark _)) pa_nil))) (fun _ _ => rfl)) (pe_ix ix_tup (pv 1) (pe_un un_neg pe_int) (fun _ _ => rfl)))))), ?_⟩
    refine ⟨_, rfl, ra, _, _, _, rfl, rfl, SqT.of hr0, atI_nat (j := 0) (Row.w0 r), (by show 3 ≤ sizeLine; decide), fun t1 ht1 => ?_⟩
    refine alloc ht1 fun H1 s1 e1 => ?_
    have hM1 := hM.same s1
    have hr1 := s1 _ _ hr0
    refine ⟨t1, _, rfl, .inr (SqT.of e1), rfl, rfl, r.ar, ?_, ?_⟩
    · show V.bl (inV (.str r.word) [.str "load", .str "add", .str "take"]) = _
      rw [Row.in3]
    obtain ⟨kvs, d1, d2, d3, d4, d5, d6⟩ := hM1.dic
    -- behind the arithmetic of a row that goes on to n
    have last : ∀ (σ : L2.St) (H2 : Hp) (Q2 : VK) (n : Nat), σ[1]? = some (some (.ref ra)) → H2 ra = some (.tup (rowVs r)) → r.isWd "test" = false → atI (rowVs r) (-1) = some (.int (n : Int)) → Q2 (.int (n : Int)) H2 →
        tIf (tTest (tOp rEq (tOp (rIxT K) (tVar 1) (tC (.int 0))) (tC (.str "test")))) (tOp (rIxT K) (tVar 1) (tOp (rI0 fun i j => .int (i + j)) (tC (.int 1)) (tCB (fun xs H Q => (∃ i, xs = [V.int i] ∧ Q (.int i) H) ∨ ∃ k, xs = [V.bl k] ∧ Q (.int (if k then 1 else 0)) H) (tCons (tOp rNe (tDGet (tVar 0) (tC (.str "desk"))) (tC (.int 0))) tNil))))
          (tOp (rIxT K) (tVar 1) (tUn (rU fun i => .int (-i)) (tC (.int 1)))) σ H2 Q2 := by
      intro σ H2 Q2 n h1 h2 h3 h4 h5
      refine ⟨_, h1, ra, _, _, _, rfl, rfl, SqT.of h2, atI_nat (j := 0) (Row.w0 r), rfl, r.isWd "test", rfl, ?_⟩
      rw [h3]
      exact iteF ⟨_, h1, _, rfl, ra, _, _, _, rfl, rfl, SqT.of h2, h4, h5⟩
    cases hA : r.ar with
    | true =>
      obtain ⟨w1, n, g1, g2, g3, g4⟩ := Row.ar_of hA ho
      have ge := g4 m hO g2
      have hat := (at_in hO g2).1
      have hatV : (m.ws.map V.int)[w1]? = some (.int (m.at w1)) := by rw [List.getElem?_map, hat]; rfl
      have hT : r.isWd "test" = false := by
        rw [(Row.wd_eq r).1]
        cases r <;> first | rfl | cases hA
      have fb := Row.fb r
      refine iteT ?_
      refine ⟨_, rfl, ad, _, rfl, dget (k := kW) d1 d3, _, rfl, ra, _, _, _, rfl, rfl, SqT.of hr1, atI_nat (j := 1) g1, aw, _, _, _, rfl, rfl, SqL.of hM1.ws, atI_nat hatV, ?_⟩
      have c1 : -(2 ^ 64) < (if (!decide (V.str r.word = V.str "load")) = true then (1 : Int) else 0) ∧ (if (!decide (V.str r.word = V.str "load")) = true then (1 : Int) else 0) < 2 ^ 64 := by
        rw [Row.f1]; omega
      refine ⟨_, rfl, ad, _, rfl, dget (k := kD) d1 d4, _, rfl, ra, _, _, _, rfl, rfl, SqT.of hr1, atI_nat (j := 0) (Row.w0 r), rfl, .inr ⟨_, rfl, _, _, rfl, rfl, .inr c1, _, rfl, _, rfl, (by show 2 ≤ sizeLine; decide), fun l hl => ?_⟩⟩
      refine alloc hl fun H2 s2 e2 => ?_
      have d1' := s2 _ _ d1
      refine ⟨_, rfl, ra, _, _, _, rfl, rfl, SqT.of (s2 _ _ hr1), atI_nat (j := 0) (Row.w0 r), rfl, .inr ⟨_, rfl, l, _, _, _, rfl, rfl, SqL.of e2, Row.f2 r, _, _, rfl, rfl, .inr ⟨by omega, by omega⟩, _, _, rfl, rfl, _, rfl, ?_⟩⟩
      refine ⟨_, rfl, ad, _, rfl, DPut.k (k := kD) d1' (szl (by omega)), ?_⟩
      rw [Row.f1]
      have hM2 := (hM1.same s2).put (z := ring (m.desk * r.fac.1 + m.at w1 * r.fac.2)) d1'
      have B3 : But3 ad aw as_ H (upd H2 ad (.dK (putK kvs kD (.int (ring (m.desk * r.fac.1 + m.at w1 * r.fac.2)))))) := (But3.of (s1.trans s2)).trans But3.upd1
      have hra2 : (upd H2 ad (.dK (putK kvs kD (.int (ring (m.desk * r.fac.1 + m.at w1 * r.fac.2)))))) ra = some (.tup (rowVs r)) := by
        rw [upd_ne (ne_of (s2 _ _ hr1) d1' (by intro z; cases z))]; exact s2 _ _ hr1
      refine last _ _ _ n rfl hra2 hT g3 ?_
      have q := k _ B3 (by rw [ge]; exact hM2)
      rw [ge] at q
      exact q
    | false =>
      refine iteF ?_
      obtain ⟨w1, w2, w3, w4⟩ := Row.wd_eq r
      refine ⟨_, rfl, ra, _, _, _, rfl, rfl, SqT.of hr1, atI_nat (j := 0) (Row.w0 r), rfl, r.isWd "store", rfl, ?_⟩
      cases r with
      | load w n => cases hA
      | add w n => cases hA
      | take w n => cases hA
      | store w n =>
        rw [w2]
        have hat : (m.ws.map V.int)[w]? = some (.int (m.at w)) := by rw [List.getElem?_map, (at_in hO ho.1).1]; rfl
        refine iteT ⟨_, rfl, ad, _, rfl, dget (k := kD) d1 d4, _, rfl, ad, _, rfl, dget (k := kW) d1 d3, _, rfl, ra, _, _, _, rfl, rfl, SqT.of hr1, at1, aw, _, _, w, rfl, rfl, hM1.ws, ixN_nat (by rw [List.length_map]; exact ho.1), ?_⟩
        have ena : ad ≠ aw := ne_of d1 hM1.ws (by intro z; cases z)
        have hra2 : (upd H1 aw (.lst ((m.ws.map V.int).set w (.int m.desk)))) ra = some (.tup (rowVs (.store w n))) := by
          rw [upd_ne (ne_of hr1 hM1.ws (by intro z; cases z))]; exact hr1
        refine last _ _ _ n rfl hra2 w1 rfl (k _ ((But3.of s1).trans But3.upd2) ⟨⟨kvs, by rw [upd_ne ena]; exact d1, d2, d3, d4, d5, d6⟩, ?_, ?_, hM1.ne⟩)
        · rw [upd_same]
          show _ = some (HO.lst ((m.ws.set w m.desk).map V.int))
          rw [List.map_set]
        · rw [upd_ne hM1.ne.symm]; exact hM1.said
      | say n =>
        rw [w2]
        refine iteF ⟨_, rfl, ra, _, _, _, rfl, rfl, SqT.of hr1, atI_nat (j := 0) (Row.w0 (.say n)), rfl, Row.isWd "say" (.say n), rfl, ?_⟩
        rw [w3]
        refine iteT ⟨_, rfl, ad, _, rfl, dget (k := kS) d1 d5, .inl ⟨rfl, _, SqL.of hM1.said⟩, _, rfl, ad, _, rfl, dget (k := kD) d1 d4, as_, _, _, rfl, rfl, hM1.said, szl (by rw [List.length_map]; omega), ?_⟩
        have ena : ad ≠ as_ := ne_of d1 hM1.said (by intro z; cases z)
        have hra2 : (upd H1 as_ (.lst (m.said.map V.int ++ [.int m.desk]))) ra = some (.tup (rowVs (.say n))) := by
          rw [upd_ne (ne_of hr1 hM1.said (by intro z; cases z))]; exact hr1
        refine last _ _ _ n rfl hra2 w1 rfl (k _ ((But3.of s1).trans But3.upd3) ⟨⟨kvs, by rw [upd_ne ena]; exact d1, d2, d3, d4, d5, d6⟩, ?_, ?_, hM1.ne⟩)
        · rw [upd_ne hM1.ne]; exact hM1.ws
        · rw [upd_same]
          show _ = some (HO.lst ((m.said ++ [m.desk]).map V.int))
          rw [List.map_append]
          rfl
      | test a b =>
        rw [w2]
        refine iteF ⟨_, rfl, ra, _, _, _, rfl, rfl, SqT.of hr1, atI_nat (j := 0) (Row.w0 (.test a b)), rfl, Row.isWd "say" (.test a b), rfl, ?_⟩
        rw [w3]
        refine iteF ⟨_, rfl, ra, _, _, _, rfl, rfl, SqT.of hr1, atI_nat (j := 0) (Row.w0 (.test a b)), rfl, Row.isWd "stop" (.test a b), rfl, ?_⟩
        rw [w4]
        refine iteF ⟨_, rfl, ra, _, _, _, rfl, rfl, SqT.of hr1, atI_nat (j := 0) (Row.w0 (.test a b)), rfl, Row.isWd "test" (.test a b), rfl, ?_⟩
        rw [w1]
        refine iteT ⟨_, rfl, _, rfl, ad, _, rfl, dget (k := kD) d1 d4, rfl, .inr ⟨_, rfl, _, _, rfl, rfl, ra, _, _, .int ((if m.desk = 0 then a else b : Nat) : Int), rfl, rfl, SqT.of hr1, ?_, k _ (But3.of s1) hM1⟩⟩
        by_cases c : m.desk = 0
        · rw [if_pos c, c]
          exact at1
        · have e : decide (V.int m.desk = V.int 0) = false := decide_eq_false fun q => c (by injection q)
          rw [if_neg c, e]
          exact at2
      | stop =>
        rw [w2]
        refine iteF ⟨_, rfl, ra, _, _, _, rfl, rfl, SqT.of hr1, atI_nat (j := 0) (Row.w0 .stop), rfl, Row.isWd "say" .stop, rfl, ?_⟩
        rw [w3]
        refine iteF ⟨_, rfl, ra, _, _, _, rfl, rfl, SqT.of hr1, atI_nat (j := 0) (Row.w0 .stop), rfl, Row.isWd "stop" .stop, rfl, ?_⟩
        rw [w4]
        exact iteT (k _ (But3.of s1) hM1)
end
end DL
namespace DLR
open PySem PySem.Spec PyProof.Rows L2
/-! ### sorted(a dict whose keys are pairs of whole numbers), any number of them -/
def pairH (H : Hp) (a : Addr) : Int × Int := match H a with
  | some (.tup [.int i, .int j]) => (i, j)
  | _ => (0, 0)
theorem pairH_of {H : Hp} {a : Addr} {i j : Int} (h : H a = some (.tup [.int i, .int j])) : pairH H a = (i, j) := by
  unfold pairH
  rw [h]
def pairV (H : Hp) : Value → Int × Int
  | .ref a => pairH H a
  | _ => (0, 0)
def keyP (q : Int × Int) : List Key := [Sum.inl q.1, Sum.inl q.2]
def PairsAt (H : Hp) (bs : List Addr) (L : List (Int × Int)) : Prop := Paired (fun b q => H b = some (.tup [.int q.1, .int q.2])) bs L
theorem pairs_of_map {H : Hp} : ∀ {bs : List Addr}, (∀ b ∈ bs, H b = some (.tup [.int (pairH H b).1, .int (pairH H b).2])) → PairsAt H bs (bs.map (pairH H))
  | [], _ => .nil
  | b :: bs, h => .cons (h b List.mem_cons_self) (pairs_of_map fun c hc => h c (List.mem_cons_of_mem _ hc))
theorem keys_pairs {H : Hp} {kvs : List (List Key × V)} {ks : List (List Key × Addr × Value)} (r : KT H kvs ks) : ∀ {ps : List (Int × Int)}, kvs.map (·.1) = ps.map keyP → PairsAt H (ks.map fun x => x.2.1) ps := by
  induction r with
  | nil =>
    intro ps h
    cases ps with
    | nil => exact .nil
    | cons q ps => cases h
  | @cons p x pt xt h t ih =>
    intro ps hp
    cases ps with
    | nil => cases hp
    | cons q ps =>
      obtain ⟨e1, e2⟩ := List.cons.inj hp
      refine .cons ?_ (ih e2)
      have z := h.2.1
      have e1 : p.1 = keyP q := e1
      rw [e1] at z
      exact z
theorem pairs_map {H : Hp} : ∀ {bs : List Addr} {ps : List (Int × Int)}, PairsAt H bs ps → bs.map (pairH H) = ps
  | _, _, .nil => rfl
  | _, _, .cons h t => by
    rw [List.map_cons, pairs_map t, pairH_of h]
def rSortedDT : List V → Hp → VK → Prop := fun vs H Q => ∃ (d : Addr) (kvs : List (List Key × V)) (ps : List (Int × Int)), vs = [V.ref d] ∧ Rd H d (.dT kvs) ∧ kvs.map (·.1) = ps.map keyP ∧
  ∀ (p : Addr) (ys : List Addr) (L : List (Int × Int)), PairsAt H ys L → SrtO.Srtd SrtO.lexB L → SrtO.Stb SrtO.lexB L ps → H p = none → Q (.ref p) (upd H p (.lst (ys.map V.ref)))
theorem cr_sortedDT {X : Cx} (hc : X.calm = true) : CallR X (.builtin "sorted") rSortedDT := by
  intro pins s σ H vs us Q I r h
  obtain ⟨d, kvs, ps, rfl, hd, hps, q⟩ := h
  obtain ⟨u, rfl, rx⟩ := r.one
  cases rx
  obtain ⟨z, hs, ks, pr, o, es, ep, ho, hx, hdt, he, hn⟩ := (show ObjOk X.prog X.w H s.heap d (.dT kvs) from hd.ok I.hok)
  have l1 := size_of_entries he
  have l2 := Paired.length pr
  refine Calls.call_function_entry kind_sorted plain_sorted entry_sorted (args_sorted1 _) ?_
  unfold Builtin.«sorted»
  refine wpAny_bind (m := checkCount "sorted" 1 1 _) (wpAny_pure ?_)
  refine wpAny_bind (PySem.W.kdu_collect (A := X.A.in1) (kdl_raw hs hx hdt) (I.ok.hd hc) ho (by omega) fun h' tk acc kp it => ?_)
  have ea : acc.toList = (ks.map fun x => x.2.1).map Value.ref := by
    apply List.ext_getElem?
    intro j
    rw [List.map_map, List.getElem?_map]
    cases hj : acc.toList[j]? with
    | none =>
      have g := List.getElem?_eq_none_iff.mp hj
      rw [Array.length_toList, it.1, l1] at g
      rw [List.getElem?_eq_none g]
      rfl
    | some v =>
      obtain ⟨en, hen, hv⟩ := it.2 j v (by rw [← Array.getElem?_toList]; exact hj)
      have qe := entry_at he j
      rw [hen] at qe
      cases hb : ks[j]? with
      | none => rw [hb] at qe; cases qe
      | some b =>
        rw [hb] at qe
        have e2 := Option.some.inj qe
        rw [hv, e2]
        rfl
  have hal : acc.toList.length = ks.length := by rw [ea, List.length_map, List.length_map]
  have hz16 : acc.toList.length ≤ sizeLine := by omega
  have hP := keys_pairs pr hps
  have I1 : Inv X pins σ H { s with heap := h', toks := tk } := I.kept kp
  refine wpAny_bind (wpAny_newList ?_ hz16)
  have hoL : (h'.push (seqObj "list" acc.toList.toArray 0)).get? h'.objs.size = some (seqObj "list" acc.toList.toArray 0) := Heap.get?_push_size _ rfl
  have hpv : ∀ v ∈ acc.toList, Srt.IsPair (h'.push (seqObj "list" acc.toList.toArray 0)) v (pairV H v).1 (pairV H v).2 := by
    intro v hv
    rw [ea] at hv
    obtain ⟨b, hb, rfl⟩ := List.mem_map.mp hv
    obtain ⟨j, hj⟩ := List.getElem?_of_mem hb
    obtain ⟨y, hy, hy2⟩ := DL.Paired.get hP hj
    obtain ⟨_, its2, r2, o2, ho2, hc2, n2, hd2⟩ := I1.hok _ _ hy2
    obtain ⟨u1, u2, rfl, ri, rj⟩ := vals2 r2
    obtain ⟨t1, rfl⟩ := ri
    obtain ⟨t2, rfl⟩ := rj
    have e : pairV H (.ref b) = y := pairH_of hy2
    rw [e]
    exact ⟨b, o2, t1, t2, n2, rfl, Heap.get?_push_of_some _ ho2, hc2, hd2⟩
  show wpAny _ _ _ _ _ { s with heap := h'.push (seqObj "list" acc.toList.toArray 0), toks := tk }
  refine wpAny_bind (wpAny_holding (wpAny_call_entry slot_list_sort ⟨_, hoL, rfl⟩ entry_list_sort
    (SrtO.list_sort_ord (s := { s with heap := h'.push (seqObj "list" acc.toList.toArray 0), toks := tk }) (SrtO.swo_lex (pairV H)) hoL hz16 (fun h2 => ?_) fun out hs2 hb => ⟨_, rfl, ?_⟩) (args_list_sort _)))
  · refine SrtO.pairs_sortableO (by omega) hpv fun o3 e3 => ?_
    rw [show (({ s with heap := h'.push (seqObj "list" acc.toList.toArray 0), toks := tk } : Shared).heap.get? h'.objs.size) = _ from hoL] at e3
    cases e3
    intro c
    exact absurd (Value.type.inj c) (by decide)
  · obtain ⟨e', he'⟩ := PyProof.Rows.sortedHeap_at (vs := acc.toList) (out := out.toArray) hoL
    have href : ∀ u ∈ out, ∃ a, u = Value.ref a := fun u hu => by
      have m := hb.perm.mem_iff.mp hu
      rw [ea] at m
      obtain ⟨b, _, e⟩ := List.mem_map.mp m
      exact ⟨b, e.symm⟩
    obtain ⟨ys, hys⟩ : ∃ ys : List Addr, out = ys.map Value.ref := by
      clear hs2 hb he'
      induction out with
      | nil => exact ⟨[], rfl⟩
      | cons u t ih =>
        obtain ⟨a, ha⟩ := href u List.mem_cons_self
        obtain ⟨ys, e⟩ := ih fun v hv => href v (List.mem_cons_of_mem _ hv)
        exact ⟨a :: ys, by rw [ha, e]; rfl⟩
    have hlo : out.length ≤ sizeLine := by rw [hb.len]; exact hz16
    refine wpAny_pure ⟨_, rfl, .ref h'.objs.size, upd H h'.objs.size (.lst (ys.map V.ref)), I1.laid (t' := tk) (fun b u e => ?_) (Nat.le_refl _) ?_, rfl,
      q _ ys (ys.map (pairH H)) ?_ ?_ ?_ (I1.hok.fresh (Nat.le_refl _))⟩
    · have hlt : b < h'.objs.size := Heap.lt_size e
      rw [PyProof.Rows.sortedHeap_old (Nat.ne_of_lt hlt) (by rw [size_push']; exact Nat.lt_succ_of_lt hlt)]
      exact Heap.get?_push_of_some _ e
    · refine ⟨by rw [List.length_map, ← List.length_map (f := Value.ref), ← hys]; exact hlo, out, e', ?_, he'⟩
      rw [hys]
      exact vals_refs ys
    · refine pairs_of_map fun b hb2 => ?_
      have m : Value.ref b ∈ acc.toList := hb.perm.mem_iff.mp (by rw [hys]; exact List.mem_map.mpr ⟨b, hb2, rfl⟩)
      rw [ea] at m
      obtain ⟨c, hc2, e⟩ := List.mem_map.mp m
      cases e
      obtain ⟨j, hj⟩ := List.getElem?_of_mem hc2
      obtain ⟨y, hy, hy2⟩ := DL.Paired.get hP hj
      rw [pairH_of hy2]
      exact hy2
    · have e : ys.map (pairH H) = out.map (pairV H) := by rw [hys, List.map_map]; rfl
      rw [e]
      exact SrtO.srtd_map hs2
    · have e : ys.map (pairH H) = out.map (pairV H) := by rw [hys, List.map_map]; rfl
      have e2 : ps = acc.toList.map (pairV H) := by rw [ea, List.map_map, ← pairs_map hP]; rfl
      rw [e, e2]
      refine SrtO.Stb.map ?_ (pairV H) hb
      refine ⟨fun x y h => ?_, fun x y z h1 h2 => ?_⟩
      · have a := SrtO.lexB_iff.mp h
        exact SrtO.lexB_no.mpr (by omega)
      · have a := SrtO.lexB_no.mp h1
        have b := SrtO.lexB_no.mp h2
        exact SrtO.lexB_no.mpr (by omega)
end DLR
namespace DL
open PySem L2 DLR
/-! ### the mirror of a run -/
abbrev GL := List ((Int × Int) × V)
def gcount : Option V → Int
  | some (.int c) => c
  | _ => 0
def bump (g : GL) (q : Int × Int) : GL := putK g q (.int (gcount (valV g q) + 1))
structure RS where
  m : Mach
  cnt : List Int
  goes : GL
  here : Option Nat
def goesOf (g : GL) (r : Nat) : Option Nat → GL
  | none => g
  | some n => bump g ((r : Int), (n : Int))
def turnS (rows : List Row) (s : RS) : RS := match s.here with
  | none => s
  | some r => ⟨(stepM s.m (rows.getD r .stop)).1, s.cnt.set r (s.cnt.getD r 0 + 1),
      goesOf s.goes r (stepM s.m (rows.getD r .stop)).2,
      (stepM s.m (rows.getD r .stop)).2⟩
def startS (p : Prog) : RS := ⟨⟨0, p.ws, []⟩, List.replicate p.rows.length 0, [], some 0⟩
def runS (p : Prog) : Nat → RS
  | 0 => startS p
  | k + 1 => turnS p.rows (runS p k)
theorem runS_none {p : Prog} {j : Nat} (h : (runS p j).here = none) : ∀ k, runS p (j + k) = runS p j
  | 0 => rfl
  | k + 1 => by
    show turnS p.rows (runS p (j + k)) = _
    rw [runS_none h k]
    unfold turnS
    rw [h]
structure ROk (p : Prog) (k : Nat) (s : RS) : Prop where
  m : MOk s.m
  w : s.m.ws.length = p.ws.length
  said : s.m.said.length ≤ k
  dl : s.cnt.length = p.rows.length
  sum : s.here ≠ none → s.cnt.sum = (k : Int)
  le : s.cnt.sum ≤ (k : Int) ∧ 0 ≤ s.cnt.sum
  gok : ∀ e ∈ s.goes, ∃ c, e.2 = .int c
  gl : s.goes.length ≤ k
  here : ∀ r, s.here = some r → r < p.rows.length
theorem getD_set_sum {l : List Int} {r : Nat} (h : r < l.length) : (l.set r (l.getD r 0 + 1)).sum = l.sum + 1 := by
  have e : l[r]? = some (l.getD r 0) := by
    rw [List.getD_eq_getElem?_getD, List.getElem?_eq_getElem h]
    rfl
  rw [L2.sum_set e]
  omega
theorem sum_rep : ∀ n : Nat, (List.replicate n (0 : Int)).sum = 0
  | 0 => rfl
  | n + 1 => by
    rw [List.replicate_succ, List.sum_cons, sum_rep n]
    rfl
theorem putK_len {κ : Type} [DecidableEq κ] {kvs : List (κ × V)} {k : κ} {v : V} : (putK kvs k v).length ≤ kvs.length + 1 := by
  unfold putK
  split
  · rw [List.length_map]; omega
  · rw [List.length_append]; exact Nat.le_refl _
theorem putK_all {κ : Type} [DecidableEq κ] {kvs : List (κ × V)} {k : κ} {c : Int} (h : ∀ e ∈ kvs, ∃ c, e.2 = V.int c) : ∀ e ∈ putK kvs k (.int c), ∃ c, e.2 = V.int c := by
  intro e he
  unfold putK at he
  split at he
  · obtain ⟨x, hx, rfl⟩ := List.mem_map.mp he
    by_cases q : x.1 = k
    · rw [if_pos q]; exact ⟨c, rfl⟩
    · rw [if_neg q]; exact h x hx
  · rcases List.mem_append.mp he with q | q
    · exact h e q
    · rw [List.mem_singleton.mp q]; exact ⟨c, rfl⟩
theorem runS_ok {p : Prog} (g : Good p) : ∀ k, ROk p k (runS p k)
  | 0 => by
    refine ⟨⟨(by show -1000000000 ≤ (0 : Int) ∧ (0 : Int) < 1000000000; decide), fun x hx => ?_⟩, rfl, Nat.le_refl _, List.length_replicate, fun _ => ?_, ?_, fun _ h => absurd h (by simp [runS, startS]), Nat.le_refl _, fun r h => ?_⟩
    · have := g.num x hx
      unfold InR
      omega
    · show (List.replicate p.rows.length (0 : Int)).sum = 0
      exact sum_rep _
    · show (List.replicate p.rows.length (0 : Int)).sum ≤ 0 ∧ 0 ≤ (List.replicate p.rows.length (0 : Int)).sum
      rw [sum_rep]
      decide
    · have e : (0 : Nat) = r := Option.some.inj h
      rw [← e]
      exact g.r1
  | k + 1 => by
    have ih := runS_ok g k
    show ROk p (k + 1) (turnS p.rows (runS p k))
    generalize runS p k = s at ih ⊢
    unfold turnS
    cases hh : s.here with
    | none =>
      exact ⟨ih.m, ih.w, Nat.le_succ_of_le ih.said, ih.dl, fun q => absurd hh q, ⟨by show s.cnt.sum ≤ ((k + 1 : Nat) : Int); have := ih.le.1; omega, ih.le.2⟩, ih.gok, Nat.le_succ_of_le ih.gl, fun r h => by rw [hh] at h; cases h⟩
    | some r =>
      have hr := ih.here r hh
      have er : p.rows.getD r .stop = p.rows[r] := by rw [List.getD_eq_getElem?_getD, List.getElem?_eq_getElem hr]; rfl
      have ho : (p.rows.getD r .stop).ok s.m.ws.length p.rows.length := by
        rw [er, ih.w]
        exact g.ok _ (List.getElem_mem hr)
      obtain ⟨s1, s2, s3, s4⟩ := stepM_ok ih.m ho
      have hs := getD_set_sum (l := s.cnt) (r := r) (by rw [ih.dl]; exact hr)
      have hsum := ih.sum (by rw [hh]; simp)
      refine ⟨s1, s2.trans ih.w, ?_, by rw [List.length_set]; exact ih.dl, fun _ => by rw [hs, hsum]; rfl, ?_, ?_, ?_, fun n h => s4 n h⟩
      · show (stepM s.m (p.rows.getD r .stop)).1.said.length ≤ k + 1
        have := ih.said
        omega
      · show (s.cnt.set r (s.cnt.getD r 0 + 1)).sum ≤ _ ∧ 0 ≤ (s.cnt.set r (s.cnt.getD r 0 + 1)).sum
        rw [hs, hsum]
        omega
      · show ∀ e ∈ goesOf s.goes r (stepM s.m (p.rows.getD r .stop)).2, _
        cases (stepM s.m (p.rows.getD r .stop)).2 with
        | none => exact ih.gok
        | some n => exact putK_all ih.gok
      · show (goesOf s.goes r (stepM s.m (p.rows.getD r .stop)).2).length ≤ _
        cases (stepM s.m (p.rows.getD r .stop)).2 with
        | none => exact Nat.le_succ_of_le ih.gl
        | some n => exact Nat.le_trans putK_len (Nat.succ_le_succ ih.gl)
/-! ### the goes as they stand in a dict -/
def kmap (g : GL) : List (List Key × V) := g.map fun e => (keyP e.1, e.2)
theorem keyP_inj {a b : Int × Int} (h : keyP a = keyP b) : a = b := by
  obtain ⟨h1, h2⟩ := List.cons.inj h
  obtain ⟨h3, _⟩ := List.cons.inj h2
  exact Prod.ext (Sum.inl.inj h1) (Sum.inl.inj h3)
theorem kmap_val (g : GL) (q : Int × Int) : valV (kmap g) (keyP q) = valV g q := by
  induction g with
  | nil => rfl
  | cons e g ih =>
    by_cases h : e.1 = q
    · rw [valV_pos h]
      exact valV_pos (p := (keyP e.1, e.2)) (by rw [h])
    · rw [valV_neg h, ← ih]
      exact valV_neg (p := (keyP e.1, e.2)) (fun z => h (keyP_inj z))
theorem kmap_put (g : GL) (q : Int × Int) (v : V) : putK (kmap g) (keyP q) v = kmap (putK g q v) := by
  unfold putK
  have e : ((kmap g).any fun kv => decide (kv.1 = keyP q)) = (g.any fun kv => decide (kv.1 = q)) := by
    rw [valV_any, valV_any, kmap_val]
  rw [e]
  split
  · unfold kmap
    rw [List.map_map, List.map_map]
    refine List.map_congr_left fun x _ => ?_
    show (if keyP x.1 = keyP q then (keyP x.1, v) else (keyP x.1, x.2)) = (keyP (if x.1 = q then (x.1, v) else x).1, (if x.1 = q then (x.1, v) else x).2)
    by_cases h : x.1 = q
    · rw [if_pos h, if_pos (by rw [h])]
    · rw [if_neg h, if_neg (fun z => h (keyP_inj z))]
  · unfold kmap
    rw [List.map_append]
    rfl
theorem kmap_keys (g : GL) : (kmap g).map (·.1) = (g.map (·.1)).map keyP := by
  unfold kmap
  rw [List.map_map, List.map_map]
  rfl
theorem kmap_len (g : GL) : (kmap g).length = g.length := List.length_map _
theorem valV_mem {κ : Type} [DecidableEq κ] {g : List (κ × V)} {q : κ} {v : V} (h : valV g q = some v) : ∃ e ∈ g, e.2 = v := by
  induction g with
  | nil => cases h
  | cons e g ih =>
    by_cases z : e.1 = q
    · rw [valV_pos z] at h
      exact ⟨e, List.mem_cons_self, Option.some.inj h⟩
    · rw [valV_neg z] at h
      obtain ⟨x, hx, hy⟩ := ih h
      exact ⟨x, List.mem_cons_of_mem _ hx, hy⟩
theorem gget {g : GL} (h : ∀ e ∈ g, ∃ c, e.2 = V.int c) (q : Int × Int) : (valV g q).getD (.int 0) = .int (gcount (valV g q)) := by
  cases e : valV g q with
  | none => rfl
  | some v =>
    obtain ⟨x, hx, hy⟩ := valV_mem e
    obtain ⟨c, hc⟩ := h x hx
    rw [← hy, hc]
    rfl
theorem ggot {g : GL} (h : ∀ e ∈ g, ∃ c, e.2 = V.int c) {q : Int × Int} (m : q ∈ g.map (·.1)) : valV g q = some (.int (gcount (valV g q))) := by
  have e := gget h q
  cases z : valV g q with
  | none => exact absurd m (L2.valV_not z)
  | some v =>
    rw [z] at e
    exact congrArg some e
/-! ### what a run tells -/
structure Res (p : Prog) (fuel : Nat) (H0 H : Hp) (a ls le ld lg : Addr) (ys : List Addr) (L : List (Int × Int)) : Prop where
  same : Same1 H0 H
  top : H a = some (.tup [.ref ls, .ref le, .ref ld, .ref lg])
  fs : H0 ls = none
  fd : H0 ld = none
  fg : H0 lg = none
  said : H ls = some (.lst ((runS p fuel).m.said.map V.int))
  fin : H le = some (.tup [.str (if (runS p fuel).here = none then "stop" else "long")])
  cnt : H ld = some (.lst ((runS p fuel).cnt.map V.int))
  goes : H lg = some (.lst (ys.map V.ref))
  each : Paired (fun b q => H b = some (.tup [.int q.1, .int q.2, .int (gcount (valV (runS p fuel).goes q))])) ys L
  srt : SrtO.Srtd SrtO.lexB L
  stb : SrtO.Stb SrtO.lexB L ((runS p fuel).goes.map (·.1))
  n1 : ls ≠ ld
  n2 : ls ≠ lg
  n3 : ld ≠ lg
def spRun : Sp := fun vs H Q _ => ∃ (pa : Addr) (p : Prog) (fuel : Nat), vs = [.ref pa, .int (fuel : Int)] ∧ ProgAt H pa p ∧ Good p ∧ fuel ≤ 5000 ∧
  ∀ a ls le ld lg ys L H', Res p fuel H H' a ls le ld lg ys L → Q (.ref a) H'
end DL
namespace DL
open PySem L2 DLR
theorem while_elim {c : TT} {tb : TS} {D : Ends} {σ : L2.St} {H : Hp} (W : Nat → L2.St → Hp → Prop) (R : L2.St → Hp → Prop) (w0 : ∃ m, W m σ H) (key : ∀ σ' H', R σ' H' → D.nx σ' H')
    (turn : ∀ Nx : L2.St → Hp → Prop, (∀ σ' H', R σ' H' → Nx σ' H') → ∀ m σ H, W m σ H → c σ H fun b H1 => if b = true then ∃ N : L2.St → Hp → Prop, (∀ σ' H', N σ' H' → ∃ m', m' < m ∧ W m' σ' H') ∧ tb { D with nx := N, ct := N, bk := D.nx } σ H1 else Nx σ H1) :
    tWhile c tb D σ H := ⟨W, w0, fun m σ H w => turn D.nx key m σ H w⟩
abbrev sLRun : Stmt := top 72
abbrev pLRun : List Str := ["_law_program", "_law_fuel"]
abbrev FLRun (K : Frg) (mg : Str → Option Value) := Fd K mg "_law_run" sLRun pLRun
abbrev nRun : List Str := ["_law_program", "_law_fuel", "_law_s", "_law_done", "_law_goes", "_law_here", "_law_other", "_law_end", "_law_pair"]
def exN : Key → Option V := fun _ => none
structure LRunAt (p : Prog) (H0 H : Hp) (ad aw as_ ld lg : Addr) (s : RS) : Prop where
  same : Same1 H0 H
  mach : LawM exN H ad aw as_ s.m
  cnt : H ld = some (.lst (s.cnt.map V.int))
  goes : H lg = some (.dT (kmap s.goes))
  fa : H0 ad = none
  fw : H0 aw = none
  fs : H0 as_ = none
  fd : H0 ld = none
  fg : H0 lg = none
  n1 : as_ ≠ ld
  n2 : aw ≠ ld
theorem same_but3 {H0 H H' : Hp} {a b c : Addr} (s : Same1 H0 H) (h : But3 a b c H H') (ha : H0 a = none) (hb : H0 b = none) (hc : H0 c = none) : Same1 H0 H' := fun x o e =>
  h x o (ne_of_none e ha) (ne_of_none e hb) (ne_of_none e hc) (s x o e)
theorem LRunAt.alloc {p : Prog} {H0 H H' : Hp} {ad aw as_ ld lg : Addr} {s : RS} (h : LRunAt p H0 H ad aw as_ ld lg s) (t : Same1 H H') : LRunAt p H0 H' ad aw as_ ld lg s :=
  ⟨h.same.trans t, h.mach.same t, t _ _ h.cnt, t _ _ h.goes, h.fa, h.fw, h.fs, h.fd, h.fg, h.n1, h.n2⟩
theorem LRunAt.nad {p : Prog} {H0 H : Hp} {ad aw as_ ld lg : Addr} {s : RS} (h : LRunAt p H0 H ad aw as_ ld lg s) : ad ≠ ld ∧ aw ≠ lg ∧ as_ ≠ lg ∧ ld ≠ lg ∧ ad ≠ lg := by
  obtain ⟨kvs, h1, _⟩ := h.mach.dic
  exact ⟨ne_of h1 h.cnt (by intro z; cases z), ne_of h.mach.ws h.goes (by intro z; cases z), ne_of h.mach.said h.goes (by intro z; cases z), ne_of h.cnt h.goes (by intro z; cases z), ne_of h1 h.goes (by intro z; cases z)⟩
theorem LRunAt.setCnt {p : Prog} {H0 H : Hp} {ad aw as_ ld lg : Addr} {s : RS} {l : List Int} (h : LRunAt p H0 H ad aw as_ ld lg s) : LRunAt p H0 (upd H ld (.lst (l.map V.int))) ad aw as_ ld lg { s with cnt := l } := by
  obtain ⟨q1, q2, q3, q4, q5⟩ := h.nad
  obtain ⟨kvs, h1, h2⟩ := h.mach.dic
  exact ⟨Same.mut h.same h.fd, ⟨⟨kvs, by rw [upd_ne q1]; exact h1, h2⟩, by rw [upd_ne h.n2]; exact h.mach.ws, by rw [upd_ne h.n1]; exact h.mach.said, h.mach.ne⟩, upd_same, by rw [upd_ne q4.symm]; exact h.goes, h.fa, h.fw, h.fs, h.fd, h.fg, h.n1, h.n2⟩
theorem LRunAt.setGoes {p : Prog} {H0 H : Hp} {ad aw as_ ld lg : Addr} {s : RS} {g : GL} (h : LRunAt p H0 H ad aw as_ ld lg s) : LRunAt p H0 (upd H lg (.dT (kmap g))) ad aw as_ ld lg { s with goes := g } := by
  obtain ⟨q1, q2, q3, q4, q5⟩ := h.nad
  obtain ⟨kvs, h1, h2⟩ := h.mach.dic
  exact ⟨Same.mut h.same h.fg, ⟨⟨kvs, by rw [upd_ne q5]; exact h1, h2⟩, by rw [upd_ne q2]; exact h.mach.ws, by rw [upd_ne q3]; exact h.mach.said, h.mach.ne⟩, by rw [upd_ne q4]; exact h.cnt, upd_same, h.fa, h.fw, h.fs, h.fd, h.fg, h.n1, h.n2⟩
theorem LRunAt.setM {p : Prog} {H0 H H' : Hp} {ad aw as_ ld lg : Addr} {s : RS} {m : Mach} (h : LRunAt p H0 H ad aw as_ ld lg s) (b : But3 ad aw as_ H H') (hm : LawM exN H' ad aw as_ m) : LRunAt p H0 H' ad aw as_ ld lg { s with m := m } := by
  obtain ⟨q1, q2, q3, q4, q5⟩ := h.nad
  exact ⟨same_but3 h.same b h.fa h.fw h.fs, hm, b _ _ q1.symm h.n2.symm h.n1.symm h.cnt, b _ _ q5.symm q2.symm q3.symm h.goes, h.fa, h.fw, h.fs, h.fd, h.fg, h.n1, h.n2⟩
theorem LRunAt.cast {p : Prog} {H0 H : Hp} {ad aw as_ ld lg : Addr} {s t : RS} (h : LRunAt p H0 H ad aw as_ ld lg s) (e1 : t.m = s.m) (e2 : t.cnt = s.cnt) (e3 : t.goes = s.goes) : LRunAt p H0 H ad aw as_ ld lg t := by
  refine ⟨h.same, ?_, ?_, ?_, h.fa, h.fw, h.fs, h.fd, h.fg, h.n1, h.n2⟩
  · rw [e1]; exact h.mach
  · rw [e2]; exact h.cnt
  · rw [e3]; exact h.goes
theorem LRunAt.other {p : Prog} {H0 H H' : Hp} {ad aw as_ ld lg D : Addr} {s : RS} (h : LRunAt p H0 H ad aw as_ ld lg s) (b : But D H H') (n : H0 D = none) (n1 : ad ≠ D) (n2 : aw ≠ D) (n3 : as_ ≠ D) (n4 : ld ≠ D) (n5 : lg ≠ D) : LRunAt p H0 H' ad aw as_ ld lg s := by
  obtain ⟨kvs, h1, h2⟩ := h.mach.dic
  exact ⟨fun x o e => b x o (ne_of_none e n) (h.same x o e), ⟨⟨kvs, b _ _ n1 h1, h2⟩, b _ _ n2 h.mach.ws, b _ _ n3 h.mach.said, h.mach.ne⟩, b _ _ n4 h.cnt, b _ _ n5 h.goes, h.fa, h.fw, h.fs, h.fd, h.fg, h.n1, h.n2⟩
section
variable {P : Program} {w : World} {K : PySem.W.Frag} {mg : Str → Option Value} {base : Heap}
theorem scRun : FnScope nRun pLRun (defScope sLRun) := ⟨rfl, rfl, rfl, by decide +kernel, rfl, by decide +kernel, by decide +kernel⟩
theorem ok_lrun (cRun : FLRun K mg) (cStep : FStep K mg) (cRing : FRing K mg) (T : Bt mg) : FnOk P w K mg base CX0 3 cRun.f cRun.fd pLRun spRun := by
  have GStep : FnOk P w K mg base CX0 2 cStep.f cStep.fd ["_law_s", "_law_row"] spStep := ok_step cStep cRing T
  refine cRun.F.ok scRun (fun vs H Q E h => ?_) (fun cdv A outer s H vs Q E hr h => ?_)
  · obtain ⟨pa, p, fuel, rfl, _⟩ := h
    rfl
  · obtain ⟨pa, p, fuel, rfl, ⟨wa, ra, bs, hpa, hwa, hra, hR⟩, g, hfu, k⟩ := h
    refine ⟨_, (pss_cons (ps_set (i := 2) scRun.nd rfl (Or.inl rfl) (pe_disp (pps_cons pe_str (pe_callTy call_list_of (by rfl) T.list (by decide +kernel) (pa_cons (pe_ix ix_tup (pv 0) pe_int (fun _ _ => rfl)) pa_nil)) (pps_cons pe_str pe_int (pps_cons pe_str (pe_lst pa_nil) pps_nil))) (by rfl) (by rfl) (fun z => by cases z) (by decide)))
      (pss_cons (ps_set (i := 3) scRun.nd rfl (Or.inl rfl) (pe_op op_rep (pe_lst (pa_cons pe_int pa_nil)) (pe_callB call_len_seq (by rfl) T.len PySem.boot_len (pa_cons (pe_ix ix_tup (pv 0) pe_int (fun _ _ => rfl)) pa_nil))))
      (pss_cons (ps_set (i := 4) scRun.nd rfl (Or.inr rfl) pe_dnewT)
      (pss_cons (ps_set (i := 5) scRun.nd rfl (Or.inl rfl) pe_int)
      (pss_cons (ps_while PassesOwn.never (PW.pt (pw_and (pt_cmpR op_notN (pv 5) pe_non (nomark _)) (pw_and1 (pt_cmpR op_lt (pe_callB (cr_sum rfl) (by rfl) T.sum (by decide +kernel) (pa_cons (pv 3) pa_nil)) (pv 1) (nomark _)))))
          (pss_cons (ps_asg (pe_op op_add (pe_ix ix_list (pv 3) (pv 5) (fun _ _ => rfl)) pe_int) (pg_sub (pv 3) (pv 5) set_list))
          (pss_cons (ps_set (i := 6) scRun.nd rfl (Or.inl rfl) (pe_call GStep (hr.mono (by first | omega | decide)) (by rfl) cStep.m cStep.F.kp cStep.b .nil pass0 (pa_cons (pv 2) (pa_cons (pe_ix ix_tup (pe_ix ix_tup (pv 0) pe_int (fun _ _ => rfl)) (pv 5) (fun _ _ => rfl)) pa_nil))))
          (pss_cons (ps_if (pt_cmpR op_notN (pv 6) pe_non (nomark _))
              (pss_one (ps_dput (hu_of hr) (pv 4) (pe_tup (pa_cons (pv 5) (pa_cons (pv 6) pa_nil))) (pe_op op_add (pe_dget2 (hu_of hr) (pv 4) (pe_tup (pa_cons (pv 5) (pa_cons (pv 6) pa_nil))) pe_int ⟨rfl, rfl, rfl, rfl⟩) pe_int) rfl))
              pss_nil)
          (pss_one (ps_set (i := 5) scRun.nd rfl (Or.inl rfl) (pv 6)))))))
      (pss_cons (ps_set (i := 7) scRun.nd rfl (Or.inl rfl) (pe_ifExp (pt_cmpR op_isN (pv 5) pe_non (nomark _)) (pe_tup (pa_cons pe_str pa_nil)) (pe_tup (pa_cons pe_str pa_nil))))
      (pss_one (ps_ret (pe_tup (pa_cons (pe_dget (hu_of hr) (pv 2) pe_str (fun _ _ => rfl)) (pa_cons (pv 7) (pa_cons (pv 3) (pa_cons (pe_lc (own := [("_law_pair", 8)]) (g := gName 8) (tt := tYes) rfl scRun.nd (pi_list (pe_callB (cr_sortedDT rfl) (by rfl) T.sorted (by decide +kernel) (pa_cons (pv 4) pa_nil))) (blkOk_by (N := nRun) (sc := defScope sLRun) (by decide +kernel)) (fun _ _ _ _ _ => (pg_name (i := 8) scRun.nd rfl (Or.inl rfl))) (fun _ _ _ _ _ => pts_nil) (fun _ _ _ _ _ => (pe_op op_catS (pv 8) (pe_tup (pa_cons (pe_dget (hu_of hr) (pv 4) (pv 8) (fun _ _ => rfl)) pa_nil))))) pa_nil))))))))))))), ?_⟩
    have hbr := Paired.length hR
    have hR40 := g.r40
    have hW8 := g.w8
    intro ad had
    refine alloc had fun H1 s1 e1 => ?_
    refine ⟨_, rfl, pa, _, _, _, rfl, rfl, SqT.of (s1 _ _ hpa), at0, wa, _, rfl, .inr (SqT.of (s1 _ _ hwa)), fun aw haw => ?_⟩
    refine alloc haw fun H2 s2 e2 => ?_
    refine ⟨Nat.zero_le _, fun as_ has => ?_⟩
    refine alloc has fun H3 s3 e3 => ?_
    have d3 : H3 ad = some (.dK []) := (s2.trans s3) _ _ e1
    refine ⟨d3, [(kW, .ref aw), (kD, .int 0), (kS, .ref as_)], rfl, (by show 3 ≤ 15; decide), ?_⟩
    have na : aw ≠ as_ := ne_of_none e2 has
    have fw : H aw = none := s1.free haw
    have fs : H as_ = none := (s1.trans s2).free has
    have S3 := (s1.trans s2).trans s3
    have S4 : Same1 H (upd H3 ad (.dK (mergeK [] [(kW, .ref aw), (kD, .int 0), (kS, .ref as_)]))) := Same.mut S3 had
    have M4 : LawM exN (upd H3 ad (.dK (mergeK [] [(kW, .ref aw), (kD, .int 0), (kS, .ref as_)]))) ad aw as_ ⟨0, p.ws, []⟩ := by
      have e : mergeK [] [(kW, .ref aw), (kD, .int 0), (kS, .ref as_)] = putK (putK (putK [] kW (.ref aw)) kD (.int 0)) kS (.ref as_) := rfl
      have nw : aw ≠ ad := ne_of (s3 _ _ e2) d3 (by intro z; cases z)
      have ns : as_ ≠ ad := ne_of e3 d3 (by intro z; cases z)
      rw [e]
      refine ⟨⟨_, upd_same, ?_, ?_, ?_, ?_, fun k a b c => by rw [valV_put, if_neg c, valV_put, if_neg b, valV_put, if_neg a]; rfl⟩, by rw [upd_ne nw]; exact s3 _ _ e2, by rw [upd_ne ns]; exact e3, na⟩
      · have h1 := putK_len (kvs := putK (putK [] kW (V.ref aw)) kD (V.int 0)) (k := kS) (v := V.ref as_)
        have h2 := putK_len (kvs := putK [] kW (V.ref aw)) (k := kD) (v := V.int 0)
        have h3 := putK_len (kvs := ([] : List (Key × V))) (k := kW) (v := V.ref aw)
        have h4 : ([] : List (Key × V)).length = 0 := rfl
        omega
      · rw [valV_put, if_neg k_WS, valV_put, if_neg k_WD, valV_put, if_pos rfl]
      · rw [valV_put, if_neg k_DS, valV_put, if_pos rfl]
      · rw [valV_put, if_pos rfl]
    revert S4 M4
    refine change fun H4 b4 e4 => ?_
    intro S4 M4
    refine ⟨(by show 1 ≤ sizeLine; decide), fun l0 hl0 => ?_⟩
    refine alloc hl0 fun H5 s5 e5 => ?_
    refine ⟨_, rfl, pa, _, _, _, rfl, rfl, SqT.of ((S4.trans s5) _ _ hpa), at1, ra, _, rfl, .inr (SqT.of ((S4.trans s5) _ _ hra)), l0, _, _, rfl, rfl, e5, ?_, ?_, ?_, fun ld hld => ?_⟩
    · rw [List.length_map]; omega
    · rw [List.length_map]; omega
    · refine sz ?_
      show 1 * _ ≤ _
      rw [List.length_map]; omega
    refine alloc hld fun H6 s6 e6 => ?_
    rw [List.flatten_replicate_singleton, List.length_map, hbr] at e6
    refine fun lg hlg => ?_
    refine alloc hlg fun H7 s7 e7 => ?_
    have S47 := (s5.trans s6).trans s7
    have L0 : LRunAt p H H7 ad aw as_ ld lg (startS p) := by
      refine ⟨S4.trans S47, M4.same S47, ?_, e7, had, fw, fs, (S4.trans s5).free hld, ((S4.trans s5).trans s6).free hlg, ne_of_none ((s5) _ _ M4.said) hld, ne_of_none ((s5) _ _ M4.ws) hld⟩
      rw [s7 _ _ e6]
      show _ = some (HO.lst ((List.replicate p.rows.length (0 : Int)).map V.int))
      rw [List.map_replicate, Int.toNat_natCast]
    dsimp only [gName]
    refine while_elim (fun m σ H' => ∃ (j : Nat) (x6 : Option V), m = fuel + 1 - j ∧ j ≤ fuel ∧ σ = [some (.ref pa), some (.int (fuel : Int)), some (.ref ad), some (.ref ld), some (.ref lg), some (oV (runS p j).here), x6, none, none] ∧ LRunAt p H H' ad aw as_ ld lg (runS p j))
      (fun σ H' => ∃ x6 : Option V, σ = [some (.ref pa), some (.int (fuel : Int)), some (.ref ad), some (.ref ld), some (.ref lg), some (oV (runS p fuel).here), x6, none, none] ∧ LRunAt p H H' ad aw as_ ld lg (runS p fuel))
      ⟨fuel + 1, 0, none, rfl, Nat.zero_le _, rfl, L0⟩ ?_ ?_
    · rintro σ H9 ⟨x6, rfl, L⟩
      have O := runS_ok g fuel
      dsimp only
      refine asg_elim (fun v H' => ∃ le, v = .ref le ∧ Same1 H9 H' ∧ H' le = some (.tup [.str (if (runS p fuel).here = none then "stop" else "long")])) ?_ ?_
      · rintro v H10 ⟨le, rfl, s10, e10⟩
        have L10 := L.alloc s10
        obtain ⟨kvs, d1, d2, d3, d4, d5, _⟩ := L10.mach.dic
        refine ⟨_, rfl, ad, _, rfl, dget (k := kS) d1 d5, _, rfl, _, rfl, _, rfl, lg, _, (runS p fuel).goes.map (·.1), rfl, .inl L10.goes, kmap_keys _, fun pl ys L' hP hs hb hpl => ?_⟩
        have hPm := Paired.length hP
        refine alloc hpl fun H11 s11 e11 => ?_
        have L11 := L10.alloc s11
        obtain ⟨kv2, f1, _⟩ := L11.mach.dic
        refine ⟨pl, rfl, ⟨_, SqL.of e11⟩, fun D hD => ?_⟩
        have n1 : ad ≠ D := ne_of_none f1 hD
        have n2 : aw ≠ D := ne_of_none L11.mach.ws hD
        have n3 : as_ ≠ D := ne_of_none L11.mach.said hD
        have n4 : ld ≠ D := ne_of_none L11.cnt hD
        have n5 : lg ≠ D := ne_of_none L11.goes hD
        have n6 : pl ≠ D := ne_of_none e11 hD
        have n0 : H D = none := L11.same.free hD
        refine lc_list (K := K) (a := pl) (xs := ys.map V.ref) (fun i H' => ∃ zs : List Addr, LRunAt p H H' ad aw as_ ld lg (runS p fuel) ∧ H' D = some (.lst (zs.map V.ref)) ∧
            Paired (fun b q => H' b = some (.tup [.int q.1, .int q.2, .int (gcount (valV (runS p fuel).goes q))])) zs (L'.take i) ∧ H' pl = some (.lst (ys.map V.ref)) ∧ Kp H11 H')
          ⟨[], L11.alloc (Same.new hD), upd_same, .nil, by rw [upd_ne n6]; exact e11, Kp.new hD⟩ (fun i H' _ ⟨_, _, _, _, q, _⟩ => SqL.of q) ?_ ?_
        · rintro i x H12 hi ⟨zs, L12, hD12, hz, hpl12, k12⟩
          have hiy : i < ys.length := by
            have q := (List.getElem?_eq_some_iff.mp hi).1
            rwa [List.length_map] at q
          have ex : x = .ref ys[i] := by
            rw [List.getElem?_map, List.getElem?_eq_getElem hiy] at hi
            exact (Option.some.inj hi).symm
          subst ex
          obtain ⟨q, hq1, hq2⟩ := Paired.get hP (List.getElem?_eq_getElem hiy)
          have hb12 := k12 _ _ (s11 _ _ hq2)
          have hmem : q ∈ (runS p fuel).goes.map (·.1) := hb.perm.mem_iff.mp (List.mem_of_getElem? hq1)
          have hget : DGet H12 lg (.ref ys[i]) (some (.int (gcount (valV (runS p fuel).goes q)))) := by
            have z := DGet.t (k := keyP q) L12.goes hb12
            rw [kmap_val, ggot O.gok hmem] at z
            exact z
          have hzl := Paired.length hz
          have hgl : (runS p fuel).goes.length ≤ 5000 := Nat.le_trans O.gl hfu
          have hLl : L'.length ≤ 5000 := by rw [hb.perm.length_eq, List.length_map]; exact hgl
          rw [List.length_take] at hzl
          refine ⟨rfl, _, rfl, _, rfl, _, rfl, lg, _, rfl, hget, (by show 1 ≤ sizeLine; decide), fun t ht => ?_⟩
          refine alloc ht fun H13 s13 e13 => ?_
          refine ⟨ys[i], t, _, _, rfl, rfl, s13 _ _ hb12, e13, (by show 3 ≤ sizeLine; decide), fun t2 H14 s14 e14 => ?_⟩
          have S := s13.trans s14
          have hD14 := S _ _ hD12
          refine ⟨_, hD14, szl (by rw [List.length_map]; omega), zs ++ [t2], (L12.alloc S).other (fun a o n e => by rw [upd_ne n]; exact e) n0 n1 n2 n3 n4 n5, by rw [upd_same, List.map_append]; rfl, ?_, by rw [upd_ne n6]; exact S _ _ hpl12, (k12.trans (Kp.same S)).trans (Kp.lst hD14)⟩
          rw [List.take_add_one, hq1]
          refine Paired.app (Paired.mapP hz fun b q h => Kp.lst hD14 _ _ (S _ _ h)) (Paired.one (Kp.lst hD14 _ _ e14))
        · rintro H12 ⟨zs, L12, hD12, hz, hpl12, k12⟩
          rw [List.length_map, hPm, List.take_length] at hz
          refine ⟨(by show 4 ≤ sizeLine; decide), fun top ht => ?_⟩
          refine alloc ht fun H13 s13 e13 => ?_
          have L13 := L12.alloc s13
          obtain ⟨q1, q2, q3, q4, q5⟩ := L13.nad
          exact k top as_ le ld D zs L' H13 ⟨L13.same, e13, L13.fs, L13.fd, n0, L13.mach.said, s13 _ _ (k12 _ _ (s11 _ _ e10)), L13.cnt, s13 _ _ hD12, Paired.mapP hz fun b q h => s13 _ _ h, hs, hb, L13.n1, n3, n4⟩
      · intro Q' hQ
        refine ⟨_, rfl, rfl, _, rfl, ?_⟩
        cases hh : (runS p fuel).here with
        | none => exact ⟨(by show 1 ≤ sizeLine; decide), fun le hle => hQ _ _ ⟨le, rfl, Same.new hle, by rw [upd_same, hh, if_pos rfl]⟩⟩
        | some r => exact ⟨(by show 1 ≤ sizeLine; decide), fun le hle => hQ _ _ ⟨le, rfl, Same.new hle, by rw [upd_same, hh, if_neg (by simp)]⟩⟩
    · intro Nx hNx
      rintro m σ H8 ⟨j, x6, rfl, hj, rfl, L⟩
      have O := runS_ok g j
      refine ⟨_, rfl, rfl, _, rfl, ?_⟩
      cases hh : (runS p j).here with
      | none =>
        have ef : runS p fuel = runS p j := by
          have q := runS_none hh (fuel - j)
          rw [show j + (fuel - j) = fuel by omega] at q
          exact q
        refine hNx _ _ ⟨x6, ?_, by rw [ef]; exact L⟩
        rw [ef, hh]
      | some r =>
        have hr := O.here r hh
        have hsum := O.sum (by rw [hh]; simp)
        refine ⟨_, rfl, ld, _, rfl, SqL.of L.cnt, _, rfl, _, _, rfl, rfl, _, rfl, ite2 (fun c => ?_) (fun c => ?_)⟩
        · have c := of_decide_eq_true c
          rw [hsum] at c
          have er : p.rows.getD r .stop = p.rows[r] := by rw [List.getD_eq_getElem?_getD, List.getElem?_eq_getElem hr]; rfl
          have hcr : ((runS p j).cnt.map V.int)[r]? = some (.int ((runS p j).cnt.getD r 0)) := by
            rw [List.getElem?_map, List.getD_eq_getElem?_getD, List.getElem?_eq_getElem (by rw [O.dl]; exact hr)]
            rfl
          refine ⟨_, fun σ' H' q => q, ?_⟩
          refine ⟨_, rfl, _, rfl, ld, _, _, _, rfl, rfl, SqL.of L.cnt, atI_nat hcr, _, _, rfl, rfl, _, rfl, _, rfl, ld, _, _, r, rfl, rfl, L.cnt, ixN_nat (by rw [List.length_map, O.dl]; exact hr), ?_⟩
          have L9 := L.setCnt (l := (runS p j).cnt.set r ((runS p j).cnt.getD r 0 + 1))
          rw [List.map_set] at L9
          revert L9
          refine change fun H9 b9 e9 => ?_
          intro L9
          obtain ⟨b, hb1, hb2⟩ := Paired.getR hR (List.getElem?_eq_getElem hr)
          have hbV : (bs.map V.ref)[r]? = some (.ref b) := by rw [List.getElem?_map, hb1]; rfl
          have S9 := L9.same
          refine ⟨_, rfl, _, rfl, pa, _, _, _, rfl, rfl, SqT.of (S9 _ _ hpa), at1, _, rfl, ra, _, _, _, rfl, rfl, SqT.of (S9 _ _ hra), atI_nat hbV, ?_⟩
          refine ⟨_, ad, aw, as_, b, (runS p j).m, p.rows.getD r .stop, p.rows.length, rfl, L9.mach, O.m, by have := O.said; omega, ?_, ?_, fun H10 B10 M10 => ?_⟩
          · rw [er]; exact S9 _ _ hb2
          · rw [er, O.w]; exact g.ok _ (List.getElem_mem hr)
          have L10 := L9.setM B10 M10
          have en : runS p (j + 1) = ⟨(stepM (runS p j).m (p.rows.getD r .stop)).1, (runS p j).cnt.set r ((runS p j).cnt.getD r 0 + 1), goesOf (runS p j).goes r (stepM (runS p j).m (p.rows.getD r .stop)).2, (stepM (runS p j).m (p.rows.getD r .stop)).2⟩ := by
            show turnS p.rows (runS p j) = _
            unfold turnS
            rw [hh]
          refine ⟨_, rfl, rfl, _, rfl, ?_⟩
          cases ho : (stepM (runS p j).m (p.rows.getD r .stop)).2 with
          | none =>
            refine ⟨_, rfl, fuel + 1 - (j + 1), by omega, j + 1, some (oV none), rfl, by omega, ?_, ?_⟩
            · rw [en, ho]; rfl
            · rw [en, ho]
              exact L10.cast rfl rfl rfl
          | some n =>
            refine ⟨_, rfl, lg, rfl, .inr ⟨_, .inl L10.goes⟩, _, rfl, _, rfl, (by show 2 ≤ sizeLine; decide), fun t1 ht1 => ?_⟩
            refine alloc ht1 fun H11 s11 e11 => ?_
            have L11 := L10.alloc s11
            refine ⟨_, DGet.t (k := keyP ((r : Int), (n : Int))) L11.goes e11, ?_⟩
            rw [kmap_val, gget O.gok]
            refine ⟨_, _, rfl, rfl, _, rfl, _, rfl, _, rfl, (by show 2 ≤ sizeLine; decide), fun t2 ht2 => ?_⟩
            refine alloc ht2 fun H12 s12 e12 => ?_
            have L12 := L11.alloc s12
            refine ⟨lg, _, rfl, DPut.t (k := keyP ((r : Int), (n : Int))) L12.goes e12 (szl (by rw [kmap_len]; show (runS p j).goes.length < 100000; have := O.gl; omega)), ?_⟩
            have L13 := L12.setGoes (g := bump (runS p j).goes ((r : Int), (n : Int)))
            rw [kmap_put]
            refine ⟨_, rfl, fuel + 1 - (j + 1), by omega, j + 1, some (oV (some n)), rfl, by omega, ?_, ?_⟩
            · rw [en, ho]; rfl
            · rw [en, ho]
              exact L13.cast rfl rfl rfl
        · have c : ¬ (runS p j).cnt.sum < (fuel : Int) := fun q => c (decide_eq_true q)
          rw [hsum] at c
          have ej : j = fuel := by omega
          subst ej
          exact hNx _ _ ⟨x6, by rw [hh], L⟩
end
end DL
namespace DL
open PySem L2 DLR
theorem relI {i : Int} {t : Tok} : RelV (.int i) (.int i t) := ⟨t, rfl⟩
structure Cn (mg : Str → Option Value) where
  tW : Tok
  tR : Tok
  tN : Tok
  mW : mg "MOST_WORTHS" = some (.int 8 tW)
  mR : mg "MOST_ROWS" = some (.int 40 tR)
  mN : mg "MOST_NUMBER" = some (.int 1000000 tN)
structure Cf (mg : Str → Option Value) where
  tF : Tok
  mF : mg "MOST_FUEL" = some (.int 5000 tF)
structure Cd (mg : Str → Option Value) where
  tL : Tok
  tC : Tok
  mL : mg "DESK_LOW" = some (.int (-1000000000) tL)
  mC : mg "DESK_COUNT" = some (.int 2000000000 tC)
abbrev sIsNumber : Stmt := top 12
abbrev sIsBetween : Stmt := top 13
abbrev sPart : Stmt := top 14
abbrev sCheckWorths : Stmt := top 20
abbrev FIsNumber (K : Frg) (mg : Str → Option Value) := Fd K mg "is_number" sIsNumber ["thing"]
abbrev FIsBetween (K : Frg) (mg : Str → Option Value) := Fd K mg "is_between" sIsBetween ["thing", "low", "high"]
abbrev FPart (K : Frg) (mg : Str → Option Value) := Fd K mg "part" sPart ["whole", "at"]
abbrev FCheckWorths (K : Frg) (mg : Str → Option Value) := Fd K mg "check_worths" sCheckWorths ["worths"]
def spNum : Sp := fun vs H Q _ => ∃ i : Int, vs = [.int i] ∧ Q (.bl true) H
def spBetween : Sp := fun vs H Q _ => ∃ i lo hi : Int, vs = [.int i, .int lo, .int hi] ∧ lo ≤ i ∧ i ≤ hi ∧ Q (.bl true) H
def spPart : Sp := fun vs H Q _ => ∃ (a : Addr) (xs : List V) (j : Nat) (v : V), vs = [.ref a, .int (j : Int)] ∧ H a = some (.tup xs) ∧ xs[j]? = some v ∧ Q v H
def spCheckWorths : Sp := fun vs H Q _ => ∃ (a : Addr) (ws : List Int), vs = [.ref a] ∧ H a = some (.tup (ws.map V.int)) ∧ ws.length ≤ 8 ∧ (∀ x ∈ ws, -1000000 ≤ x ∧ x ≤ 1000000) ∧ Q .non H
def spCheckFuel : Sp := fun vs H Q _ => ∃ n : Int, vs = [.int n] ∧ 0 ≤ n ∧ n ≤ 5000 ∧ Q .non H
section
variable {P : Program} {w : World} {K : PySem.W.Frag} {mg : Str → Option Value} {base : Heap}
theorem scIsNumber : FnScope ["thing"] ["thing"] (defScope sIsNumber) := ⟨rfl, rfl, rfl, by decide +kernel, rfl, by decide +kernel, by decide +kernel⟩
theorem ok_isNumber (c : FIsNumber K mg) (T : Bt mg) : FnOk P w K mg base CX0 1 c.f c.fd ["thing"] spNum := by
  refine c.F.ok scIsNumber (fun vs H Q E h => ?_) (fun cdv A outer s H vs Q E hr h => ?_)
  · obtain ⟨n, rfl, _⟩ := h
    rfl
  · obtain ⟨n, rfl, k⟩ := h
    refine ⟨_, (pss_one (ps_ret (pe_and (pe_callB call_isi (by rfl) T.isinstance (by decide +kernel) (pa_cons (pv 0) (pa_cons (pe_bltn (v := .ty "int") (by rfl) T.int (by decide +kernel) rfl) pa_nil))) (pe_one (pe_not (pe_callB call_isi (by rfl) T.isinstance (by decide +kernel) (pa_cons (pv 0) (pa_cons (pe_bltn (v := .ty "bool") (by rfl) T.bool (by decide +kernel) rfl) pa_nil)))))))), ?_⟩
    refine ⟨_, rfl, _, _, _, _, true, rfl, .ty _, .base (.int _), kit_ty (by decide +kernel), _, rfl, ?_⟩
    exact ⟨_, rfl, _, _, _, _, false, rfl, .ty _, .base (.int _), kit_ty (by decide +kernel), _, rfl, k⟩
theorem scIsBetween : FnScope ["thing", "low", "high"] ["thing", "low", "high"] (defScope sIsBetween) := ⟨rfl, rfl, rfl, by decide +kernel, rfl, by decide +kernel, by decide +kernel⟩
theorem ok_isBetween (c : FIsBetween K mg) (cIsNumber : FIsNumber K mg) (T : Bt mg) : FnOk P w K mg base CX0 2 c.f c.fd ["thing", "low", "high"] spBetween := by
  have GIsNumber : FnOk P w K mg base CX0 1 cIsNumber.f cIsNumber.fd ["thing"] spNum := ok_isNumber cIsNumber T
  refine c.F.ok scIsBetween (fun vs H Q E h => ?_) (fun cdv A outer s H vs Q E hr h => ?_)
  · obtain ⟨i, lo, hi, rfl, _⟩ := h
    rfl
  · obtain ⟨i, lo, hi, rfl, h1, h2, k⟩ := h
    refine ⟨_, (pss_one (ps_ret (pe_and (pe_call GIsNumber (hr.mono (by first | omega | decide)) (by rfl) cIsNumber.m cIsNumber.F.kp cIsNumber.b .nil pass0 (pa_cons (pv 0) pa_nil)) (pe_one (pe_chain op_le op_le (pv 1) (pv 0) (pv 2)))))), ?_⟩
    refine ⟨_, rfl, _, rfl, _, rfl, ?_⟩
    refine ⟨_, rfl, _, rfl, _, _, rfl, rfl, _, rfl, ?_⟩
    rw [decide_eq_true h1]
    refine iteT ⟨_, rfl, _, _, rfl, rfl, ?_⟩
    show Q (.bl (decide (i ≤ hi))) H
    rw [decide_eq_true h2]
    exact k
theorem scPart : FnScope ["whole", "at"] ["whole", "at"] (defScope sPart) := ⟨rfl, rfl, rfl, by decide +kernel, rfl, by decide +kernel, by decide +kernel⟩
theorem ok_part (c : FPart K mg) (T : Bt mg) : FnOk P w K mg base CX0 1 c.f c.fd ["whole", "at"] spPart := by
  refine c.F.ok scPart (fun vs H Q E h => ?_) (fun cdv A outer s H vs Q E hr h => ?_)
  · obtain ⟨a, xs, j, v, rfl, _⟩ := h
    rfl
  · obtain ⟨a, xs, j, v, rfl, h1, h2, k⟩ := h
    have hj := (List.getElem?_eq_some_iff.mp h2).1
    refine ⟨_, (pss_cons (ps_if (PW.pt (pw_and (pt_val (pe_callB call_isi (by rfl) T.isinstance (by decide +kernel) (pa_cons (pv 0) (pa_cons (pe_bltn (v := .ty "tuple") (by rfl) T.tuple (by decide +kernel) rfl) pa_nil)))) (pw_and1 (pt_cmpR op_lt (pv 1) (pe_callB call_len_seq (by rfl) T.len PySem.boot_len (pa_cons (pv 0) pa_nil)) (nomark _)))))
          (pss_one (ps_ret (pe_ix ix_tup (pv 0) (pv 1) (fun _ _ => rfl))))
          pss_nil)
      (pss_one (ps_ret pe_non))), ?_⟩
    refine ⟨_, rfl, _, _, _, _, true, rfl, .ty _, .base (.tup h1), kit_ty (by decide +kernel), _, rfl, ?_⟩
    refine ⟨_, rfl, _, rfl, a, _, rfl, .inr (SqT.of h1), _, _, rfl, rfl, _, rfl, ?_⟩
    rw [decide_eq_true (show (j : Int) < (xs.length : Int) by omega)]
    exact iteT ⟨_, rfl, _, rfl, a, _, _, _, rfl, rfl, SqT.of h1, atI_nat h2, k⟩
theorem scCheckWorths : FnScope ["worths", "worth"] ["worths"] (defScope sCheckWorths) := ⟨rfl, rfl, rfl, by decide +kernel, rfl, by decide +kernel, by decide +kernel⟩
theorem ok_checkWorths (c : FCheckWorths K mg) (cIsBetween : FIsBetween K mg) (cIsNumber : FIsNumber K mg) (T : Bt mg) (C : Cn mg) : FnOk P w K mg base CX0 3 c.f c.fd ["worths"] spCheckWorths := by
  have GIsBetween : FnOk P w K mg base CX0 2 cIsBetween.f cIsBetween.fd ["thing", "low", "high"] spBetween := ok_isBetween cIsBetween cIsNumber T
  refine c.F.ok scCheckWorths (fun vs H Q E h => ?_) (fun cdv A outer s H vs Q E hr h => ?_)
  · obtain ⟨a, ws, rfl, _⟩ := h
    rfl
  · obtain ⟨a, ws, rfl, h1, h8, hb, k⟩ := h
    refine ⟨_, (pss_cons (ps_if (PW.pt (pw_or (pt_not (pt_val (pe_callB call_isi (by rfl) T.isinstance (by decide +kernel) (pa_cons (pv 0) (pa_cons (pe_bltn (v := .ty "tuple") (by rfl) T.tuple (by decide +kernel) rfl) pa_nil))))) (pw_or1 (pt_cmpR op_gt (pe_callB call_len_seq (by rfl) T.len PySem.boot_len (pa_cons (pv 0) pa_nil)) (pe_glob rfl C.mW relI) (nomark _)))))
          (pss_one ps_never)
          pss_nil)
      (pss_one (ps_for PassesOwn.never rfl (pi_tup (pv 0)) (pg_name (i := 1) scCheckWorths.nd rfl (Or.inl rfl))
          (pss_one (ps_if (pt_not (pt_val (pe_call GIsBetween (hr.mono (by first | omega | decide)) (by rfl) cIsBetween.m cIsBetween.F.kp cIsBetween.b .nil pass0 (pa_cons (pv 1) (pa_cons (pe_un un_neg (pe_glob rfl C.mN relI)) (pa_cons (pe_glob rfl C.mN relI) pa_nil))))))
              (pss_one ps_never)
              pss_nil))))), ?_⟩
    refine ⟨_, rfl, _, _, _, _, true, rfl, .ty _, .base (.tup h1), kit_ty (by decide +kernel), _, rfl, ?_⟩
    refine ⟨_, rfl, a, _, rfl, .inr (SqT.of h1), _, _, rfl, rfl, _, rfl, ?_⟩
    rw [decide_eq_false (show ¬ (8 : Int) < ((ws.map V.int).length : Int) by rw [List.length_map]; omega)]
    refine iteF ⟨_, rfl, a, rfl, ⟨_, SqT.of h1⟩, for_tup (K := K) (a := a) (xs := ws.map V.int) (fun i σ H' => ∃ x : Option V, σ = [some (.ref a), x] ∧ H' = H) ⟨_, rfl, rfl⟩ (fun i σ H' _ ⟨_, _, e⟩ => by rw [e]; exact SqT.of h1) ?_ ?_⟩
    · rintro i x σ H' hi ⟨y, rfl, rfl⟩
      rw [List.getElem?_map] at hi
      cases hz : ws[i]? with
      | none => rw [hz] at hi; cases hi
      | some z =>
        rw [hz] at hi
        have e : V.int z = x := Option.some.inj hi
        subst e
        obtain ⟨b1, b2⟩ := hb z (List.mem_of_getElem? hz)
        refine ⟨_, rfl, _, rfl, z, _, _, rfl, by omega, by omega, _, rfl, ?_⟩
        exact ⟨_, rfl, rfl⟩
    · rintro σ H' ⟨y, rfl, rfl⟩
      exact k
end
end DL
namespace DL
open PySem L2 DLR
def Row.parts : Row → List Str
  | .say _ => ["next"]
  | .test _ _ => ["next", "next"]
  | .stop => []
  | _ => ["worth", "next"]
theorem Row.parts_len (r : Row) : (rowVs r).length = r.parts.length + 1 := by cases r <;> rfl
structure Pt (K : Frg) (w : World) (mg : Str → Option Value) where
  d : Addr
  es : Array DictEntry
  n : Nat
  m : mg "PARTS" = some (.ref d)
  kd : KDict K w d es n
  at_ : ∀ r : Row, ∃ t, PySem.W.nsIn K d r.word = some (some (.ref t)) ∧ ∀ H, SqT K H t (r.parts.map V.str)
theorem Pt.get {K : Frg} {w : World} {mg : Str → Option Value} (Z : Pt K w mg) (r : Row) : ∃ t, PySem.W.nsIn K Z.d r.word = some (some (.ref t)) ∧ KDct K w Z.d r.word (.ref t) ∧ ∀ H, SqT K H t (r.parts.map V.str) := by
  obtain ⟨t, h1, h2⟩ := Z.at_ r
  exact ⟨t, h1, ⟨_, _, _, Z.kd.at_, Z.kd.lit, h1, rfl⟩, h2⟩
theorem Row.args (r : Row) {i : Nat} (h : i < r.parts.length) : ∃ x : Nat, ((rowVs r).drop 1)[i]? = some (.int (x : Int)) ∧ ∀ {W N : Nat}, r.ok W N →
    (r.parts[i]? = some "worth" ∧ x < W) ∨ (r.parts[i]? = some "next" ∧ x < N) := by
  have hi : i < 2 := by cases r <;> simp [Row.parts] at h <;> omega
  match i, hi with
  | 0, _ =>
    cases r <;> first
      | exact ⟨_, rfl, fun o => .inl ⟨rfl, o.1⟩⟩
      | exact ⟨_, rfl, fun o => .inr ⟨rfl, o⟩⟩
      | exact ⟨_, rfl, fun o => .inr ⟨rfl, o.1⟩⟩
      | (exfalso; simp [Row.parts] at h)
  | 1, _ =>
    cases r <;> first
      | exact ⟨_, rfl, fun o => .inr ⟨rfl, o.2⟩⟩
      | (exfalso; simp [Row.parts] at h)
theorem Row.ints (r : Row) : ∃ ns : List Int, (rowVs r).drop 1 = ns.map V.int ∧ ns.length = r.parts.length := by
  cases r with
  | load a b => exact ⟨[(a : Int), (b : Int)], rfl, rfl⟩
  | add a b => exact ⟨[(a : Int), (b : Int)], rfl, rfl⟩
  | take a b => exact ⟨[(a : Int), (b : Int)], rfl, rfl⟩
  | store a b => exact ⟨[(a : Int), (b : Int)], rfl, rfl⟩
  | say b => exact ⟨[(b : Int)], rfl, rfl⟩
  | test a b => exact ⟨[(a : Int), (b : Int)], rfl, rfl⟩
  | stop => exact ⟨[], rfl, rfl⟩
abbrev sHasShape : Stmt := top 22
abbrev sCheckRow : Stmt := top 21
abbrev sCheckProgram : Stmt := top 19
abbrev FHasShape (K : Frg) (mg : Str → Option Value) := Fd K mg "has_shape" sHasShape ["row"]
abbrev FCheckRow (K : Frg) (mg : Str → Option Value) := Fd K mg "check_row" sCheckRow ["row", "number", "counts"]
abbrev FCheckProgram (K : Frg) (mg : Str → Option Value) := Fd K mg "check_program" sCheckProgram ["program"]
def spHasShape : Sp := fun vs H Q _ => ∃ (a : Addr) (r : Row), vs = [.ref a] ∧ H a = some (.tup (rowVs r)) ∧ ∀ H', Same1 H H' → Q (.bl true) H'
def kWo : Key := .inr "worth"
def kNx : Key := .inr "next"
def spCheckRow : Sp := fun vs H Q _ => ∃ (a c : Addr) (n : Int) (r : Row) (W N : Nat) (kvs : List (Key × V)), vs = [.ref a, .int n, .ref c] ∧ H a = some (.tup (rowVs r)) ∧ r.ok W N ∧
  H c = some (.dK kvs) ∧ valV kvs kWo = some (.int (W : Int)) ∧ valV kvs kNx = some (.int (N : Int)) ∧ ∀ H', Same1 H H' → Q .non H'
def spCheckProgram : Sp := fun vs H Q _ => ∃ (a : Addr) (p : Prog), vs = [.ref a] ∧ ProgAt H a p ∧ Good p ∧ ∀ H', Same1 H H' → Q .non H'
abbrev sUsesWorth : Stmt := top 15
abbrev FUsesWorth (K : Frg) (mg : Str → Option Value) := Fd K mg "uses_worth" sUsesWorth ["row"]
def spUses : Sp := fun vs H Q _ => ∃ (a : Addr) (r : Row), vs = [.ref a] ∧ H a = some (.tup (rowVs r)) ∧ Q (.bl r.uses) H
theorem uses_in (r : Row) : inV (.str "worth") (r.parts.map V.str) = r.uses := by
  cases r <;> (dsimp only [Row.parts, Row.uses, List.map]; decide +kernel)
section
variable {P : Program} {w : World} {K : PySem.W.Frag} {mg : Str → Option Value} {base : Heap}
abbrev nHasShape : List Str := ["row", "word", "thing"]
theorem scHasShape : FnScope nHasShape ["row"] (defScope sHasShape) := ⟨rfl, rfl, rfl, by decide +kernel, rfl, by decide +kernel, by decide +kernel⟩
theorem ok_hasShape (c : FHasShape K mg) (cPart : FPart K mg) (cIsNumber : FIsNumber K mg) (T : Bt mg) (Z : Pt K w mg) : FnOk P w K mg base CX0 2 c.f c.fd ["row"] spHasShape := by
  have GPart : FnOk P w K mg base CX0 1 cPart.f cPart.fd ["whole", "at"] spPart := ok_part cPart T
  have GIsNumber : FnOk P w K mg base CX0 1 cIsNumber.f cIsNumber.fd ["thing"] spNum := ok_isNumber cIsNumber T
  refine c.F.ok scHasShape (fun vs H Q E h => ?_) (fun cdv A outer s H vs Q E hr h => ?_)
  · obtain ⟨a, r, rfl, _⟩ := h
    rfl
  · obtain ⟨a, r, rfl, ha, k⟩ := h
    obtain ⟨t, z1, z2, z3⟩ := Z.get r
    obtain ⟨ns, n1, n2⟩ := Row.ints r
    have rl := Row.vs_len r
    refine ⟨_, (pss_cons (ps_set (i := 1) scHasShape.nd rfl (Or.inl rfl) (pe_call GPart (hr.mono (by first | omega | decide)) (by rfl) cPart.m cPart.F.kp cPart.b .nil pass0 (pa_cons (pv 0) (pa_cons pe_int pa_nil))))
      (pss_cons (ps_if (PW.pt (pw_or (pt_not (pt_val (pe_callB call_isi (by rfl) T.isinstance (by decide +kernel) (pa_cons (pv 1) (pa_cons (pe_bltn (v := .ty "str") (by rfl) T.str (by decide +kernel) rfl) pa_nil))))) (pw_or1 (pt_cmpR (op_notIn_kd Z.kd) (pv 1) (pe_glob (v := .ref Z.d) rfl Z.m rfl) rfl))))
          (pss_one (ps_ret pe_bl))
          pss_nil)
      (pss_one (ps_ret (pe_and (pe_cmpR op_eq (pe_callB call_len_seq (by rfl) T.len PySem.boot_len (pa_cons (pv 0) pa_nil)) (pe_op op_add (pe_callB call_len_seq (by rfl) T.len PySem.boot_len (pa_cons (pe_ix ix_kdict (pe_glob (v := .ref Z.d) rfl Z.m rfl) (pv 1) (fun _ _ => rfl)) pa_nil)) pe_int) (nomark _)) (pe_one (pe_callB (cr_all rfl) (by rfl) T.all (by decide +kernel) (pa_cons (pe_lc (own := [("thing", 2)]) (g := gName 2) (tt := tYes) rfl scHasShape.nd (pi_tup (pe_slice sl_tupS (pv 0) (po_some pe_int) po_none)) (blkOk_by (N := nHasShape) (sc := defScope sHasShape) (by decide +kernel)) (fun _ _ _ _ _ => (pg_name (i := 2) scHasShape.nd rfl (Or.inl rfl))) (fun _ _ _ _ _ => pts_nil) (fun _ _ _ _ _ => (pe_call GIsNumber (hr.mono (by first | omega | decide)) (by rfl) cIsNumber.m cIsNumber.F.kp cIsNumber.b .nil pass0 (pa_cons (pv 2) pa_nil)))) pa_nil)))))))), ?_⟩
    refine ⟨_, rfl, a, _, 0, _, rfl, ha, Row.w0 r, ?_⟩
    refine ⟨_, rfl, _, _, _, _, true, rfl, .ty _, .base (.str _), kit_ty (by decide +kernel), _, rfl, ?_⟩
    refine ⟨_, rfl, _, _, rfl, rfl, z1, _, rfl, ?_⟩
    refine ⟨_, rfl, a, _, rfl, .inr (SqT.of ha), _, rfl, Z.d, _, _, rfl, rfl, z2, t, _, rfl, .inr (z3 H), _, _, rfl, rfl, rfl, _, rfl, ?_⟩
    rw [List.length_map, Row.parts_len, decide_eq_true (show V.int ((r.parts.length + 1 : Nat) : Int) = V.int ((r.parts.length : Int) + 1) from rfl)]
    refine iteT ⟨_, rfl, _, rfl, a, _, rfl, ha, fun t2 H2 s2 e2 => ?_⟩
    rw [drop1, n1] at e2
    refine ⟨t2, rfl, ⟨_, SqT.of e2⟩, fun D hD => ?_⟩
    refine lc_tup (K := K) (a := t2) (xs := ns.map V.int) (fun i H' => H' D = some (.lst ((List.replicate i true).map V.bl)) ∧ Same1 H2 H') ⟨upd_same, Same.new hD⟩ (fun i H' _ ⟨_, q⟩ => SqT.of (q _ _ e2)) ?_ ?_
    · rintro i x H3 hi ⟨hd, s3⟩
      have hin : i < ns.length := by
        have q := (List.getElem?_eq_some_iff.mp hi).1
        rwa [List.length_map] at q
      obtain ⟨z, rfl⟩ : ∃ z, x = V.int z := by
        rw [List.getElem?_map, List.getElem?_eq_getElem hin] at hi
        exact ⟨_, (Option.some.inj hi).symm⟩
      refine ⟨rfl, _, rfl, z, rfl, _, hd, szl (by rw [List.length_map, List.length_replicate]; rw [n2] at hin; have := Row.parts_len r; omega), ?_, Same.mut s3 hD⟩
      rw [upd_same, List.replicate_succ', List.map_append]
      rfl
    · rintro H3 ⟨hd, s3⟩
      refine ⟨D, _, rfl, SqL.of hd, ?_⟩
      rw [show (List.replicate (ns.map V.int).length true).all id = true by rw [List.all_eq_true]; intro x hx; rw [List.eq_of_mem_replicate hx]; rfl]
      exact k _ (s2.trans s3)
abbrev nCheckRow : List Str := ["row", "number", "counts", "name", "thing"]
theorem scCheckRow : FnScope nCheckRow ["row", "number", "counts"] (defScope sCheckRow) := ⟨rfl, rfl, rfl, by decide +kernel, rfl, by decide +kernel, by decide +kernel⟩
theorem ok_checkRow (c : FCheckRow K mg) (cHasShape : FHasShape K mg) (cPart : FPart K mg) (cIsNumber : FIsNumber K mg) (T : Bt mg) (Z : Pt K w mg) : FnOk P w K mg base CX0 3 c.f c.fd ["row", "number", "counts"] spCheckRow := by
  have GHasShape : FnOk P w K mg base CX0 2 cHasShape.f cHasShape.fd ["row"] spHasShape := ok_hasShape cHasShape cPart cIsNumber T Z
  refine c.F.ok scCheckRow (fun vs H Q E h => ?_) (fun cdv A outer s H vs Q E hr h => ?_)
  · obtain ⟨a, c, n, r, W, N, kvs, rfl, _⟩ := h
    rfl
  · obtain ⟨a, c, n, r, W, N, kvs, rfl, ha, ho, hc, hW, hN, k⟩ := h
    obtain ⟨t, z1, z2, z3⟩ := Z.get r
    refine ⟨_, (pss_cons (ps_if (pt_not (pt_val (pe_call GHasShape (hr.mono (by first | omega | decide)) (by rfl) cHasShape.m cHasShape.F.kp cHasShape.b .nil pass0 (pa_cons (pv 0) pa_nil))))
          (pss_one ps_never)
          pss_nil)
      (pss_one (ps_for PassesOwn.never rfl (RZ.pi_zipA (by rfl) T.zip (pa_cons (pe_ix ix_kdict (pe_glob (v := .ref Z.d) rfl Z.m rfl) (pe_ix ix_tup (pv 0) pe_int (fun _ _ => rfl)) (fun _ _ => rfl)) (pa_cons (pe_slice sl_tupS (pv 0) (po_some pe_int) po_none) pa_nil))) (pg_tup rfl (pgs_cons (pg_name (i := 3) scCheckRow.nd rfl (Or.inl rfl)) (pgs_cons (pg_name (i := 4) scCheckRow.nd rfl (Or.inl rfl)) pgs_nil)))
          (pss_one (ps_if (pt_not (pt_chain op_le op_lt pe_int (pv 4) (pe_dget (hu_of hr) (pv 2) (pv 3) (fun _ _ => rfl))))
              (pss_one ps_never)
              pss_nil))))), ?_⟩
    refine ⟨_, rfl, a, r, rfl, ha, fun H1 s1 => ⟨_, rfl, ?_⟩⟩
    have ha1 := s1 _ _ ha
    refine ⟨_, rfl, a, _, _, _, rfl, rfl, SqT.of ha1, atI_nat (j := 0) (Row.w0 r), Z.d, _, _, rfl, rfl, z2, _, rfl, _, rfl, a, _, rfl, ha1, fun t2 H2 s2 e2 => ?_⟩
    rw [drop1] at e2
    have hl : (r.parts.map V.str).length = ((rowVs r).drop 1).length := by
      rw [List.length_map, List.length_drop, Row.parts_len]
      omega
    have S2 := s1.trans s2
    refine ⟨t, t2, _, _, rfl, .inr ⟨z3 H2, SqT.of e2, RZ.for_zipT hl (fun i σ H' => ∃ x3 x4 : Option V, σ = [some (.ref a), some (.int n), some (.ref c), x3, x4] ∧ Same1 H2 H') ⟨none, none, rfl, Same.refl _⟩
      (fun i σ H' ⟨_, _, _, q⟩ => ⟨z3 H', SqT.of (q _ _ e2)⟩) ?_ ?_⟩⟩
    · rintro i x y T' σ H3 hx hy ⟨x3, x4, rfl, s3⟩ hT'
      have hi : i < r.parts.length := by
        have q := (List.getElem?_eq_some_iff.mp hx).1
        rwa [List.length_map] at q
      obtain ⟨z, g1, g2⟩ := Row.args r hi
      have ey : y = .int (z : Int) := by
        rw [hy] at g1
        exact Option.some.inj g1
      subst ey
      have hc3 := (S2.trans s3) _ _ hc
      refine alloc hT' fun H4 s4 e4 => ?_
      have hc4 := s4 _ _ hc3
      refine ⟨T', _, rfl, SqT.of e4, rfl, _, _, rfl, _, _, rfl, rfl, ?_⟩
      refine ⟨_, rfl, _, _, rfl, rfl, _, rfl, ?_⟩
      rw [decide_eq_true (show (0 : Int) ≤ (z : Int) by omega)]
      rw [List.getElem?_map] at hx
      rcases g2 ho with ⟨q1, q2⟩ | ⟨q1, q2⟩
      · rw [q1] at hx
        have ex : V.str "worth" = x := Option.some.inj hx
        subst ex
        refine iteT ⟨_, rfl, _, rfl, c, _, rfl, dget (k := kWo) hc4 hW, _, _, rfl, rfl, _, rfl, ?_⟩
        rw [decide_eq_true (show (z : Int) < (W : Int) by omega)]
        exact ⟨_, _, rfl, s3.trans s4⟩
      · rw [q1] at hx
        have ex : V.str "next" = x := Option.some.inj hx
        subst ex
        refine iteT ⟨_, rfl, _, rfl, c, _, rfl, dget (k := kNx) hc4 hN, _, _, rfl, rfl, _, rfl, ?_⟩
        rw [decide_eq_true (show (z : Int) < (N : Int) by omega)]
        exact ⟨_, _, rfl, s3.trans s4⟩
    · rintro σ H3 ⟨x3, x4, rfl, s3⟩
      exact k _ (S2.trans s3)
theorem k_WN : kWo ≠ kNx := by decide +kernel
abbrev nCheckProgram : List Str := ["program", "rows", "number", "row"]
theorem scCheckProgram : FnScope nCheckProgram ["program"] (defScope sCheckProgram) := ⟨rfl, rfl, rfl, by decide +kernel, rfl, by decide +kernel, by decide +kernel⟩
theorem ok_checkProgram (c : FCheckProgram K mg) (cCheckRow : FCheckRow K mg) (cCheckWorths : FCheckWorths K mg) (cHasShape : FHasShape K mg) (cPart : FPart K mg) (cIsBetween : FIsBetween K mg) (cIsNumber : FIsNumber K mg) (T : Bt mg) (C : Cn mg) (Z : Pt K w mg) : FnOk P w K mg base CX0 4 c.f c.fd ["program"] spCheckProgram := by
  have GCheckRow : FnOk P w K mg base CX0 3 cCheckRow.f cCheckRow.fd ["row", "number", "counts"] spCheckRow := ok_checkRow cCheckRow cHasShape cPart cIsNumber T Z
  have GCheckWorths : FnOk P w K mg base CX0 3 cCheckWorths.f cCheckWorths.fd ["worths"] spCheckWorths := ok_checkWorths cCheckWorths cIsBetween cIsNumber T C
  have GPart : FnOk P w K mg base CX0 1 cPart.f cPart.fd ["whole", "at"] spPart := ok_part cPart T
  refine c.F.ok scCheckProgram (fun vs H Q E h => ?_) (fun cdv A outer s H vs Q E hr h => ?_)
  · obtain ⟨a, p, rfl, _⟩ := h
    rfl
  · obtain ⟨a, p, rfl, ⟨wa, ra, bs, ha, hwa, hra, hR⟩, g, k⟩ := h
    have hbr := Paired.length hR
    have hR40 := g.r40
    have hR1 := g.r1
    refine ⟨_, (pss_cons (ps_expr (pe_call GCheckWorths (hr.mono (by first | omega | decide)) (by rfl) cCheckWorths.m cCheckWorths.F.kp cCheckWorths.b .nil pass0 (pa_cons (pe_call GPart (hr.mono (by first | omega | decide)) (by rfl) cPart.m cPart.F.kp cPart.b .nil pass0 (pa_cons (pv 0) (pa_cons pe_int pa_nil))) pa_nil)))
      (pss_cons (ps_set (i := 1) scCheckProgram.nd rfl (Or.inl rfl) (pe_call GPart (hr.mono (by first | omega | decide)) (by rfl) cPart.m cPart.F.kp cPart.b .nil pass0 (pa_cons (pv 0) (pa_cons pe_int pa_nil))))
      (pss_cons (ps_if (PW.pt (pw_or (pt_not (pt_val (pe_callB call_isi (by rfl) T.isinstance (by decide +kernel) (pa_cons (pv 1) (pa_cons (pe_bltn (v := .ty "tuple") (by rfl) T.tuple (by decide +kernel) rfl) pa_nil))))) (pw_or (pt_cmpR op_ne (pe_callB call_len_seq (by rfl) T.len PySem.boot_len (pa_cons (pv 0) pa_nil)) pe_int (nomark _)) (pw_or1 (pt_not (pt_chain op_le op_le pe_int (pe_callB call_len_seq (by rfl) T.len PySem.boot_len (pa_cons (pv 1) pa_nil)) (pe_glob rfl C.mR relI)))))))
          (pss_one ps_never)
          pss_nil)
      (pss_one (ps_for PassesOwn.never rfl (pi_enumT (by rfl) T.enumerate (pa_cons (pv 1) pa_nil)) (pg_tup rfl (pgs_cons (pg_name (i := 2) scCheckProgram.nd rfl (Or.inl rfl)) (pgs_cons (pg_name (i := 3) scCheckProgram.nd rfl (Or.inl rfl)) pgs_nil)))
          (pss_one (ps_expr (pe_call GCheckRow (hr.mono (by first | omega | decide)) (by rfl) cCheckRow.m cCheckRow.F.kp cCheckRow.b .nil pass0 (pa_cons (pv 3) (pa_cons (pv 2) (pa_cons (pe_disp (pps_cons pe_str (pe_callB call_len_seq (by rfl) T.len PySem.boot_len (pa_cons (pe_ix ix_tup (pv 0) pe_int (fun _ _ => rfl)) pa_nil)) (pps_cons pe_str (pe_callB call_len_seq (by rfl) T.len PySem.boot_len (pa_cons (pv 1) pa_nil)) pps_nil)) (by rfl) (by rfl) (fun z => by cases z) (by decide)) pa_nil))))))))))), ?_⟩
    refine ⟨_, rfl, a, _, 0, _, rfl, ha, rfl, wa, p.ws, rfl, hwa, g.w8, g.num, ?_⟩
    refine ⟨_, rfl, a, _, 1, _, rfl, ha, rfl, ?_⟩
    refine ⟨_, rfl, _, _, _, _, true, rfl, .ty _, .base (.tup hra), kit_ty (by decide +kernel), _, rfl, ?_⟩
    refine ⟨_, rfl, a, _, rfl, .inr (SqT.of ha), rfl, _, rfl, ?_⟩
    rw [decide_eq_true (show V.int ((([V.ref wa, V.ref ra] : List V).length : Nat) : Int) = V.int 2 from rfl)]
    refine iteF ⟨_, rfl, ra, _, rfl, .inr (SqT.of hra), _, _, rfl, rfl, _, rfl, ?_⟩
    rw [List.length_map, hbr, decide_eq_true (show (1 : Int) ≤ (p.rows.length : Int) by omega)]
    refine iteT ⟨_, _, rfl, rfl, _, rfl, ?_⟩
    rw [decide_eq_true (show (p.rows.length : Int) ≤ 40 by omega)]
    refine iteF ?_
    refine ⟨_, rfl, ra, _, rfl, SqT.of hra, for_enumT (K := K) (a := ra) (xs := bs.map V.ref) (fun i σ H' => ∃ x2 x3 : Option V, σ = [some (.ref a), some (.ref ra), x2, x3] ∧ Same1 H H') ⟨none, none, rfl, Same.refl _⟩
      (fun i σ H' ⟨_, _, _, q⟩ => SqT.of (q _ _ hra)) ?_ ?_⟩
    · rintro i x T' σ H1 hi ⟨x2, x3, rfl, s1⟩ hT'
      have hiR : i < p.rows.length := by
        have q := (List.getElem?_eq_some_iff.mp hi).1
        rwa [List.length_map, hbr] at q
      have hr1 : p.rows[i]? = some p.rows[i] := List.getElem?_eq_getElem hiR
      obtain ⟨b, hb1, hb2⟩ := Paired.getR hR hr1
      have ex : x = V.ref b := by
        rw [List.getElem?_map, hb1] at hi
        exact (Option.some.inj hi).symm
      subst ex
      refine alloc hT' fun H2 s2 e2 => ?_
      have S2 := s1.trans s2
      refine ⟨T', _, rfl, SqT.of e2, rfl, _, _, rfl, _, _, rfl, rfl, ?_⟩
      refine ⟨_, rfl, _, rfl, fun c1 hc1 => ?_⟩
      refine alloc hc1 fun H3 s3 e3 => ?_
      have S3 := S2.trans s3
      refine ⟨_, rfl, a, _, _, _, rfl, rfl, SqT.of (S3 _ _ ha), at0, wa, _, rfl, .inr (SqT.of (S3 _ _ hwa)), _, rfl, ra, _, rfl, .inr (SqT.of (S3 _ _ hra)), e3,
        [(kWo, .int (((p.ws.map V.int).length : Nat) : Int)), (kNx, .int (((bs.map V.ref).length : Nat) : Int))], rfl, (by show 2 ≤ 15; decide), ?_⟩
      have em : mergeK [] [(kWo, .int (((p.ws.map V.int).length : Nat) : Int)), (kNx, .int (((bs.map V.ref).length : Nat) : Int))] = putK (putK [] kWo (.int (p.ws.length : Int))) kNx (.int (p.rows.length : Int)) := by
        rw [List.length_map, List.length_map, hbr]
        rfl
      rw [em]
      have S4 : Same1 H (upd H3 c1 (.dK (putK (putK [] kWo (.int (p.ws.length : Int))) kNx (.int (p.rows.length : Int))))) := Same.mut S3 (S2.free hc1)
      refine ⟨b, c1, _, p.rows[i], p.ws.length, p.rows.length, putK (putK [] kWo (.int (p.ws.length : Int))) kNx (.int (p.rows.length : Int)), rfl, S4 _ _ hb2, g.ok _ (List.getElem_mem hiR), upd_same, ?_, ?_, fun H5 s5 => ⟨_, _, rfl, S4.trans s5⟩⟩
      · rw [valV_put, if_neg k_WN, valV_put, if_pos rfl]
      · rw [valV_put, if_pos rfl]
    · rintro σ H1 ⟨x2, x3, rfl, s1⟩
      exact k _ s1
theorem scUsesWorth : FnScope ["row"] ["row"] (defScope sUsesWorth) := ⟨rfl, rfl, rfl, by decide +kernel, rfl, by decide +kernel, by decide +kernel⟩
theorem ok_usesWorth (c : FUsesWorth K mg) (Z : Pt K w mg) : FnOk P w K mg base CX0 1 c.f c.fd ["row"] spUses := by
  refine c.F.ok scUsesWorth (fun vs H Q E h => ?_) (fun cdv A outer s H vs Q E hr h => ?_)
  · obtain ⟨a, r, rfl, _⟩ := h
    rfl
  · obtain ⟨a, r, rfl, ha, k⟩ := h
    obtain ⟨t, z1, z2, z3⟩ := Z.get r
    refine ⟨_, (pss_one (ps_ret (pe_cmpR op_in_seq pe_str (pe_ix ix_kdict (pe_glob (v := .ref Z.d) rfl Z.m rfl) (pe_ix ix_tup (pv 0) pe_int (fun _ _ => rfl)) (fun _ _ => rfl)) rfl))), ?_⟩
    refine ⟨_, rfl, a, _, _, _, rfl, rfl, SqT.of ha, atI_nat (j := 0) (Row.w0 r), Z.d, _, _, rfl, rfl, z2, t, _, rfl, .inr (z3 H), rfl, ?_, ?_⟩
    · rw [List.all_eq_true]
      intro x hx
      obtain ⟨y, _, rfl⟩ := List.mem_map.mp hx
      rfl
    · show Q (.bl (inV (.str "worth") (r.parts.map V.str))) H
      rw [uses_in]
      exact k
end
end DL
namespace DLR
open PySem PySem.Spec PyProof.Rows L2
/-! ### set(xs) of a list or a tuple of whole numbers; its rules over the layer -/
def newSet (w : World) : Obj := { cls := .type "set", dict := none, data := .set #[] 0 (.fresh 0 0 (!w.params.followText "set-order")) }
def SetMade (w : World) (s : Shared) (ns : List Int) (v : Value) (s2 : Shared) : Prop := v = .none ∧ ∃ (h2 : Heap) (tk c : Nat), s2 = { s with heap := h2, toks := tk } ∧ SetR w h2 s.heap.objs.size (fun j => decide (j ∈ ns)) c ∧ c ≤ ns.length ∧ ∀ b o, s.heap.get? b = some o → h2.get? b = some o
section
variable {P : Program} {w : World} {A : Around} {E : Value → Shared → Prop} {s : Shared}
set_option maxHeartbeats 3200000 in
theorem set_of_list {l : Addr} {items : Array Value} (ns : List Int) {Q : Value → Shared → Prop} (hh : A.handled = none) (hl : s.heap.IsList l items) (hit : IntsAre items.toList ns) (room : ns.length + 1 < scanBound)
    (k : ∀ (h2 : Heap) (tk c : Nat), SetR w h2 s.heap.objs.size (fun j => decide (j ∈ ns)) c → c ≤ ns.length → (∀ b o, s.heap.get? b = some o → h2.get? b = some o) → Q (.ref s.heap.objs.size) { s with heap := h2, toks := tk }) :
    wpAny (model P w) A (call (.type "set") [.ref l]) Q E s := by
  have size_eq : items.size = ns.length := by simpa using IntsAre.length hit
  obtain ⟨_, _, mro⟩ := F.called_set.mro
  have made := F.called_set.made
  have sub := F.called_set.sub
  have nt := F.called_set.notType
  have cc := F.called_set.canCreate
  have tc := F.typeCall_set_1 (.ref l)
  refine wpAny_call (codeAny_of_tree (show wpAny _ _ (callAny (.type "set") _) _ _ _ from wpAny_pure ⟨Code.quiet_builtin _ (by decide +kernel), codeAny_builtin F.entry_type_call ?_⟩))
  rw [Around.under_plain (weight_type_call_type "set" [.ref l] []) rfl]
  repeat (any_goals (first | assumption | wp_step))

  refine codeAny_mono (code_set_led1 (.ref l) (E := E) (Q₁ := fun o s1 => o = .ref s.heap.objs.size ∧ s1 = { s with heap := s.heap.push (newSet w) }) ⟨rfl, rfl⟩) fun r s1 hr => ?_
  match r, hr with
  | .error e, hr => exact hr
  | .ok (.ret o), hr =>
    obtain ⟨rfl, rfl⟩ := hr
    have at0 : (s.heap.push (newSet w)).get? s.heap.objs.size = some (newSet w) := Heap.get?_push_size _ rfl
    have ty : Shared.TypeIs { s with heap := s.heap.push (newSet w) } (.ref s.heap.objs.size) "set" := ⟨_, at0, rfl⟩
    have il := F.called_set.init.lookup
    have ib := F.called_set.init.bind (.ref s.heap.objs.size)
    repeat (any_goals (first | assumption | wp_step))

    refine codeAny_mono (codeAny_call_builtin (R := wants (SetMade w s ns) E) F.called_set.init.plain F.entry_set_init (check_set_init_1 ty ?_)) fun r2 s2 hr2 => ?_
    · obtain ⟨ol, hol, rfl', nl, hdl⟩ := hl
      obtain ⟨cls0, dict0, data0, slots0⟩ := ol
      dsimp only at rfl' hdl
      subst rfl' hdl
      have ol2 : (s.heap.push (newSet w)).get? l = some { cls := .type "list", dict := dict0, data := .seq items nl, slots := slots0 } := Heap.get?_push_of_some _ hol
      have s_ls := F.sub_list_set
      have s_lf := F.sub_list_frozenset
      have ne_d : (Value.type "list" == Value.type "dict") = false := by decide
      have isl : (s.heap.push (newSet w)).IsList l items := ⟨_, ol2, rfl, nl, rfl⟩
      unfold Builtin.«set.__init__» noKeywords Builtin.Frozenset.updateFrom
      generalize hPI : pyIter = PI
      wp_walk
      subst hPI

      refine wpAny_pyIter_list isl (wpAny_bind (wpAny_runValue ?_))
      have low : l < s.heap.objs.size := Heap.lt_size hol
      have h_in : A.in1.in1.in1.handled = none := by simp [hh]
      have sz1 : (s.heap.push (newSet w)).objs.size = s.heap.objs.size + 1 := Heap.size_push ..
      have neI : l ≠ (s.heap.push (newSet w)).objs.size := Nat.ne_of_lt (by rw [sz1]; exact Nat.lt_succ_of_lt low)
      have out0 : s.heap.objs.size ∉ [(s.heap.push (newSet w)).objs.size, l] := fun q => by
        rcases List.mem_cons.mp q with e | e
        · exact Nat.ne_of_lt (by rw [sz1]; exact Nat.lt_succ_self _) e
        · exact Nat.ne_of_gt low (List.mem_singleton.mp e)
      have vals : ∀ (i : Nat) (v : Value), items[i]? = some v → ∃ k t, ns[i]? = some k ∧ v = .int k t := fun i v hv => by
        have lt : i < ns.length := size_eq ▸ (Array.getElem?_eq_some_iff.mp hv).1
        obtain ⟨t, e⟩ := IntsAre.int_at hit i v (by rw [Array.getElem?_toList]; exact hv)
        refine ⟨ns[i], t, List.getElem?_eq_getElem lt, e.trans ?_⟩
        rw [List.getD_eq_getElem?_getD, List.getElem?_eq_getElem lt]
        rfl
      refine set_update_ints ((Walks.list h_in _ l neI items).toS) s.heap.objs.size out0 ns size_eq room vals (items.size - 0) 0 _ (by omega) (Nat.zero_le _) ⟨⟨_, Heap.get?_push_size _ rfl, rfl, rfl⟩, isl.push _⟩ ⟨0, Nat.le_refl 0, setR_new_at (Heap.get?_push_of_some _ at0)⟩ ?_
      intro s3 c3 mv hc3 set3
      have g3 := mv.gens
      have d3 := mv.drawn
      have o3 := mv.os
      have m3 := mv.heap
      obtain ⟨hp3, gs3, dr3, tk3, os3⟩ := s3
      have g3 : gs3 = s.gens := g3
      have d3 : dr3 = s.drawn := d3
      have o3 : os3 = s.os := o3
      subst g3 d3 o3
      refine show wpAny _ _ _ _ _ _ from wpAny_pure (show wpAny _ _ (ret Value.none) _ _ _ from wpAny_pure ⟨rfl, hp3, tk3, c3, rfl, set3, size_eq ▸ hc3, fun b o e => ?_⟩)
      have b0 : b < s.heap.objs.size := Heap.lt_size e
      refine m3 b o (fun q => ?_) (Heap.get?_push_of_some _ (Heap.get?_push_of_some _ e))
      rcases List.mem_cons.mp q with e2 | e2
      · exact Nat.ne_of_lt b0 e2
      · exact Nat.ne_of_lt (by rw [sz1]; exact Nat.lt_succ_of_lt b0) (List.mem_singleton.mp e2)
    · match r2, hr2 with
      | .error e, q => exact q
      | .ok (.ret v), q =>
        obtain ⟨rfl, h2, tk, c, rfl, q1, q2, q3⟩ := q
        repeat (any_goals (first | assumption | wp_step))
        exact k _ _ _ q1 q2 q3
      | .ok .next, q => exact q.elim
      | .ok .brk, q => exact q.elim
      | .ok .cont, q => exact q.elim
  | .ok .next, hr => exact hr.elim
  | .ok .brk, hr => exact hr.elim
  | .ok .cont, hr => exact hr.elim
end
end DLR
namespace DLR
open PySem PySem.Spec PyProof.Rows L2
def rSetL (K : PySem.W.Frag) (w : World) : List V → Hp → VK → Prop := fun vs H Q => ∃ (l : Addr) (ns : List Int), vs = [V.ref l] ∧ SqL K H l (ns.map V.int) ∧ ns.length < 60 ∧
  ∀ p c, c ≤ ns.length → H p = none → Q (.ref p) (upd H p (SetO w p (fun j => decide (j ∈ ns)) c))
def rSetT (K : PySem.W.Frag) (w : World) : List V → Hp → VK → Prop := fun vs H Q => ∃ (l : Addr) (ns : List Int), vs = [V.ref l] ∧ SqT K H l (ns.map V.int) ∧ ns.length < 60 ∧
  ∀ p c, c ≤ ns.length → H p = none → Q (.ref p) (upd H p (SetO w p (fun j => decide (j ∈ ns)) c))
theorem scan60 {n : Nat} (h : n < 60) : n + 1 < scanBound := Nat.lt_of_lt_of_le (Nat.succ_lt_succ h) (by decide)
section
variable {X : Cx}
theorem cr_setL (hc : X.calm = true) : CallR X (.type "set") (rSetL X.K X.w) := by
  intro pins s σ H vs us Q I r h
  obtain ⟨l, ns, rfl, hs, hb, q⟩ := h
  rw [Vals.ref1 r]
  obtain ⟨its, rv, pl, hz⟩ := I.list hs
  refine set_of_list ns (I.ok.hd hc) pl.isList (by simpa using rv.ints) (scan60 hb) fun h2 tk c R hc2 k => ?_
  exact ⟨.ref s.heap.objs.size, _, I.laid (t' := tk) k (Nat.le_refl _) (setO_new R), rfl, q _ c hc2 (I.hok.fresh (Nat.le_refl _))⟩
theorem cr_setT (hc : X.calm = true) : CallR X (.type "set") (rSetT X.K X.w) := by
  intro pins s σ H vs us Q I r h
  obtain ⟨l, ns, rfl, hs, hb, q⟩ := h
  rw [Vals.ref1 r]
  obtain ⟨its, rv, ⟨o, ho, hcl, n, hd⟩, _⟩ := I.tuple hs
  refine call_set_tupI (items := its.toArray) ns (I.ok.hd hc) ⟨o, ho, hcl, n, hd⟩ (by simpa using rv.ints) (scan60 hb) fun h2 tk c R hc2 k => ?_
  exact ⟨.ref s.heap.objs.size, _, I.laid (t' := tk) k (Nat.le_refl _) (setO_new R), rfl, q _ c hc2 (I.hok.fresh (Nat.le_refl _))⟩
end
theorem rise_uniq : ∀ {l m : List Int}, l.Pairwise (· < ·) → m.Pairwise (· < ·) → (∀ x, x ∈ l ↔ x ∈ m) → l = m
  | [], [], _, _, _ => rfl
  | [], y :: m, _, _, h => absurd ((h y).mpr List.mem_cons_self) (by simp)
  | x :: l, [], _, _, h => absurd ((h x).mp List.mem_cons_self) (by simp)
  | x :: l, y :: m, hl, hm, h => by
    have h1 := List.pairwise_cons.mp hl
    have h2 := List.pairwise_cons.mp hm
    have e : x = y := by
      have a := (h x).mp List.mem_cons_self
      have b := (h y).mpr List.mem_cons_self
      rcases List.mem_cons.mp a with e | e
      · exact e
      · rcases List.mem_cons.mp b with e2 | e2
        · exact e2.symm
        · have := h2.1 x e
          have := h1.1 y e2
          omega
    subst e
    rw [rise_uniq h1.2 h2.2 fun z => ⟨fun hz => ?_, fun hz => ?_⟩]
    · rcases List.mem_cons.mp ((h z).mp (List.mem_cons_of_mem _ hz)) with e | e
      · have := h1.1 z hz
        omega
      · exact e
    · rcases List.mem_cons.mp ((h z).mpr (List.mem_cons_of_mem _ hz)) with e | e
      · have := h2.1 z hz
        omega
      · exact e
end DLR
namespace DL
open PySem L2 DLR
/-! ### layings -/
structure Lay where
  wide : Nat
  places : List Nat
  homes : List (List Nat)
abbrev HomesAt (H : Hp) (bs : List Addr) (hs : List (List Nat)) : Prop := Paired (fun b h => H b = some (.tup (h.map nI))) bs hs
def LayAt (H : Hp) (a : Addr) (y : Lay) : Prop :=
  ∃ (pa ha : Addr) (bs : List Addr), H a = some (.tup [nI y.wide, .ref pa, .ref ha]) ∧ H pa = some (.tup (y.places.map nI)) ∧ H ha = some (.tup (bs.map V.ref)) ∧ HomesAt H bs y.homes
theorem HomesAt.kp {H H' : Hp} {bs : List Addr} {hs : List (List Nat)} (h : HomesAt H bs hs) (k : Kp H H') : HomesAt H' bs hs := Paired.mapP h fun b x e => k _ _ e
theorem LayAt.kp {H H' : Hp} {a : Addr} {y : Lay} (h : LayAt H a y) (k : Kp H H') : LayAt H' a y := by
  obtain ⟨pa, ha, bs, h1, h2, h3, h4⟩ := h
  exact ⟨pa, ha, bs, k _ _ h1, k _ _ h2, k _ _ h3, h4.kp k⟩
structure HomeOk (wide : Nat) (h : List Nat) : Prop where
  l1 : 1 ≤ h.length
  l3 : h.length ≤ 3
  up : h.Pairwise (· < ·)
  lt : ∀ x ∈ h, x < wide
structure LayOk (p : Prog) (y : Lay) : Prop where
  w2 : 2 ≤ y.wide
  w24 : y.wide ≤ 24
  pl : y.places.length = p.rows.length
  pok : ∀ x ∈ y.places, x < y.wide
  hl : y.homes.length = p.ws.length
  hok : ∀ h ∈ y.homes, HomeOk y.wide h
structure Bs (mg : Str → Option Value) : Prop where
  set : mg "set" = none
theorem rise_nat {ns : List Int} (h0 : ∀ x ∈ ns, 0 ≤ x) (up : ns.Pairwise (· < ·)) : ∃ h : List Nat, ns.map V.int = h.map nI ∧ h.length = ns.length ∧ h.Pairwise (· < ·) ∧ (∀ x ∈ h, (x : Int) ∈ ns) := by
  refine ⟨ns.map Int.toNat, ?_, List.length_map _, ?_, fun x hx => ?_⟩
  · rw [List.map_map]
    refine List.map_congr_left fun x hx => ?_
    show V.int x = V.int ((x.toNat : Nat) : Int)
    rw [Int.toNat_of_nonneg (h0 x hx)]
  · rw [List.pairwise_map]
    refine up.imp_of_mem fun {a b} ha hb h => ?_
    have := h0 a ha
    have := h0 b hb
    omega
  · obtain ⟨z, hz, rfl⟩ := List.mem_map.mp hx
    rw [Int.toNat_of_nonneg (h0 z hz)]
    exact hz
abbrev sLaying : Stmt := top 69
abbrev pLaying : List Str := ["_law_d", "_law_program", "_law_most"]
abbrev nLaying : List Str := ["_law_d", "_law_program", "_law_most", "_law_wide", "_law_places", "_law_homes", "_law_worth", "_law_some", "_law_row", "_law_k"]
abbrev FLaying (K : Frg) (mg : Str → Option Value) := Fd K mg "_law_laying" sLaying pLaying
def spLaying (K : Frg) : Sp := fun vs H Q _ => ∃ (d sa : Addr) (ns : List Int) (pa : Addr) (p : Prog) (most : Int), vs = [.ref d, .ref pa, .int most] ∧ Ent K H d sa ns ∧ ProgAt H pa p ∧ Good p ∧ 1 ≤ most ∧ most ≤ 3 ∧
  ∀ a y H', Dc K H H' d sa ns → LayAt H' a y → LayOk p y → (∀ h ∈ y.homes, (h.length : Int) ≤ most) → Q (.ref a) H'
section
variable {P : Program} {w : World} {K : PySem.W.Frag} {mg : Str → Option Value} {base : Heap}
theorem scLaying : FnScope nLaying pLaying (defScope sLaying) := ⟨rfl, rfl, rfl, by decide +kernel, rfl, by decide +kernel, by decide +kernel⟩
theorem ok_laying (c : FLaying K mg) (cNext : FNext K mg) (T : Bt mg) (TS : Bs mg) : FnOk P w K mg base CX0 2 c.f c.fd pLaying (spLaying K) := by
  have GNext : FnOk P w K mg base CX0 1 cNext.f cNext.fd ["_law_dice_here", "_law_many"] (spNext K) := ok_next cNext.F T
  refine c.F.ok scLaying (fun vs H Q E h => ?_) (fun cdv A outer s H vs Q E hr h => ?_)
  · obtain ⟨d, sa, ns, pa, p, most, rfl, _⟩ := h
    rfl
  · obtain ⟨d, sa, ns, pa, p, most, rfl, hE, ⟨wa, ra, bs, hpa, hwa, hra, hR⟩, g, m1, m3, kq⟩ := h
    have hbr := Paired.length hR
    have hR40 := g.r40
    have hW8 := g.w8
    refine ⟨_, (pss_cons (ps_set (i := 3) scLaying.nd rfl (Or.inr rfl) (pe_op op_add pe_int (pe_call GNext (hr.mono (by first | omega | decide)) (by rfl) cNext.m cNext.F.kp cNext.b .nil pass0 (pa_cons (pv 0) (pa_cons (pe_ix ix_list (pe_lst (pa_cons pe_int (pa_cons pe_int pa_nil))) (pe_call GNext (hr.mono (by first | omega | decide)) (by rfl) cNext.m cNext.F.kp cNext.b .nil pass0 (pa_cons (pv 0) (pa_cons pe_int pa_nil))) (fun _ _ => rfl)) pa_nil)))))
      (pss_cons (ps_set (i := 4) scLaying.nd rfl (Or.inl rfl) (pe_callTy call_tuple_of (by rfl) T.tuple (by decide +kernel) (pa_cons (pe_lc (own := [("_law_row", 8)]) (g := gName 8) (tt := tYes) rfl scLaying.nd (pi_tup (pe_ix ix_tup (pv 1) pe_int (fun _ _ => rfl))) (blkOk_by (N := nLaying) (sc := defScope sLaying) (by decide +kernel)) (fun _ _ _ _ _ => (pg_name (i := 8) scLaying.nd rfl (Or.inl rfl))) (fun _ _ _ _ _ => pts_nil) (fun _ _ _ _ _ => (pe_call GNext (hr.mono (by first | omega | decide)) (by rfl) cNext.m cNext.F.kp cNext.b .nil pass0 (pa_cons (pv 0) (pa_cons (pv 3) pa_nil))))) pa_nil)))
      (pss_cons (ps_set (i := 5) scLaying.nd rfl (Or.inl rfl) (pe_lst pa_nil))
      (pss_cons (ps_for PassesOwn.never rfl (pi_tup (pe_ix ix_tup (pv 1) pe_int (fun _ _ => rfl))) (pg_name (i := 6) scLaying.nd rfl (Or.inl rfl))
          (pss_cons (ps_setLc (i := 7) (own := [("_law_k", 9)]) (g := gName 9) (tt := tYes) rfl scLaying.nd rfl rfl (sw_true rfl rfl rfl (by decide +kernel)) (pi_range1 rfl T.range (pa_cons (pe_op op_add pe_int (pe_call GNext (hr.mono (by first | omega | decide)) (by rfl) cNext.m cNext.F.kp cNext.b .nil pass0 (pa_cons (pv 0) (pa_cons (pv 2) pa_nil)))) pa_nil)) (blkOk_by (N := nLaying) (sc := defScope sLaying) (by decide +kernel)) (fun _ _ _ _ _ => (pg_name (i := 9) scLaying.nd rfl (Or.inl rfl))) (fun _ _ _ _ _ => pts_nil) (fun _ _ _ _ _ => (pe_call GNext (hr.mono (by first | omega | decide)) (by rfl) cNext.m cNext.F.kp cNext.b .nil pass0 (pa_cons (pv 0) (pa_cons (pv 3) pa_nil)))))
          (pss_one (ps_expr (pe_bm PySem.F.plainAttrs_list PySem.F.slot_list_append PySem.F.type_list_append mt_append (pv 5) (pa_cons (pe_callTy call_tuple_of (by rfl) T.tuple (by decide +kernel) (pa_cons (pe_callB (cr_sortedSet rfl) (by rfl) T.sorted (by decide +kernel) (pa_cons (pe_callTy (cr_setL rfl) (by rfl) TS.set (by decide +kernel) (pa_cons (pv 7) pa_nil)) pa_nil)) pa_nil)) pa_nil))))))
      (pss_one (ps_ret (pe_tup (pa_cons (pv 3) (pa_cons (pv 4) (pa_cons (pe_callTy call_tuple_of (by rfl) T.tuple (by decide +kernel) (pa_cons (pv 5) pa_nil)) pa_nil)))))))))), ?_⟩
    refine ⟨_, rfl, (by show 2 ≤ sizeLine; decide), fun l hl => ?_⟩
    refine alloc hl fun H1 s1 e1 => ?_
    have C1 := (Dc.refl hE).same s1
    refine ⟨_, rfl, d, sa, ns, _, rfl, C1.ent, by decide, by decide, fun n1 H2 a0 a1 C2 => ?_⟩
    obtain ⟨z, hz, z1, z2⟩ : ∃ z : Int, atI ([V.int 4, V.int 23] : List V) n1 = some (.int z) ∧ 0 < z ∧ z ≤ 23 := by
      rcases (show n1 = 0 ∨ n1 = 1 by omega) with q | q
      · exact ⟨4, by rw [q]; exact at0, by decide, by decide⟩
      · exact ⟨23, by rw [q]; exact at1, by decide, by decide⟩
    refine ⟨l, _, _, _, rfl, rfl, SqL.of (C2.but _ _ (C1.ned hl) e1), hz, d, sa, ns, _, rfl, (C1.trans C2).ent, z1, by omega, fun n2 H3 b0 b1 C3 => ?_⟩
    have C3' := (C1.trans C2).trans C3
    refine ⟨_, _, rfl, rfl, ?_⟩
    obtain ⟨W, hW⟩ : ∃ W : Nat, 2 + n2 = (W : Int) := ⟨(2 + n2).toNat, by omega⟩
    dsimp only
    rw [hW]
    refine ⟨_, rfl, pa, _, _, _, rfl, rfl, SqT.of (C3'.kp _ _ hpa), at1, ra, rfl, ⟨_, SqT.of (C3'.kp _ _ hra)⟩, fun D hD => ?_⟩
    refine lc_tup (K := K) (a := ra) (xs := bs.map V.ref) (fun i H' => ∃ us : List Nat, Dc K H H' d sa ns ∧ H D = none ∧ H' D = some (.lst (us.map nI)) ∧ us.length = i ∧ ∀ x ∈ us, x < W)
      ⟨[], C3'.new hD, C3'.here hD, upd_same, rfl, fun _ h => absurd h (by simp)⟩ (fun i H' _ ⟨_, q, _⟩ => SqT.of (q.kp _ _ hra)) ?_ ?_
    · rintro i x H4 hi ⟨us, C4, nD, hu, hul, hum⟩
      have hi2 := (List.getElem?_eq_some_iff.mp hi).1
      rw [List.length_map] at hi2
      refine ⟨rfl, _, rfl, _, rfl, d, sa, ns, _, rfl, C4.ent, by omega, by omega, fun m H5 m0 m1 C5 => ?_⟩
      refine ⟨_, C5.but _ _ (C4.ned nD) hu, szl (by rw [List.length_map]; omega), us ++ [m.toNat], (C4.trans C5).mut nD, nD, ?_, by rw [List.length_append, hul]; rfl, fun x hx => ?_⟩
      · rw [upd_same, List.map_append]
        show _ = some (HO.lst (us.map nI ++ [V.int ((m.toNat : Nat) : Int)]))
        rw [Int.toNat_of_nonneg m0]
      · rcases List.mem_append.mp hx with q | q
        · exact hum x q
        · rw [List.mem_singleton.mp q]
          omega
    · rintro H4 ⟨us, C4, nD, hu, hul, hum⟩
      rw [List.length_map, hbr] at hul
      refine ⟨D, _, rfl, .inl ⟨SqL.of hu, fun pl hpl => ?_⟩⟩
      refine alloc hpl fun H5 s5 e5 => ?_
      have C5 := C4.same s5
      refine ⟨Nat.zero_le _, fun lh hlh => ?_⟩
      refine alloc hlh fun H6 s6 e6 => ?_
      have C6 := C5.same s6
      have nlh : H lh = none := C5.here hlh
      refine ⟨_, rfl, pa, _, _, _, rfl, rfl, SqT.of (C6.kp _ _ hpa), at0, wa, rfl, ⟨_, SqT.of (C6.kp _ _ hwa)⟩, ?_⟩
      refine for_tup (K := K) (a := wa) (xs := p.ws.map V.int) (fun i σ H' => ∃ (x6 x7 : Option V) (hb : List Addr) (hs : List (List Nat)), σ = [some (.ref d), some (.ref pa), some (.int most), some (.int (W : Int)), some (.ref pl), some (.ref lh), x6, x7, none, none] ∧
          Dc K H H' d sa ns ∧ Kp H6 H' ∧ H' lh = some (.lst (hb.map V.ref)) ∧ HomesAt H' hb hs ∧ hs.length = i ∧ ∀ h ∈ hs, HomeOk W h ∧ (h.length : Int) ≤ most)
        ⟨none, none, [], [], rfl, C6, Kp.refl _, e6, .nil, rfl, fun _ h => absurd h (by simp)⟩ (fun i σ H' _ ⟨_, _, _, _, _, q, _⟩ => SqT.of (q.kp _ _ hwa)) ?_ ?_
      · rintro i x σ H7 hi ⟨x6, x7, hb, hs, rfl, C7, k7, hlh7, hH, hsl, hok⟩
        have hi2 := (List.getElem?_eq_some_iff.mp hi).1
        rw [List.length_map] at hi2
        have hhb := Paired.length hH
        refine ⟨_, rfl, _, rfl, d, sa, ns, _, rfl, C7.ent, by omega, by omega, fun m H8 m0 m1' C8 => ?_⟩
        have C8' := C7.trans C8
        refine ⟨_, _, rfl, rfl, _, rfl, by omega, by omega, fun D2 hD2 => ?_⟩
        have hlh8 := C8.but _ _ (C7.ned nlh) hlh7
        have nD2 : lh ≠ D2 := ne_of_none hlh8 hD2
        refine lc_range (lo := 0) (n := (1 + m).toNat) (fun i H9 => ∃ us : List Int, Dc K H H9 d sa ns ∧ H D2 = none ∧ H9 D2 = some (.lst (us.map V.int)) ∧ us.length = i ∧ (∀ x ∈ us, 0 ≤ x ∧ x < (W : Int)) ∧ Kp H7 H9 ∧ H9 lh = some (.lst (hb.map V.ref)))
          ⟨[], C8'.new hD2, C8'.here hD2, upd_same, rfl, fun _ h => absurd h (by simp), C8.kp.trans (Kp.new hD2), by rw [upd_ne nD2]; exact hlh8⟩ ?_ ?_
        · rintro j H9 hj ⟨us, C9, nD, hu, hul, hum, k9, hlh9⟩
          refine ⟨rfl, _, rfl, _, rfl, d, sa, ns, _, rfl, C9.ent, by omega, by omega, fun m2 H10 c0 c1 C10 => ?_⟩
          have hu10 := C10.but _ _ (C9.ned nD) hu
          refine ⟨_, hu10, szl (by rw [List.length_map]; omega), us ++ [m2], (C9.trans C10).mut nD, nD, by rw [upd_same, List.map_append]; rfl, by rw [List.length_append, hul]; rfl, all_snoc hum ⟨c0, c1⟩, (k9.trans C10.kp).trans (Kp.lst hu10), by rw [upd_ne nD2]; exact C10.but _ _ (C9.ned nlh) hlh9⟩
        · rintro H9 ⟨us2, C9, nD, hu, hul2, hum2, k9, hlh9⟩
          refine ⟨_, rfl, .inl ⟨rfl, _, SqL.of hlh9⟩, _, rfl, D2, us2, rfl, SqL.of hu, by omega, fun sp c hc hsp => ?_⟩
          refine alloc hsp fun H10 s10 e10 => ?_
          refine ⟨sp, _, c, rfl, e10, by omega, fun ms q up mem len hq => ?_⟩
          refine alloc hq fun H11 s11 e11 => ?_
          refine ⟨q, _, rfl, .inl ⟨SqL.of e11, fun t ht => ?_⟩⟩
          refine alloc ht fun H12 s12 e12 => ?_
          have S12 := (s10.trans s11).trans s12
          have mem2 : ∀ x, x ∈ ms ↔ x ∈ us2 := fun x => (mem x).trans decide_eq_true_iff
          obtain ⟨h, h1, h2, h3, h4⟩ := rise_nat (ns := ms) (fun x hx => (hum2 x ((mem2 x).mp hx)).1) up
          have hlh12 := S12 _ _ hlh9
          have kf := ((k9.trans (Kp.same S12)).trans (Kp.lst (o := .lst (hb.map V.ref ++ [.ref t])) hlh12))
          refine ⟨lh, _, _, rfl, rfl, hlh12, szl (by rw [List.length_map]; omega), ?_⟩
          refine ⟨_, _, hb ++ [t], hs ++ [h], rfl, (C9.same S12).mut nlh, k7.trans kf, by rw [upd_same, List.map_append]; rfl, ?_, by rw [List.length_append, hsl]; rfl, ?_⟩
          · refine Paired.app (HomesAt.kp hH kf) (Paired.one ?_)
            have e := Kp.lst (o := .lst (hb.map V.ref ++ [.ref t])) hlh12 _ _ e12
            rw [h1] at e
            exact e
          · refine all_snoc hok ⟨⟨?_, ?_, h3, fun x hx => ?_⟩, by rw [h2, len]; omega⟩
            · rw [h2]
              obtain ⟨u, hu2⟩ : ∃ u, u ∈ us2 := by
                cases us2 with
                | nil => simp at hul2; omega
                | cons u _ => exact ⟨u, List.mem_cons_self⟩
              exact List.length_pos_of_mem ((mem2 u).mpr hu2)
            · rw [h2, len]
              omega
            · have := (hum2 _ ((mem2 _).mp (h4 x hx))).2
              omega
      · rintro σ H7 ⟨x6, x7, hb, hs, rfl, C7, k7, hlh7, hH, hsl, hok⟩
        rw [List.length_map] at hsl
        refine ⟨_, rfl, _, rfl, _, rfl, lh, _, rfl, .inl ⟨SqL.of hlh7, fun t ht => ?_⟩⟩
        refine alloc ht fun H8 s8 e8 => ?_
        refine ⟨(by show 3 ≤ sizeLine; decide), fun a ha => ?_⟩
        refine alloc ha fun H9 s9 e9 => ?_
        have S := s8.trans s9
        exact kq a ⟨W, us, hs⟩ H9 (C7.same S) ⟨pl, t, hb, e9, S _ _ (k7 _ _ (s6 _ _ e5)), s9 _ _ e8, HomesAt.kp hH (Kp.same S)⟩ ⟨by show 2 ≤ W; omega, by show W ≤ 24; omega, hul, hum, hsl, fun h hh => (hok h hh).1⟩ fun h hh => (hok h hh).2
end
end DL
namespace DL
open PySem L2 DLR
structure Cl (mg : Str → Option Value) where
  t2 : Tok
  t24 : Tok
  m2 : mg "LEAST_WIDE" = some (.int 2 t2)
  m24 : mg "MOST_WIDE" = some (.int 24 t24)
structure Ch (mg : Str → Option Value) where
  t3 : Tok
  m3 : mg "MOST_HOMES" = some (.int 3 t3)
abbrev sCheckWide : Stmt := top 29
abbrev sCheckPlaces : Stmt := top 30
abbrev sCheckHomes : Stmt := top 31
abbrev sAreHomes : Stmt := top 32
abbrev sCheckLaying : Stmt := top 28
abbrev FCheckWide (K : Frg) (mg : Str → Option Value) := Fd K mg "check_wide" sCheckWide ["wide"]
abbrev FCheckPlaces (K : Frg) (mg : Str → Option Value) := Fd K mg "check_places" sCheckPlaces ["places", "count", "wide"]
abbrev FCheckHomes (K : Frg) (mg : Str → Option Value) := Fd K mg "check_homes" sCheckHomes ["homes", "count", "wide"]
abbrev FAreHomes (K : Frg) (mg : Str → Option Value) := Fd K mg "are_homes" sAreHomes ["places", "wide"]
abbrev FCheckLaying (K : Frg) (mg : Str → Option Value) := Fd K mg "check_laying" sCheckLaying ["program", "laying"]
def spCheckWide : Sp := fun vs H Q _ => ∃ n : Int, vs = [.int n] ∧ 2 ≤ n ∧ n ≤ 24 ∧ Q .non H
def spCheckPlaces : Sp := fun vs H Q _ => ∃ (a : Addr) (us : List Nat) (W : Nat), vs = [.ref a, .int (us.length : Int), .int (W : Int)] ∧ H a = some (.tup (us.map nI)) ∧ us.length ≤ 100 ∧ (∀ x ∈ us, x < W) ∧ ∀ H', Same1 H H' → Q .non H'
def spAreHomes : Sp := fun vs H Q _ => ∃ (a : Addr) (h : List Nat) (W : Nat), vs = [.ref a, .int (W : Int)] ∧ H a = some (.tup (h.map nI)) ∧ HomeOk W h ∧ ∀ H', Same1 H H' → Q (.bl true) H'
def spCheckHomes : Sp := fun vs H Q _ => ∃ (a : Addr) (bs : List Addr) (hs : List (List Nat)) (W : Nat), vs = [.ref a, .int (hs.length : Int), .int (W : Int)] ∧ H a = some (.tup (bs.map V.ref)) ∧ HomesAt H bs hs ∧ hs.length ≤ 100 ∧ (∀ h ∈ hs, HomeOk W h) ∧ ∀ H', Same1 H H' → Q .non H'
def spCheckLaying : Sp := fun vs H Q _ => ∃ (a b : Addr) (p : Prog) (y : Lay), vs = [.ref a, .ref b] ∧ ProgAt H a p ∧ Good p ∧ LayAt H b y ∧ LayOk p y ∧ ∀ H', Same1 H H' → Q .non H'
theorem nI_ints (h : List Nat) : h.map nI = (h.map fun x : Nat => (x : Int)).map V.int := by
  rw [List.map_map]
  rfl
def intsD (l : List Int) : PyData := .list (l.map PyData.int)
theorem intsD_at {K : Frg} {H : Hp} : ∀ l : List Int, DpAll K H (l.map V.int) (l.map PyData.int)
  | [] => .nil
  | x :: l => .cons (.int x) (intsD_at l)
theorem intsD_lay : ∀ l : List Int, PyData.canLayAll0 (l.map PyData.int) = true
  | [] => by decide +kernel
  | x :: l => by
    show (PyData.canLay0 (.int x) && PyData.canLayAll0 (l.map PyData.int)) = true
    rw [intsD_lay l]
    rfl
theorem intsD_dep : ∀ l : List Int, PyData.depthAll (l.map PyData.int) ≤ 1
  | [] => by decide
  | x :: l => by
    have h := intsD_dep l
    show max (PyData.int x).depth (PyData.depthAll (l.map PyData.int)) ≤ 1
    have : (PyData.int x).depth ≤ 1 := by simp [PyData.depth]
    omega
theorem intsD_shaped (l : List Int) : SeqAt.shaped (intsD l) = true := by
  show (PyData.canLayAll0 (l.map PyData.int) && decide (PyData.depth (.list (l.map PyData.int)) ≤ 64)) = true
  rw [intsD_lay]
  refine decide_eq_true ?_
  have := intsD_dep l
  show _ + _ ≤ 64
  omega
theorem eq_ints {K : Frg} {H : Hp} {a b : Addr} {l : List Int} {Q : VK} (h1 : H a = some (.lst (l.map V.int))) (h2 : H b = some (.lst (l.map V.int))) (q : Q (.bl true) H) : rEqD K (.ref a) (.ref b) H Q := by
  refine ⟨intsD l, intsD l, .lst (SqL.of h1) (intsD_at l), .lst (SqL.of h2) (intsD_at l), intsD_shaped l, intsD_shaped l, ?_⟩
  rw [PySem.SeqAt.eqv_refl _ (SeqAt.canLay_of_shaped (intsD_shaped l))]
  exact q
section
variable {P : Program} {w : World} {K : PySem.W.Frag} {mg : Str → Option Value} {base : Heap}
theorem scCheckWide : FnScope ["wide"] ["wide"] (defScope sCheckWide) := ⟨rfl, rfl, rfl, by decide +kernel, rfl, by decide +kernel, by decide +kernel⟩
theorem ok_checkWide (c : FCheckWide K mg) (cIsBetween : FIsBetween K mg) (cIsNumber : FIsNumber K mg) (T : Bt mg) (L : Cl mg) : FnOk P w K mg base CX0 3 c.f c.fd ["wide"] spCheckWide := by
  have GIsBetween : FnOk P w K mg base CX0 2 cIsBetween.f cIsBetween.fd ["thing", "low", "high"] spBetween := ok_isBetween cIsBetween cIsNumber T
  refine c.F.ok scCheckWide (fun vs H Q E h => ?_) (fun cdv A outer s H vs Q E hr h => ?_)
  · obtain ⟨n, rfl, _⟩ := h
    rfl
  · obtain ⟨n, rfl, h1, h2, k⟩ := h
    refine ⟨_, (pss_one (ps_if (pt_not (pt_val (pe_call GIsBetween (hr.mono (by first | omega | decide)) (by rfl) cIsBetween.m cIsBetween.F.kp cIsBetween.b .nil pass0 (pa_cons (pv 0) (pa_cons (pe_glob rfl L.m2 relI) (pa_cons (pe_glob rfl L.m24 relI) pa_nil))))))
          (pss_one ps_never)
          pss_nil)), ?_⟩
    exact ⟨_, rfl, n, _, _, rfl, h1, h2, _, rfl, k⟩
abbrev nCheckPlaces : List Str := ["places", "count", "wide", "row", "place"]
theorem scCheckPlaces : FnScope nCheckPlaces ["places", "count", "wide"] (defScope sCheckPlaces) := ⟨rfl, rfl, rfl, by decide +kernel, rfl, by decide +kernel, by decide +kernel⟩
theorem ok_checkPlaces (c : FCheckPlaces K mg) (cIsBetween : FIsBetween K mg) (cIsNumber : FIsNumber K mg) (T : Bt mg) : FnOk P w K mg base CX0 3 c.f c.fd ["places", "count", "wide"] spCheckPlaces := by
  have GIsBetween : FnOk P w K mg base CX0 2 cIsBetween.f cIsBetween.fd ["thing", "low", "high"] spBetween := ok_isBetween cIsBetween cIsNumber T
  refine c.F.ok scCheckPlaces (fun vs H Q E h => ?_) (fun cdv A outer s H vs Q E hr h => ?_)
  · obtain ⟨a, us, W, rfl, _⟩ := h
    rfl
  · obtain ⟨a, us, W, rfl, h1, h100, hb, k⟩ := h
    refine ⟨_, (pss_cons (ps_if (PW.pt (pw_or (pt_not (pt_val (pe_callB call_isi (by rfl) T.isinstance (by decide +kernel) (pa_cons (pv 0) (pa_cons (pe_bltn (v := .ty "tuple") (by rfl) T.tuple (by decide +kernel) rfl) pa_nil))))) (pw_or1 (pt_cmpR op_ne (pe_callB call_len_seq (by rfl) T.len PySem.boot_len (pa_cons (pv 0) pa_nil)) (pv 1) (nomark _)))))
          (pss_one ps_never)
          pss_nil)
      (pss_one (ps_for PassesOwn.never rfl (pi_enumT (by rfl) T.enumerate (pa_cons (pv 0) pa_nil)) (pg_tup rfl (pgs_cons (pg_name (i := 3) scCheckPlaces.nd rfl (Or.inl rfl)) (pgs_cons (pg_name (i := 4) scCheckPlaces.nd rfl (Or.inl rfl)) pgs_nil)))
          (pss_one (ps_if (pt_not (pt_val (pe_call GIsBetween (hr.mono (by first | omega | decide)) (by rfl) cIsBetween.m cIsBetween.F.kp cIsBetween.b .nil pass0 (pa_cons (pv 4) (pa_cons pe_int (pa_cons (pe_op op_sub (pv 2) pe_int) pa_nil))))))
              (pss_one ps_never)
              pss_nil))))), ?_⟩
    refine ⟨_, rfl, _, _, _, _, true, rfl, .ty _, .base (.tup h1), kit_ty (by decide +kernel), _, rfl, ?_⟩
    refine ⟨_, rfl, a, _, rfl, .inr (SqT.of h1), _, rfl, rfl, _, rfl, ?_⟩
    rw [List.length_map, decide_eq_true (show V.int (us.length : Int) = V.int (us.length : Int) from rfl)]
    refine iteF ⟨_, rfl, a, _, rfl, SqT.of h1, for_enumT (K := K) (a := a) (xs := us.map nI) (fun i σ H' => ∃ x3 x4 : Option V, σ = [some (.ref a), some (.int (us.length : Int)), some (.int (W : Int)), x3, x4] ∧ Same1 H H') ⟨none, none, rfl, Same.refl _⟩
      (fun i σ H' ⟨_, _, _, q⟩ => SqT.of (q _ _ h1)) ?_ ?_⟩
    · rintro i x T' σ H1 hi ⟨x3, x4, rfl, s1⟩ hT'
      rw [List.getElem?_map] at hi
      cases hz : us[i]? with
      | none => rw [hz] at hi; cases hi
      | some z =>
        rw [hz] at hi
        have e : nI z = x := Option.some.inj hi
        subst e
        have hlt := hb z (List.mem_of_getElem? hz)
        refine alloc hT' fun H2 s2 e2 => ?_
        refine ⟨T', _, rfl, SqT.of e2, rfl, _, _, rfl, _, _, rfl, rfl, ?_⟩
        refine ⟨_, rfl, _, rfl, _, _, rfl, rfl, (z : Int), _, _, rfl, by omega, by omega, _, rfl, ?_⟩
        exact ⟨_, _, rfl, s1.trans s2⟩
    · rintro σ H1 ⟨x3, x4, rfl, s1⟩
      exact k _ s1
abbrev nAreHomes : List Str := ["places", "wide", "place"]
theorem scAreHomes : FnScope nAreHomes ["places", "wide"] (defScope sAreHomes) := ⟨rfl, rfl, rfl, by decide +kernel, rfl, by decide +kernel, by decide +kernel⟩
theorem ok_areHomes (c : FAreHomes K mg) (cIsBetween : FIsBetween K mg) (cIsNumber : FIsNumber K mg) (T : Bt mg) (TS : Bs mg) (LH : Ch mg) : FnOk P w K mg base CX0 3 c.f c.fd ["places", "wide"] spAreHomes := by
  have GIsBetween : FnOk P w K mg base CX0 2 cIsBetween.f cIsBetween.fd ["thing", "low", "high"] spBetween := ok_isBetween cIsBetween cIsNumber T
  refine c.F.ok scAreHomes (fun vs H Q E h => ?_) (fun cdv A outer s H vs Q E hr h => ?_)
  · obtain ⟨a, h, W, rfl, _⟩ := h
    rfl
  · obtain ⟨a, h, W, rfl, h1, hk, k⟩ := h
    have l1 := hk.l1
    have l3 := hk.l3
    refine ⟨_, (pss_cons (ps_if (PW.pt (pw_or (pt_not (pt_val (pe_callB call_isi (by rfl) T.isinstance (by decide +kernel) (pa_cons (pv 0) (pa_cons (pe_bltn (v := .ty "tuple") (by rfl) T.tuple (by decide +kernel) rfl) pa_nil))))) (pw_or1 (pt_not (pt_chain op_le op_le pe_int (pe_callB call_len_seq (by rfl) T.len PySem.boot_len (pa_cons (pv 0) pa_nil)) (pe_glob rfl LH.m3 relI))))))
          (pss_one (ps_ret pe_bl))
          pss_nil)
      (pss_cons (ps_if (pt_not (pt_val (pe_callB (cr_all rfl) (by rfl) T.all (by decide +kernel) (pa_cons (pe_lc (own := [("place", 2)]) (g := gName 2) (tt := tYes) rfl scAreHomes.nd (pi_tup (pv 0)) (blkOk_by (N := nAreHomes) (sc := defScope sAreHomes) (by decide +kernel)) (fun _ _ _ _ _ => (pg_name (i := 2) scAreHomes.nd rfl (Or.inl rfl))) (fun _ _ _ _ _ => pts_nil) (fun _ _ _ _ _ => (pe_call GIsBetween (hr.mono (by first | omega | decide)) (by rfl) cIsBetween.m cIsBetween.F.kp cIsBetween.b .nil pass0 (pa_cons (pv 2) (pa_cons pe_int (pa_cons (pe_op op_sub (pv 1) pe_int) pa_nil)))))) pa_nil))))
          (pss_one (ps_ret pe_bl))
          pss_nil)
      (pss_one (ps_ret (pe_cmpR (op_eqD hr.units) (pe_callTy call_list_of (by rfl) T.list (by decide +kernel) (pa_cons (pv 0) pa_nil)) (pe_callB (cr_sortedSet rfl) (by rfl) T.sorted (by decide +kernel) (pa_cons (pe_callTy (cr_setT rfl) (by rfl) TS.set (by decide +kernel) (pa_cons (pv 0) pa_nil)) pa_nil)) (nomark _)))))), ?_⟩
    refine ⟨_, rfl, _, _, _, _, true, rfl, .ty _, .base (.tup h1), kit_ty (by decide +kernel), _, rfl, ?_⟩
    refine ⟨_, rfl, a, _, rfl, .inr (SqT.of h1), _, _, rfl, rfl, _, rfl, ?_⟩
    rw [List.length_map, decide_eq_true (show (1 : Int) ≤ (h.length : Int) by omega)]
    refine iteT ⟨_, _, rfl, rfl, _, rfl, ?_⟩
    rw [decide_eq_true (show (h.length : Int) ≤ 3 by omega)]
    refine iteF ⟨_, rfl, a, rfl, ⟨_, SqT.of h1⟩, fun D hD => ?_⟩
    refine lc_tup (K := K) (a := a) (xs := h.map nI) (fun i H' => H' D = some (.lst ((List.replicate i true).map V.bl)) ∧ Same1 H H') ⟨upd_same, Same.new hD⟩ (fun i H' _ ⟨_, q⟩ => SqT.of (q _ _ h1)) ?_ ?_
    · rintro i x H3 hi ⟨hd, s3⟩
      rw [List.getElem?_map] at hi
      cases hz : h[i]? with
      | none => rw [hz] at hi; cases hi
      | some z =>
        rw [hz] at hi
        have e : nI z = x := Option.some.inj hi
        subst e
        have hlt := hk.lt z (List.mem_of_getElem? hz)
        have hil := (List.getElem?_eq_some_iff.mp hz).1
        refine ⟨rfl, _, rfl, _, rfl, _, _, rfl, rfl, (z : Int), _, _, rfl, by omega, by omega, _, hd, szl (by rw [List.length_map, List.length_replicate]; omega), ?_, Same.mut s3 hD⟩
        rw [upd_same, List.replicate_succ', List.map_append]
        rfl
    · rintro H3 ⟨hd, s3⟩
      refine ⟨D, _, rfl, SqL.of hd, ?_⟩
      rw [show (List.replicate (h.map nI).length true).all id = true by rw [List.all_eq_true]; intro x hx; rw [List.eq_of_mem_replicate hx]; rfl]
      refine ⟨_, rfl, iteF ?_⟩
      have h3 := s3 _ _ h1
      refine ⟨_, rfl, a, _, rfl, .inr (SqT.of h3), fun q1 hq1 => ?_⟩
      refine alloc hq1 fun H4 s4 e4 => ?_
      have h4 := s4 _ _ h3
      rw [nI_ints] at h4 e4
      refine ⟨_, rfl, a, _, rfl, SqT.of h4, by rw [List.length_map]; omega, fun sp c hc hsp => ?_⟩
      rw [List.length_map] at hc
      refine alloc hsp fun H5 s5 e5 => ?_
      refine ⟨sp, _, c, rfl, e5, by omega, fun ms q up mem len hq => ?_⟩
      refine alloc hq fun H6 s6 e6 => ?_
      have em : ms = h.map fun x : Nat => (x : Int) := by
        refine rise_uniq up ?_ fun x => (mem x).trans decide_eq_true_iff
        rw [List.pairwise_map]
        exact hk.up.imp fun {a b} z => by omega
      rw [em] at e6
      exact eq_ints ((s5.trans s6) _ _ e4) e6 (k _ (((s3.trans s4).trans s5).trans s6))
abbrev nCheckHomes : List Str := ["homes", "count", "wide", "worth", "places"]
theorem scCheckHomes : FnScope nCheckHomes ["homes", "count", "wide"] (defScope sCheckHomes) := ⟨rfl, rfl, rfl, by decide +kernel, rfl, by decide +kernel, by decide +kernel⟩
theorem ok_checkHomes (c : FCheckHomes K mg) (cAreHomes : FAreHomes K mg) (cIsBetween : FIsBetween K mg) (cIsNumber : FIsNumber K mg) (T : Bt mg) (TS : Bs mg) (LH : Ch mg) : FnOk P w K mg base CX0 4 c.f c.fd ["homes", "count", "wide"] spCheckHomes := by
  have GAreHomes : FnOk P w K mg base CX0 3 cAreHomes.f cAreHomes.fd ["places", "wide"] spAreHomes := ok_areHomes cAreHomes cIsBetween cIsNumber T TS LH
  refine c.F.ok scCheckHomes (fun vs H Q E h => ?_) (fun cdv A outer s H vs Q E hr h => ?_)
  · obtain ⟨a, bs, hs, W, rfl, _⟩ := h
    rfl
  · obtain ⟨a, bs, hs, W, rfl, h1, hH, h100, hok, k⟩ := h
    have hbl := Paired.length hH
    refine ⟨_, (pss_cons (ps_if (PW.pt (pw_or (pt_not (pt_val (pe_callB call_isi (by rfl) T.isinstance (by decide +kernel) (pa_cons (pv 0) (pa_cons (pe_bltn (v := .ty "tuple") (by rfl) T.tuple (by decide +kernel) rfl) pa_nil))))) (pw_or1 (pt_cmpR op_ne (pe_callB call_len_seq (by rfl) T.len PySem.boot_len (pa_cons (pv 0) pa_nil)) (pv 1) (nomark _)))))
          (pss_one ps_never)
          pss_nil)
      (pss_one (ps_for PassesOwn.never rfl (pi_enumT (by rfl) T.enumerate (pa_cons (pv 0) pa_nil)) (pg_tup rfl (pgs_cons (pg_name (i := 3) scCheckHomes.nd rfl (Or.inl rfl)) (pgs_cons (pg_name (i := 4) scCheckHomes.nd rfl (Or.inl rfl)) pgs_nil)))
          (pss_one (ps_if (pt_not (pt_val (pe_call GAreHomes (hr.mono (by first | omega | decide)) (by rfl) cAreHomes.m cAreHomes.F.kp cAreHomes.b .nil pass0 (pa_cons (pv 4) (pa_cons (pv 2) pa_nil)))))
              (pss_one ps_never)
              pss_nil))))), ?_⟩
    refine ⟨_, rfl, _, _, _, _, true, rfl, .ty _, .base (.tup h1), kit_ty (by decide +kernel), _, rfl, ?_⟩
    refine ⟨_, rfl, a, _, rfl, .inr (SqT.of h1), _, rfl, rfl, _, rfl, ?_⟩
    rw [List.length_map, hbl, decide_eq_true (show V.int (hs.length : Int) = V.int (hs.length : Int) from rfl)]
    refine iteF ⟨_, rfl, a, _, rfl, SqT.of h1, for_enumT (K := K) (a := a) (xs := bs.map V.ref) (fun i σ H' => ∃ x3 x4 : Option V, σ = [some (.ref a), some (.int (hs.length : Int)), some (.int (W : Int)), x3, x4] ∧ Same1 H H') ⟨none, none, rfl, Same.refl _⟩
      (fun i σ H' ⟨_, _, _, q⟩ => SqT.of (q _ _ h1)) ?_ ?_⟩
    · rintro i x T' σ H1 hi ⟨x3, x4, rfl, s1⟩ hT'
      have hih : i < hs.length := by
        have q := (List.getElem?_eq_some_iff.mp hi).1
        rwa [List.length_map, hbl] at q
      obtain ⟨b, hb1, hb2⟩ := Paired.getR hH (List.getElem?_eq_getElem hih)
      have ex : x = V.ref b := by
        rw [List.getElem?_map, hb1] at hi
        exact (Option.some.inj hi).symm
      subst ex
      refine alloc hT' fun H2 s2 e2 => ?_
      refine ⟨T', _, rfl, SqT.of e2, rfl, _, _, rfl, _, _, rfl, rfl, ?_⟩
      refine ⟨_, rfl, _, rfl, b, hs[i], W, rfl, (s1.trans s2) _ _ hb2, hok _ (List.getElem_mem hih), fun H3 s3 => ⟨_, rfl, ?_⟩⟩
      exact ⟨_, _, rfl, (s1.trans s2).trans s3⟩
    · rintro σ H1 ⟨x3, x4, rfl, s1⟩
      exact k _ s1
abbrev nCheckLaying : List Str := ["program", "laying", "worths", "rows", "wide"]
theorem scCheckLaying : FnScope nCheckLaying ["program", "laying"] (defScope sCheckLaying) := ⟨rfl, rfl, rfl, by decide +kernel, rfl, by decide +kernel, by decide +kernel⟩
theorem ok_checkLaying (c : FCheckLaying K mg) (cCheckWide : FCheckWide K mg) (cCheckPlaces : FCheckPlaces K mg) (cCheckHomes : FCheckHomes K mg) (cAreHomes : FAreHomes K mg) (cPart : FPart K mg) (cIsBetween : FIsBetween K mg) (cIsNumber : FIsNumber K mg) (T : Bt mg) (TS : Bs mg) (L : Cl mg) (LH : Ch mg) : FnOk P w K mg base CX0 5 c.f c.fd ["program", "laying"] spCheckLaying := by
  have GPart : FnOk P w K mg base CX0 1 cPart.f cPart.fd ["whole", "at"] spPart := ok_part cPart T
  have GCheckWide : FnOk P w K mg base CX0 3 cCheckWide.f cCheckWide.fd ["wide"] spCheckWide := ok_checkWide cCheckWide cIsBetween cIsNumber T L
  have GCheckPlaces : FnOk P w K mg base CX0 3 cCheckPlaces.f cCheckPlaces.fd ["places", "count", "wide"] spCheckPlaces := ok_checkPlaces cCheckPlaces cIsBetween cIsNumber T
  have GCheckHomes : FnOk P w K mg base CX0 4 cCheckHomes.f cCheckHomes.fd ["homes", "count", "wide"] spCheckHomes := ok_checkHomes cCheckHomes cAreHomes cIsBetween cIsNumber T TS LH
  refine c.F.ok scCheckLaying (fun vs H Q E h => ?_) (fun cdv A outer s H vs Q E hr h => ?_)
  · obtain ⟨a, b, p, y, rfl, _⟩ := h
    rfl
  · obtain ⟨a, b, p, y, rfl, ⟨wa, ra, bs, hpa, hwa, hra, hR⟩, g, ⟨pl, hl, cs, hb, hpl, hhl, hH⟩, yk, k⟩ := h
    have hbr := Paired.length hR
    have hR40 := g.r40
    have hW8 := g.w8
    have hpll := yk.pl
    have hhll := yk.hl
    have w2 := yk.w2
    have w24 := yk.w24
    refine ⟨_, (pss_cons (ps_asg (pv 0) (pg_tup rfl (pgs_cons (pg_name (i := 2) scCheckLaying.nd rfl (Or.inl rfl)) (pgs_cons (pg_name (i := 3) scCheckLaying.nd rfl (Or.inl rfl)) pgs_nil))))
      (pss_cons (ps_set (i := 4) scCheckLaying.nd rfl (Or.inl rfl) (pe_call GPart (hr.mono (by first | omega | decide)) (by rfl) cPart.m cPart.F.kp cPart.b .nil pass0 (pa_cons (pv 1) (pa_cons pe_int pa_nil))))
      (pss_cons (ps_expr (pe_call GCheckWide (hr.mono (by first | omega | decide)) (by rfl) cCheckWide.m cCheckWide.F.kp cCheckWide.b .nil pass0 (pa_cons (pv 4) pa_nil)))
      (pss_cons (ps_expr (pe_call GCheckPlaces (hr.mono (by first | omega | decide)) (by rfl) cCheckPlaces.m cCheckPlaces.F.kp cCheckPlaces.b .nil pass0 (pa_cons (pe_call GPart (hr.mono (by first | omega | decide)) (by rfl) cPart.m cPart.F.kp cPart.b .nil pass0 (pa_cons (pv 1) (pa_cons pe_int pa_nil))) (pa_cons (pe_callB call_len_seq (by rfl) T.len PySem.boot_len (pa_cons (pv 3) pa_nil)) (pa_cons (pv 4) pa_nil)))))
      (pss_cons (ps_expr (pe_call GCheckHomes (hr.mono (by first | omega | decide)) (by rfl) cCheckHomes.m cCheckHomes.F.kp cCheckHomes.b .nil pass0 (pa_cons (pe_call GPart (hr.mono (by first | omega | decide)) (by rfl) cPart.m cPart.F.kp cPart.b .nil pass0 (pa_cons (pv 1) (pa_cons pe_int pa_nil))) (pa_cons (pe_callB call_len_seq (by rfl) T.len PySem.boot_len (pa_cons (pv 2) pa_nil)) (pa_cons (pv 4) pa_nil)))))
      (pss_one (ps_if (pt_cmpR op_ne (pe_callB call_len_seq (by rfl) T.len PySem.boot_len (pa_cons (pv 1) pa_nil)) pe_int (nomark _))
          (pss_one ps_never)
          pss_nil))))))), ?_⟩
    refine ⟨_, rfl, a, _, rfl, SqT.of hpa, rfl, _, _, rfl, _, _, rfl, rfl, ?_⟩
    refine ⟨_, rfl, b, _, 0, _, rfl, hb, rfl, ?_⟩
    refine ⟨_, rfl, (y.wide : Int), rfl, by omega, by omega, ?_⟩
    refine ⟨_, rfl, b, _, 1, _, rfl, hb, rfl, _, rfl, ra, _, rfl, .inr (SqT.of hra), _, rfl, pl, y.places, y.wide, ?_, hpl, by omega, yk.pok, fun H1 s1 => ?_⟩
    · rw [List.length_map, hbr, hpll]
      rfl
    refine ⟨_, rfl, b, _, 2, _, rfl, s1 _ _ hb, rfl, _, rfl, wa, _, rfl, .inr (SqT.of (s1 _ _ hwa)), _, rfl, hl, cs, y.homes, y.wide, ?_, s1 _ _ hhl, HomesAt.kp hH (Kp.same s1), by omega, yk.hok, fun H2 s2 => ?_⟩
    · rw [List.length_map, hhll]
      rfl
    refine ⟨_, rfl, b, _, rfl, .inr (SqT.of ((s1.trans s2) _ _ hb)), rfl, _, rfl, ?_⟩
    rw [decide_eq_true (show V.int ((([nI y.wide, V.ref pl, V.ref hl] : List V).length : Nat) : Int) = V.int 3 from rfl)]
    exact iteF (k _ (s1.trans s2))
end
end DL
namespace DL
open PySem L2 DLR
def nx : Row → List Nat
  | .load _ n => [n]
  | .add _ n => [n]
  | .take _ n => [n]
  | .store _ n => [n]
  | .say n => [n]
  | .test a b => [a, b]
  | .stop => []
def tgt : Row → List Nat
  | .test a b => if a = b then [a] else if a < b then [a, b] else [b, a]
  | r => nx r
theorem tgt_test (a b : Nat) : tgt (.test a b) = if a = b then [a] else if a < b then [a, b] else [b, a] := rfl
theorem tgt_up (r : Row) : (tgt r).Pairwise (· < ·) := by
  cases r with
  | test a b =>
    rw [tgt_test]
    split
    · simp
    · split
      · simp; omega
      · simp; omega
  | stop => exact .nil
  | load _ n => exact List.pairwise_singleton _ _
  | add _ n => exact List.pairwise_singleton _ _
  | take _ n => exact List.pairwise_singleton _ _
  | store _ n => exact List.pairwise_singleton _ _
  | say n => exact List.pairwise_singleton _ _
theorem tgt_mem (r : Row) (x : Nat) : x ∈ tgt r ↔ x ∈ nx r := by
  cases r with
  | test a b =>
    rw [tgt_test, show nx (.test a b) = [a, b] from rfl]
    split
    · rename_i h
      subst h
      simp
    · split
      · exact Iff.rfl
      · simp only [List.mem_cons, List.not_mem_nil, or_false]
        exact Or.comm
  | _ => exact Iff.rfl
theorem tgt_len (r : Row) : (tgt r).length ≤ 2 := by
  cases r with
  | test a b =>
    rw [tgt_test]
    split
    · show 1 ≤ 2; decide
    · split <;> (show 2 ≤ 2; decide)
  | stop => show 0 ≤ 2; decide
  | _ => show 1 ≤ 2; decide
theorem nx_len (r : Row) : (nx r).length ≤ 2 := by cases r <;> simp [nx]
theorem tgt_of {r : Row} {ms : List Int} (up : ms.Pairwise (· < ·)) (mem : ∀ x : Int, x ∈ ms ↔ decide (x ∈ (nx r).map fun n : Nat => (n : Int)) = true) : ms = (tgt r).map fun n : Nat => (n : Int) := by
  refine rise_uniq up ?_ fun x => (mem x).trans (decide_eq_true_iff.trans ?_)
  · rw [List.pairwise_map]
    exact (tgt_up r).imp fun {a b} z => by omega
  · constructor <;> intro h <;> obtain ⟨n, hn, rfl⟩ := List.mem_map.mp h
    · exact List.mem_map.mpr ⟨n, (tgt_mem r n).mpr hn, rfl⟩
    · exact List.mem_map.mpr ⟨n, (tgt_mem r n).mp hn, rfl⟩
def goesN (rows : List Row) (i : Nat) : List (Nat × Nat) := (List.range i).flatMap fun k => (tgt (rows.getD k .stop)).map fun t => (k, t)
theorem goesN_succ (rows : List Row) (i : Nat) : goesN rows (i + 1) = goesN rows i ++ (tgt (rows.getD i .stop)).map fun t => (i, t) := by
  unfold goesN
  rw [List.range_succ, List.flatMap_append]
  simp
theorem goesN_len (rows : List Row) : ∀ i, (goesN rows i).length ≤ 2 * i
  | 0 => Nat.le_refl 0
  | i + 1 => by
    rw [goesN_succ, List.length_append, List.length_map]
    have := goesN_len rows i
    have := tgt_len (rows.getD i .stop)
    omega
def pairVs (g : Nat × Nat) : List V := [nI g.1, nI g.2]
abbrev PairsL (H : Hp) (bs : List Addr) (L : List (Nat × Nat)) : Prop := Paired (fun b g => H b = some (.tup (pairVs g))) bs L
theorem PairsL.kp {H H' : Hp} {bs : List Addr} {L : List (Nat × Nat)} (h : PairsL H bs L) (k : Kp H H') : PairsL H' bs L := Paired.mapP h fun b x e => k _ _ e
abbrev sNexts : Stmt := top 16
abbrev sAhead : Stmt := top 17
abbrev sGoesMay : Stmt := top 18
abbrev FNexts (K : Frg) (mg : Str → Option Value) := Fd K mg "nexts" sNexts ["row"]
abbrev FAhead (K : Frg) (mg : Str → Option Value) := Fd K mg "rows_ahead" sAhead ["row"]
abbrev FGoesMay (K : Frg) (mg : Str → Option Value) := Fd K mg "goes_that_may_be" sGoesMay ["program"]
def spNexts : Sp := fun vs H Q _ => ∃ (a : Addr) (r : Row), vs = [.ref a] ∧ H a = some (.tup (rowVs r)) ∧ ∀ t H', Same1 H H' → H' t = some (.tup ((nx r).map nI)) → Q (.ref t) H'
def spAhead : Sp := fun vs H Q _ => ∃ (a : Addr) (r : Row), vs = [.ref a] ∧ H a = some (.tup (rowVs r)) ∧ ∀ q H', Same1 H H' → H q = none → H' q = some (.lst ((tgt r).map nI)) → Q (.ref q) H'
def spGoesMay : Sp := fun vs H Q _ => ∃ (a : Addr) (p : Prog), vs = [.ref a] ∧ ProgAt H a p ∧ Good p ∧ ∀ l bs H', Same1 H H' → H l = none → H' l = some (.lst (bs.map V.ref)) → PairsL H' bs (goesN p.rows p.rows.length) → Q (.ref l) H'
theorem nx_drop (r : Row) : (if r.uses = true then (rowVs r).drop 2 else (rowVs r).drop 1) = (nx r).map nI := by cases r <;> rfl
theorem dropn (n : Nat) {xs : List V} : cutV xs (some (n : Int)) none = xs.drop n := by
  unfold cutV
  have e : HT.sIx xs.length 0 (some (n : Int)) = min n xs.length := HT.sIx_nat _ _ n
  rw [e, HT.sIx_none]
  rcases Nat.le_total n xs.length with q | q
  · rw [Nat.min_eq_left q]
    exact List.take_of_length_le (by rw [List.length_drop]; omega)
  · rw [Nat.min_eq_right q, List.drop_eq_nil_of_le q, List.drop_eq_nil_of_le (Nat.le_refl _)]
    exact List.take_nil
section
variable {P : Program} {w : World} {K : PySem.W.Frag} {mg : Str → Option Value} {base : Heap}
theorem scNexts : FnScope ["row"] ["row"] (defScope sNexts) := ⟨rfl, rfl, rfl, by decide +kernel, rfl, by decide +kernel, by decide +kernel⟩
theorem ok_nexts (c : FNexts K mg) (cUsesWorth : FUsesWorth K mg) (Z : Pt K w mg) : FnOk P w K mg base CX0 2 c.f c.fd ["row"] spNexts := by
  have GUsesWorth : FnOk P w K mg base CX0 1 cUsesWorth.f cUsesWorth.fd ["row"] spUses := ok_usesWorth cUsesWorth Z
  refine c.F.ok scNexts (fun vs H Q E h => ?_) (fun cdv A outer s H vs Q E hr h => ?_)
  · obtain ⟨a, r, rfl, _⟩ := h
    rfl
  · obtain ⟨a, r, rfl, ha, k⟩ := h
    refine ⟨_, (pss_cons (ps_if (pt_val (pe_call GUsesWorth (hr.mono (by first | omega | decide)) (by rfl) cUsesWorth.m cUsesWorth.F.kp cUsesWorth.b .nil pass0 (pa_cons (pv 0) pa_nil)))
          (pss_one (ps_ret (pe_slice sl_tupS (pv 0) (po_some pe_int) po_none)))
          pss_nil)
      (pss_one (ps_ret (pe_slice sl_tupS (pv 0) (po_some pe_int) po_none)))), ?_⟩
    have e := nx_drop r
    refine ⟨_, rfl, a, r, rfl, ha, _, rfl, ?_⟩
    cases hu : r.uses with
    | true =>
      rw [hu, if_pos rfl] at e
      refine iteT ⟨_, rfl, _, rfl, a, _, rfl, ha, fun t H' s' h' => k t H' s' ?_⟩
      rw [h', ← e]
      exact congrArg (fun z => some (HO.tup z)) (dropn 2)
    | false =>
      rw [hu, if_neg (by decide)] at e
      refine iteF ⟨_, rfl, _, rfl, a, _, rfl, ha, fun t H' s' h' => k t H' s' ?_⟩
      rw [h', ← e]
      exact congrArg (fun z => some (HO.tup z)) (dropn 1)
theorem scAhead : FnScope ["row"] ["row"] (defScope sAhead) := ⟨rfl, rfl, rfl, by decide +kernel, rfl, by decide +kernel, by decide +kernel⟩
theorem ok_ahead (c : FAhead K mg) (cNexts : FNexts K mg) (cUsesWorth : FUsesWorth K mg) (T : Bt mg) (TS : Bs mg) (Z : Pt K w mg) : FnOk P w K mg base CX0 3 c.f c.fd ["row"] spAhead := by
  have GNexts : FnOk P w K mg base CX0 2 cNexts.f cNexts.fd ["row"] spNexts := ok_nexts cNexts cUsesWorth Z
  refine c.F.ok scAhead (fun vs H Q E h => ?_) (fun cdv A outer s H vs Q E hr h => ?_)
  · obtain ⟨a, r, rfl, _⟩ := h
    rfl
  · obtain ⟨a, r, rfl, ha, k⟩ := h
    refine ⟨_, (pss_one (ps_ret (pe_callB (cr_sortedSet rfl) (by rfl) T.sorted (by decide +kernel) (pa_cons (pe_callTy (cr_setT rfl) (by rfl) TS.set (by decide +kernel) (pa_cons (pe_call GNexts (hr.mono (by first | omega | decide)) (by rfl) cNexts.m cNexts.F.kp cNexts.b .nil pass0 (pa_cons (pv 0) pa_nil)) pa_nil)) pa_nil)))), ?_⟩
    refine ⟨_, rfl, a, r, rfl, ha, fun t H4 s4 e4 => ?_⟩
    rw [nI_ints] at e4
    have hnl := nx_len r
    refine ⟨t, _, rfl, SqT.of e4, by rw [List.length_map]; omega, fun sp c hc hsp => ?_⟩
    rw [List.length_map] at hc
    refine alloc hsp fun H5 s5 e5 => ?_
    refine ⟨sp, _, c, rfl, e5, by omega, fun ms q up mem len hq => ?_⟩
    have em := tgt_of up mem
    refine alloc hq fun H6 s6 e6 => ?_
    rw [em] at e6
    refine k q H6 ((s4.trans s5).trans s6) (s4.free (s5.free hq)) ?_
    rw [e6, nI_ints]
abbrev nGoesMay : List Str := ["program", "pairs", "number", "row", "to"]
theorem scGoesMay : FnScope nGoesMay ["program"] (defScope sGoesMay) := ⟨rfl, rfl, rfl, by decide +kernel, rfl, by decide +kernel, by decide +kernel⟩
theorem ok_goesMay (c : FGoesMay K mg) (cAhead : FAhead K mg) (cNexts : FNexts K mg) (cUsesWorth : FUsesWorth K mg) (T : Bt mg) (TS : Bs mg) (Z : Pt K w mg) : FnOk P w K mg base CX0 4 c.f c.fd ["program"] spGoesMay := by
  have GAhead : FnOk P w K mg base CX0 3 cAhead.f cAhead.fd ["row"] spAhead := ok_ahead cAhead cNexts cUsesWorth T TS Z
  refine c.F.ok scGoesMay (fun vs H Q E h => ?_) (fun cdv A outer s H vs Q E hr h => ?_)
  · obtain ⟨a, p, rfl, _⟩ := h
    rfl
  · obtain ⟨a, p, rfl, ⟨wa, ra, bs, hpa, hwa, hra, hR⟩, g, k⟩ := h
    have hbr := Paired.length hR
    have hR40 := g.r40
    refine ⟨_, (pss_cons (ps_set (i := 1) scGoesMay.nd rfl (Or.inl rfl) (pe_lst pa_nil))
      (pss_cons (ps_for PassesOwn.never rfl (pi_enumT (by rfl) T.enumerate (pa_cons (pe_ix ix_tup (pv 0) pe_int (fun _ _ => rfl)) pa_nil)) (pg_tup rfl (pgs_cons (pg_name (i := 2) scGoesMay.nd rfl (Or.inr rfl)) (pgs_cons (pg_name (i := 3) scGoesMay.nd rfl (Or.inl rfl)) pgs_nil)))
          (pss_one (ps_expr (pe_bm PySem.F.plainAttrs_list PySem.F.slot_list_extend PySem.F.type_list_extend mt_extend (pv 1) (pa_cons (pe_lc (own := [("to", 4)]) (g := gName 4) (tt := tYes) rfl scGoesMay.nd (pi_list (pe_call GAhead (hr.mono (by first | omega | decide)) (by rfl) cAhead.m cAhead.F.kp cAhead.b .nil pass0 (pa_cons (pv 3) pa_nil))) (blkOk_by (N := nGoesMay) (sc := defScope sGoesMay) (by decide +kernel)) (fun _ _ _ _ _ => (pg_name (i := 4) scGoesMay.nd rfl (Or.inl rfl))) (fun _ _ _ _ _ => pts_nil) (fun _ _ _ _ _ => (pe_tup (pa_cons (pv 2) (pa_cons (pv 4) pa_nil))))) pa_nil)))))
      (pss_one (ps_ret (pv 1))))), ?_⟩
    refine ⟨Nat.zero_le _, fun l hl => ?_⟩
    refine alloc hl fun H1 s1 e1 => ?_
    refine ⟨_, rfl, a, _, _, _, rfl, rfl, SqT.of (s1 _ _ hpa), at1, ra, _, rfl, SqT.of (s1 _ _ hra), for_enumT (K := K) (a := ra) (xs := bs.map V.ref) (fun i σ H' => ∃ (x2 x3 : Option V) (cs : List Addr), σ = [some (.ref a), some (.ref l), x2, x3, none] ∧ Same1 H H' ∧ H' l = some (.lst (cs.map V.ref)) ∧ PairsL H' cs (goesN p.rows i))
      ⟨none, none, [], rfl, s1, e1, .nil⟩ (fun i σ H' ⟨_, _, _, _, q, _⟩ => SqT.of (q _ _ hra)) ?_ ?_⟩
    · rintro i x T' σ H2 hi ⟨x2, x3, cs, rfl, s2, hl2, hC⟩ hT'
      have hir : i < p.rows.length := by
        have q := (List.getElem?_eq_some_iff.mp hi).1
        rwa [List.length_map, hbr] at q
      obtain ⟨b, hb1, hb2⟩ := Paired.getR hR (List.getElem?_eq_getElem hir)
      have er : p.rows.getD i .stop = p.rows[i] := by rw [List.getD_eq_getElem?_getD, List.getElem?_eq_getElem hir]; rfl
      have ex : x = V.ref b := by
        rw [List.getElem?_map, hb1] at hi
        exact (Option.some.inj hi).symm
      subst ex
      have hcl := Paired.length hC
      have hgl := goesN_len p.rows i
      refine alloc hT' fun H3 s3 e3 => ?_
      refine ⟨T', _, rfl, SqT.of e3, rfl, _, _, rfl, _, _, rfl, rfl, ?_⟩
      refine ⟨_, rfl, .inl ⟨rfl, _, SqL.of (s3 _ _ hl2)⟩, ?_⟩
      refine ⟨_, rfl, b, p.rows[i], rfl, (s2.trans s3) _ _ hb2, fun q H6 s36 hq0 e6 => ?_⟩
      rw [nI_ints] at e6
      have S6 := s3.trans s36
      have htl := tgt_len p.rows[i]
      refine ⟨q, rfl, ⟨_, SqL.of e6⟩, fun D hD => ?_⟩
      have nqD : q ≠ D := ne_of_none e6 hD
      have nlD : l ≠ D := ne_of_none (S6 _ _ hl2) hD
      refine lc_list (K := K) (a := q) (xs := ((tgt p.rows[i]).map fun n : Nat => (n : Int)).map V.int) (fun j H' => ∃ ds : List Addr, Same1 H6 H' ∧ H' D = some (.lst (ds.map V.ref)) ∧ PairsL H' ds (((tgt p.rows[i]).map fun t => (i, t)).take j))
        ⟨[], Same.new hD, upd_same, .nil⟩ (fun j H' _ ⟨_, q2, _⟩ => SqL.of (q2 _ _ e6)) ?_ ?_
      · rintro j x H7 hj ⟨ds, s7, hD7, hd⟩
        rw [List.getElem?_map, List.getElem?_map] at hj
        cases hz : (tgt p.rows[i])[j]? with
        | none => rw [hz] at hj; cases hj
        | some z =>
          rw [hz] at hj
          have e : V.int ((z : Nat) : Int) = x := Option.some.inj hj
          subst e
          have hdl := Paired.length hd
          rw [List.length_take] at hdl
          have hjl := (List.getElem?_eq_some_iff.mp hz).1
          refine ⟨rfl, _, rfl, _, rfl, (by show 2 ≤ sizeLine; decide), fun t2 ht2 => ?_⟩
          refine alloc ht2 fun H8 s8 e8 => ?_
          have hD8 := s8 _ _ hD7
          refine ⟨_, hD8, szl (by rw [List.length_map]; omega), ds ++ [t2], Same.mut (s7.trans s8) hD, by rw [upd_same, List.map_append]; rfl, ?_⟩
          rw [List.take_add_one, List.getElem?_map, hz]
          refine PairsL.kp (Paired.app (PairsL.kp hd (Kp.same s8)) (Paired.one ?_)) (Kp.lst hD8)
          show H8 t2 = some (.tup [.int (i : Int), .int (z : Int)])
          rw [e8]
      · rintro H7 ⟨ds, s7, hD7, hd⟩
        rw [List.length_map, List.length_map] at hd
        rw [List.take_of_length_le (by rw [List.length_map]; exact Nat.le_refl _)] at hd
        have hdl := Paired.length hd
        rw [List.length_map] at hdl
        have hl7 := (S6.trans s7) _ _ hl2
        refine ⟨l, D, _, _, rfl, rfl, hl7, hD7, sz (by rw [List.length_map, List.length_map]; omega), ?_⟩
        refine ⟨_, _, cs ++ ds, rfl, Same.mut ((s2.trans S6).trans s7) hl, by rw [upd_same, List.map_append], ?_⟩
        rw [goesN_succ, er]
        exact PairsL.kp (Paired.app (PairsL.kp hC (Kp.same (S6.trans s7))) hd) (Kp.lst hl7)
    · rintro σ H2 ⟨x2, x3, cs, rfl, s2, hl2, hC⟩
      rw [List.length_map, hbr] at hC
      exact ⟨_, rfl, k l cs H2 s2 hl hl2 hC⟩
end
end DL
namespace DL
open PySem L2 DLR
def fb (now : Int) (place wide : Nat) : Int := now + ((place : Int) - now) % (wide : Int)
def maxL : List Int → Int
  | [] => 0
  | [x] => x
  | x :: y :: l => max x (maxL (y :: l))
def minL : List Int → Int
  | [] => 0
  | [x] => x
  | x :: y :: l => min x (minL (y :: l))
theorem maxL_spec : ∀ {l : List Int}, 0 < l.length → maxL l ∈ l ∧ ∀ y ∈ l, y ≤ maxL l
  | [], h => absurd h (by decide)
  | [x], _ => ⟨List.mem_cons_self, fun y hy => by rw [List.mem_singleton.mp hy]; exact Int.le_refl _⟩
  | x :: z :: l, _ => by
    obtain ⟨h1, h2⟩ := maxL_spec (l := z :: l) (Nat.succ_pos _)
    show max x (maxL (z :: l)) ∈ _ ∧ ∀ y ∈ _, y ≤ max x (maxL (z :: l))
    refine ⟨?_, fun y hy => ?_⟩
    · rcases Int.le_total x (maxL (z :: l)) with q | q
      · rw [Int.max_eq_right q]; exact List.mem_cons_of_mem _ h1
      · rw [Int.max_eq_left q]; exact List.mem_cons_self
    · rcases List.mem_cons.mp hy with e | e
      · rw [e]; omega
      · have := h2 y e
        omega
theorem minL_spec : ∀ {l : List Int}, 0 < l.length → minL l ∈ l ∧ ∀ y ∈ l, minL l ≤ y
  | [], h => absurd h (by decide)
  | [x], _ => ⟨List.mem_cons_self, fun y hy => by rw [List.mem_singleton.mp hy]; exact Int.le_refl _⟩
  | x :: z :: l, _ => by
    obtain ⟨h1, h2⟩ := minL_spec (l := z :: l) (Nat.succ_pos _)
    show min x (minL (z :: l)) ∈ _ ∧ ∀ y ∈ _, min x (minL (z :: l)) ≤ y
    refine ⟨?_, fun y hy => ?_⟩
    · rcases Int.le_total x (minL (z :: l)) with q | q
      · rw [Int.min_eq_left q]; exact List.mem_cons_self
      · rw [Int.min_eq_right q]; exact List.mem_cons_of_mem _ h1
    · rcases List.mem_cons.mp hy with e | e
      · rw [e]; omega
      · have := h2 y e
        omega
theorem maxL_is {l : List Int} {m : Int} (h : m ∈ l) (g : ∀ y ∈ l, y ≤ m) : m = maxL l := by
  obtain ⟨a, b⟩ := maxL_spec (List.length_pos_of_mem h)
  have := b m h
  have := g _ a
  omega
theorem minL_is {l : List Int} {m : Int} (h : m ∈ l) (g : ∀ y ∈ l, m ≤ y) : m = minL l := by
  obtain ⟨a, b⟩ := minL_spec (List.length_pos_of_mem h)
  have := b m h
  have := g _ a
  omega
def comesL (us : List Nat) (read : Int) (W : Nat) : List Int := us.map fun h => fb (read + 1) h W
def comes (y : Lay) (w : Nat) (read : Int) : List Int := comesL (y.homes.getD w []) read y.wide
theorem first_last {ms ns : List Int} (pm : ms.Perm ns) (up : ms.Pairwise (· ≤ ·)) (h : 0 < ns.length) : atI (ms.map V.int) 0 = some (.int (minL ns)) ∧ atI (ms.map V.int) (-1) = some (.int (maxL ns)) := by
  have hl : 0 < ms.length := by rw [pm.length_eq]; exact h
  have pos : ∀ i j (hi : i < ms.length) (hj : j < ms.length), i ≤ j → ms[i] ≤ ms[j] := by
    intro i j hi hj le
    rcases Nat.lt_or_eq_of_le le with q | q
    · exact List.pairwise_iff_getElem.mp up i j hi hj q
    · subst q; exact Int.le_refl _
  constructor
  · have e : ms[0] = minL ns := by
      refine minL_is (pm.mem_iff.mp (List.getElem_mem hl)) fun y hy => ?_
      obtain ⟨j, hj, rfl⟩ := List.mem_iff_getElem.mp (pm.mem_iff.mpr hy)
      exact pos 0 j hl hj (Nat.zero_le _)
    rw [← e]
    exact atI_nat (j := 0) (by rw [List.getElem?_map, List.getElem?_eq_getElem hl]; rfl)
  · have hk : ms.length - 1 < ms.length := by omega
    have e : ms[ms.length - 1] = maxL ns := by
      refine maxL_is (pm.mem_iff.mp (List.getElem_mem hk)) fun y hy => ?_
      obtain ⟨j, hj, rfl⟩ := List.mem_iff_getElem.mp (pm.mem_iff.mpr hy)
      exact pos j _ hj hk (by omega)
    rw [← e]
    have e2 : ms = ms.dropLast ++ [ms[ms.length - 1]] := by
      rw [← List.getLast_eq_getElem (List.ne_nil_of_length_pos hl)]
      exact (List.dropLast_concat_getLast _).symm
    refine (congrArg (fun z => atI (z.map V.int) (-1)) e2).trans ?_
    rw [List.map_append]
    exact atI_last _ _
theorem cut1 : ∀ {ns : List Int}, ns.length ≤ 3 → cutV (ns.map V.int) none (some 1) = (ns.take 1).map V.int
  | [], _ => rfl
  | [x], _ => rfl
  | [x, y], _ => rfl
  | [x, y, z], _ => rfl
  | _ :: _ :: _ :: _ :: _, h => absurd h (by simp only [List.length_cons]; omega)

def useF (y : Lay) (read : Int) : Row → Int
  | .load w _ => minL (comes y w read)
  | .add w _ => minL (comes y w read)
  | .take w _ => minL (comes y w read)
  | .store w _ => maxL (comes y w read)
  | _ => read
def work : Row → Int
  | .load _ _ => 1
  | .add _ _ => 2
  | .take _ _ => 2
  | .store _ _ => 1
  | .say _ => 3
  | .test _ _ => 1
  | .stop => 0
def behindF (y : Lay) (r : Row) (read : Int) : Int := useF y read r + work r + 1
def costF (y : Lay) (rows : List Row) (b t : Nat) : Int := fb (behindF y (rows.getD b .stop) ((y.places.getD b 0 : Nat) : Int)) (y.places.getD t 0) y.wide - ((y.places.getD b 0 : Nat) : Int)
structure Pw (K : Frg) (w : World) (mg : Str → Option Value) where
  d : Addr
  es : Array DictEntry
  n : Nat
  m : mg "WORK" = some (.ref d)
  kd : KDict K w d es n
  at_ : ∀ r : Row, ∃ t : Tok, PySem.W.nsIn K d r.word = some (some (.int (work r) t))
theorem Pw.get {K : Frg} {w : World} {mg : Str → Option Value} (Z : Pw K w mg) (r : Row) : KDct K w Z.d r.word (.int (work r)) := by
  obtain ⟨t, h⟩ := Z.at_ r
  exact ⟨_, _, _, Z.kd.at_, Z.kd.lit, h, ⟨t, rfl⟩⟩
structure Bm (mg : Str → Option Value) : Prop where
  min : mg "min" = none
abbrev sFirstBeat : Stmt := top 33
abbrev sBeatsOfUse : Stmt := top 34
abbrev sBeatOfUse : Stmt := top 35
abbrev sBeatBehind : Stmt := top 36
abbrev sCost : Stmt := top 37
abbrev FFirstBeat (K : Frg) (mg : Str → Option Value) := Fd K mg "first_beat" sFirstBeat ["now", "place", "wide"]
abbrev FBeatsOfUse (K : Frg) (mg : Str → Option Value) := Fd K mg "beats_of_use" sBeatsOfUse ["word", "places", "read", "wide"]
abbrev FBeatOfUse (K : Frg) (mg : Str → Option Value) := Fd K mg "beat_of_use" sBeatOfUse ["row", "read", "laying"]
abbrev FBeatBehind (K : Frg) (mg : Str → Option Value) := Fd K mg "beat_behind" sBeatBehind ["row", "read", "laying"]
abbrev FCost (K : Frg) (mg : Str → Option Value) := Fd K mg "cost" sCost ["program", "laying", "begin", "to"]
def spFirstBeat : Sp := fun vs H Q _ => ∃ (now : Int) (place W : Nat), vs = [.int now, .int (place : Int), .int (W : Int)] ∧ 0 < W ∧ Q (.int (fb now place W)) H
def UseL (st : Bool) (us : List Nat) (read : Int) (W : Nat) (ms : List Int) : Prop := ∃ ns : List Int, ns.Perm (comesL us read W) ∧ ns.Pairwise (· ≤ ·) ∧ ms = if st = true then ns else ns.take 1
def spBeatsOfUse : Sp := fun vs H Q _ => ∃ (x : Str) (a : Addr) (us : List Nat) (read : Int) (W : Nat), vs = [.str x, .ref a, .int read, .int (W : Int)] ∧ H a = some (.tup (us.map nI)) ∧ us.length ≤ 3 ∧ 0 < W ∧
  ∀ q ms H', Same1 H H' → H q = none → H' q = some (.lst (ms.map V.int)) → UseL (decide (V.str x = V.str "store")) us read W ms → Q (.ref q) H'
def spBeatOfUse : Sp := fun vs H Q _ => ∃ (a b : Addr) (r : Row) (read : Int) (y : Lay) (N : Nat), vs = [.ref a, .int read, .ref b] ∧ H a = some (.tup (rowVs r)) ∧ LayAt H b y ∧ 2 ≤ y.wide ∧ (∀ h ∈ y.homes, HomeOk y.wide h) ∧ r.ok y.homes.length N ∧
  ∀ H', Same1 H H' → Q (.int (useF y read r)) H'
def spBeatBehind : Sp := fun vs H Q _ => ∃ (a b : Addr) (r : Row) (read : Int) (y : Lay) (N : Nat), vs = [.ref a, .int read, .ref b] ∧ H a = some (.tup (rowVs r)) ∧ LayAt H b y ∧ 2 ≤ y.wide ∧ (∀ h ∈ y.homes, HomeOk y.wide h) ∧ r.ok y.homes.length N ∧
  ∀ H', Same1 H H' → Q (.int (behindF y r read)) H'
def spCost : Sp := fun vs H Q _ => ∃ (a b : Addr) (p : Prog) (y : Lay) (i t : Nat), vs = [.ref a, .ref b, .int (i : Int), .int (t : Int)] ∧ ProgAt H a p ∧ Good p ∧ LayAt H b y ∧ LayOk p y ∧ i < p.rows.length ∧ t < p.rows.length ∧
  ∀ H', Same1 H H' → Q (.int (costF y p.rows i t)) H'
def costVs (y : Lay) (rows : List Row) (g : Nat × Nat) : List V := [nI g.1, nI g.2, .int (costF y rows g.1 g.2)]
def spCosts : Sp := fun vs H Q _ => ∃ (a b : Addr) (p : Prog) (y : Lay), vs = [.ref a, .ref b] ∧ ProgAt H a p ∧ Good p ∧ LayAt H b y ∧ LayOk p y ∧
  ∀ l bs H', Same1 H H' → H l = none → H' l = some (.lst (bs.map V.ref)) → Paired (fun b g => H' b = some (.tup (costVs y p.rows g))) bs (goesN p.rows p.rows.length) → Q (.ref l) H'
section
variable {P : Program} {w : World} {K : PySem.W.Frag} {mg : Str → Option Value} {base : Heap}
theorem scFirstBeat : FnScope ["now", "place", "wide"] ["now", "place", "wide"] (defScope sFirstBeat) := ⟨rfl, rfl, rfl, by decide +kernel, rfl, by decide +kernel, by decide +kernel⟩
theorem ok_firstBeat (c : FFirstBeat K mg) : FnOk P w K mg base CX0 1 c.f c.fd ["now", "place", "wide"] spFirstBeat := by
  refine c.F.ok scFirstBeat (fun vs H Q E h => ?_) (fun cdv A outer s H vs Q E hr h => ?_)
  · obtain ⟨n, pl, W, rfl, _⟩ := h
    rfl
  · obtain ⟨n, pl, W, rfl, h0, k⟩ := h
    refine ⟨_, (pss_one (ps_ret (pe_op op_add (pv 0) (pe_op op_mod (pe_op op_sub (pv 1) (pv 0)) (pv 2))))), ?_⟩
    exact ⟨_, rfl, _, rfl, _, rfl, _, _, rfl, rfl, _, rfl, _, _, rfl, rfl, (by omega), _, _, rfl, rfl, k⟩
abbrev nBeatsOfUse : List Str := ["word", "places", "read", "wide", "comes", "place"]
theorem scBeatsOfUse : FnScope nBeatsOfUse ["word", "places", "read", "wide"] (defScope sBeatsOfUse) := ⟨rfl, rfl, rfl, by decide +kernel, rfl, by decide +kernel, by decide +kernel⟩
theorem ok_beatsOfUse (c : FBeatsOfUse K mg) (cFirstBeat : FFirstBeat K mg) (T : Bt mg) : FnOk P w K mg base CX0 2 c.f c.fd ["word", "places", "read", "wide"] spBeatsOfUse := by
  have GFirstBeat : FnOk P w K mg base CX0 1 cFirstBeat.f cFirstBeat.fd ["now", "place", "wide"] spFirstBeat := ok_firstBeat cFirstBeat
  refine c.F.ok scBeatsOfUse (fun vs H Q E h => ?_) (fun cdv A outer s H vs Q E hr h => ?_)
  · obtain ⟨x, a, us, read, W, rfl, _⟩ := h
    rfl
  · obtain ⟨x, a, us, read, W, rfl, ha, l3, w0, k⟩ := h
    refine ⟨_, (pss_cons (ps_set (i := 4) scBeatsOfUse.nd rfl (Or.inl rfl) (pe_callB cr_sortedI (by rfl) T.sorted (by decide +kernel) (pa_cons (pe_lc (own := [("place", 5)]) (g := gName 5) (tt := tYes) rfl scBeatsOfUse.nd (pi_tup (pv 1)) (blkOk_by (N := nBeatsOfUse) (sc := defScope sBeatsOfUse) (by decide +kernel)) (fun _ _ _ _ _ => (pg_name (i := 5) scBeatsOfUse.nd rfl (Or.inl rfl))) (fun _ _ _ _ _ => pts_nil) (fun _ _ _ _ _ => (pe_call GFirstBeat (hr.mono (by first | omega | decide)) (by rfl) cFirstBeat.m cFirstBeat.F.kp cFirstBeat.b .nil pass0 (pa_cons (pe_op op_add (pv 2) pe_int) (pa_cons (pv 5) (pa_cons (pv 3) pa_nil)))))) pa_nil)))
      (pss_cons (ps_if (pt_cmpR op_eq (pv 0) pe_str (nomark _))
          (pss_one (ps_ret (pv 4)))
          pss_nil)
      (pss_one (ps_ret (pe_slice sl_list (pv 4) po_none (po_some pe_int)))))), ?_⟩
    refine ⟨_, rfl, a, rfl, ⟨_, SqT.of ha⟩, fun D hD => ?_⟩
    refine lc_tup (K := K) (a := a) (xs := us.map nI) (fun i H' => Same1 H H' ∧ H' D = some (.lst (((comesL us read W).take i).map V.int))) ⟨Same.new hD, upd_same⟩ (fun i H' _ ⟨q, _⟩ => SqT.of (q _ _ ha)) ?_ ?_
    · rintro i z H1 hi ⟨s1, hD1⟩
      rw [List.getElem?_map] at hi
      cases hz : us[i]? with
      | none => rw [hz] at hi; cases hi
      | some h =>
        rw [hz] at hi
        have e : nI h = z := Option.some.inj hi
        subst e
        have hil := (List.getElem?_eq_some_iff.mp hz).1
        refine ⟨rfl, _, rfl, _, _, rfl, rfl, _, rfl, _, rfl, read + 1, h, W, rfl, w0, ?_⟩
        refine ⟨_, hD1, szl (by rw [List.length_map, List.length_take]; omega), Same.mut s1 hD, ?_⟩
        rw [upd_same, List.take_add_one]
        unfold comesL
        rw [List.getElem?_map, hz, List.map_append]
        rfl
    · rintro H1 ⟨s1, hD1⟩
      have hcl : (comesL us read W).length = us.length := by unfold comesL; rw [List.length_map]
      rw [List.length_map, ← hcl, List.take_length] at hD1
      refine ⟨D, _, rfl, SqL.of hD1, fun ns q pm up hq => ?_⟩
      have hnl : ns.length ≤ 3 := by rw [pm.length_eq, hcl]; exact l3
      refine alloc hq fun H2 s2 e2 => ?_
      refine ⟨_, rfl, rfl, _, rfl, ?_⟩
      cases hs : decide (V.str x = V.str "store") with
      | true =>
        rw [hs] at k
        exact iteT ⟨_, rfl, k q ns H2 (s1.trans s2) (s1.free hq) e2 ⟨ns, pm, up, rfl⟩⟩
      | false =>
        rw [hs] at k
        refine iteF ⟨_, rfl, _, rfl, q, _, rfl, SqL.of e2, fun t ht => ?_⟩
        refine alloc ht fun H3 s3 e3 => ?_
        refine k t (ns.take 1) H3 ((s1.trans s2).trans s3) (s1.free (s2.free ht)) ?_ ⟨ns, pm, up, rfl⟩
        rw [e3, cut1 hnl]
abbrev nBeatOfUse : List Str := ["row", "read", "laying", "wide", "_", "homes"]
theorem scBeatOfUse : FnScope nBeatOfUse ["row", "read", "laying"] (defScope sBeatOfUse) := ⟨rfl, rfl, rfl, by decide +kernel, rfl, by decide +kernel, by decide +kernel⟩
theorem useL_last {st : Bool} {us : List Nat} {read : Int} {W : Nat} {ms : List Int} (h : UseL st us read W ms) (l1 : 0 < us.length) : atI (ms.map V.int) (-1) = some (.int (if st = true then maxL (comesL us read W) else minL (comesL us read W))) := by
  obtain ⟨ns, pm, up, rfl⟩ := h
  have hcl : 0 < (comesL us read W).length := by unfold comesL; rw [List.length_map]; exact l1
  obtain ⟨f0, f1⟩ := first_last pm up hcl
  cases st with
  | true => exact f1
  | false =>
    match ns with
    | [] => rw [if_neg (by decide)]; exact absurd f0 (by intro z; cases z)
    | x :: t =>
      have e := at0.symm.trans f0
      show atI [V.int x] (-1) = _
      exact (atI_last [] (V.int x)).trans e
theorem ok_beatOfUse (c : FBeatOfUse K mg) (cBeatsOfUse : FBeatsOfUse K mg) (cFirstBeat : FFirstBeat K mg) (cUsesWorth : FUsesWorth K mg) (T : Bt mg) (Z : Pt K w mg) : FnOk P w K mg base CX0 3 c.f c.fd ["row", "read", "laying"] spBeatOfUse := by
  have GBeatsOfUse : FnOk P w K mg base CX0 2 cBeatsOfUse.f cBeatsOfUse.fd ["word", "places", "read", "wide"] spBeatsOfUse := ok_beatsOfUse cBeatsOfUse cFirstBeat T
  have GUsesWorth : FnOk P w K mg base CX0 1 cUsesWorth.f cUsesWorth.fd ["row"] spUses := ok_usesWorth cUsesWorth Z
  refine c.F.ok scBeatOfUse (fun vs H Q E h => ?_) (fun cdv A outer s H vs Q E hr h => ?_)
  · obtain ⟨a, b, r, read, y, N, rfl, _⟩ := h
    rfl
  · obtain ⟨a, b, r, read, y, N, rfl, ha, ⟨pl, hl, cs, hb, hpl, hhl, hH⟩, w2, hok, ho, k⟩ := h
    have hcl := Paired.length hH
    refine ⟨_, (pss_cons (ps_asg (pv 2) (pg_tup rfl (pgs_cons (pg_name (i := 3) scBeatOfUse.nd rfl (Or.inl rfl)) (pgs_cons (pg_name (i := 4) scBeatOfUse.nd rfl (Or.inl rfl)) (pgs_cons (pg_name (i := 5) scBeatOfUse.nd rfl (Or.inl rfl)) pgs_nil)))))
      (pss_cons (ps_if (pt_not (pt_val (pe_call GUsesWorth (hr.mono (by first | omega | decide)) (by rfl) cUsesWorth.m cUsesWorth.F.kp cUsesWorth.b .nil pass0 (pa_cons (pv 0) pa_nil))))
          (pss_one (ps_ret (pv 1)))
          pss_nil)
      (pss_one (ps_ret (pe_ix ix_list (pe_call GBeatsOfUse (hr.mono (by first | omega | decide)) (by rfl) cBeatsOfUse.m cBeatsOfUse.F.kp cBeatsOfUse.b .nil pass0 (pa_cons (pe_ix ix_tup (pv 0) pe_int (fun _ _ => rfl)) (pa_cons (pe_ix ix_tup (pv 5) (pe_ix ix_tup (pv 0) pe_int (fun _ _ => rfl)) (fun _ _ => rfl)) (pa_cons (pv 1) (pa_cons (pv 3) pa_nil))))) (pe_un un_neg pe_int) (fun _ _ => rfl)))))), ?_⟩
    refine ⟨_, rfl, b, _, rfl, SqT.of hb, rfl, _, _, rfl, _, _, rfl, _, _, rfl, rfl, ?_⟩
    refine ⟨_, rfl, a, r, rfl, ha, _, rfl, ?_⟩
    cases hu : r.uses with
    | false =>
      refine iteT ⟨_, rfl, ?_⟩
      have e : useF y read r = read := by cases r <;> first | rfl | cases hu
      have q := k H (Same.refl _)
      rw [e] at q
      exact q
    | true =>
      have hx1 : ∃ x : Nat, (rowVs r)[1]? = some (.int (x : Int)) ∧ x < y.homes.length ∧ useF y read r = if r.isWd "store" = true then maxL (comes y x read) else minL (comes y x read) := by
        have e := (Row.wd_eq r).2.1
        cases r with
        | load x n => exact ⟨x, rfl, ho.1, by rw [e]; rfl⟩
        | add x n => exact ⟨x, rfl, ho.1, by rw [e]; rfl⟩
        | take x n => exact ⟨x, rfl, ho.1, by rw [e]; rfl⟩
        | store x n => exact ⟨x, rfl, ho.1, by rw [e]; rfl⟩
        | say n => cases hu
        | test a b => cases hu
        | stop => cases hu
      obtain ⟨x, hx, hxl, heq⟩ := hx1
      obtain ⟨cb, hcb1, hcb2⟩ := Paired.getR hH (List.getElem?_eq_getElem hxl)
      have hcV : (cs.map V.ref)[x]? = some (.ref cb) := by rw [List.getElem?_map, hcb1]; rfl
      have hk := hok _ (List.getElem_mem hxl)
      have l1 := hk.l1
      have l3 := hk.l3
      have eg : y.homes.getD x [] = y.homes[x] := by rw [List.getD_eq_getElem?_getD, List.getElem?_eq_getElem hxl]; rfl
      refine iteF ⟨_, rfl, a, _, _, _, rfl, rfl, SqT.of ha, atI_nat (j := 0) (Row.w0 r), _, rfl, _, rfl, a, _, _, _, rfl, rfl, SqT.of ha, atI_nat (j := 1) hx, hl, _, _, _, rfl, rfl, SqT.of hhl, atI_nat hcV, _, rfl, _, rfl, r.word, cb, y.homes[x], read, y.wide, rfl, hcb2, by omega, by omega, fun q ms H1 s1 nq e1 hU => ?_⟩
      refine ⟨_, rfl, q, _, _, _, rfl, rfl, SqL.of e1, useL_last hU (by omega), ?_⟩
      have z := k H1 s1
      rw [heq] at z
      unfold comes at z
      rw [eg] at z
      exact z
theorem scBeatBehind : FnScope ["row", "read", "laying"] ["row", "read", "laying"] (defScope sBeatBehind) := ⟨rfl, rfl, rfl, by decide +kernel, rfl, by decide +kernel, by decide +kernel⟩
theorem ok_beatBehind (c : FBeatBehind K mg) (cBeatOfUse : FBeatOfUse K mg) (cBeatsOfUse : FBeatsOfUse K mg) (cFirstBeat : FFirstBeat K mg) (cUsesWorth : FUsesWorth K mg) (T : Bt mg) (Z : Pt K w mg) (ZW : Pw K w mg) : FnOk P w K mg base CX0 4 c.f c.fd ["row", "read", "laying"] spBeatBehind := by
  have GBeatOfUse : FnOk P w K mg base CX0 3 cBeatOfUse.f cBeatOfUse.fd ["row", "read", "laying"] spBeatOfUse := ok_beatOfUse cBeatOfUse cBeatsOfUse cFirstBeat cUsesWorth T Z
  refine c.F.ok scBeatBehind (fun vs H Q E h => ?_) (fun cdv A outer s H vs Q E hr h => ?_)
  · obtain ⟨a, b, r, read, y, N, rfl, _⟩ := h
    rfl
  · obtain ⟨a, b, r, read, y, N, rfl, ha, hy, w2, hok, ho, k⟩ := h
    refine ⟨_, (pss_one (ps_ret (pe_op op_add (pe_op op_add (pe_call GBeatOfUse (hr.mono (by first | omega | decide)) (by rfl) cBeatOfUse.m cBeatOfUse.F.kp cBeatOfUse.b .nil pass0 (pa_cons (pv 0) (pa_cons (pv 1) (pa_cons (pv 2) pa_nil)))) (pe_ix ix_kdict (pe_glob (v := .ref ZW.d) rfl ZW.m rfl) (pe_ix ix_tup (pv 0) pe_int (fun _ _ => rfl)) (fun _ _ => rfl))) pe_int))), ?_⟩
    refine ⟨_, rfl, _, rfl, _, rfl, a, b, r, read, y, N, rfl, ha, hy, w2, hok, ho, fun H1 s1 => ?_⟩
    refine ⟨_, rfl, a, _, _, _, rfl, rfl, SqT.of (s1 _ _ ha), atI_nat (j := 0) (Row.w0 r), ZW.d, _, _, rfl, rfl, ZW.get r, _, _, rfl, rfl, _, _, rfl, rfl, k H1 s1⟩
abbrev nCost : List Str := ["program", "laying", "begin", "to", "wide", "places", "_", "read", "behind"]
theorem scCost : FnScope nCost ["program", "laying", "begin", "to"] (defScope sCost) := ⟨rfl, rfl, rfl, by decide +kernel, rfl, by decide +kernel, by decide +kernel⟩
theorem nI_at {l : List Nat} {i : Nat} (h : i < l.length) : (l.map nI)[i]? = some (.int ((l.getD i 0 : Nat) : Int)) := by
  rw [List.getElem?_map, List.getD_eq_getElem?_getD, List.getElem?_eq_getElem h]
  rfl
theorem ok_cost (c : FCost K mg) (cBeatBehind : FBeatBehind K mg) (cBeatOfUse : FBeatOfUse K mg) (cBeatsOfUse : FBeatsOfUse K mg) (cFirstBeat : FFirstBeat K mg) (cUsesWorth : FUsesWorth K mg) (T : Bt mg) (Z : Pt K w mg) (ZW : Pw K w mg) : FnOk P w K mg base CX0 5 c.f c.fd ["program", "laying", "begin", "to"] spCost := by
  have GBeatBehind : FnOk P w K mg base CX0 4 cBeatBehind.f cBeatBehind.fd ["row", "read", "laying"] spBeatBehind := ok_beatBehind cBeatBehind cBeatOfUse cBeatsOfUse cFirstBeat cUsesWorth T Z ZW
  have GFirstBeat : FnOk P w K mg base CX0 1 cFirstBeat.f cFirstBeat.fd ["now", "place", "wide"] spFirstBeat := ok_firstBeat cFirstBeat
  refine c.F.ok scCost (fun vs H Q E h => ?_) (fun cdv A outer s H vs Q E hr h => ?_)
  · obtain ⟨a, b, p, y, i, t, rfl, _⟩ := h
    rfl
  · obtain ⟨a, b, p, y, i, t, rfl, ⟨wa, ra, bs, hpa, hwa, hra, hR⟩, g, ⟨pl, hl, cs, hb, hpl, hhl, hH⟩, yk, hi, ht, k⟩ := h
    have er : p.rows.getD i .stop = p.rows[i] := by rw [List.getD_eq_getElem?_getD, List.getElem?_eq_getElem hi]; rfl
    obtain ⟨rb, hb1, hb2⟩ := Paired.getR hR (List.getElem?_eq_getElem hi)
    have hbV : (bs.map V.ref)[i]? = some (.ref rb) := by rw [List.getElem?_map, hb1]; rfl
    have w2 := yk.w2
    refine ⟨_, (pss_cons (ps_asg (pv 1) (pg_tup rfl (pgs_cons (pg_name (i := 4) scCost.nd rfl (Or.inl rfl)) (pgs_cons (pg_name (i := 5) scCost.nd rfl (Or.inl rfl)) (pgs_cons (pg_name (i := 6) scCost.nd rfl (Or.inl rfl)) pgs_nil)))))
      (pss_cons (ps_set (i := 7) scCost.nd rfl (Or.inl rfl) (pe_ix ix_tup (pv 5) (pv 2) (fun _ _ => rfl)))
      (pss_cons (ps_set (i := 8) scCost.nd rfl (Or.inl rfl) (pe_call GBeatBehind (hr.mono (by first | omega | decide)) (by rfl) cBeatBehind.m cBeatBehind.F.kp cBeatBehind.b .nil pass0 (pa_cons (pe_ix ix_tup (pe_ix ix_tup (pv 0) pe_int (fun _ _ => rfl)) (pv 2) (fun _ _ => rfl)) (pa_cons (pv 7) (pa_cons (pv 1) pa_nil)))))
      (pss_one (ps_ret (pe_op op_sub (pe_call GFirstBeat (hr.mono (by first | omega | decide)) (by rfl) cFirstBeat.m cFirstBeat.F.kp cFirstBeat.b .nil pass0 (pa_cons (pv 8) (pa_cons (pe_ix ix_tup (pv 5) (pv 3) (fun _ _ => rfl)) (pa_cons (pv 4) pa_nil)))) (pv 7))))))), ?_⟩
    refine ⟨_, rfl, b, _, rfl, SqT.of hb, rfl, _, _, rfl, _, _, rfl, _, _, rfl, rfl, ?_⟩
    refine ⟨_, rfl, _, rfl, pl, _, _, _, rfl, rfl, SqT.of hpl, atI_nat (nI_at (by rw [yk.pl]; exact hi)), ?_⟩
    refine ⟨_, rfl, a, _, _, _, rfl, rfl, SqT.of hpa, at1, _, rfl, ra, _, _, _, rfl, rfl, SqT.of hra, atI_nat hbV, _, rfl, _, rfl, rb, b, p.rows[i], _, y, p.rows.length, rfl, hb2, ⟨pl, hl, cs, hb, hpl, hhl, hH⟩, w2, yk.hok, ?_, fun H1 s1 => ?_⟩
    · rw [yk.hl]
      exact g.ok _ (List.getElem_mem hi)
    refine ⟨_, rfl, _, rfl, _, rfl, pl, _, _, _, rfl, rfl, SqT.of (s1 _ _ hpl), atI_nat (nI_at (by rw [yk.pl]; exact ht)), _, rfl, _, _, _, rfl, by omega, _, rfl, _, _, rfl, rfl, ?_⟩
    have q := k H1 s1
    unfold costF at q
    rw [er] at q
    exact q
abbrev nCosts : List Str := ["program", "laying", "begin", "to"]
end
end DL
namespace DL
open PySem L2 DLR
theorem whileE {c : TT} {tb : TS} {D : Ends} {σ : L2.St} {H : Hp} (W : Nat → L2.St → Hp → Prop) (R : L2.St → Hp → Prop) (w0 : ∃ m, W m σ H) (key : ∀ σ' H', R σ' H' → D.nx σ' H')
    (turn : ∀ Nx : L2.St → Hp → Prop, (∀ σ' H', R σ' H' → Nx σ' H') → ∀ m σ H, W m σ H → c σ H fun b H1 => if b = true then ∃ N : L2.St → Hp → Prop, (∀ σ' H', N σ' H' → ∃ m', m' < m ∧ W m' σ' H') ∧ tb { D with nx := N, ct := N, bk := D.nx } σ H1 else Nx σ H1) :
    tWhile c tb D σ H := ⟨W, w0, fun m σ H w => turn D.nx key m σ H w⟩
theorem fb_mod {now : Int} {place W : Nat} (h : place < W) : fb now place W % (W : Int) = (place : Int) := by
  unfold fb
  rw [Int.add_comm, Int.emod_add_emod, Int.sub_add_cancel, Int.emod_eq_of_lt (by omega) (by omega)]
theorem fb_ge {now : Int} {place W : Nat} (h : 0 < W) : now ≤ fb now place W ∧ fb now place W < now + (W : Int) := by
  have a := Int.emod_nonneg ((place : Int) - now) (show (W : Int) ≠ 0 by omega)
  have b := Int.emod_lt_of_pos ((place : Int) - now) (show (0 : Int) < (W : Int) by omega)
  unfold fb
  omega
theorem fb_uniq {now x : Int} {place W : Nat} (h : place < W) (h1 : now ≤ x) (h2 : x ≤ fb now place W) (e : x % (W : Int) = (place : Int)) : x = fb now place W := by
  have b := (fb_ge (now := now) (place := place) (show 0 < W by omega)).2
  have m : (fb now place W - x) % (W : Int) = 0 := by
    rw [Int.sub_emod, fb_mod h, e, Int.sub_self, Int.zero_emod]
  rw [Int.emod_eq_of_lt (by omega) (by omega)] at m
  omega
theorem goesN_mem {rows : List Row} {n u v : Nat} (h : (u, v) ∈ goesN rows n) : u < n ∧ v ∈ tgt (rows.getD u .stop) := by
  obtain ⟨k, hk, h2⟩ := List.mem_flatMap.mp h
  obtain ⟨t, ht, e⟩ := List.mem_map.mp h2
  have e1 := congrArg Prod.fst e
  have e2 := congrArg Prod.snd e
  dsimp only at e1 e2
  subst e1 e2
  exact ⟨List.mem_range.mp hk, ht⟩
theorem nx_lt {r : Row} {W N : Nat} (h : r.ok W N) : ∀ x ∈ nx r, x < N := by
  cases r with
  | load w n => intro x hx; rw [List.mem_singleton.mp hx]; exact h.2
  | add w n => intro x hx; rw [List.mem_singleton.mp hx]; exact h.2
  | take w n => intro x hx; rw [List.mem_singleton.mp hx]; exact h.2
  | store w n => intro x hx; rw [List.mem_singleton.mp hx]; exact h.2
  | say n => intro x hx; rw [List.mem_singleton.mp hx]; exact h
  | test a b =>
    intro x hx
    rcases List.mem_cons.mp hx with e | e
    · rw [e]; exact h.1
    · rw [List.mem_singleton.mp e]; exact h.2
  | stop => intro x hx; cases hx
theorem goesN_lt {p : Prog} (g : Good p) {u v : Nat} (h : (u, v) ∈ goesN p.rows p.rows.length) : u < p.rows.length ∧ v < p.rows.length := by
  obtain ⟨h1, h2⟩ := goesN_mem h
  have er : p.rows.getD u .stop = p.rows[u] := by rw [List.getD_eq_getElem?_getD, List.getElem?_eq_getElem h1]; rfl
  rw [er] at h2
  exact ⟨h1, nx_lt (g.ok _ (List.getElem_mem h1)) v ((tgt_mem _ _).mp h2)⟩
def spWait : Sp := fun vs H Q _ => ∃ (now : Int) (place W : Nat), vs = [.int now, .int (place : Int), .int (W : Int)] ∧ place < W ∧ Q (.int (fb now place W)) H
def kAd : Key := .inr "add"
def kTk : Key := .inr "take"
def kSy : Key := .inr "say"
def kSp : Key := .inr "stop"
theorem extra (r : Row) : (valV (mergeK [] [(kAd, V.int 2), (kTk, V.int 2), (kSy, V.int 3), (kSp, V.int 0)]) (.inr r.word)).getD (.int 1) = .int (work r) := by
  cases r <;> (dsimp only [Row.word, work]; decide +kernel)
theorem store_at (r : Row) : (0 : Int) - (if decide (V.str r.word = V.str "store") = true then 1 else 0) = if r.isWd "store" = true then -1 else 0 := by
  show (0 : Int) - (if r.isWd "store" = true then 1 else 0) = _
  cases r.isWd "store" <;> decide
section
variable {P : Program} {w : World} {K : PySem.W.Frag} {mg : Str → Option Value} {base : Heap}
end
end DL
namespace DL
open PySem L2 DLR
def spOver : Sp := fun vs H Q _ => ∃ (a b : Addr) (r : Row) (read : Int) (y : Lay) (N : Nat), vs = [.ref a, .ref b, .int read] ∧ H a = some (.tup (rowVs r)) ∧ LayAt H b y ∧ 2 ≤ y.wide ∧ (∀ h ∈ y.homes, HomeOk y.wide h) ∧ r.ok y.homes.length N ∧
  ∀ H', Same1 H H' → Q (.int (behindF y r read)) H'
def spLCost : Sp := fun vs H Q _ => ∃ (ra b : Addr) (bs : List Addr) (p : Prog) (y : Lay) (i t : Nat), vs = [.ref ra, .ref b, .int (i : Int), .int (t : Int)] ∧ H ra = some (.tup (bs.map V.ref)) ∧ RowsAt H bs p.rows ∧ Good p ∧ LayAt H b y ∧ LayOk p y ∧ i < p.rows.length ∧ t < p.rows.length ∧
  ∀ H', Same1 H H' → Q (.int (costF y p.rows i t)) H'
section
variable {P : Program} {w : World} {K : PySem.W.Frag} {mg : Str → Option Value} {base : Heap}
abbrev nOver : List Str := ["_law_row", "_law_laying_here", "_law_beat", "_law_now", "_law_some", "_law_place"]
abbrev nLCost : List Str := ["_law_rows", "_law_laying_here", "_law_here", "_law_other", "_law_begin"]
end
end DL
namespace DL
open PySem L2 DLR
/-! ### the goes of a run: each may be, each once; they agree; from row 0 they come to all rows gone from -/
def cntV (e : (Int × Int) × V) : Int := gcount (some e.2)
def sumBy (f : Int × Int → Bool) (g : GL) : Int := (g.map fun e => if f e.1 = true then cntV e else 0).sum
theorem sumBy_cons (f : Int × Int → Bool) (e : (Int × Int) × V) (g : GL) : sumBy f (e :: g) = (if f e.1 = true then cntV e else 0) + sumBy f g := by
  unfold sumBy
  rw [List.map_cons, List.sum_cons]
theorem sumBy_app (f : Int × Int → Bool) : ∀ (g h : GL), sumBy f (g ++ h) = sumBy f g + sumBy f h
  | [], h => by unfold sumBy; simp
  | e :: g, h => by
    rw [List.cons_append, sumBy_cons, sumBy_cons, sumBy_app f g h]
    omega
theorem put_in {g : GL} {q : Int × Int} {v : V} (h : q ∈ g.map (·.1)) : putK g q v = g.map fun x => if x.1 = q then (x.1, v) else x := by
  unfold putK
  rw [if_pos]
  obtain ⟨e, he, hq⟩ := List.mem_map.mp h
  exact List.any_eq_true.mpr ⟨e, he, decide_eq_true hq⟩
theorem put_out {g : GL} {q : Int × Int} {v : V} (h : q ∉ g.map (·.1)) : putK g q v = g ++ [(q, v)] := by
  unfold putK
  rw [if_neg]
  intro z
  obtain ⟨e, he, hq⟩ := List.any_eq_true.mp z
  exact h (List.mem_map.mpr ⟨e, he, of_decide_eq_true hq⟩)
theorem valV_no {g : GL} {q : Int × Int} (h : q ∉ g.map (·.1)) : valV g q = none := by
  cases e : valV g q with
  | none => rfl
  | some v =>
    exfalso
    have aux : ∀ g : GL, valV g q = some v → q ∈ g.map (·.1) := by
      intro g
      induction g with
      | nil => intro z; cases z
      | cons x g ih =>
        intro z
        by_cases c : x.1 = q
        · exact List.mem_map.mpr ⟨x, List.mem_cons_self, c⟩
        · rw [valV_neg c] at z
          obtain ⟨y, hy, hq⟩ := List.mem_map.mp (ih z)
          exact List.mem_map.mpr ⟨y, List.mem_cons_of_mem _ hy, hq⟩
    exact h (aux g e)
theorem map_same {g : GL} {q : Int × Int} {v : V} (h : q ∉ g.map (·.1)) : (g.map fun x => if x.1 = q then (x.1, v) else x) = g := by
  have : (g.map fun x => if x.1 = q then (x.1, v) else x) = g.map id := List.map_congr_left fun x hx => by
    rw [if_neg fun z => h (List.mem_map.mpr ⟨x, hx, z⟩)]
    rfl
  rw [this, List.map_id]
theorem sum_bump_in (f : Int × Int → Bool) {q : Int × Int} {c : Int} : ∀ {g : GL}, (g.map (·.1)).Nodup → valV g q = some (.int c) →
    sumBy f (g.map fun x => if x.1 = q then (x.1, V.int (c + 1)) else x) = sumBy f g + if f q = true then 1 else 0
  | [], _, h => by cases h
  | e :: g, nd, h => by
    have nd2 : e.1 ∉ g.map (·.1) ∧ (g.map (·.1)).Nodup := List.nodup_cons.mp nd
    by_cases z : e.1 = q
    · rw [valV_pos z] at h
      have hv : e.2 = .int c := Option.some.inj h
      rw [List.map_cons, sumBy_cons, sumBy_cons, if_pos z, map_same (by rw [← z]; exact nd2.1)]
      show (if f e.1 = true then c + 1 else 0) + sumBy f g = _
      have hc : cntV e = c := by unfold cntV; rw [hv]; rfl
      rw [hc, z]
      cases f q
      · simp
      · simp; omega
    · rw [valV_neg z] at h
      rw [List.map_cons, sumBy_cons, sumBy_cons, if_neg z, sum_bump_in f nd2.2 h]
      omega
theorem sum_bump (f : Int × Int → Bool) {g : GL} {q : Int × Int} (nd : (g.map (·.1)).Nodup) (ok : ∀ e ∈ g, ∃ c, e.2 = V.int c) : sumBy f (bump g q) = sumBy f g + if f q = true then 1 else 0 := by
  unfold bump
  by_cases h : q ∈ g.map (·.1)
  · rw [put_in h]
    exact sum_bump_in f nd (ggot ok h)
  · rw [put_out h, valV_no h, sumBy_app]
    unfold sumBy
    show _ + ((if f q = true then (0 : Int) + 1 else 0) + 0) = _
    cases f q <;> simp
theorem keys_bump {g : GL} {q : Int × Int} : (bump g q).map (·.1) = if q ∈ g.map (·.1) then g.map (·.1) else g.map (·.1) ++ [q] := by
  unfold bump
  by_cases h : q ∈ g.map (·.1)
  · rw [put_in h, if_pos h, List.map_map]
    refine List.map_congr_left fun x _ => ?_
    show (if x.1 = q then (x.1, _) else x).1 = x.1
    split <;> rfl
  · rw [put_out h, if_neg h, List.map_append]
    rfl
theorem mem_bump {g : GL} {q : Int × Int} {e : (Int × Int) × V} (h : e ∈ bump g q) : e ∈ g ∨ e = (q, .int (gcount (valV g q) + 1)) := by
  unfold bump at h
  by_cases z : q ∈ g.map (·.1)
  · rw [put_in z] at h
    obtain ⟨x, hx, rfl⟩ := List.mem_map.mp h
    by_cases c : x.1 = q
    · right; rw [if_pos c, c]
    · left; rw [if_neg c]; exact hx
  · rw [put_out z] at h
    rcases List.mem_append.mp h with q1 | q1
    · exact .inl q1
    · exact .inr (List.mem_singleton.mp q1)
def GoKey (p : Prog) (k : Nat) (e : (Int × Int) × V) : Prop := ∃ (b t : Nat) (c : Int), e = (((b : Int), (t : Int)), .int c) ∧ b < p.rows.length ∧ t ∈ tgt (p.rows.getD b .stop) ∧ 1 ≤ c ∧ c ≤ (k : Int)
def inF (x : Nat) (q : Int × Int) : Bool := decide (q.2 = (x : Int))
def outF (x : Nat) (q : Int × Int) : Bool := decide (q.1 = (x : Int))
structure GInv (p : Prog) (k : Nat) (s : RS) (cur : Nat) : Prop where
  at_ : s.here = some cur ∨ (s.here = none ∧ p.rows.getD cur .stop = .stop)
  key : ∀ e ∈ s.goes, GoKey p k e
  nd : (s.goes.map (·.1)).Nodup
  flow : ∀ x : Nat, sumBy (inF x) s.goes - sumBy (outF x) s.goes + (if x = 0 then 1 else 0) = if x = cur then 1 else 0
  reach : ∀ F : Nat → Prop, F 0 → (∀ q ∈ s.goes.map (·.1), F q.1.toNat → F q.2.toNat) → F cur ∧ ∀ q ∈ s.goes.map (·.1), F q.1.toNat
theorem tgt_step {m : Mach} {r : Row} {n : Nat} (h : (stepM m r).2 = some n) : n ∈ tgt r := by
  cases r with
  | load w k => have e : k = n := Option.some.inj h; subst e; exact List.mem_singleton.mpr rfl
  | add w k => have e : k = n := Option.some.inj h; subst e; exact List.mem_singleton.mpr rfl
  | take w k => have e : k = n := Option.some.inj h; subst e; exact List.mem_singleton.mpr rfl
  | store w k => have e : k = n := Option.some.inj h; subst e; exact List.mem_singleton.mpr rfl
  | say k => have e : k = n := Option.some.inj h; subst e; exact List.mem_singleton.mpr rfl
  | test a b =>
    have e : (if m.desk = 0 then a else b) = n := Option.some.inj h
    rw [tgt_mem, ← e]
    show (if m.desk = 0 then a else b) ∈ [a, b]
    split <;> simp
  | stop => cases h
theorem GoKey.mono {p : Prog} {k : Nat} {e : (Int × Int) × V} (h : GoKey p k e) : GoKey p (k + 1) e := by
  obtain ⟨b, t, c, h1, h2, h3, h4, h5⟩ := h
  exact ⟨b, t, c, h1, h2, h3, h4, by omega⟩
theorem runS_goE {p : Prog} {j r : Nat} (hh : (runS p j).here = some r) : runS p (j + 1) = ⟨(stepM (runS p j).m (p.rows.getD r .stop)).1, (runS p j).cnt.set r ((runS p j).cnt.getD r 0 + 1), goesOf (runS p j).goes r (stepM (runS p j).m (p.rows.getD r .stop)).2, (stepM (runS p j).m (p.rows.getD r .stop)).2⟩ := by
  show turnS p.rows (runS p j) = _
  unfold turnS
  rw [hh]
theorem runS_goes {p : Prog} (g : Good p) : ∀ k, ∃ cur, GInv p k (runS p k) cur
  | 0 => by
    refine ⟨0, .inl rfl, fun e h => absurd h (by simp [runS, startS]), List.nodup_nil, fun x => ?_, fun F h0 _ => ⟨h0, fun q h => absurd h (by simp [runS, startS])⟩⟩
    show (0 : Int) - 0 + _ = _
    omega
  | k + 1 => by
    obtain ⟨cur, I⟩ := runS_goes g k
    have O := runS_ok g k
    rcases I.at_ with hh | ⟨hn, hst⟩
    · have e := runS_goE hh
      have hr := O.here cur hh
      cases ho : (stepM (runS p k).m (p.rows.getD cur .stop)).2 with
      | none =>
        refine ⟨cur, .inr ⟨by rw [e, ho], ?_⟩, ?_, ?_, ?_, ?_⟩
        · cases hrow : p.rows.getD cur .stop with
          | stop => rfl
          | load _ _ => rw [hrow] at ho; cases ho
          | add _ _ => rw [hrow] at ho; cases ho
          | take _ _ => rw [hrow] at ho; cases ho
          | store _ _ => rw [hrow] at ho; cases ho
          | say _ => rw [hrow] at ho; cases ho
          | test _ _ => rw [hrow] at ho; cases ho
        all_goals (rw [e, ho])
        · exact fun x hx => (I.key x hx).mono
        · exact I.nd
        · exact I.flow
        · exact I.reach
      | some n =>
        have egoes : (runS p (k + 1)).goes = bump (runS p k).goes ((cur : Int), (n : Int)) := by rw [e, ho]; rfl
        refine ⟨n, .inl (by rw [e, ho]), ?_, ?_, ?_, ?_⟩
        all_goals (rw [egoes])
        · intro x hx
          rcases mem_bump hx with q | q
          · exact (I.key x q).mono
          · refine ⟨cur, n, _, q, hr, tgt_step ho, ?_, ?_⟩
            · cases hv : valV (runS p k).goes ((cur : Int), (n : Int)) with
              | none => decide
              | some v =>
                obtain ⟨y, hy, hy2⟩ := valV_mem hv
                obtain ⟨b, t, c, h1, h2, h3, h4, h5⟩ := I.key y hy
                rw [← hy2, h1]
                show 1 ≤ c + 1
                omega
            · cases hv : valV (runS p k).goes ((cur : Int), (n : Int)) with
              | none => show (0 : Int) + 1 ≤ _; omega
              | some v =>
                obtain ⟨y, hy, hy2⟩ := valV_mem hv
                obtain ⟨b, t, c, h1, h2, h3, h4, h5⟩ := I.key y hy
                rw [← hy2, h1]
                show c + 1 ≤ _
                omega
        · rw [keys_bump]
          split
          · exact I.nd
          · rename_i h
            exact List.nodup_append.mpr ⟨I.nd, by simp, fun a ha b hb z => h (by rw [← List.mem_singleton.mp hb, ← z]; exact ha)⟩
        · intro x
          rw [sum_bump _ I.nd O.gok, sum_bump _ I.nd O.gok]
          have fl := I.flow x
          unfold inF outF at *
          simp only [decide_eq_true_eq] at *
          by_cases c1 : n = x <;> by_cases c2 : cur = x <;> simp_all <;> omega
        · intro F h0 cl
          have hk : ∀ q ∈ (runS p k).goes.map (·.1), q ∈ (bump (runS p k).goes ((cur : Int), (n : Int))).map (·.1) := by
            intro q hq
            rw [keys_bump]
            split
            · exact hq
            · exact List.mem_append_left _ hq
          have hnew : ((cur : Int), (n : Int)) ∈ (bump (runS p k).goes ((cur : Int), (n : Int))).map (·.1) := by
            rw [keys_bump]
            split
            · assumption
            · exact List.mem_append_right _ (List.mem_singleton.mpr rfl)
          obtain ⟨r1, r2⟩ := I.reach F h0 fun q hq => cl q (hk q hq)
          refine ⟨cl _ hnew r1, fun q hq => ?_⟩
          rw [keys_bump] at hq
          split at hq
          · exact r2 q hq
          · rcases List.mem_append.mp hq with z | z
            · exact r2 q z
            · rw [List.mem_singleton.mp z]
              exact r1
    · have e : runS p (k + 1) = runS p k := by
        show turnS p.rows (runS p k) = _
        unfold turnS
        rw [hn]
      refine ⟨cur, ?_⟩
      rw [e]
      exact ⟨.inr ⟨hn, hst⟩, fun x hx => (I.key x hx).mono, I.nd, I.flow, I.reach⟩
end DL
namespace DL
open PySem L2 DLR
abbrev GoL := List ((Nat × Nat) × Int)
def goVs (e : (Nat × Nat) × Int) : List V := [nI e.1.1, nI e.1.2, .int e.2]
abbrev GoesAt (H : Hp) (bs : List Addr) (G : GoL) : Prop := Paired (fun b e => H b = some (.tup (goVs e))) bs G
theorem GoesAt.kp {H H' : Hp} {bs : List Addr} {G : GoL} (h : GoesAt H bs G) (k : Kp H H') : GoesAt H' bs G := Paired.mapP h fun b x e => k _ _ e
def sumG (f : Nat × Nat → Bool) (G : GoL) : Int := (G.map fun e => if f e.1 = true then e.2 else 0).sum
structure Goes (p : Prog) (G : GoL) : Prop where
  key : ∀ e ∈ G, e.1.1 < p.rows.length ∧ e.1.2 ∈ tgt (p.rows.getD e.1.1 .stop) ∧ 1 ≤ e.2 ∧ e.2 ≤ 5000
  nd : (G.map (·.1)).Nodup
  flow : ∀ x : Nat, p.rows.getD x .stop ≠ .stop → sumG (fun q => decide (q.2 = x)) G - sumG (fun q => decide (q.1 = x)) G + (if x = 0 then 1 else 0) = 0
  reach : ∀ F : Nat → Prop, F 0 → (∀ e ∈ G, F e.1.1 → F e.1.2) → ∀ e ∈ G, F e.1.1
theorem perm_sum {α : Type} {f : α → Int} {l m : List α} (h : l.Perm m) : (l.map f).sum = (m.map f).sum := by
  induction h with
  | nil => rfl
  | cons x _ ih => rw [List.map_cons, List.map_cons, List.sum_cons, List.sum_cons, ih]
  | swap x y l =>
    rw [List.map_cons, List.map_cons, List.map_cons, List.map_cons, List.sum_cons, List.sum_cons, List.sum_cons, List.sum_cons]
    omega
  | trans _ _ a b => rw [a, b]
theorem valV_at : ∀ {g : GL} {e : (Int × Int) × V}, (g.map (·.1)).Nodup → e ∈ g → valV g e.1 = some e.2
  | [], _, _, h => by cases h
  | x :: g, e, nd, h => by
    have nd2 : x.1 ∉ g.map (·.1) ∧ (g.map (·.1)).Nodup := List.nodup_cons.mp nd
    rcases List.mem_cons.mp h with q | q
    · subst q; exact valV_pos rfl
    · rw [valV_neg fun z => nd2.1 (List.mem_map.mpr ⟨e, q, z.symm⟩)]
      exact valV_at nd2.2 q
theorem sumBy_keys (f : Int × Int → Bool) {g : GL} (nd : (g.map (·.1)).Nodup) : sumBy f g = ((g.map (·.1)).map fun q => if f q = true then gcount (valV g q) else 0).sum := by
  unfold sumBy
  rw [List.map_map]
  congr 1
  refine List.map_congr_left fun e he => ?_
  show (if f e.1 = true then cntV e else 0) = if f e.1 = true then gcount (valV g e.1) else 0
  rw [valV_at nd he]
  rfl
def goOf (g : GL) (q : Int × Int) : (Nat × Nat) × Int := ((q.1.toNat, q.2.toNat), gcount (valV g q))
theorem Goes.of {p : Prog} {s : RS} {cur k : Nat} {L : List (Int × Int)} (hk : k ≤ 5000) (I : GInv p k s cur) (hn : s.here = none) (pm : L.Perm (s.goes.map (·.1))) : Goes p (L.map (goOf s.goes)) ∧ ∀ q ∈ L, goVs (goOf s.goes q) = [.int q.1, .int q.2, .int (gcount (valV s.goes q))] := by
  have kq : ∀ q ∈ L, ∃ (b t : Nat) (c : Int), q = ((b : Int), (t : Int)) ∧ b < p.rows.length ∧ t ∈ tgt (p.rows.getD b .stop) ∧ 1 ≤ c ∧ c ≤ (k : Int) ∧ gcount (valV s.goes q) = c := by
    intro q hq
    obtain ⟨e, he, rfl⟩ := List.mem_map.mp (pm.mem_iff.mp hq)
    obtain ⟨b, t, c, h1, h2, h3, h4, h5⟩ := I.key e he
    refine ⟨b, t, c, by rw [h1], h2, h3, h4, h5, ?_⟩
    rw [valV_at I.nd he, h1]
    rfl
  have hst : p.rows.getD cur .stop = .stop := by
    rcases I.at_ with h | h
    · rw [hn] at h; cases h
    · exact h.2
  have sums : ∀ (f : Nat × Nat → Bool) (f' : Int × Int → Bool), (∀ q ∈ L, f (q.1.toNat, q.2.toNat) = f' q) → sumG f (L.map (goOf s.goes)) = sumBy f' s.goes := by
    intro f f' hf
    rw [sumBy_keys f' I.nd, ← perm_sum pm]
    unfold sumG
    rw [List.map_map]
    congr 1
    refine List.map_congr_left fun q hq => ?_
    show (if f (q.1.toNat, q.2.toNat) = true then gcount (valV s.goes q) else 0) = _
    rw [hf q hq]
  refine ⟨⟨fun e he => ?_, ?_, fun x hx => ?_, fun F h0 cl e he => ?_⟩, fun q hq => ?_⟩
  · obtain ⟨q, hq, rfl⟩ := List.mem_map.mp he
    obtain ⟨b, t, c, rfl, h2, h3, h4, h5, h6⟩ := kq q hq
    refine ⟨h2, h3, ?_, ?_⟩
    · show 1 ≤ gcount _; omega
    · show gcount _ ≤ 5000; omega
  · rw [List.map_map]
    have nd := pm.nodup_iff.mpr I.nd
    refine List.pairwise_map.mpr (nd.imp_of_mem fun {a b} ha hb ne z => ne ?_)
    obtain ⟨b1, t1, c1, rfl, _⟩ := kq a ha
    obtain ⟨b2, t2, c2, rfl, _⟩ := kq b hb
    have z1 : b1 = b2 := congrArg Prod.fst z
    have z2 : t1 = t2 := congrArg Prod.snd z
    rw [z1, z2]
  · have fl := I.flow x
    rw [if_neg (show ¬ x = cur from fun z => hx (by rw [z]; exact hst))] at fl
    have sa := sums (fun q => decide (q.2 = x)) (inF x) fun q hq => by
      obtain ⟨b, t, c, rfl, _⟩ := kq q hq
      show decide (t = x) = decide ((t : Int) = (x : Int))
      exact decide_eq_decide.mpr (by omega)
    have sb := sums (fun q => decide (q.1 = x)) (outF x) fun q hq => by
      obtain ⟨b, t, c, rfl, _⟩ := kq q hq
      show decide (b = x) = decide ((b : Int) = (x : Int))
      exact decide_eq_decide.mpr (by omega)
    rw [sa, sb]
    exact fl
  · obtain ⟨q, hq, rfl⟩ := List.mem_map.mp he
    refine (I.reach F h0 fun z hz => ?_).2 q (pm.mem_iff.mp hq)
    exact cl (goOf s.goes z) (List.mem_map.mpr ⟨z, pm.mem_iff.mpr hz, rfl⟩)
  · obtain ⟨b, t, c, rfl, _⟩ := kq q hq
    rfl
def beatsF (y : Lay) (rows : List Row) (G : GoL) : Int := ((y.places.getD 0 0 : Nat) : Int) + 1 + (G.map fun e => e.2 * costF y rows e.1.1 e.1.2).sum
abbrev sEnded : Stmt := top 73
abbrev FEnded (K : Frg) (mg : Str → Option Value) := Fd K mg "_law_ended" sEnded ["_law_d"]
def spLNexts : Sp := fun vs H Q _ => ∃ (a : Addr) (r : Row), vs = [.ref a] ∧ H a = some (.tup (rowVs r)) ∧ ∀ l H', Same1 H H' → H l = none → H' l = some (.lst ((tgt r).map nI)) → Q (.ref l) H'
theorem goesN_has {p : Prog} {u v : Nat} (h1 : u < p.rows.length) (h2 : v ∈ tgt (p.rows.getD u .stop)) : (u, v) ∈ goesN p.rows p.rows.length :=
  List.mem_flatMap.mpr ⟨u, List.mem_range.mpr h1, List.mem_map.mpr ⟨v, h2, rfl⟩⟩
theorem last_row (r : Row) : (if r.isWd "test" = true then (rowVs r).drop 1 else cutV (rowVs r) (some (-1)) none) = if r.isWd "stop" = true then cutV (rowVs r) (some (-1)) none else (nx r).map nI := by
  rw [(Row.wd_eq r).1, (Row.wd_eq r).2.2.2]
  cases r <;> rfl
section
variable {P : Program} {w : World} {K : PySem.W.Frag} {mg : Str → Option Value} {base : Heap}
end
end DL
namespace DL
open PySem L2 DLR
def spLBeats : Sp := fun vs H Q _ => ∃ (ra b la : Addr) (bs cs : List Addr) (p : Prog) (y : Lay) (G : GoL), vs = [.ref ra, .ref b, .ref la] ∧ H ra = some (.tup (bs.map V.ref)) ∧ RowsAt H bs p.rows ∧ Good p ∧ LayAt H b y ∧ LayOk p y ∧ H la = some (.lst (cs.map V.ref)) ∧ GoesAt H cs G ∧ Goes p G ∧ G.length ≤ 5000 ∧
  ∀ H', Same1 H H' → Q (.int (beatsF y p.rows G)) H'
section
variable {P : Program} {w : World} {K : PySem.W.Frag} {mg : Str → Option Value} {base : Heap}
abbrev nLBeats : List Str := ["_law_rows", "_law_laying_here", "_law_goes", "_law_row", "_law_other", "_law_many"]
end
end DL
namespace DL
open PySem L2 DLR
theorem in65 {k : Nat} {A : Around} (hr : Room k A) : A.units + 65 < cLine := by
  have := hr.un
  omega
def pairD (g : Nat × Nat) : PyData := .tuple [.int (g.1 : Int), .int (g.2 : Int)]
theorem pairD_lay : ∀ l : List (Nat × Nat), PyData.canLayAll0 (l.map pairD) = true
  | [] => by decide +kernel
  | x :: l => by
    show (PyData.canLay0 (pairD x) && PyData.canLayAll0 (l.map pairD)) = true
    rw [pairD_lay l]
    rfl
theorem pairD_dep : ∀ l : List (Nat × Nat), PyData.depthAll (l.map pairD) ≤ 3
  | [] => by decide
  | x :: l => by
    have h := pairD_dep l
    show max (pairD x).depth (PyData.depthAll (l.map pairD)) ≤ 3
    have : (pairD x).depth ≤ 3 := by simp [pairD, PyData.depth, PyData.depthAll]
    omega
theorem pairsD_shaped (l : List (Nat × Nat)) : SeqAt.shaped (.list (l.map pairD)) = true := by
  show (PyData.canLayAll0 (l.map pairD) && decide (PyData.depth (.list (l.map pairD)) ≤ 64)) = true
  rw [pairD_lay]
  refine decide_eq_true ?_
  have := pairD_dep l
  show _ + _ ≤ 64
  omega
theorem pairD_shaped (x : Nat × Nat) : SeqAt.shaped (pairD x) = true := by
  have h : (PyData.canLay0 (pairD x) && PyData.canLayAll0 []) = true := pairD_lay [x]
  have d : (pairD x).depth ≤ 64 := by simp [pairD, PyData.depth, PyData.depthAll]
  exact Bool.and_eq_true_iff.mpr ⟨(Bool.and_eq_true_iff.mp h).1, decide_eq_true d⟩
theorem pairD_at {K : Frg} {H : Hp} {b : Addr} {g : Nat × Nat} (h : H b = some (.tup (pairVs g))) : Dp K H (.ref b) (pairD g) := .tup (SqT.of h) (.cons (.int _) (.cons (.int _) .nil))
theorem pairsD_at {K : Frg} {H : Hp} : ∀ {bs : List Addr} {L : List (Nat × Nat)}, PairsL H bs L → DpAll K H (bs.map V.ref) (L.map pairD)
  | _, _, .nil => .nil
  | _, _, .cons h t => .cons (pairD_at h) (pairsD_at t)
abbrev sIsGo : Stmt := top 40
abbrev FIsGo (K : Frg) (mg : Str → Option Value) := Fd K mg "is_go" sIsGo ["go", "may_be"]
def spIsGo : Sp := fun vs H Q _ => ∃ (a l : Addr) (bs : List Addr) (L : List (Nat × Nat)) (e : (Nat × Nat) × Int), vs = [.ref a, .ref l] ∧ H a = some (.tup (goVs e)) ∧ H l = some (.lst (bs.map V.ref)) ∧ PairsL H bs L ∧ e.1 ∈ L ∧ 1 ≤ e.2 ∧ ∀ H', Same1 H H' → Q (.bl true) H'
section
variable {P : Program} {w : World} {K : PySem.W.Frag} {mg : Str → Option Value} {base : Heap}
abbrev nIsGo : List Str := ["go", "may_be", "thing"]
theorem scIsGo : FnScope nIsGo ["go", "may_be"] (defScope sIsGo) := ⟨rfl, rfl, rfl, by decide +kernel, rfl, by decide +kernel, by decide +kernel⟩
theorem ok_isGo (c : FIsGo K mg) (cIsNumber : FIsNumber K mg) (T : Bt mg) : FnOk P w K mg base CX0 2 c.f c.fd ["go", "may_be"] spIsGo := by
  have GIsNumber : FnOk P w K mg base CX0 1 cIsNumber.f cIsNumber.fd ["thing"] spNum := ok_isNumber cIsNumber T
  refine c.F.ok scIsGo (fun vs H Q E h => ?_) (fun cdv A outer s H vs Q E hr h => ?_)
  · obtain ⟨a, l, bs, L, e, rfl, _⟩ := h
    rfl
  · obtain ⟨a, l, bs, L, e, rfl, ha, hl, hL, hm, h1, k⟩ := h
    refine ⟨_, (pss_cons (ps_if (PW.pt (pw_or (pt_not (pt_val (pe_callB call_isi (by rfl) T.isinstance (by decide +kernel) (pa_cons (pv 0) (pa_cons (pe_bltn (v := .ty "tuple") (by rfl) T.tuple (by decide +kernel) rfl) pa_nil))))) (pw_or (pt_cmpR op_ne (pe_callB call_len_seq (by rfl) T.len PySem.boot_len (pa_cons (pv 0) pa_nil)) pe_int (nomark _)) (pw_or1 (pt_not (pt_val (pe_callB (cr_all rfl) (by rfl) T.all (by decide +kernel) (pa_cons (pe_lc (own := [("thing", 2)]) (g := gName 2) (tt := tYes) rfl scIsGo.nd (pi_tup (pv 0)) (blkOk_by (N := nIsGo) (sc := defScope sIsGo) (by decide +kernel)) (fun _ _ _ _ _ => (pg_name (i := 2) scIsGo.nd rfl (Or.inl rfl))) (fun _ _ _ _ _ => pts_nil) (fun _ _ _ _ _ => (pe_call GIsNumber (hr.mono (by first | omega | decide)) (by rfl) cIsNumber.m cIsNumber.F.kp cIsNumber.b .nil pass0 (pa_cons (pv 2) pa_nil)))) pa_nil))))))))
          (pss_one (ps_ret pe_bl))
          pss_nil)
      (pss_one (ps_ret (pe_and (pe_cmpR (op_inD (in65 hr)) (pe_slice sl_tupS (pv 0) po_none (po_some pe_int)) (pv 1) rfl) (pe_one (pe_cmpR op_ge (pe_ix ix_tup (pv 0) pe_int (fun _ _ => rfl)) pe_int (nomark _))))))), ?_⟩
    refine ⟨_, rfl, _, _, _, _, true, rfl, .ty _, .base (.tup ha), kit_ty (by decide +kernel), _, rfl, ?_⟩
    refine iteF ⟨_, rfl, a, _, rfl, .inr (SqT.of ha), rfl, _, rfl, ?_⟩
    rw [show (!decide (V.int (((goVs e).length : Nat) : Int) = V.int 3)) = false from rfl]
    refine iteF ⟨_, rfl, a, rfl, ⟨_, SqT.of ha⟩, fun D hD => ?_⟩
    refine lc_tup (K := K) (a := a) (xs := goVs e) (fun i H' => H' D = some (.lst ((List.replicate i true).map V.bl)) ∧ Same1 H H') ⟨upd_same, Same.new hD⟩ (fun i H' _ ⟨_, q⟩ => SqT.of (q _ _ ha)) ?_ ?_
    · rintro i x H3 hi ⟨hd, s3⟩
      have hin : i < 3 := (List.getElem?_eq_some_iff.mp hi).1
      obtain ⟨z, rfl⟩ : ∃ z, x = V.int z := by
        match i, hin with
        | 0, _ => exact ⟨_, (Option.some.inj hi).symm⟩
        | 1, _ => exact ⟨_, (Option.some.inj hi).symm⟩
        | 2, _ => exact ⟨_, (Option.some.inj hi).symm⟩
      refine ⟨rfl, _, rfl, z, rfl, _, hd, szl (by rw [List.length_map, List.length_replicate]; omega), ?_, Same.mut s3 hD⟩
      rw [upd_same, List.replicate_succ', List.map_append]
      rfl
    · rintro H3 ⟨hd, s3⟩
      refine ⟨D, _, rfl, SqL.of hd, ?_⟩
      rw [show (List.replicate (goVs e).length true).all id = true by rw [List.all_eq_true]; intro x hx; rw [List.eq_of_mem_replicate hx]; rfl]
      refine ⟨_, rfl, iteF ?_⟩
      refine ⟨_, rfl, _, rfl, a, _, rfl, s3 _ _ ha, fun t H4 s4 e4 => ?_⟩
      have e4 : H4 t = some (.tup (pairVs e.1)) := e4
      have S4 := s3.trans s4
      refine ⟨_, rfl, pairD e.1, L.map pairD, pairD_at e4, .lst (SqL.of (S4 _ _ hl)) (pairsD_at (PairsL.kp hL (Kp.same S4))), pairD_shaped _, pairsD_shaped _, ?_⟩
      have any : ((L.map pairD).any fun z => PyData.eqv z (pairD e.1)) = true := List.any_eq_true.mpr ⟨pairD e.1, List.mem_map.mpr ⟨e.1, hm, rfl⟩, PySem.SeqAt.eqv_refl _ (SeqAt.canLay_of_shaped (pairD_shaped _))⟩
      rw [any]
      refine ⟨_, rfl, iteT ?_⟩
      refine ⟨_, rfl, a, _, _, _, rfl, rfl, SqT.of (S4 _ _ ha), at2, _, _, rfl, rfl, ?_⟩
      have q := k H4 S4
      rw [← decide_eq_true (show e.2 ≥ 1 from h1)] at q
      exact q
end
end DL
namespace DL
open PySem L2 DLR
def kN (x : Nat) : Key := .inl (x : Int)
theorem kN_inj {a b : Nat} (h : kN a = kN b) : a = b := by
  have e := Sum.inl.inj h
  omega
structure FoundAt (H : Hp) (fa : Addr) (F : List Nat) : Prop where
  dic : ∃ kvs : List (Key × V), H fa = some (.dK kvs) ∧ kvs.length ≤ F.length ∧ ∀ x : Nat, (valV kvs (kN x)).isSome = decide (x ∈ F)
theorem FoundAt.same {H H' : Hp} {fa : Addr} {F : List Nat} (h : FoundAt H fa F) (s : Same1 H H') : FoundAt H' fa F := by
  obtain ⟨kvs, h1, h2⟩ := h.dic
  exact ⟨kvs, s _ _ h1, h2⟩
theorem FoundAt.other {H H' : Hp} {fa wa : Addr} {F : List Nat} (h : FoundAt H fa F) (b : But wa H H') (n : fa ≠ wa) : FoundAt H' fa F := by
  obtain ⟨kvs, h1, h2⟩ := h.dic
  exact ⟨kvs, b _ _ n h1, h2⟩
theorem FoundAt.get {H : Hp} {fa : Addr} {F : List Nat} (h : FoundAt H fa F) (x : Nat) : ∃ o, DGet H fa (.int (x : Int)) o ∧ o.isSome = decide (x ∈ F) := by
  obtain ⟨kvs, h1, h2, h3⟩ := h.dic
  exact ⟨_, DGet.k (k := kN x) h1, h3 x⟩
theorem nodup_sub {α : Type} [DecidableEq α] : ∀ {l m : List α}, l.Nodup → (∀ x ∈ l, x ∈ m) → l.length ≤ m.length
  | [], _, _, _ => Nat.zero_le _
  | x :: l, m, nd, h => by
    have nd2 : x ∉ l ∧ l.Nodup := List.nodup_cons.mp nd
    have hx := h x List.mem_cons_self
    have ih := nodup_sub (l := l) (m := m.erase x) nd2.2 fun y hy => (List.mem_erase_of_ne fun z => nd2.1 (by rw [← z]; exact hy)).mpr (h y (List.mem_cons_of_mem _ hy))
    rw [List.length_erase_of_mem hx] at ih
    have := List.length_pos_of_mem hx
    show l.length + 1 ≤ m.length
    omega
theorem lenLe {F : List Nat} {N : Nat} (nd : F.Nodup) (h : ∀ x ∈ F, x < N) : F.length ≤ N := by
  have q := nodup_sub nd (m := List.range N) fun x hx => List.mem_range.mpr (h x hx)
  rw [List.length_range] at q
  exact q
abbrev sRowsFound : Stmt := top 42
abbrev FRowsFound (K : Frg) (mg : Str → Option Value) := Fd K mg "rows_found" sRowsFound ["pairs"]
def spRowsFound : Sp := fun vs H Q _ => ∃ (a : Addr) (bs : List Addr) (L : List (Nat × Nat)) (N : Nat), vs = [.ref a] ∧ H a = some (.lst (bs.map V.ref)) ∧ PairsL H bs L ∧ 0 < N ∧ N ≤ 100 ∧ (∀ q ∈ L, q.2 < N) ∧
  ∀ fa F H', Same1 H H' → FoundAt H' fa F → 0 ∈ F → (∀ q ∈ L, q.1 ∈ F → q.2 ∈ F) → Q (.ref fa) H'
structure FW (L : List (Nat × Nat)) (N : Nat) (F W : List Nat) (done_ : Nat → Prop) : Prop where
  nd : F.Nodup
  lt : ∀ x ∈ F, x < N
  z : 0 ∈ F
  wf : ∀ x ∈ W, x ∈ F
  cl : ∀ x ∈ F, x ∈ W ∨ done_ x ∨ ∀ q ∈ L, q.1 = x → q.2 ∈ F
section
variable {P : Program} {w : World} {K : PySem.W.Frag} {mg : Str → Option Value} {base : Heap}
theorem scRowsFound : FnScope ["pairs", "found", "waiting", "row", "begin", "to"] ["pairs"] (defScope sRowsFound) := ⟨rfl, rfl, rfl, by decide +kernel, rfl, by decide +kernel, by decide +kernel⟩
theorem ok_rowsFound (c : FRowsFound K mg) : FnOk P w K mg base CX0 1 c.f c.fd ["pairs"] spRowsFound := by
  refine c.F.ok scRowsFound (fun vs H Q E h => ?_) (fun cdv A outer s H vs Q E hr h => ?_)
  · obtain ⟨a, bs, L, N, rfl, _⟩ := h
    rfl
  · obtain ⟨a, bs, L, N, rfl, ha, hL, n0, n100, hN, k⟩ := h
    have hbl := Paired.length hL
    refine ⟨_, (pss_cons (ps_set (i := 1) scRowsFound.nd rfl (Or.inl rfl) (pe_disp (pps_cons pe_int pe_bl pps_nil) (by rfl) (by rfl) (fun z => by cases z) (by decide)))
      (pss_cons (ps_set (i := 2) scRowsFound.nd rfl (Or.inl rfl) (pe_lst (pa_cons pe_int pa_nil)))
      (pss_cons (ps_while PassesOwn.never (pt_truth (pv 2) (fun _ => rfl))
          (pss_cons (ps_set (i := 3) scRowsFound.nd rfl (Or.inl rfl) (pe_bm0 PySem.F.plainAttrs_list PySem.F.slot_list_pop PySem.F.type_list_pop mt_pop (pv 2)))
          (pss_one (ps_for PassesOwn.never rfl (pi_list (pv 0)) (pg_tup rfl (pgs_cons (pg_name (i := 4) scRowsFound.nd rfl (Or.inl rfl)) (pgs_cons (pg_name (i := 5) scRowsFound.nd rfl (Or.inl rfl)) pgs_nil)))
              (pss_one (ps_if (PW.pt (pw_and (pt_cmpR op_eq (pv 4) (pv 3) (nomark _)) (pw_and1 (pt_cmp (pc_dnotin (hu_of hr) (pv 5) (pv 1))))))
                  (pss_cons (ps_dput (hu_of hr) (pv 1) (pv 5) pe_bl rfl)
                  (pss_one (ps_expr (pe_bm PySem.F.plainAttrs_list PySem.F.slot_list_append PySem.F.type_list_append mt_append (pv 2) (pa_cons (pv 5) pa_nil)))))
                  pss_nil))))))
      (pss_one (ps_ret (pv 1)))))), ?_⟩
    refine fun fa hfa => ?_
    refine alloc hfa fun H1 s1 e1 => ?_
    refine ⟨e1, [(kN 0, .bl true)], rfl, (by show 1 ≤ 15; decide), ?_⟩
    have F1 : FoundAt (upd H1 fa (.dK (mergeK [] [(kN 0, V.bl true)]))) fa [0] := by
      refine ⟨_, upd_same, Nat.le_refl _, fun x => ?_⟩
      by_cases e : x = 0
      · subst e
        rw [show mergeK [] [(kN 0, V.bl true)] = [(kN 0, V.bl true)] from rfl, valV_pos rfl]
        rfl
      · rw [show mergeK [] [(kN 0, V.bl true)] = [(kN 0, V.bl true)] from rfl, valV_neg (show ¬ (kN 0, V.bl true).1 = kN x from fun z => e (kN_inj z).symm)]
        show false = _
        exact (decide_eq_false (by simpa using e)).symm
    have S1 : Same1 H (upd H1 fa (.dK (mergeK [] [(kN 0, V.bl true)]))) := Same.mut s1 hfa
    revert F1 S1
    refine change fun H2 b2 e2 => ?_
    intro F1 S1
    refine ⟨(by show 1 ≤ sizeLine; decide), fun wa hwa => ?_⟩
    refine alloc hwa fun H3 s3 e3 => ?_
    have nfw : fa ≠ wa := by
      obtain ⟨kvs, q, _⟩ := F1.dic
      exact ne_of_none q hwa
    have nwa : H wa = none := S1.free hwa
    have nfa : H fa = none := hfa
    dsimp only [gName]
    refine whileE (fun m σ H' => ∃ (F W : List Nat) (x3 x4 x5 : Option V), m = 2 * (N - F.length) + W.length ∧ σ = [some (.ref a), some (.ref fa), some (.ref wa), x3, x4, x5] ∧ Same1 H H' ∧ FoundAt H' fa F ∧ H' wa = some (.lst (W.map nI)) ∧ FW L N F W (fun _ => False) ∧ 2 * (N - F.length) + W.length ≤ 2 * N)
      (fun σ H' => ∃ (F : List Nat) (x3 x4 x5 : Option V), σ = [some (.ref a), some (.ref fa), some (.ref wa), x3, x4, x5] ∧ Same1 H H' ∧ FoundAt H' fa F ∧ FW L N F [] (fun _ => False))
      ⟨_, [0], [0], none, none, none, rfl, rfl, S1.trans s3, F1.same s3, e3, ⟨by simp, fun x hx => by rw [List.mem_singleton.mp hx]; exact n0, List.mem_singleton.mpr rfl, fun x hx => hx, fun x hx => .inl hx⟩, by show 2 * (N - 1) + 1 ≤ 2 * N; omega⟩ ?_ ?_
    · rintro σ H' ⟨F, x3, x4, x5, rfl, s', f', fw⟩
      refine ⟨_, rfl, k fa F H' s' f' fw.z fun q hq h1 => ?_⟩
      rcases fw.cl _ h1 with z | z | z
      · cases z
      · exact z.elim
      · exact z q hq rfl
    · intro Nx hNx
      rintro m σ H4 ⟨F, W, x3, x4, x5, rfl, rfl, s4, f4, hw4, fw, w2⟩
      refine ⟨_, rfl, !(W.map nI).isEmpty, .inl ⟨_, SqL.of hw4, rfl⟩, ?_⟩
      have hFN := lenLe fw.nd fw.lt
      rcases List.eq_nil_or_concat W with rfl | ⟨W0, r, rfl⟩
      · exact hNx _ _ ⟨F, _, _, _, rfl, s4, f4, fw⟩
      · have hne : (!((W0.concat r).map nI).isEmpty) = true := by simp
        rw [hne]
        have hw4 : H4 wa = some (.lst (W0.map nI ++ [nI r])) := by rw [hw4, List.concat_eq_append, List.map_append]; rfl
        rw [List.concat_eq_append] at w2 fw
        rw [List.length_append] at w2
        have w2 : 2 * (N - F.length) + (W0.length + 1) ≤ 2 * N := w2
        refine ⟨_, fun σ' H' q => q, _, rfl, .inl ⟨rfl, _, SqL.of hw4⟩, wa, _, nI r, rfl, rfl, hw4, ?_, ?_⟩
        · rw [List.length_append, List.length_map]
          show (W0.map nI ++ [nI r])[W0.length + 1 - 1]? = _
          rw [Nat.add_sub_cancel, List.getElem?_append_right (by rw [List.length_map]; exact Nat.le_refl _), List.length_map, Nat.sub_self]
          rfl
        rw [List.dropLast_concat, List.length_concat]
        have b5 : But wa H4 (upd H4 wa (.lst (W0.map nI))) := fun x o n e => by rw [upd_ne n]; exact e
        have s5 : Same1 H (upd H4 wa (.lst (W0.map nI))) := Same.mut s4 nwa
        have f5 : FoundAt (upd H4 wa (.lst (W0.map nI))) fa F := f4.other b5 nfw
        have rF : r ∈ F := fw.wf r (List.mem_append_right _ (List.mem_singleton.mpr rfl))
        have fw5 : FW L N F W0 (fun x => x = r) := ⟨fw.nd, fw.lt, fw.z, fun x hx => fw.wf x (List.mem_append_left _ hx), fun x hx => by
          rcases fw.cl x hx with z | z | z
          · rcases List.mem_append.mp z with z | z
            · exact .inl z
            · exact .inr (.inl (List.mem_singleton.mp z))
          · exact z.elim
          · exact .inr (.inr z)⟩
        have e5 : (upd H4 wa (.lst (W0.map nI))) wa = some (.lst (W0.map nI)) := upd_same
        revert s5 f5 e5
        refine change (p := wa) (o := .lst (W0.map nI)) (H := H4) fun H5 _ _ => ?_
        intro s5 f5 e5
        refine ⟨_, rfl, a, rfl, ⟨_, SqL.of (s5 _ _ ha)⟩, for_list (K := K) (a := a) (xs := bs.map V.ref) (fun i σ H' => ∃ (F' W' : List Nat) (x4 x5 : Option V), σ = [some (.ref a), some (.ref fa), some (.ref wa), some (nI r), x4, x5] ∧ Same1 H H' ∧ FoundAt H' fa F' ∧ H' wa = some (.lst (W'.map nI)) ∧
            FW L N F' W' (fun x => x = r) ∧ (∀ q ∈ L.take i, q.1 = r → q.2 ∈ F') ∧ 2 * (N - F'.length) + W'.length + 1 ≤ 2 * (N - F.length) + (W0.length + 1))
          ⟨F, W0, _, _, rfl, s5, f5, e5, fw5, fun q hq => absurd hq (by simp), Nat.le_refl _⟩ (fun i σ H' _ ⟨_, _, _, _, _, q, _⟩ => SqL.of (q _ _ ha)) ?_ ?_⟩
        · rintro i x σ H6 hi ⟨F', W', x4, x5, rfl, s6, f6, hw6, fw6, pr6, m6⟩
          have hic : i < bs.length := by
            have q := (List.getElem?_eq_some_iff.mp hi).1
            rwa [List.length_map] at q
          have ex : x = .ref bs[i] := by
            rw [List.getElem?_map, List.getElem?_eq_getElem hic] at hi
            exact (Option.some.inj hi).symm
          subst ex
          obtain ⟨⟨u, v⟩, hq1, hq2⟩ := Paired.get hL (List.getElem?_eq_getElem hic)
          have hvN : v < N := hN _ (List.mem_of_getElem? hq1)
          have hFN' := lenLe fw6.nd fw6.lt
          refine ⟨bs[i], _, rfl, SqT.of (s6 _ _ hq2), rfl, _, _, rfl, _, _, rfl, rfl, ?_⟩
          have step : ∀ (F2 W2 : List Nat), (∀ q ∈ L.take i, q.1 = r → q.2 ∈ F2) → (u = r → v ∈ F2) → ∀ q ∈ L.take (i + 1), q.1 = r → q.2 ∈ F2 := by
            intro F2 W2 h1 h2 q hq e
            rw [List.take_add_one, hq1] at hq
            rcases List.mem_append.mp hq with z | z
            · exact h1 q z e
            · have z : q = (u, v) := List.mem_singleton.mp z
              subst z
              exact h2 e
          refine if_elim (fun b H' => H' = H6 ∧ (b = true → u = r ∧ v ∉ F') ∧ (b = false → u = r → v ∈ F')) ?_ ?_
          · rintro b H' ⟨rfl, hb1, hb2⟩
            cases b with
            | false => exact iteF ⟨F', W', _, _, rfl, s6, f6, hw6, fw6, step F' W' pr6 (hb2 rfl), m6⟩
            | true =>
              obtain ⟨rfl, hv⟩ := hb1 rfl
              obtain ⟨kvs, d1, d2, d3⟩ := f6.dic
              have nd' : (F' ++ [v]).Nodup := List.nodup_append.mpr ⟨fw6.nd, by simp, fun x hx y hy z => hv (by rw [← List.mem_singleton.mp hy, ← z]; exact hx)⟩
              have hl2 := lenLe nd' (fun x hx => by
                rcases List.mem_append.mp hx with z | z
                · exact fw6.lt x z
                · rw [List.mem_singleton.mp z]; exact hvN)
              rw [List.length_append] at hl2
              have hl2 : F'.length + 1 ≤ N := hl2
              refine iteT ⟨_, rfl, _, rfl, fa, _, rfl, DPut.k (k := kN v) d1 (szl (by omega)), ?_⟩
              have hw7 : (upd H' fa (.dK (putK kvs (kN v) (.bl true)))) wa = some (.lst (W'.map nI)) := by rw [upd_ne nfw.symm]; exact hw6
              have f7 : FoundAt (upd H' fa (.dK (putK kvs (kN v) (.bl true)))) fa (F' ++ [v]) := by
                refine ⟨_, upd_same, ?_, fun x => ?_⟩
                · have := putK_len (kvs := kvs) (k := kN v) (v := V.bl true)
                  rw [List.length_append]
                  show _ ≤ F'.length + 1
                  omega
                · rw [valV_put]
                  by_cases e : v = x
                  · subst e
                    rw [if_pos rfl]
                    show true = _
                    exact (decide_eq_true (by simp)).symm
                  · rw [if_neg fun z => e (kN_inj z).symm, d3]
                    refine decide_eq_decide.mpr ⟨fun z => List.mem_append_left _ z, fun z => ?_⟩
                    rcases List.mem_append.mp z with z | z
                    · exact z
                    · exact absurd (List.mem_singleton.mp z).symm e
              have s7 : Same1 H (upd H' fa (.dK (putK kvs (kN v) (.bl true)))) := Same.mut s6 nfa
              refine ⟨_, rfl, .inl ⟨rfl, _, SqL.of hw7⟩, _, rfl, wa, _, _, rfl, rfl, hw7, szl (by rw [List.length_map]; omega), ?_⟩
              refine ⟨F' ++ [v], W' ++ [v], _, _, rfl, Same.mut s7 nwa, f7.other (fun x o n e => by rw [upd_ne n]; exact e) nfw, by rw [upd_same, List.map_append]; rfl, ⟨nd', fun x hx => ?_, List.mem_append_left _ fw6.z, fun x hx => ?_, fun x hx => ?_⟩, step _ (W' ++ [v]) (fun q hq e => List.mem_append_left _ (pr6 q hq e)) fun _ => List.mem_append_right _ (List.mem_singleton.mpr rfl), ?_⟩
              · rcases List.mem_append.mp hx with z | z
                · exact fw6.lt x z
                · rw [List.mem_singleton.mp z]; exact hvN
              · rcases List.mem_append.mp hx with z | z
                · exact List.mem_append_left _ (fw6.wf x z)
                · exact List.mem_append_right _ z
              · rcases List.mem_append.mp hx with z | z
                · rcases fw6.cl x z with y | y | y
                  · exact .inl (List.mem_append_left _ y)
                  · exact .inr (.inl y)
                  · exact .inr (.inr fun q hq e => List.mem_append_left _ (y q hq e))
                · exact .inl (List.mem_append_right _ z)
              · rw [List.length_append, List.length_append]
                show 2 * (N - (F'.length + 1)) + (W'.length + 1) + 1 ≤ _
                omega
          · intro Fk hF
            obtain ⟨o, g1, g2⟩ := f6.get v
            refine ⟨_, rfl, _, rfl, rfl, _, rfl, ?_⟩
            by_cases e : u = r
            · rw [decide_eq_true (show nI ((u, v) : Nat × Nat).fst = nI r by rw [← e])]
              refine ⟨_, rfl, _, rfl, fa, o, rfl, g1, _, rfl, hF _ _ ⟨rfl, fun z => ⟨e, ?_⟩, fun z _ => ?_⟩⟩
              · rw [g2] at z
                exact fun y => by rw [decide_eq_true y] at z; cases z
              · rw [g2] at z
                by_cases y : v ∈ F'
                · exact y
                · rw [decide_eq_false y] at z; cases z
            · rw [decide_eq_false (show ¬ nI ((u, v) : Nat × Nat).fst = nI r from fun z => e (Int.ofNat.inj (V.int.inj z)))]
              exact hF _ _ ⟨rfl, (fun z => by cases z), fun _ z => absurd z e⟩
        · rintro σ H6 ⟨F', W', x4, x5, rfl, s6, f6, hw6, fw6, pr6, m6⟩
          rw [List.length_map, hbl, List.take_length] at pr6
          refine ⟨_, by omega, F', W', _, _, _, rfl, rfl, s6, f6, hw6, ⟨fw6.nd, fw6.lt, fw6.z, fw6.wf, fun x hx => ?_⟩, by omega⟩
          rcases fw6.cl x hx with z | z | z
          · exact .inl z
          · subst z; exact .inr (.inr pr6)
          · exact .inr (.inr z)
end
end DL
namespace DL
open PySem L2 DLR
theorem isT_test (a b : Nat) : isT (.test a b) = 1 := (by decide +kernel : (if decide (some (V.str "test") = some (V.str "test")) = true then 1 else 0) = 1)
theorem tgt_len2 (r : Row) : (tgt r).length ≤ 1 + isT r := by
  cases r with
  | test a b =>
    rw [isT_test]
    exact tgt_len _
  | stop => exact Nat.zero_le _
  | load _ _ => exact Nat.le_add_right 1 _
  | add _ _ => exact Nat.le_add_right 1 _
  | take _ _ => exact Nat.le_add_right 1 _
  | store _ _ => exact Nat.le_add_right 1 _
  | say _ => exact Nat.le_add_right 1 _
theorem goesN_len2 (rows : List Row) : ∀ i, i ≤ rows.length → (goesN rows i).length ≤ i + tests (rows.take i)
  | 0, _ => Nat.zero_le _
  | i + 1, h => by
    have ih := goesN_len2 rows i (by omega)
    have e : rows[i]? = some (rows.getD i .stop) := by
      rw [List.getD_eq_getElem?_getD, List.getElem?_eq_getElem (by omega)]
      rfl
    rw [goesN_succ, List.length_append, List.length_map, List.take_add_one, e, tests_app]
    have := tgt_len2 (rows.getD i .stop)
    show _ ≤ i + 1 + (tests (rows.take i) + tests [rows.getD i .stop])
    rw [tests_one]
    omega
def Few (p : Prog) : Prop := 4 * tests p.rows ≤ p.rows.length ∧ p.rows.getD 0 .stop ≠ .stop
theorem Goes.few {p : Prog} {G : GoL} (g : Good p) (f : Few p) (h : Goes p G) : G.length < 60 := by
  have a := nodup_sub h.nd (m := goesN p.rows p.rows.length) fun x hx => by
    obtain ⟨e, he, rfl⟩ := List.mem_map.mp hx
    obtain ⟨k1, k2, _⟩ := h.key e he
    exact goesN_has k1 k2
  rw [List.length_map] at a
  have b := goesN_len2 p.rows p.rows.length (Nat.le_refl _)
  rw [List.take_length] at b
  have := g.r40
  have f := f.1
  omega
theorem bump_mem {g : GL} {q : Int × Int} {e : (Int × Int) × V} (h : e ∈ bump g q) : e.1 = q ∨ ∃ x ∈ g, e.1 = x.1 := by
  unfold bump putK at h
  split at h
  · obtain ⟨x, hx, rfl⟩ := List.mem_map.mp h
    refine .inr ⟨x, hx, ?_⟩
    by_cases c : x.1 = q
    · rw [if_pos c]
    · rw [if_neg c]
  · rcases List.mem_append.mp h with z | z
    · exact .inr ⟨e, z, rfl⟩
    · rw [List.mem_singleton.mp z]; exact .inl rfl
theorem cnt_set {l : List Int} {r : Nat} (h0 : ∀ x ∈ l, 0 ≤ x) (hr : r < l.length) : (∀ x ∈ l.set r (l.getD r 0 + 1), 0 ≤ x) ∧ 0 < (l.set r (l.getD r 0 + 1)).getD r 0 ∧ ∀ b, 0 < l.getD b 0 → 0 < (l.set r (l.getD r 0 + 1)).getD b 0 := by
  have hv : 0 ≤ l.getD r 0 := by
    rw [List.getD_eq_getElem?_getD, List.getElem?_eq_getElem hr]
    exact h0 _ (List.getElem_mem hr)
  have e : (l.set r (l.getD r 0 + 1)).getD r 0 = l.getD r 0 + 1 := by
    rw [List.getD_eq_getElem?_getD, List.getElem?_set_self hr]
    rfl
  refine ⟨fun x hx => ?_, by rw [e]; omega, fun b hb => ?_⟩
  · rcases List.mem_or_eq_of_mem_set hx with z | z
    · exact h0 x z
    · rw [z]; omega
  · by_cases c : b = r
    · subst c; rw [e]; omega
    · rw [List.getD_eq_getElem?_getD, List.getElem?_set_ne (fun z => c z.symm), ← List.getD_eq_getElem?_getD]
      exact hb
theorem runS_cnt {p : Prog} (g : Good p) : ∀ k, (∀ x ∈ (runS p k).cnt, 0 ≤ x) ∧ ∀ e ∈ (runS p k).goes, ∃ b t : Nat, e.1 = ((b : Int), (t : Int)) ∧ 0 < (runS p k).cnt.getD b 0
  | 0 => ⟨fun x hx => by rw [List.eq_of_mem_replicate hx]; exact Int.le_refl 0, fun e he => absurd he (by simp [runS, startS])⟩
  | k + 1 => by
    obtain ⟨h1, h2⟩ := runS_cnt g k
    have O := runS_ok g k
    show (∀ x ∈ (turnS p.rows (runS p k)).cnt, 0 ≤ x) ∧ ∀ e ∈ (turnS p.rows (runS p k)).goes, ∃ b t : Nat, e.1 = ((b : Int), (t : Int)) ∧ 0 < (turnS p.rows (runS p k)).cnt.getD b 0
    unfold turnS
    cases hh : (runS p k).here with
    | none => exact ⟨h1, h2⟩
    | some r =>
      have hr : r < (runS p k).cnt.length := by rw [O.dl]; exact O.here r hh
      obtain ⟨c1, c2, c3⟩ := cnt_set h1 hr
      refine ⟨c1, fun e he => ?_⟩
      have old : ∀ x ∈ (runS p k).goes, e.1 = x.1 → ∃ b t : Nat, e.1 = ((b : Int), (t : Int)) ∧ 0 < ((runS p k).cnt.set r ((runS p k).cnt.getD r 0 + 1)).getD b 0 := by
        intro x hx ex
        obtain ⟨b, t, e1, e2⟩ := h2 x hx
        exact ⟨b, t, ex.trans e1, c3 b e2⟩
      have he : e ∈ goesOf (runS p k).goes r (stepM (runS p k).m (p.rows.getD r .stop)).2 := he
      unfold goesOf at he
      split at he
      · exact old e he rfl
      · rename_i n hn
        rcases bump_mem he with z | ⟨x, hx, ex⟩
        · exact ⟨r, n, z, c2⟩
        · exact old x hx ex
theorem bump_to {g : GL} {q : Int × Int} (y : Int) : (∃ e ∈ bump g q, e.1.2 = y) ↔ (∃ e ∈ g, e.1.2 = y) ∨ q.2 = y := by
  constructor
  · rintro ⟨e, he, h⟩
    rcases bump_mem he with z | ⟨x, hx, z⟩
    · exact .inr (by rw [← z]; exact h)
    · exact .inl ⟨x, hx, by rw [← z]; exact h⟩
  · unfold bump putK
    split
    · rename_i hany
      rintro (⟨e, he, h⟩ | h)
      · refine ⟨_, List.mem_map.mpr ⟨e, he, rfl⟩, ?_⟩
        by_cases c : e.1 = q
        · rw [if_pos c]; exact h
        · rw [if_neg c]; exact h
      · obtain ⟨e, he, c⟩ := List.any_eq_true.mp hany
        have c : e.1 = q := of_decide_eq_true c
        refine ⟨_, List.mem_map.mpr ⟨e, he, rfl⟩, ?_⟩
        rw [if_pos c]
        show e.1.2 = y
        rw [c]; exact h
    · rintro (⟨e, he, h⟩ | h)
      · exact ⟨e, List.mem_append_left _ he, h⟩
      · exact ⟨_, List.mem_append_right _ (List.mem_singleton.mpr rfl), h⟩
theorem runS_done {p : Prog} (g : Good p) : ∀ k (x : Nat), (0 < (runS p k).cnt.getD x 0 ∨ (runS p k).here = some x) ↔ x = 0 ∨ ∃ e ∈ (runS p k).goes, e.1.2 = (x : Int)
  | 0, x => by
    have e : (runS p 0).cnt.getD x 0 = 0 := by
      show (List.replicate p.rows.length (0 : Int)).getD x 0 = 0
      rw [List.getD_eq_getElem?_getD, List.getElem?_replicate]
      split <;> rfl
    rw [e]
    show (0 < (0 : Int) ∨ some 0 = some x) ↔ x = 0 ∨ ∃ e ∈ ([] : GL), _
    constructor
    · rintro (h | h)
      · exact absurd h (by decide)
      · exact .inl (Option.some.inj h).symm
    · rintro (h | ⟨e, he, _⟩)
      · exact .inr (by rw [h])
      · cases he
  | k + 1, x => by
    have ih := runS_done g k x
    have O := runS_ok g k
    have C := (runS_cnt g k).1
    show (0 < (turnS p.rows (runS p k)).cnt.getD x 0 ∨ (turnS p.rows (runS p k)).here = some x) ↔ x = 0 ∨ ∃ e ∈ (turnS p.rows (runS p k)).goes, e.1.2 = (x : Int)
    unfold turnS
    cases hh : (runS p k).here with
    | none =>
      rw [hh] at ih
      show (0 < (runS p k).cnt.getD x 0 ∨ (runS p k).here = some x) ↔ x = 0 ∨ ∃ e ∈ (runS p k).goes, e.1.2 = (x : Int)
      rw [hh]
      exact ih
    | some r =>
      have hr : r < (runS p k).cnt.length := by rw [O.dl]; exact O.here r hh
      rw [hh] at ih
      have c1 : 0 < ((runS p k).cnt.set r ((runS p k).cnt.getD r 0 + 1)).getD x 0 ↔ (0 < (runS p k).cnt.getD x 0 ∨ some r = some x) := by
        obtain ⟨_, d2, d3⟩ := cnt_set C hr
        constructor
        · intro h
          by_cases c : r = x
          · exact .inr (by rw [c])
          · rw [List.getD_eq_getElem?_getD, List.getElem?_set_ne c, ← List.getD_eq_getElem?_getD] at h
            exact .inl h
        · rintro (h | h)
          · exact d3 x h
          · rw [← Option.some.inj h]; exact d2
      show (0 < ((runS p k).cnt.set r ((runS p k).cnt.getD r 0 + 1)).getD x 0 ∨ (stepM (runS p k).m (p.rows.getD r .stop)).2 = some x) ↔ x = 0 ∨ ∃ e ∈ goesOf (runS p k).goes r (stepM (runS p k).m (p.rows.getD r .stop)).2, e.1.2 = (x : Int)
      rw [c1, ih]
      cases (stepM (runS p k).m (p.rows.getD r .stop)).2 with
      | none =>
        show ((_ ∨ _) ∨ none = some x) ↔ x = 0 ∨ ∃ e ∈ (runS p k).goes, e.1.2 = (x : Int)
        constructor
        · rintro (h | h)
          · exact h
          · cases h
        · exact .inl
      | some n =>
        show ((_ ∨ _) ∨ some n = some x) ↔ x = 0 ∨ ∃ e ∈ bump (runS p k).goes ((r : Int), (n : Int)), e.1.2 = (x : Int)
        rw [bump_to]
        constructor
        · rintro ((h | h) | h)
          · exact .inl h
          · exact .inr (.inl h)
          · exact .inr (.inr (by rw [Option.some.inj h]))
        · rintro (h | h | h)
          · exact .inl (.inl h)
          · exact .inl (.inr h)
          · refine .inr ?_
            have h : (n : Int) = (x : Int) := h
            rw [show n = x by omega]
def spEnded (K : Frg) : Sp := fun vs H Q _ => ∃ (d sa : Addr) (ns : List Int), vs = [.ref d] ∧ Ent K H d sa ns ∧
  ∀ (a pa la da : Addr) (p : Prog) (G : GoL) (bs : List Addr) H', Dc K H H' d sa ns → H' a = some (.tup [.ref pa, .ref la, .ref da]) → ProgAt H' pa p → Good p → Few p → H' la = some (.lst (bs.map V.ref)) → GoesAt H' bs G → Goes p G →
    ∀ cs : List Int, H' da = some (.lst (cs.map V.int)) → cs.length = p.rows.length → ((∀ e ∈ G, 0 < cs.getD e.1.1 0) ∧ ∀ x : Nat, 0 < cs.getD x 0 ↔ x = 0 ∨ ∃ e ∈ G, e.1.2 = x) → ((runS p 5000).here = none ∧ ∃ L : List (Int × Int), L.Perm ((runS p 5000).goes.map (·.1)) ∧ G = L.map (goOf (runS p 5000).goes)) → Q (.ref a) H'
def twoP : Prog := ⟨[3], [.load 0 1, .stop]⟩
theorem twoP_good : Good twoP := ⟨by decide, by decide, by decide, fun x hx => by rw [List.mem_singleton.mp hx]; decide, fun r hr => by
  rcases List.mem_cons.mp hr with e | e
  · rw [e]; exact ⟨by decide, by decide⟩
  · rw [List.mem_singleton.mp e]; trivial⟩
theorem twoP_few : Few twoP := by
  refine ⟨?_, fun z => by cases z⟩
  show 4 * (isT (.load 0 1) + (isT .stop + 0)) ≤ 2
  rw [isT_plain (r := .load 0 1) trivial, isT_stop]
  decide
theorem twoP_end : (runS twoP 9).here = none := rfl
def strD (s : Str) : PyData := .tuple [.str s]
theorem eq_end {K : Frg} {H : Hp} {a b : Addr} {c : Prop} [Decidable c] {Q : VK} (h1 : H a = some (.tup [.str (if c then "stop" else "long")])) (h2 : H b = some (.tup [.str "stop"])) (q : Q (.bl (!decide c)) H) : rNeD K (.ref a) (.ref b) H Q := by
  by_cases h : c
  · rw [if_pos h] at h1
    rw [decide_eq_true h] at q
    exact ⟨strD "stop", strD "stop", .tup (SqT.of h1) (.cons (.str _) .nil), .tup (SqT.of h2) (.cons (.str _) .nil), by decide +kernel, by decide +kernel, q⟩
  · rw [if_neg h] at h1
    rw [decide_eq_false h] at q
    exact ⟨strD "long", strD "stop", .tup (SqT.of h1) (.cons (.str _) .nil), .tup (SqT.of h2) (.cons (.str _) .nil), by decide +kernel, by decide +kernel, q⟩
theorem Res.goes_at {p : Prog} {fuel : Nat} {H0 H : Hp} {a ls le ld lg : Addr} {ys : List Addr} {L : List (Int × Int)} (g : Good p) (hf : fuel ≤ 5000) (hn : (runS p fuel).here = none) (r : Res p fuel H0 H a ls le ld lg ys L) : ∃ G : GoL, G = L.map (goOf (runS p fuel).goes) ∧ GoesAt H ys G ∧ Goes p G ∧ (∀ e ∈ G, 0 < (runS p fuel).cnt.getD e.1.1 0) ∧ ∀ x : Nat, 0 < (runS p fuel).cnt.getD x 0 ↔ x = 0 ∨ ∃ e ∈ G, e.1.2 = x := by
  obtain ⟨cur, I⟩ := runS_goes g fuel
  obtain ⟨h1, h2⟩ := Goes.of hf I hn r.stb.perm
  refine ⟨_, rfl, ?_, h1, fun e he => ?_, fun x => ?_⟩
  rotate_left
  · obtain ⟨q, hq, rfl⟩ := List.mem_map.mp he
    obtain ⟨x, hx, rfl⟩ := List.mem_map.mp (r.stb.perm.mem_iff.mp hq)
    obtain ⟨b, t, e1, e2⟩ := (runS_cnt g fuel).2 x hx
    show 0 < (runS p fuel).cnt.getD (x.1.1.toNat) 0
    rw [e1]
    exact e2
  · have q := runS_done g fuel x
    rw [hn] at q
    constructor
    · intro h
      rcases q.mp (.inl h) with z | ⟨y, hy, z⟩
      · exact .inl z
      · refine .inr ⟨goOf (runS p fuel).goes y.1, List.mem_map.mpr ⟨y.1, r.stb.perm.mem_iff.mpr (List.mem_map.mpr ⟨y, hy, rfl⟩), rfl⟩, ?_⟩
        show y.1.2.toNat = x
        rw [z]
        rfl
    · intro h
      have h2 : x = 0 ∨ ∃ e ∈ (runS p fuel).goes, e.1.2 = (x : Int) := by
        rcases h with z | ⟨e, he, z⟩
        · exact .inl z
        · obtain ⟨c, hc, rfl⟩ := List.mem_map.mp he
          obtain ⟨y, hy, rfl⟩ := List.mem_map.mp (r.stb.perm.mem_iff.mp hc)
          obtain ⟨b, t, e1, e2⟩ := (runS_cnt g fuel).2 y hy
          have z : y.1.2.toNat = x := z
          refine .inr ⟨y, hy, ?_⟩
          rw [e1] at z ⊢
          have z : t = x := z
          rw [z]
      rcases q.mpr h2 with z | z
      · exact z
      · cases z
  have e : ∀ {ys : List Addr} {L : List (Int × Int)}, (∀ q ∈ L, goVs (goOf (runS p fuel).goes q) = [.int q.1, .int q.2, .int (gcount (valV (runS p fuel).goes q))]) →
      Paired (fun b q => H b = some (.tup [.int q.1, .int q.2, .int (gcount (valV (runS p fuel).goes q))])) ys L → GoesAt H ys (L.map (goOf (runS p fuel).goes)) := by
    intro ys L hq h
    induction h with
    | nil => exact .nil
    | cons hb _ ih => exact .cons (by rw [hq _ List.mem_cons_self]; exact hb) (ih fun q hq2 => hq q (List.mem_cons_of_mem _ hq2))
  exact e h2 r.each
section
variable {P : Program} {w : World} {K : PySem.W.Frag} {mg : Str → Option Value} {base : Heap}
abbrev nEnded : List Str := ["_law_d", "_law_program", "_law_said", "_law_end", "_law_done", "_law_goes"]
theorem scEnded : FnScope nEnded ["_law_d"] (defScope sEnded) := ⟨rfl, rfl, rfl, by decide +kernel, rfl, by decide +kernel, by decide +kernel⟩
theorem ok_ended (c : FEnded K mg) (cStopping : FStopping K mg) (cNext : FNext K mg) (cRun : FLRun K mg) (T : Bt mg) (GStopping : FnOk P w K mg base CX0 7 cStopping.f cStopping.fd pStopping (spStopping K)) (GRun : FnOk P w K mg base CX0 3 cRun.f cRun.fd pLRun spRun) : FnOk P w K mg base CX0 8 c.f c.fd ["_law_d"] (spEnded K) := by
  have GNext : FnOk P w K mg base CX0 1 cNext.f cNext.fd ["_law_dice_here", "_law_many"] (spNext K) := ok_next cNext.F T
  refine c.F.ok scEnded (fun vs H Q E h => ?_) (fun cdv A outer s H vs Q E hr h => ?_)
  · obtain ⟨d, sa, ns, rfl, _⟩ := h
    rfl
  · obtain ⟨d, sa, ns, rfl, hE, k⟩ := h
    refine ⟨_, (pss_cons (ps_set (i := 1) scEnded.nd rfl (Or.inl rfl) (pe_call GStopping (hr.mono (by first | omega | decide)) (by rfl) cStopping.m cStopping.F.kp cStopping.b .nil pass0 (pa_cons (pv 0) (pa_cons (pe_call GNext (hr.mono (by first | omega | decide)) (by rfl) cNext.m cNext.F.kp cNext.b .nil pass0 (pa_cons (pv 0) (pa_cons pe_int pa_nil))) pa_nil))))
      (pss_cons (ps_asg (pe_call GRun (hr.mono (by first | omega | decide)) (by rfl) cRun.m cRun.F.kp cRun.b .nil pass0 (pa_cons (pv 1) (pa_cons pe_int pa_nil))) (pg_tup rfl (pgs_cons (pg_name (i := 2) scEnded.nd rfl (Or.inl rfl)) (pgs_cons (pg_name (i := 3) scEnded.nd rfl (Or.inl rfl)) (pgs_cons (pg_name (i := 4) scEnded.nd rfl (Or.inl rfl)) (pgs_cons (pg_name (i := 5) scEnded.nd rfl (Or.inl rfl)) pgs_nil))))))
      (pss_cons (ps_if (pt_cmpR (op_neD hr.units) (pv 3) (pe_tup (pa_cons pe_str pa_nil)) (nomark _))
          (pss_cons (ps_set (i := 1) scEnded.nd rfl (Or.inl rfl) (pe_tup (pa_cons (pe_tup (pa_cons pe_int pa_nil)) (pa_cons (pe_tup (pa_cons (pe_tup (pa_cons pe_str (pa_cons pe_int (pa_cons pe_int pa_nil)))) (pa_cons (pe_tup (pa_cons pe_str pa_nil)) pa_nil))) pa_nil))))
          (pss_one (ps_asg (pe_call GRun (hr.mono (by first | omega | decide)) (by rfl) cRun.m cRun.F.kp cRun.b .nil pass0 (pa_cons (pv 1) (pa_cons pe_int pa_nil))) (pg_tup rfl (pgs_cons (pg_name (i := 2) scEnded.nd rfl (Or.inl rfl)) (pgs_cons (pg_name (i := 3) scEnded.nd rfl (Or.inl rfl)) (pgs_cons (pg_name (i := 4) scEnded.nd rfl (Or.inl rfl)) (pgs_cons (pg_name (i := 5) scEnded.nd rfl (Or.inl rfl)) pgs_nil))))))))
          pss_nil)
      (pss_one (ps_ret (pe_tup (pa_cons (pv 1) (pa_cons (pv 5) (pa_cons (pv 4) pa_nil))))))))), ?_⟩
    refine ⟨_, rfl, _, rfl, d, sa, ns, _, rfl, hE, by decide, by decide, fun n1 H1 a0 a1 C1 => ?_⟩
    refine ⟨d, sa, ns, n1.toNat, ?_, by omega, C1.ent, fun pa p H2 C2 hp hg hT => ?_⟩
    · show [V.ref d, V.int n1] = _
      rw [Int.toNat_of_nonneg a0]
    refine ⟨_, rfl, pa, p, 5000, rfl, hp, hg, by decide, fun a ls le ld lg ys L H3 r3 => ?_⟩
    have C3 := (C1.trans C2).same r3.same
    refine ⟨a, _, rfl, SqT.of r3.top, rfl, _, _, rfl, _, _, rfl, _, _, rfl, _, _, rfl, rfl, ?_⟩
    refine ⟨_, rfl, (by show 1 ≤ sizeLine; decide), fun t ht => ?_⟩
    refine alloc ht fun H4 s4 e4 => ?_
    refine eq_end (s4 _ _ r3.fin) e4 ⟨_, rfl, ?_⟩
    by_cases hh : (runS p 5000).here = none
    · rw [decide_eq_true hh]
      refine iteF ?_
      obtain ⟨G, hG, h1, h2, h3⟩ := r3.goes_at hg (by decide) hh
      refine ⟨_, rfl, _, rfl, _, rfl, (by show 3 ≤ sizeLine; decide), fun b hb => ?_⟩
      refine alloc hb fun H5 s5 e5 => ?_
      have S := s4.trans s5
      exact k b pa lg ld p G ys H5 (C3.same S) e5 (hp.kp (Kp.same (r3.same.trans S))) hg hT (S _ _ r3.goes) (h1.kp (Kp.same S)) h2 _ (S _ _ r3.cnt) (runS_ok hg 5000).dl h3 ⟨hh, L, r3.stb.perm, hG⟩
    · rw [decide_eq_false hh]
      refine iteT ?_
      refine ⟨(by show 1 ≤ sizeLine; decide), fun t1 ht1 => ?_⟩
      refine alloc ht1 fun H5 s5 e5 => ?_
      refine ⟨(by show 3 ≤ sizeLine; decide), fun t2 ht2 => ?_⟩
      refine alloc ht2 fun H6 s6 e6 => ?_
      refine ⟨(by show 1 ≤ sizeLine; decide), fun t3 ht3 => ?_⟩
      refine alloc ht3 fun H7 s7 e7 => ?_
      refine ⟨(by show 2 ≤ sizeLine; decide), fun t4 ht4 => ?_⟩
      refine alloc ht4 fun H8 s8 e8 => ?_
      refine ⟨(by show 2 ≤ sizeLine; decide), fun t5 ht5 => ?_⟩
      refine alloc ht5 fun H9 s9 e9 => ?_
      have hp2 : ProgAt H9 t5 twoP := ⟨t1, t4, [t2, t3], e9, (s6.trans (s7.trans (s8.trans s9))) _ _ e5, s9 _ _ e8, .cons ((s7.trans (s8.trans s9)) _ _ e6) (.cons ((s8.trans s9) _ _ e7) .nil)⟩
      refine ⟨_, rfl, t5, twoP, 9, rfl, hp2, twoP_good, by decide, fun a2 ls2 le2 ld2 lg2 ys2 L2 H10 r10 => ?_⟩
      have C10 := (C3.same ((((((s4.trans s5).trans s6).trans s7).trans s8).trans s9))).same r10.same
      obtain ⟨G, hG, h1, h2, h3⟩ := r10.goes_at twoP_good (by decide) twoP_end
      refine ⟨a2, _, rfl, SqT.of r10.top, rfl, _, _, rfl, _, _, rfl, _, _, rfl, _, _, rfl, rfl, ?_⟩
      refine ⟨_, rfl, _, rfl, _, rfl, (by show 3 ≤ sizeLine; decide), fun b hb => ?_⟩
      refine alloc hb fun H11 s11 e11 => ?_
      have e59 : runS twoP 5000 = runS twoP 9 := runS_none twoP_end 4991
      exact k b t5 lg2 ld2 twoP G ys2 H11 (C10.same s11) e11 (hp2.kp (Kp.same (r10.same.trans s11))) twoP_good twoP_few (s11 _ _ r10.goes) (h1.kp (Kp.same s11)) h2 _ (s11 _ _ r10.cnt) (runS_ok twoP_good 9).dl h3 ⟨by rw [e59]; exact twoP_end, L2, by rw [e59]; exact r10.stb.perm, by rw [e59]; exact hG⟩
end
end DL
namespace DLR
open PySem PySem.Spec PyProof.Rows L2 DL
/-! ### len(set(xs)), xs a list of fewer than 64 pairs, each once -/
def kp (b : Addr) (g : Nat × Nat) : Addr × List Int := (b, [(g.1 : Int), (g.2 : Int)])
theorem zip_keys {H : Hp} : ∀ {bs : List Addr} {L : List (Nat × Nat)}, PairsL H bs L → ∃ ks : List (Addr × List Int), ks.map (·.1) = bs ∧ ks.map (·.2) = L.map (fun g => [(g.1 : Int), (g.2 : Int)]) ∧ ∀ p ∈ ks, H p.1 = some (.tup (p.2.map V.int))
  | _, _, .nil => ⟨[], rfl, rfl, fun _ h => absurd h (by simp)⟩
  | _, _, .cons (a := b) (l₁ := bs) (b := g) (l₂ := L) h t => by
    obtain ⟨ks, h1, h2, h3⟩ := zip_keys t
    refine ⟨kp b g :: ks, by rw [List.map_cons, h1]; rfl, by rw [List.map_cons, h2]; rfl, fun p hp => ?_⟩
    rcases List.mem_cons.mp hp with e | e
    · subst e; exact h
    · exact h3 p e
def tLenSetP (ta : TE) : TE := fun σ H Q => ta σ H fun x H1 => ∃ (l : Addr) (bs : List Addr) (L : List (Nat × Nat)), x = V.ref l ∧ H1 l = some (.lst (bs.map V.ref)) ∧ PairsL H1 bs L ∧ L.length < 64 ∧ L.Nodup ∧ Q (.int L.length) H1
section
variable {X : Cx}
theorem pe_lenSetP {a : Expr} {ta : TE} {p p2 q pos : Pos} (hc : X.calm = true) (hu : X.A.units + 64 < cLine) (hg : Gl X "len") (hm : X.mg "len" = none) (hg2 : Gl X "set") (hm2 : X.mg "set" = none) (ha : PE X a ta)
    (na : starEach [a] X.env = (false, eval a X.env) :: starEach [] X.env := by rfl) : PE X (.Call (.Name "len" p) [.Call (.Name "set" p2) [a] [] q] [] pos) (tLenSetP ta) := by
  refine ⟨fun pins s σ H Q I h => Call_ (ld_blt I hg hm PySem.boot_len (callWith_builtin1 (args_cons (Call_ (ld_blt I hg2 hm2 boot_set (callWith_type1 (args_cons (thn (ha.run pins s σ H _ I h) fun v s1 ⟨x, H1, I1, r1, q1⟩ => args_nil ?_) na) na rfl))) rfl) rfl rfl))⟩
  obtain ⟨l, bs, L, rfl, hq, hL, h64, hnd, q1⟩ := q1
  cases r1
  obtain ⟨ks, k1, k2, k3⟩ := zip_keys hL
  obtain ⟨its, r, pl, hz⟩ := I1.list (SqL.of (K := X.K) hq)
  have lk : ks.length = L.length := by
    have e := congrArg List.length k2
    rw [List.length_map, List.length_map] at e
    exact e
  have e1 : bs.map V.ref = ks.map fun p => V.ref p.1 := by rw [← k1, List.map_map]; rfl
  rw [e1] at r
  refine call_set_tups (P := X.prog) (w := X.w) ks (I1.ok.hd hc) pl.isList (by simpa using refs_of_vals r) (fun p hp => I1.isT (SqT.of (k3 p hp))) (by omega) (by omega) fun h' tk M es ep t R g hk => args_nil ?_
  have nk : (ks.map (·.2)).Nodup := by
    rw [k2]
    refine List.pairwise_map.mpr (hnd.imp fun {a b} ne z => ne ?_)
    have z1 := (List.cons.inj z).1
    have z2 := (List.cons.inj (List.cons.inj z).2).1
    exact Prod.ext (by omega) (by omega)
  have sz : es.size = L.length := by
    have q0 := SetTR.size (s := { s1 with heap := h', toks := tk }) R
    rw [q0, ← lk]
    refine Nat.le_antisymm ?_ ?_
    · have q := nodup_sub R.nd (m := ks.map (·.2)) fun x hx => by
        obtain ⟨y, hy, rfl⟩ := List.mem_map.mp hx
        exact List.mem_map.mpr ⟨y, List.mem_of_mem_take (g.sub y hy), rfl⟩
      rw [List.length_map, List.length_map] at q
      exact q
    · have q := nodup_sub nk (m := M.map (·.2)) fun x hx => by
        obtain ⟨y, hy, rfl⟩ := List.mem_map.mp hx
        exact g.all y (by rw [List.take_length]; exact hy)
      rw [List.length_map, List.length_map] at q
      exact q
  obtain ⟨o, ho, hex, hd⟩ := R.ob
  have I2 : Inv X pins σ H1 { s1 with heap := h', toks := tk } := I1.kept hk
  exact call_len_set ho hex hd (SetTR.fits (s := { s1 with heap := h', toks := tk }) R) (by rw [sz]; omega) ⟨.int es.size, H1, I2.tok _, ⟨_, rfl⟩, by rw [sz]; exact q1⟩
end
end DLR
namespace DLR
open PySem PySem.Spec PyProof.Rows L2 DL
/-! ### zip(a tuple, a list) -/
def ItzM (K : PySem.W.Frag) (a b : Addr) : It :=
  ⟨fun i H => ∃ (xs ys : List V) (x y : V), SqT K H a xs ∧ SqL K H b ys ∧ xs[i]? = some x ∧ ys[i]? = some y,
   fun i H v H' => ∃ T x y, v = .ref T ∧ H T = none ∧ H' = upd H T (.tup [x, y]) ∧ (∀ zs, SqT K H a zs → zs[i]? = some x) ∧ ∀ zs, SqL K H b zs → zs[i]? = some y,
   fun i H => ∃ xs ys : List V, SqT K H a xs ∧ SqL K H b ys ∧ xs.length = i ∧ ys.length = i⟩
structure ZmAt (z TI TO i1 i2 a b : Addr) (i : Nat) (h : Heap) : Prop where
  z : IsZip h z TI TO .none
  ti : IsTupOf2 h TI (.ref i1) (.ref i2)
  to : ∃ x y, IsTupOf2 h TO x y
  u1 : h.IsTupleIter i1 a i
  u2 : h.IsListIter i2 b i
theorem five {c z TI TO i1 i2 : Addr} (h : c ∈ [z, TI, TO, i1, i2]) : c = z ∨ c = TI ∨ c = TO ∨ c = i1 ∨ c = i2 := by simpa using h
theorem turn_zipM {P : Program} {w : World} {K : PySem.W.Frag} {elts : List Expr} {kk : Nat} {tpos : Pos} {a b z TI TO i1 i2 : Addr} (S : ZipSep2 z TI TO i1 i2 [i1, a] [i2, b]) (n1 : a ≠ i1) (n2 : b ≠ i2) :
    Turn P w K (.Tuple elts kk tpos) (ItzM K a b) [z, TI, TO, i1, i2] z (ZmAt z TI TO i1 i2 a b) where
  mem := by simp
  obj := fun i h st c hc => by
    obtain ⟨hz, hTI, ⟨x, y, hTO⟩, ⟨o1, e1, _, d1⟩, ⟨o2, e2, _, d2⟩⟩ := st
    rcases five hc with rfl | rfl | rfl | rfl | rfl
    · exact ⟨_, hz, fun v q => nomatch q⟩
    · exact ⟨_, hTI, fun v q => nomatch q⟩
    · exact ⟨_, hTO, fun v q => nomatch q⟩
    · exact ⟨o1, e1, fun v q => by rw [d1] at q; cases q⟩
    · exact ⟨o2, e2, fun v q => by rw [d2] at q; cases q⟩
  keep := fun i h h' st k => by
    obtain ⟨hz, hTI, ⟨x, y, hTO⟩, h1, h2⟩ := st
    exact ⟨k z (by simp) _ hz, k TI (by simp) _ hTI, ⟨x, y, k TO (by simp) _ hTO⟩, h1.at fun o q => k i1 (by simp) o q, h2.at fun o q => k i2 (by simp) o q⟩
  item := by
    intro X hP hw hK hc i pins s σ H E I hf st hg
    subst hP hw hK
    obtain ⟨hz, hTI, ⟨x0, y0, hTO⟩, h1, h2⟩ := st
    obtain ⟨xs, ys, x, y, qx, qy, hx, hy⟩ := hg
    obtain ⟨its, rv, p, _⟩ := I.tuple qx
    obtain ⟨jts, rw', p', _⟩ := I.list qy
    obtain ⟨u, hu, ru⟩ := rv.get hx
    obtain ⟨v, hv, rv'⟩ := rw'.get hy
    have zl : z < s.heap.objs.size := Heap.lt_size hz
    have lu : i < its.toArray.size := by simpa using (List.getElem?_eq_some_iff.mp hu).1
    have lv : i < jts.toArray.size := by simpa using (List.getElem?_eq_some_iff.mp hv).1
    refine wpAny_pyNext_zipD2_item S (Draws.tuple (A := X.A.in1) (I.ok.hd hc) i1 a n1 its.toArray) (Draws.list (A := X.A.in1) (I.ok.hd hc) i2 b n2 jts.toArray) hz hTI hTO ⟨h1, p⟩ ⟨h2, p'.isList⟩ lu lv fun y1 y2 h' tk g1 g2 hz' hTO' h1' h2' hT hsz hk => ?_
    have e1 : y1 = u := by
      have q : its[i]? = some y1 := by simpa using g1
      rw [hu] at q
      exact (Option.some.inj q).symm
    have e2 : y2 = v := by
      have q : jts[i]? = some y2 := by simpa using g2
      rw [hv] at q
      exact (Option.some.inj q).symm
    subst e1 e2
    refine ⟨_, rfl, wpAny_letOwnedTupleGo_zip (s := { s with heap := h', toks := tk }) hz' fun h'' hz'' sb => ?_⟩
    have hT2 := (sb.2 _ (Nat.ne_of_gt zl)).trans hT
    have new : ObjOk X.prog X.w (upd H s.heap.objs.size (.tup [x, y])) h'' s.heap.objs.size (.tup [x, y]) :=
      ⟨by show 2 ≤ sizeLine; decide, [y1, y2], .cons ru (.cons rv' .nil), ⟨_, hT2, rfl, _, rfl⟩⟩
    have I1 : Inv X pins σ (upd H s.heap.objs.size (.tup [x, y])) { s with heap := h'', toks := tk } :=
      I.turnedNew (ch := [z, TI, TO, i1, i2]) (fun c o hb q => (sb.2 c (fun e => hb (by simp [e]))).trans (hk c o (fun e => hb (by simp [e])) (fun e => hb (by simp [e])) (fun e => hb (by simp [e])) (fun e => hb (by simp [e])) q)) hf (Nat.le_refl _) new
    refine ⟨.ref s.heap.objs.size, _, I1, rfl, ⟨_, x, y, rfl, I.hok.fresh (Nat.le_refl _), rfl, fun zs hl => by rw [I.tuple_inj hl qx]; exact hx, fun zs hl => by rw [I.list_inj hl qy]; exact hy⟩, ⟨hz'', ?_, ⟨y1, y2, ?_⟩, ?_, ?_⟩, fun c hcm => ?_⟩
    · exact (sb.2 _ S.TIz).trans (hk _ _ S.TIz S.TITO S.TIi1 S.TIi2 hTI)
    · exact (sb.2 _ S.TOz).trans hTO'
    · exact h1'.1.at fun o q => (sb.2 _ S.zi1.symm).trans q
    · exact h2'.1.at fun o q => (sb.2 _ S.zi2.symm).trans q
    · have lt : c < s.heap.objs.size := by
        rcases five hcm with rfl | rfl | rfl | rfl | rfl
        · exact zl
        · exact Heap.lt_size hTI
        · exact Heap.lt_size hTO
        · obtain ⟨_, q, _⟩ := h1; exact Heap.lt_size q
        · obtain ⟨_, q, _⟩ := h2; exact Heap.lt_size q
      rw [upd_ne (Nat.ne_of_lt lt)]
      exact (hf c hcm).1
  done := by
    intro X hP hw hK hc i pins s σ H E I hf st hg
    subst hP hw hK
    obtain ⟨hz, hTI, ⟨x0, y0, hTO⟩, h1, h2⟩ := st
    obtain ⟨xs, ys, qx, qy, hend⟩ := hg
    obtain ⟨its, rv, p, _⟩ := I.tuple qx
    obtain ⟨jts, rw', p', _⟩ := I.list qy
    have l1 : i = its.toArray.size := by rw [List.size_toArray, ← rv.length]; exact hend.1.symm
    have l2 : i = jts.toArray.size := by rw [List.size_toArray, ← rw'.length]; exact hend.2.symm
    refine wpAny_pyNext_zipD2_end S (Draws.tuple (A := X.A.in1) (I.ok.hd hc) i1 a n1 its.toArray) (Draws.list (A := X.A.in1) (I.ok.hd hc) i2 b n2 jts.toArray) hz hTI hTO ⟨h1, p⟩ ⟨h2, p'.isList⟩ (Nat.le_of_eq l1) (Nat.le_of_eq l2) (.inl l1) fun h' tk hk => ⟨rfl, I.turnedL (t' := tk) (ch := [z, TI, TO, i1, i2]) (fun c o hb q => hk c o (fun e => hb (by simp [e])) (fun e => hb (by simp [e])) (fun e => hb (by simp [e])) (fun e => hb (by simp [e])) q) hf⟩
  self := fun A i s Q E st h => wpAny_pyIter_zip st.z h
def iZipM (K : PySem.W.Frag) (ta : TA) : TI := fun σ H R => ta σ H fun vs H1 => ∃ a b xs ys, vs = [.ref a, .ref b] ∧ SqT K H1 a xs ∧ SqL K H1 b ys ∧ R (ItzM K a b) H1
theorem pi_zipM {X : Cx} {e e2 : Expr} {ta : TA} {p pos tpos : Pos} {elts : List Expr} {kk : Nat} (hg : Gl X "zip") (hm : X.mg "zip" = none) (ha : PA X [e, e2] ta)
    (hs : starEach [e, e2] X.env = (false, eval e X.env) :: starEach [e2] X.env := by rfl) (hpl : (backTo pos (starEach [e2] X.env)).any (·.1) = false := by rfl) : PI X (.Tuple elts kk tpos) (.Call (.Name "zip" p) [e, e2] [] pos) (iZipM X.K ta) := by
  refine ⟨fun pins s σ H R I h => Call_ (ld_blt I hg hm boot_zip (callWith_type1 (thn (ha.run pos pins s σ H _ I h) fun us s1 ⟨vs, H1, I1, r1, q1⟩ => ?_) hs hpl))⟩
  obtain ⟨a, b, xs, ys, rfl, qx, qy, q⟩ := q1
  cases r1 with
  | cons ra rr =>
   cases rr with
   | cons rb rr =>
    cases rr
    cases ra
    cases rb
    obtain ⟨its, rv, p1, _⟩ := I1.tuple qx
    obtain ⟨jts, rw', p2, _⟩ := I1.list qy
    have la : a < s1.heap.objs.size := by obtain ⟨o, ho, _⟩ := p1; exact Heap.lt_size ho
    have lb : b < s1.heap.objs.size := p2.lt
    refine zip_begins2 (begins_tuple a its.toArray) (begins_list b jts.toArray) p1 p2.isList fun h' hz hTI hTO g1 g2 hsz hk => wpAny_pyIter_zip hz ?_
    have I2 : Inv X pins σ H1 { s1 with heap := h' } := I1.kept (t' := s1.toks) hk
    have S := zip_sep2 (N := s1.heap.objs.size) (fp1 := [a]) (fp2 := [b]) (fun c hc => by rw [List.mem_singleton.mp hc]; exact la) (fun c hc => by rw [List.mem_singleton.mp hc]; exact lb)
    refine ⟨s1.heap.objs.size + 4, [s1.heap.objs.size + 4, s1.heap.objs.size + 2, s1.heap.objs.size + 3, s1.heap.objs.size, s1.heap.objs.size + 1], _, _, H1, rfl, I2, turn_zipM S (Nat.ne_of_lt la) (Nat.ne_of_lt (Nat.lt_succ_of_lt lb)), ⟨hz, hTI, ⟨_, _, hTO⟩, ⟨_, g1, rfl, rfl⟩, ⟨_, g2, rfl, rfl⟩⟩, fun c hcm => ?_, q⟩
    have hle : s1.heap.objs.size ≤ c := by
      rcases five hcm with rfl | rfl | rfl | rfl | rfl
      · exact Nat.le_add_right _ _
      · exact Nat.le_add_right _ _
      · exact Nat.le_add_right _ _
      · exact Nat.le_refl _
      · exact Nat.le_add_right _ _
    exact I1.fpOk hle (I1.hok.fresh hle)
theorem lc_zipM {K : PySem.W.Frag} {a b : Addr} {xs ys : List V} {g : TG} {tt : TT} {te : TE} {vs : List Nat} {σ : L2.St} {H1 : Hp} {D : Addr} {Qd : Hp → Prop} (hxy : ys.length = xs.length) (Pv : Nat → Hp → Prop) (h0 : Pv 0 (upd H1 D (.lst [])))
    (hl : ∀ i H, i ≤ xs.length → Pv i H → SqT K H a xs ∧ SqL K H b ys)
    (hs : ∀ i x y T H H', xs[i]? = some x → ys[i]? = some y → Pv i H → H T = none → H' = upd H T (.tup [x, y]) → g (.ref T) (wipe σ vs) H' fun σ2 H2 => wipe σ2 vs = wipe σ vs ∧ tt σ2 H2 fun b H3 =>
      if b = true then te σ2 H3 fun y H4 => ∃ acc, H4 D = some (.lst acc) ∧ acc.length < sizeLine ∧ Pv (i + 1) (upd H4 D (.lst (acc ++ [y]))) else Pv (i + 1) H3) (hd : ∀ H, Pv xs.length H → Qd H) :
    ∃ W : Nat → Nat → Hp → Prop, (∃ m, W 0 m (upd H1 D (.lst []))) ∧ ∀ i m H, W i m H →
      ((ItzM K a b).stop i H ∧ Qd H) ∨ ((ItzM K a b).go i H ∧ ∃ Nx : Hp → Prop, (∀ H', Nx H' → ∃ m', m' < m ∧ W (i + 1) m' H') ∧ ∀ x H', (ItzM K a b).yld i H x H' → g x (wipe σ vs) H' fun σ2 H2 => wipe σ2 vs = wipe σ vs ∧ tt σ2 H2 fun b H3 =>
        if b = true then te σ2 H3 fun y H4 => ∃ acc, H4 D = some (.lst acc) ∧ acc.length < sizeLine ∧ Nx (upd H4 D (.lst (acc ++ [y]))) else Nx H3) := by
  refine ⟨fun i m H => m = xs.length - i ∧ i ≤ xs.length ∧ Pv i H, ⟨xs.length, by simp, Nat.zero_le _, h0⟩, ?_⟩
  rintro i m H ⟨rfl, hi, p⟩
  obtain ⟨q, q'⟩ := hl i H hi p
  by_cases hlt : i < xs.length
  · have hlt2 : i < ys.length := by omega
    have gx := List.getElem?_eq_getElem hlt
    have gy := List.getElem?_eq_getElem hlt2
    refine .inr ⟨⟨xs, ys, xs[i], ys[i], q, q', gx, gy⟩, Pv (i + 1), fun H' p' => ⟨xs.length - (i + 1), by omega, rfl, hlt, p'⟩, fun x H' y => ?_⟩
    obtain ⟨T, u, v, rfl, hT, rfl, hu, hv⟩ := y
    exact hs i u v T H _ (hu xs q) (hv ys q') p hT rfl
  · have e : i = xs.length := by omega
    subst e
    exact .inl ⟨⟨xs, ys, q, q', rfl, hxy⟩, hd H p⟩
end DLR
namespace DL
open PySem L2 DLR
/-! ### goes_agree -/
def flowF (G : GoL) (x : Nat) : Int := sumG (fun q => decide (q.2 = x)) G - sumG (fun q => decide (q.1 = x)) G + (if x = 0 then 1 else 0)
def agreeF (p : Prog) (G : GoL) : Bool := (List.range p.rows.length).all fun x => (p.rows.getD x .stop).isWd "stop" || decide (flowF G x = 0)
theorem sumG_app (f : Nat × Nat → Bool) (G : GoL) (e : (Nat × Nat) × Int) : sumG f (G ++ [e]) = sumG f G + if f e.1 = true then e.2 else 0 := by
  unfold sumG
  rw [List.map_append, List.sum_append]
  show _ + ((if f e.1 = true then e.2 else 0) + 0) = _
  rw [Int.add_zero]
theorem flowF_app (G : GoL) (e : (Nat × Nat) × Int) (x : Nat) : flowF (G ++ [e]) x = flowF G x + (if e.1.2 = x then e.2 else 0) - (if e.1.1 = x then e.2 else 0) := by
  unfold flowF
  rw [sumG_app, sumG_app]
  have a : (if (decide (e.1.2 = x)) = true then e.2 else 0) = if e.1.2 = x then e.2 else 0 := by by_cases h : e.1.2 = x <;> simp [h]
  have b : (if (decide (e.1.1 = x)) = true then e.2 else 0) = if e.1.1 = x then e.2 else 0 := by by_cases h : e.1.1 = x <;> simp [h]
  rw [a, b]
  omega
theorem Goes.agree {p : Prog} {G : GoL} (h : Goes p G) : agreeF p G = true := by
  refine List.all_eq_true.mpr fun x _ => ?_
  by_cases e : p.rows.getD x .stop = .stop
  · rw [e]; rfl
  · rw [Bool.or_eq_true]
    exact .inr (decide_eq_true (h.flow x e))
theorem set_mapR {n u : Nat} {f f' : Nat → Int} {y : Int} (hy : f' u = y) (hf : ∀ x, x ≠ u → f' x = f x) : (((List.range n).map f).map V.int).set u (.int y) = ((List.range n).map f').map V.int := by
  rw [List.map_map, List.map_map]
  refine List.ext_getElem (by simp) fun i h1 h2 => ?_
  rw [List.getElem_set]
  by_cases e : u = i
  · subst e
    rw [if_pos rfl]
    simp [hy]
  · rw [if_neg e]
    simp [hf i fun z => e z.symm]
theorem mapR_get {n u : Nat} (f : Nat → Int) (h : u < n) : (((List.range n).map f).map V.int)[u]? = some (.int (f u)) := by
  rw [List.map_map, List.getElem?_map, List.getElem?_range h]
  rfl
theorem all_succ (f : Nat → Bool) (i : Nat) : (List.range (i + 1)).all f = ((List.range i).all f && f i) := by
  rw [List.range_succ, List.all_append]
  show (_ && (f i && true)) = _
  rw [Bool.and_true]
abbrev sGoesAgree : Stmt := top 41
abbrev FGoesAgree (K : Frg) (mg : Str → Option Value) := Fd K mg "goes_agree" sGoesAgree ["program", "goes"]
def spGoesAgree : Sp := fun vs H Q _ => ∃ (a l : Addr) (bs : List Addr) (p : Prog) (G : GoL), vs = [.ref a, .ref l] ∧ ProgAt H a p ∧ Good p ∧ H l = some (.lst (bs.map V.ref)) ∧ GoesAt H bs G ∧ (∀ e ∈ G, e.1.1 < p.rows.length ∧ e.1.2 < p.rows.length) ∧ ∀ H', Same1 H H' → Q (.bl (agreeF p G)) H'
section
variable {P : Program} {w : World} {K : PySem.W.Frag} {mg : Str → Option Value} {base : Heap}
abbrev nGoesAgree : List Str := ["program", "goes", "rows", "left", "begin", "to", "many", "row", "over"]
theorem scGoesAgree : FnScope nGoesAgree ["program", "goes"] (defScope sGoesAgree) := ⟨rfl, rfl, rfl, by decide +kernel, rfl, by decide +kernel, by decide +kernel⟩
theorem ok_goesAgree (c : FGoesAgree K mg) (T : Bt mg) : FnOk P w K mg base CX0 1 c.f c.fd ["program", "goes"] spGoesAgree := by
  refine c.F.ok scGoesAgree (fun vs H Q E h => ?_) (fun cdv A outer s H vs Q E hr h => ?_)
  · obtain ⟨a, l, bs, p, G, rfl, _⟩ := h
    rfl
  · obtain ⟨a, l, bs, p, G, rfl, hPA, g, hl, hG, hlt, k⟩ := h
    have hbl := Paired.length hG
    have hr40 := g.r40
    have hr1 := g.r1
    obtain ⟨wa, ra, rs, hpa, hwa, hra, hR⟩ := hPA
    have hrl := Paired.length hR
    refine ⟨_, (pss_cons (ps_set (i := 2) scGoesAgree.nd rfl (Or.inl rfl) (pe_ix ix_tup (pv 0) pe_int (fun _ _ => rfl)))
      (pss_cons (ps_set (i := 3) scGoesAgree.nd rfl (Or.inl rfl) (pe_op op_rep (pe_lst (pa_cons pe_int pa_nil)) (pe_callB call_len_seq (by rfl) T.len PySem.boot_len (pa_cons (pv 2) pa_nil))))
      (pss_cons (ps_asg pe_int (pg_sub (pv 3) pe_int set_list))
      (pss_cons (ps_for PassesOwn.never rfl (pi_list (pv 1)) (pg_tup rfl (pgs_cons (pg_name (i := 4) scGoesAgree.nd rfl (Or.inl rfl)) (pgs_cons (pg_name (i := 5) scGoesAgree.nd rfl (Or.inl rfl)) (pgs_cons (pg_name (i := 6) scGoesAgree.nd rfl (Or.inl rfl)) pgs_nil))))
          (pss_cons (ps_augS (pv 3) (pv 4) get_list (pv 6) ip_sub set_list)
          (pss_one (ps_augS (pv 3) (pv 5) get_list (pv 6) ip_add set_list))))
      (pss_one (ps_ret (pe_callB (cr_all rfl) (by rfl) T.all (by decide +kernel) (pa_cons (pe_lc (own := [("row", 7), ("over", 8)]) (g := gTup K 2 (gCons (gName 7) (gCons (gName 8) gNil))) rfl scGoesAgree.nd (DLR.pi_zipM (by rfl) T.zip (pa_cons (pv 2) (pa_cons (pv 3) pa_nil))) (blkOk_by (N := nGoesAgree) (sc := defScope sGoesAgree) (by decide +kernel)) (fun _ _ _ _ _ => (pg_tupK K rfl rfl (pgs_cons (pg_name (i := 7) scGoesAgree.nd rfl (Or.inl rfl)) (pgs_cons (pg_name (i := 8) scGoesAgree.nd rfl (Or.inl rfl)) pgs_nil)))) (fun _ _ _ _ _ => (pts_one (pt_cmpR op_ne (pe_ix (ix_tupK K rfl) (pv 7) pe_int (fun _ _ => rfl)) pe_str (nomark _)))) (fun _ _ _ _ _ => (pe_cmpR op_eq (pv 8) pe_int (nomark _)))) pa_nil)))))))), ?_⟩
    refine ⟨_, rfl, a, _, _, _, rfl, rfl, SqT.of hpa, at1, ?_⟩
    refine ⟨(by show 1 ≤ sizeLine; decide), fun l0 hl0 => ?_⟩
    refine alloc hl0 fun H1 s1 e1 => ?_
    refine ⟨_, rfl, ra, _, rfl, .inr (SqT.of (s1 _ _ hra)), l0, _, _, rfl, rfl, e1, ?_, ?_, ?_, fun ld hld => ?_⟩
    · rw [List.length_map]; omega
    · rw [List.length_map]; omega
    · refine sz ?_
      show 1 * _ ≤ _
      rw [List.length_map]; omega
    refine alloc hld fun H2 s2 e2 => ?_
    have S2 := s1.trans s2
    have hldH : H ld = none := s1.free hld
    rw [List.flatten_replicate_singleton, List.length_map, hrl, Int.toNat_natCast] at e2
    have e2 : H2 ld = some (.lst (((List.range p.rows.length).map fun _ => (0 : Int)).map V.int)) := by
      rw [e2, List.map_map]
      congr 2
      refine List.ext_getElem (by simp) fun i h1 h2 => by simp
    refine ⟨_, rfl, ld, _, _, 0, rfl, rfl, e2, ixN_nat (by simp; omega), ?_⟩
    rw [set_mapR (f' := flowF []) (by rfl) (fun x hx => by show (0 : Int) - 0 + (if x = 0 then 1 else 0) = 0; rw [if_neg hx]; rfl)]
    have M3 : Same1 H (upd H2 ld (.lst (((List.range p.rows.length).map (flowF [])).map V.int))) := Same.mut S2 hldH
    have E3 : (upd H2 ld (.lst (((List.range p.rows.length).map (flowF [])).map V.int))) ld = some (.lst (((List.range p.rows.length).map (flowF [])).map V.int)) := upd_same
    revert M3 E3
    refine change fun H3 _ _ => ?_
    intro s3 e3
    refine ⟨_, rfl, l, rfl, ⟨_, SqL.of (s3 _ _ hl)⟩, for_list (K := K) (a := l) (xs := bs.map V.ref) (fun i σ H' => ∃ (x4 x5 x6 : Option V), σ = [some (.ref a), some (.ref l), some (.ref ra), some (.ref ld), x4, x5, x6, none, none] ∧ Same1 H H' ∧ H' ld = some (.lst (((List.range p.rows.length).map (flowF (G.take i))).map V.int)))
      ⟨_, _, _, rfl, s3, e3⟩ (fun i σ H' _ ⟨_, _, _, _, q, _⟩ => SqL.of (q _ _ hl)) ?_ ?_⟩
    · rintro i x σ H4 hi ⟨x4, x5, x6, rfl, s4, e4⟩
      have hic : i < bs.length := by
        have q := (List.getElem?_eq_some_iff.mp hi).1
        rwa [List.length_map] at q
      have ex : x = .ref bs[i] := by
        rw [List.getElem?_map, List.getElem?_eq_getElem hic] at hi
        exact (Option.some.inj hi).symm
      subst ex
      obtain ⟨⟨⟨u, v⟩, m⟩, hq1, hq2⟩ := Paired.get hG (List.getElem?_eq_getElem hic)
      obtain ⟨hu, hv⟩ := hlt _ (List.mem_of_getElem? hq1)
      have hu : u < p.rows.length := hu
      have hv : v < p.rows.length := hv
      refine ⟨bs[i], _, rfl, SqT.of (s4 _ _ hq2), rfl, _, _, rfl, _, _, rfl, _, _, rfl, rfl, ?_⟩
      refine ⟨_, rfl, _, rfl, ld, _, u, _, rfl, rfl, SqL.of e4, mapR_get _ hu, _, rfl, _, _, rfl, rfl, ld, _, _, u, rfl, rfl, e4, ixN_nat (by simpa using hu), ?_⟩
      rw [set_mapR (f' := fun x => if x = u then flowF (G.take i) u - m else flowF (G.take i) x) (if_pos rfl) (fun x hx => if_neg hx)]
      have M5 := Same.mut (o := .lst (((List.range p.rows.length).map fun x => if x = u then flowF (G.take i) u - m else flowF (G.take i) x).map V.int)) s4 hldH
      have E5 : (upd H4 ld (.lst (((List.range p.rows.length).map fun x => if x = u then flowF (G.take i) u - m else flowF (G.take i) x).map V.int))) ld = some (.lst (((List.range p.rows.length).map fun x => if x = u then flowF (G.take i) u - m else flowF (G.take i) x).map V.int)) := upd_same
      revert M5 E5
      refine change fun H5 _ _ => ?_
      intro s5 e5
      refine ⟨_, rfl, _, rfl, ld, _, v, _, rfl, rfl, SqL.of e5, mapR_get _ hv, _, rfl, _, _, rfl, rfl, ld, _, _, v, rfl, rfl, e5, ixN_nat (by simpa using hv), ?_⟩
      rw [set_mapR (f' := flowF (G.take (i + 1))) ?_ ?_]
      · exact ⟨_, _, _, rfl, Same.mut s5 hldH, upd_same⟩
      · rw [List.take_add_one, hq1]
        show flowF (_ ++ [((u, v), m)]) v = _
        rw [flowF_app]
        by_cases e : v = u
        · subst e; simp
        · rw [if_pos rfl, if_neg (show ¬ u = v from fun z => e z.symm), if_neg e]; dsimp only; omega
      · intro x hx
        rw [List.take_add_one, hq1]
        show flowF (_ ++ [((u, v), m)]) x = _
        rw [flowF_app, if_neg (show ¬ v = x from fun z => hx z.symm)]
        by_cases e : x = u
        · subst e; rw [if_pos rfl, if_pos rfl]; omega
        · rw [if_neg (show ¬ u = x from fun z => e z.symm), if_neg e]; omega
    · rintro σ H4 ⟨x4, x5, x6, rfl, s4, e4⟩
      rw [List.length_map, hbl, List.take_length] at e4
      refine ⟨_, rfl, _, rfl, ra, ld, _, _, rfl, SqT.of (s4 _ _ hra), SqL.of e4, fun D hD => ?_⟩
      refine DLR.lc_zipM (K := K) (a := ra) (b := ld) (xs := rs.map V.ref) (ys := ((List.range p.rows.length).map (flowF G)).map V.int) (by simp [hrl])
        (fun i H' => ∃ bl : List Bool, H' D = some (.lst (bl.map V.bl)) ∧ bl.length ≤ i ∧ Same1 H H' ∧ H' ld = some (.lst (((List.range p.rows.length).map (flowF G)).map V.int)) ∧ bl.all id = (List.range i).all fun x => (p.rows.getD x .stop).isWd "stop" || decide (flowF G x = 0))
        ⟨[], upd_same, Nat.le_refl _, s4.trans (Same.new hD), by rw [upd_ne (ne_of_none e4 hD)]; exact e4, rfl⟩ (fun i H' _ ⟨_, _, _, q, q2, _⟩ => ⟨SqT.of (q _ _ hra), SqL.of q2⟩) ?_ ?_
      · rintro i x y t H5 H6 hx hy ⟨bl, hd5, hbi, s5, e5, hall⟩ ht rfl
        have hic : i < rs.length := by
          have q := (List.getElem?_eq_some_iff.mp hx).1
          rwa [List.length_map] at q
        have hip : i < p.rows.length := by omega
        have ex : x = .ref rs[i] := by
          rw [List.getElem?_map, List.getElem?_eq_getElem hic] at hx
          exact (Option.some.inj hx).symm
        have ey : y = .int (flowF G i) := by
          rw [mapR_get _ hip] at hy
          exact (Option.some.inj hy).symm
        subst ex ey
        obtain ⟨r, hq1, hq2⟩ := Paired.get hR (List.getElem?_eq_getElem hic)
        have er : p.rows.getD i .stop = r := by rw [List.getD_eq_getElem?_getD, hq1]; rfl
        have hDH : H D = none := s4.free hD
        have nlD : ld ≠ D := ne_of_none e4 hD
        refine alloc ht fun H6 s6 e6 => ?_
        have S6 := s5.trans s6
        refine ⟨t, _, rfl, SqT.of e6, rfl, _, _, rfl, _, _, rfl, rfl, ?_⟩
        refine ⟨rfl, _, rfl, rs[i], _, _, _, rfl, rfl, SqT.of (S6 _ _ hq2), atI_nat (j := 0) (Row.w0 r), rfl, !r.isWd "stop", rfl, ?_⟩
        cases hs : r.isWd "stop" with
        | true =>
          refine iteF ⟨bl, s6 _ _ hd5, by omega, S6, s6 _ _ e5, ?_⟩
          rw [all_succ, ← hall, er, hs, Bool.true_or, Bool.and_true]
        | false =>
          refine iteT ?_
          have hd6 := s6 _ _ hd5
          refine ⟨_, rfl, rfl, _, hd6, szl (by rw [List.length_map]; omega), bl ++ [decide (flowF G i = 0)], ?_, by rw [List.length_append]; exact Nat.succ_le_succ hbi, Same.mut S6 hDH, by rw [upd_ne nlD]; exact s6 _ _ e5, ?_⟩
          · rw [upd_same, List.map_append]
            have ed : decide (V.int (flowF G i) = V.int 0) = decide (flowF G i = 0) := decide_eq_decide.mpr ⟨fun z => V.int.inj z, fun z => congrArg V.int z⟩
            simp only [List.map_cons, List.map_nil, ed]
          · rw [all_succ, ← hall, er, hs, Bool.false_or, List.all_append]
            show (_ && (_ && true)) = _
            rw [Bool.and_true]
            rfl
      · rintro H5 ⟨bl, hd5, _, s5, _, hall⟩
        refine ⟨D, _, rfl, SqL.of hd5, ?_⟩
        rw [hall, List.length_map, hrl]
        exact k H5 s5
end
end DL
namespace DL
open PySem L2 DLR
theorem in64 {k : Nat} {A : Around} (hr : Room k A) : A.units + 64 < cLine := by
  have := in65 hr
  omega
theorem goes_lt {p : Prog} {G : GoL} (g : Good p) (h : Goes p G) : ∀ e ∈ G, e.1.1 < p.rows.length ∧ e.1.2 < p.rows.length := fun e he => by
  obtain ⟨k1, k2, _⟩ := h.key e he
  exact goesN_lt g (goesN_has k1 k2)
abbrev sCheckGoes : Stmt := top 38
abbrev sBeatsBy : Stmt := top 45
abbrev sBeats : Stmt := top 44
abbrev FCheckGoes (K : Frg) (mg : Str → Option Value) := Fd K mg "check_goes" sCheckGoes ["program", "goes"]
abbrev FBeatsBy (K : Frg) (mg : Str → Option Value) := Fd K mg "beats_by" sBeatsBy ["program", "laying", "goes"]
abbrev FBeats (K : Frg) (mg : Str → Option Value) := Fd K mg "beats" sBeats ["program", "laying", "goes"]
def spCheckGoes : Sp := fun vs H Q _ => ∃ (a l : Addr) (bs : List Addr) (p : Prog) (G : GoL), vs = [.ref a, .ref l] ∧ ProgAt H a p ∧ Good p ∧ H l = some (.lst (bs.map V.ref)) ∧ GoesAt H bs G ∧ Goes p G ∧ G.length < 60 ∧ ∀ H', Same1 H H' → Q .non H'
def spBeats : Sp := fun vs H Q _ => ∃ (a b l : Addr) (bs : List Addr) (p : Prog) (y : Lay) (G : GoL), vs = [.ref a, .ref b, .ref l] ∧ ProgAt H a p ∧ Good p ∧ LayAt H b y ∧ LayOk p y ∧ H l = some (.lst (bs.map V.ref)) ∧ GoesAt H bs G ∧ Goes p G ∧ G.length < 60 ∧
  ∀ H', Same1 H H' → Q (.int (beatsF y p.rows G)) H'
section
variable {P : Program} {w : World} {K : PySem.W.Frag} {mg : Str → Option Value} {base : Heap}
abbrev nCheckGoes : List Str := ["program", "goes", "may_be", "go", "pairs", "found", "begin", "_"]
theorem scCheckGoes : FnScope nCheckGoes ["program", "goes"] (defScope sCheckGoes) := ⟨rfl, rfl, rfl, by decide +kernel, rfl, by decide +kernel, by decide +kernel⟩
theorem ok_checkGoes (c : FCheckGoes K mg) (cGoesThatMayBe : FGoesMay K mg) (cIsGo : FIsGo K mg) (cGoesAgree : FGoesAgree K mg) (cRowsFound : FRowsFound K mg) (T : Bt mg) (TS : Bs mg)
    (GGoesThatMayBe : FnOk P w K mg base CX0 4 cGoesThatMayBe.f cGoesThatMayBe.fd ["program"] spGoesMay) (GIsGo : FnOk P w K mg base CX0 2 cIsGo.f cIsGo.fd ["go", "may_be"] spIsGo) : FnOk P w K mg base CX0 5 c.f c.fd ["program", "goes"] spCheckGoes := by
  have GGoesAgree : FnOk P w K mg base CX0 1 cGoesAgree.f cGoesAgree.fd ["program", "goes"] spGoesAgree := ok_goesAgree cGoesAgree T
  have GRowsFound : FnOk P w K mg base CX0 1 cRowsFound.f cRowsFound.fd ["pairs"] spRowsFound := ok_rowsFound cRowsFound
  refine c.F.ok scCheckGoes (fun vs H Q E h => ?_) (fun cdv A outer s H vs Q E hr h => ?_)
  · obtain ⟨a, l, bs, p, G, rfl, _⟩ := h
    rfl
  · obtain ⟨a, l, bs, p, G, rfl, hP, g, hl, hG, gk, g60, k⟩ := h
    have hbl := Paired.length hG
    have hr40 := g.r40
    have hr1 := g.r1
    refine ⟨_, (pss_cons (ps_set (i := 2) scCheckGoes.nd rfl (Or.inr rfl) (pe_call GGoesThatMayBe (hr.mono (by first | omega | decide)) (by rfl) cGoesThatMayBe.m cGoesThatMayBe.F.kp cGoesThatMayBe.b .nil pass0 (pa_cons (pv 0) pa_nil)))
      (pss_cons (ps_if (pt_not (pt_val (pe_callB (cr_all rfl) (by rfl) T.all (by decide +kernel) (pa_cons (pe_lc (own := [("go", 3)]) (g := gName 3) (tt := tYes) rfl scCheckGoes.nd (pi_list (pv 1)) (blkOk_by (N := nCheckGoes) (sc := defScope sCheckGoes) (by decide +kernel)) (fun _ _ _ _ _ => (pg_name (i := 3) scCheckGoes.nd rfl (Or.inl rfl))) (fun _ _ _ _ _ => pts_nil) (fun _ _ _ _ _ => (pe_call GIsGo (hr.mono (by first | omega | decide)) (by rfl) cIsGo.m cIsGo.F.kp cIsGo.b .nil pass0 (pa_cons (pv 3) (pa_cons (pv 2) pa_nil))))) pa_nil))))
          (pss_one ps_never)
          pss_nil)
      (pss_cons (ps_setLc (i := 4) (own := [("go", 3)]) (g := gName 3) (tt := tYes) rfl scCheckGoes.nd rfl rfl (sw_true rfl rfl rfl (by decide +kernel)) (pi_list (pv 1)) (blkOk_by (N := nCheckGoes) (sc := defScope sCheckGoes) (by decide +kernel)) (fun _ _ _ _ _ => (pg_name (i := 3) scCheckGoes.nd rfl (Or.inl rfl))) (fun _ _ _ _ _ => pts_nil) (fun _ _ _ _ _ => (pe_slice sl_tupS (pv 3) po_none (po_some pe_int))))
      (pss_cons (ps_if (pt_cmpR op_ne (pe_lenSetP rfl (in64 hr) (by rfl) T.len (by rfl) TS.set (pv 4)) (pe_callB call_len_seq (by rfl) T.len PySem.boot_len (pa_cons (pv 4) pa_nil)) (nomark _))
          (pss_one ps_never)
          pss_nil)
      (pss_cons (ps_if (pt_not (pt_val (pe_call GGoesAgree (hr.mono (by first | omega | decide)) (by rfl) cGoesAgree.m cGoesAgree.F.kp cGoesAgree.b .nil pass0 (pa_cons (pv 0) (pa_cons (pv 1) pa_nil)))))
          (pss_one ps_never)
          pss_nil)
      (pss_cons (ps_set (i := 5) scCheckGoes.nd rfl (Or.inr rfl) (pe_call GRowsFound (hr.mono (by first | omega | decide)) (by rfl) cRowsFound.m cRowsFound.F.kp cRowsFound.b .nil pass0 (pa_cons (pv 4) pa_nil)))
      (pss_one (ps_if (pt_not (pt_val (pe_callB (cr_all rfl) (by rfl) T.all (by decide +kernel) (pa_cons (pe_lc (own := [("begin", 6), ("_", 7)]) (g := gTup K 2 (gCons (gName 6) (gCons (gName 7) gNil))) (tt := tYes) rfl scCheckGoes.nd (pi_list (pv 4)) (blkOk_by (N := nCheckGoes) (sc := defScope sCheckGoes) (by decide +kernel)) (fun _ _ _ _ _ => (pg_tupK K rfl rfl (pgs_cons (pg_name (i := 6) scCheckGoes.nd rfl (Or.inl rfl)) (pgs_cons (pg_name (i := 7) scCheckGoes.nd rfl (Or.inl rfl)) pgs_nil)))) (fun _ _ _ _ _ => pts_nil) (fun _ _ _ _ _ => (pe_cmp (pc_din (hu_of hr) (pv 6) (pv 5))))) pa_nil))))
          (pss_one ps_never)
          pss_nil)))))))), ?_⟩
    refine ⟨_, rfl, a, p, rfl, hP, g, fun m ms H1 s1 nm e1 hM => ?_⟩
    -- all are goes
    refine ⟨_, rfl, l, rfl, ⟨_, SqL.of (s1 _ _ hl)⟩, fun D2 hD2 => ?_⟩
    refine lc_list (K := K) (a := l) (xs := bs.map V.ref) (fun i H' => Same1 H1 H' ∧ H' D2 = some (.lst ((List.replicate i true).map V.bl))) ⟨Same.new hD2, upd_same⟩ (fun i H' _ ⟨q, _⟩ => SqL.of (q _ _ (s1 _ _ hl))) ?_ ?_
    · rintro i x H3 hi ⟨s3, hd3⟩
      have hic : i < bs.length := by
        have q := (List.getElem?_eq_some_iff.mp hi).1
        rwa [List.length_map] at q
      have ex : x = .ref bs[i] := by
        rw [List.getElem?_map, List.getElem?_eq_getElem hic] at hi
        exact (Option.some.inj hi).symm
      subst ex
      obtain ⟨e, hq1, hq2⟩ := Paired.get hG (List.getElem?_eq_getElem hic)
      obtain ⟨k1, k2, k3, k4⟩ := gk.key _ (List.mem_of_getElem? hq1)
      refine ⟨rfl, _, rfl, _, rfl, bs[i], m, ms, _, e, rfl, (s1.trans s3) _ _ hq2, s3 _ _ e1, PairsL.kp hM (Kp.same s3), goesN_has k1 k2, k3, fun H4 s4 => ?_⟩
      have hd4 := s4 _ _ hd3
      refine ⟨_, hd4, szl (by rw [List.length_map, List.length_replicate]; omega), Same.mut (s3.trans s4) hD2, ?_⟩
      rw [upd_same, List.replicate_succ', List.map_append]
      rfl
    rintro H1' ⟨s1', hd1⟩
    refine ⟨D2, _, rfl, SqL.of hd1, ?_⟩
    rw [show (List.replicate (bs.map V.ref).length true).all id = true by rw [List.all_eq_true]; intro x hx; rw [List.eq_of_mem_replicate hx]; rfl]
    refine ⟨_, rfl, iteF ?_⟩
    have S1 : Same1 H H1' := s1.trans s1'
    refine ⟨_, rfl, l, rfl, ⟨_, SqL.of (S1 _ _ hl)⟩, fun D hD => ?_⟩
    refine lc_list (K := K) (a := l) (xs := bs.map V.ref) (fun i H' => ∃ ds : List Addr, Same1 H1' H' ∧ H' D = some (.lst (ds.map V.ref)) ∧ PairsL H' ds ((G.map (·.1)).take i))
      ⟨[], Same.new hD, upd_same, .nil⟩ (fun i H' _ ⟨_, q, _⟩ => SqL.of (q _ _ (S1 _ _ hl))) ?_ ?_
    · rintro i x H2 hi ⟨ds, s2, hd2, hp2⟩
      have hic : i < bs.length := by
        have q := (List.getElem?_eq_some_iff.mp hi).1
        rwa [List.length_map] at q
      have ex : x = .ref bs[i] := by
        rw [List.getElem?_map, List.getElem?_eq_getElem hic] at hi
        exact (Option.some.inj hi).symm
      subst ex
      obtain ⟨e, hq1, hq2⟩ := Paired.get hG (List.getElem?_eq_getElem hic)
      have hdl := Paired.length hp2
      rw [List.length_take] at hdl
      refine ⟨rfl, _, rfl, _, rfl, bs[i], _, rfl, (S1.trans s2) _ _ hq2, fun t H3 s3 e3 => ?_⟩
      have e3 : H3 t = some (.tup (pairVs e.1)) := e3
      have hd3 := s3 _ _ hd2
      refine ⟨_, hd3, szl (by rw [List.length_map]; omega), ds ++ [t], Same.mut (s2.trans s3) hD, by rw [upd_same, List.map_append]; rfl, ?_⟩
      rw [List.take_add_one, List.getElem?_map, hq1]
      exact Paired.mapP (Paired.app (Paired.mapP hp2 fun b q h => s3 _ _ h) (Paired.one e3)) fun b q h => Kp.lst hd3 _ _ h
    rintro H2 ⟨ds, s2, hd2, hp2⟩
    rw [List.length_map, hbl, ← List.length_map (as := G) (f := (·.1)), List.take_length] at hp2
    have hdl := Paired.length hp2
    rw [List.length_map] at hdl
    have S2 := S1.trans s2
    have hDH : H D = none := S1.free hD
    refine ⟨_, rfl, D, ds, G.map (·.1), rfl, hd2, hp2, by rw [List.length_map]; omega, gk.nd, ?_⟩
    refine ⟨_, rfl, D, _, rfl, .inl (SqL.of hd2), ?_⟩
    rw [List.length_map, List.length_map, hdl]
    refine ⟨rfl, _, rfl, ?_⟩
    rw [show (!decide (V.int ((G.length : Nat) : Int) = V.int ((G.length : Nat) : Int))) = false by simp]
    refine iteF ?_
    refine ⟨_, rfl, _, rfl, a, l, bs, p, G, rfl, hP.kp (Kp.same S2), g, S2 _ _ hl, hG.kp (Kp.same S2), goes_lt g gk, fun H4 s4 => ?_⟩
    rw [gk.agree]
    refine ⟨_, rfl, iteF ?_⟩
    have S4 := S2.trans s4
    refine ⟨_, rfl, D, ds, G.map (·.1), p.rows.length, rfl, s4 _ _ hd2, PairsL.kp hp2 (Kp.same s4), hr1, by omega, fun q hq => ?_, fun fa F H5 s5 hF h0 hcl => ?_⟩
    · obtain ⟨e, he, rfl⟩ := List.mem_map.mp hq
      exact (goes_lt g gk e he).2
    have S5 := s4.trans s5
    have hd5 := S5 _ _ hd2
    have hp5 : PairsL H5 ds (G.map (·.1)) := PairsL.kp hp2 (Kp.same S5)
    have hin := gk.reach (· ∈ F) h0 fun e he => hcl e.1 (List.mem_map.mpr ⟨e, he, rfl⟩)
    refine ⟨_, rfl, D, rfl, ⟨_, SqL.of hd5⟩, fun D3 hD3 => ?_⟩
    refine lc_list (K := K) (a := D) (xs := ds.map V.ref) (fun i H' => Same1 H5 H' ∧ H' D3 = some (.lst ((List.replicate i true).map V.bl))) ⟨Same.new hD3, upd_same⟩ (fun i H' _ ⟨q, _⟩ => SqL.of (q _ _ hd5)) ?_ ?_
    · rintro i x H6 hi ⟨s6, hd6⟩
      have hic : i < ds.length := by
        have q := (List.getElem?_eq_some_iff.mp hi).1
        rwa [List.length_map] at q
      have ex : x = .ref ds[i] := by
        rw [List.getElem?_map, List.getElem?_eq_getElem hic] at hi
        exact (Option.some.inj hi).symm
      subst ex
      obtain ⟨⟨u, v⟩, hq1, hq2⟩ := Paired.get hp5 (List.getElem?_eq_getElem hic)
      obtain ⟨e, he, hee⟩ := List.mem_map.mp (List.mem_of_getElem? hq1)
      have hu : u ∈ F := by
        have q := hin e he
        rw [hee] at q
        exact q
      obtain ⟨o, hg, ho⟩ := (hF.same s6).get u
      rw [decide_eq_true hu] at ho
      refine ⟨ds[i], _, rfl, SqT.of (s6 _ _ hq2), rfl, _, _, rfl, _, _, rfl, rfl, ?_⟩
      refine ⟨rfl, _, rfl, _, rfl, fa, o, rfl, hg, ?_⟩
      rw [ho]
      refine ⟨_, hd6, szl (by rw [List.length_map, List.length_replicate]; omega), Same.mut s6 hD3, ?_⟩
      rw [upd_same, List.replicate_succ', List.map_append]
      rfl
    rintro H6 ⟨s6, hd6⟩
    refine ⟨D3, _, rfl, SqL.of hd6, ?_⟩
    rw [show (List.replicate (ds.map V.ref).length true).all id = true by rw [List.all_eq_true]; intro x hx; rw [List.eq_of_mem_replicate hx]; rfl]
    refine ⟨_, rfl, iteF ?_⟩
    exact k H6 (S2.trans (S5.trans s6))
abbrev nBeatsBy : List Str := ["program", "laying", "goes", "going", "begin", "to", "many"]
theorem scBeatsBy : FnScope nBeatsBy ["program", "laying", "goes"] (defScope sBeatsBy) := ⟨rfl, rfl, rfl, by decide +kernel, rfl, by decide +kernel, by decide +kernel⟩
theorem ok_beatsBy (c : FBeatsBy K mg) (cCost : FCost K mg) (T : Bt mg) (GCost : FnOk P w K mg base CX0 5 cCost.f cCost.fd ["program", "laying", "begin", "to"] spCost) : FnOk P w K mg base CX0 6 c.f c.fd ["program", "laying", "goes"] spBeats := by
  refine c.F.ok scBeatsBy (fun vs H Q E h => ?_) (fun cdv A outer s H vs Q E hr h => ?_)
  · obtain ⟨a, b, l, bs, p, y, G, rfl, _⟩ := h
    rfl
  · obtain ⟨a, b, l, bs, p, y, G, rfl, hP, g, hY, yk, hl, hG, gk, g60, k⟩ := h
    have hcl := Paired.length hG
    have r1 := g.r1
    refine ⟨_, (pss_cons (ps_set (i := 3) scBeatsBy.nd rfl (Or.inl rfl) (pe_callB (cr_sum rfl) (by rfl) T.sum (by decide +kernel) (pa_cons (pe_lc (own := [("begin", 4), ("to", 5), ("many", 6)]) (g := gTup K 3 (gCons (gName 4) (gCons (gName 5) (gCons (gName 6) gNil)))) (tt := tYes) rfl scBeatsBy.nd (pi_list (pv 2)) (blkOk_by (N := nBeatsBy) (sc := defScope sBeatsBy) (by decide +kernel)) (fun _ _ _ _ _ => (pg_tupK K rfl rfl (pgs_cons (pg_name (i := 4) scBeatsBy.nd rfl (Or.inl rfl)) (pgs_cons (pg_name (i := 5) scBeatsBy.nd rfl (Or.inl rfl)) (pgs_cons (pg_name (i := 6) scBeatsBy.nd rfl (Or.inl rfl)) pgs_nil))))) (fun _ _ _ _ _ => pts_nil) (fun _ _ _ _ _ => (pe_op op_mul (pv 6) (pe_call GCost (hr.mono (by first | omega | decide)) (by rfl) cCost.m cCost.F.kp cCost.b .nil pass0 (pa_cons (pv 0) (pa_cons (pv 1) (pa_cons (pv 4) (pa_cons (pv 5) pa_nil)))))))) pa_nil)))
      (pss_one (ps_ret (pe_op op_add (pe_op op_add (pe_ix ix_tup (pe_ix ix_tup (pv 1) pe_int (fun _ _ => rfl)) pe_int (fun _ _ => rfl)) (pv 3)) pe_int)))), ?_⟩
    refine ⟨_, rfl, l, rfl, ⟨_, SqL.of hl⟩, fun D hD => ?_⟩
    refine lc_list (K := K) (a := l) (xs := bs.map V.ref) (fun i H' => Same1 H H' ∧ H' D = some (.lst (((G.map fun e => e.2 * costF y p.rows e.1.1 e.1.2).take i).map V.int))) ⟨Same.new hD, upd_same⟩ (fun i H' _ ⟨q, _⟩ => SqL.of (q _ _ hl)) ?_ ?_
    · rintro i x H1 hi ⟨s1, hD1⟩
      have hic : i < bs.length := by
        have q := (List.getElem?_eq_some_iff.mp hi).1
        rwa [List.length_map] at q
      have ex : x = .ref bs[i] := by
        rw [List.getElem?_map, List.getElem?_eq_getElem hic] at hi
        exact (Option.some.inj hi).symm
      subst ex
      obtain ⟨⟨⟨u, v⟩, n⟩, hq1, hq2⟩ := Paired.get hG (List.getElem?_eq_getElem hic)
      obtain ⟨k1, k2, k3, k4⟩ := gk.key _ (List.mem_of_getElem? hq1)
      obtain ⟨_, hv⟩ := goesN_lt g (goesN_has k1 k2)
      refine ⟨bs[i], _, rfl, SqT.of (s1 _ _ hq2), rfl, _, _, rfl, _, _, rfl, _, _, rfl, rfl, ?_⟩
      refine ⟨rfl, _, rfl, _, rfl, _, rfl, _, rfl, _, rfl, a, b, p, y, u, v, rfl, hP.kp (Kp.same s1), g, hY.kp (Kp.same s1), yk, k1, hv, fun H2 s2 => ?_⟩
      refine ⟨_, _, rfl, rfl, .inl ⟨by dsimp only at k3 ⊢; omega, by dsimp only at k4 ⊢; omega⟩, ?_⟩
      refine ⟨_, s2 _ _ hD1, szl (by rw [List.length_map, List.length_take, List.length_map]; omega), Same.mut (s1.trans s2) hD, ?_⟩
      rw [upd_same, List.take_add_one, List.getElem?_map, hq1, List.map_append]
      rfl
    · rintro H1 ⟨s1, hD1⟩
      rw [List.length_map, hcl, ← List.length_map (as := G) (f := fun e => e.2 * costF y p.rows e.1.1 e.1.2), List.take_length] at hD1
      obtain ⟨pl, hh, hs, hb, hpl, hhl, hH⟩ := hY
      refine ⟨D, _, rfl, SqL.of hD1, ?_⟩
      refine ⟨_, rfl, b, _, _, _, rfl, rfl, SqT.of (s1 _ _ hb), at1, pl, _, _, _, rfl, rfl, SqT.of (s1 _ _ hpl), atI_nat (j := 0) (nI_at (by rw [yk.pl]; omega)), _, rfl, _, _, rfl, rfl, _, _, rfl, rfl, ?_⟩
      have q := k H1 s1
      unfold beatsF at q
      rw [show ((y.places.getD 0 0 : Nat) : Int) + 1 + (G.map fun e => e.2 * costF y p.rows e.1.1 e.1.2).sum = ((y.places.getD 0 0 : Nat) : Int) + (G.map fun e => e.2 * costF y p.rows e.1.1 e.1.2).sum + 1 by omega] at q
      exact q
abbrev nBeats : List Str := ["program", "laying", "goes"]
theorem scBeats : FnScope nBeats ["program", "laying", "goes"] (defScope sBeats) := ⟨rfl, rfl, rfl, by decide +kernel, rfl, by decide +kernel, by decide +kernel⟩
theorem ok_beats (c : FBeats K mg) (cCheckProgram : FCheckProgram K mg) (cCheckLaying : FCheckLaying K mg) (cCheckGoes : FCheckGoes K mg) (cBeatsBy : FBeatsBy K mg)
    (GCheckProgram : FnOk P w K mg base CX0 4 cCheckProgram.f cCheckProgram.fd ["program"] spCheckProgram) (GCheckLaying : FnOk P w K mg base CX0 5 cCheckLaying.f cCheckLaying.fd ["program", "laying"] spCheckLaying)
    (GCheckGoes : FnOk P w K mg base CX0 5 cCheckGoes.f cCheckGoes.fd ["program", "goes"] spCheckGoes) (GBeatsBy : FnOk P w K mg base CX0 6 cBeatsBy.f cBeatsBy.fd ["program", "laying", "goes"] spBeats) : FnOk P w K mg base CX0 7 c.f c.fd ["program", "laying", "goes"] spBeats := by
  refine c.F.ok scBeats (fun vs H Q E h => ?_) (fun cdv A outer s H vs Q E hr h => ?_)
  · obtain ⟨a, b, l, bs, p, y, G, rfl, _⟩ := h
    rfl
  · obtain ⟨a, b, l, bs, p, y, G, rfl, hP, g, hY, yk, hl, hG, gk, g60, k⟩ := h
    refine ⟨_, (pss_cons (ps_expr (pe_call GCheckProgram (hr.mono (by first | omega | decide)) (by rfl) cCheckProgram.m cCheckProgram.F.kp cCheckProgram.b .nil pass0 (pa_cons (pv 0) pa_nil)))
      (pss_cons (ps_expr (pe_call GCheckLaying (hr.mono (by first | omega | decide)) (by rfl) cCheckLaying.m cCheckLaying.F.kp cCheckLaying.b .nil pass0 (pa_cons (pv 0) (pa_cons (pv 1) pa_nil))))
      (pss_cons (ps_expr (pe_call GCheckGoes (hr.mono (by first | omega | decide)) (by rfl) cCheckGoes.m cCheckGoes.F.kp cCheckGoes.b .nil pass0 (pa_cons (pv 0) (pa_cons (pv 2) pa_nil))))
      (pss_one (ps_ret (pe_call GBeatsBy (hr.mono (by first | omega | decide)) (by rfl) cBeatsBy.m cBeatsBy.F.kp cBeatsBy.b .nil pass0 (pa_cons (pv 0) (pa_cons (pv 1) (pa_cons (pv 2) pa_nil))))))))), ?_⟩
    refine ⟨_, rfl, a, p, rfl, hP, g, fun H1 s1 => ?_⟩
    refine ⟨_, rfl, _, rfl, a, b, p, y, rfl, hP.kp (Kp.same s1), g, hY.kp (Kp.same s1), yk, fun H2 s2 => ?_⟩
    have S2 := s1.trans s2
    refine ⟨_, rfl, _, rfl, a, l, bs, p, G, rfl, hP.kp (Kp.same S2), g, S2 _ _ hl, hG.kp (Kp.same S2), gk, g60, fun H3 s3 => ?_⟩
    have S3 := S2.trans s3
    exact ⟨_, rfl, _, rfl, _, rfl, a, b, l, bs, p, y, G, rfl, hP.kp (Kp.same S3), g, hY.kp (Kp.same S3), yk, S3 _ _ hl, hG.kp (Kp.same S3), gk, g60, fun H4 s4 => k H4 (S3.trans s4)⟩
end
end DL
namespace DLR
open PySem PySem.Spec PyProof.Rows L2
/-! ### how often a truth stands in a list; what is never asked -/
def rCntB (K : PySem.W.Frag) : V → List V → Hp → VK → Prop := fun x xs H Q => ∃ (p : Addr) (bs : List Bool) (b : Bool), x = .ref p ∧ xs = [.bl b] ∧ SqL K H p (bs.map V.bl) ∧ Q (.int (bs.count b : Nat)) H
theorem flat_bl : ∀ bs : List Bool, (bs.map V.bl).all flatV = true
  | [] => rfl
  | _ :: bs => flat_bl bs
theorem count_bl (b : Bool) : ∀ {bs : List Bool} {us : List Value}, Vals (bs.map V.bl) us → us.countP (eqU (.bl b)) = bs.count b
  | [], _, .nil => rfl
  | c :: bs, u :: us, .cons r t => by
    rw [List.countP_cons, count_bl b t, eqU_of r rfl, List.count_cons]
    rfl
section
variable {X : Cx}
theorem mt_countB : MtR X "list.count" (rCntB X.K) := by
  intro pins s σ H x xs v us Q I rx rxs h
  obtain ⟨p, bs, b, rfl, rfl, hs, q⟩ := h
  cases rx
  obtain ⟨u, rfl, ru⟩ := rxs.one
  obtain ⟨its, rv, ⟨⟨cls, dd, data, sl⟩, n, ho, hc, hdn, hd⟩, hlen⟩ := I.list hs
  simp only at hc hd
  subst hc hd
  refine call_meets PySem.F.slot_list_count ⟨_, ho, rfl⟩ PySem.F.entry_list_count (PySem.F.args_list_count_2 _ _)
    (SeqAt.list_countAt p its.toArray n dd sl u (eqU (.bl b))) ⟨ho, fun y hy => mem_eqAt ru rfl rv (flat_bl bs) y (by simpa using hy), ?_⟩
  refine ⟨.int (bs.count b : Nat), H, I.tok _, ⟨s.toks, ?_⟩, q⟩
  show Value.int ((its.toArray.toList.countP (eqU (.bl b)) : Nat) : Int) s.toks = Value.int ((bs.count b : Nat) : Int) s.toks
  rw [show its.toArray.toList = its from rfl, count_bl b rv]
def tNo : TE := fun _ _ _ => False
theorem pe_no {e : Expr} : PE X e tNo := ⟨fun _ _ _ _ _ _ h => h.elim⟩
end
end DLR
/-! ### an error of an own class that has fields: made by an own __init__ that calls its base's, asked for its class and its fields -/
namespace PySem.W
open PySem PySem.Spec PySem.Calls PyProof.Rows
section
variable {prog : Program} {w : World} {A : Around} {E : Value → Shared → Prop} {s : Shared} {K : Frag} {x D : Addr} {ox od : Obj}
theorem class_of_held {Q : Option Value → Shared → Prop} (h1 : findIn K (.ref D) "__getattribute__" = some (some (.builtin "BaseException.__getattribute__"))) (h2 : findIn K (.ref D) "__getattr__" = some none) (h3 : subIn K (.ref D) (.type "BaseException") = some true) (h4 : hasDictIn K D = true)
    (h5 : findIn K (.ref D) "__class__" = some (some (.builtin "object.__class__"))) (h6 : specialIn K (.builtin "object.__class__") "__get__" = some (some (.builtin "getset_descriptor.__get__"))) (h7 : takesIn K (.builtin "object.__class__") = some true) (h8 : mroIn K D (.type "object") = some true)
    (X : K.In s.heap) (I : InstAt s.heap x ox D (some od)) (q : Q (some (.ref D)) { s with toks := s.toks + 1 }) : wpAny (model prog w) A (getAttr? (.ref x) "__class__") Q E s := by
  obtain ⟨cd, e0, _⟩ := any_some h4
  have fo : findObj K D (some od) "__class__" = some (.bind (.builtin "getset_descriptor.__get__") (.builtin "object.__class__")) := findObj_data (by rw [e0]; rfl) h5 h6 h7
  obtain ⟨hp, g, d, t, os⟩ := s
  have ty := I.type (M := model prog w)
  have is : Looks (model prog w) hp (isInstance (.ref x) (.type "BaseException")) true := ty.andThen (looks_subIn X h3)
  have no : (onTheHeap (Value.ref D) && Value.builtin "BaseException.__getattribute__" == Value.builtin "object.__getattribute__") = false := by
    rw [show (Value.builtin "BaseException.__getattribute__" == Value.builtin "object.__getattribute__") = false by decide +kernel]
    rfl
  unfold getAttr? getAttrBy? getAttrBy
  refine wpAny_bind (wpAny_mkText (wpAny_bind (wpAny_attempt (wpAny_holding (wpAny_bind (ty.at (wpAny_bind ((looks_findIn X h1).at ?_))))))))
  show wpAny _ _ (if (onTheHeap (Value.ref D) && Value.builtin "BaseException.__getattribute__" == Value.builtin "object.__getattribute__") = true then _ else _) _ _ _
  rw [no, if_neg Bool.false_ne_true]
  unfold getAttrByItsOwn hookBefore
  refine wpAny_bind ?_
  rw [if_pos (show onTheHeap (Value.ref D) = true from rfl)]
  refine (looks_findIn X h2).at (wpAny_bind (wpAny_attempt (wpAny_holding ?_)))
  unfold callGetattribute
  rw [show (false && onTheHeap (Value.builtin "BaseException.__getattribute__")) = false from rfl, if_neg Bool.false_ne_true]
  unfold boundAndCalled
  rw [PySem.F.excAttr_ValueError.ga.bind (.ref x)]
  refine wpAny_bind (wpAny_pure ?_)
  show wpAny _ _ (call (.builtin "BaseException.__getattribute__") [.ref x, .str "__class__" t]) _ _ _
  refine wpAny_call (codeAny_call_builtin PySem.F.excAttr_ValueError.ga.plain PySem.F.entry_bexc_ga (@check_slot (model prog w) _ _ ⟨hp, g, d, t + 1, os⟩ "BaseException.__getattribute__" "BaseException" "__getattribute__" (.ref x) [.str "__class__" t] [] _ (by decide +kernel) (by decide +kernel) is (PySem.F.args_bexc_ga (.ref x) (.str "__class__" t)) ?_))
  unfold Builtin.«object.__getattribute__»
  refine wpAny_bind (wpAny_of_eq (a := ((Value.ref x : Value), [Value.str "__class__" t])) (by first | rfl | (simp only [slotArgs]; rfl)) (wpAny_bind (wpAny_pure (wpAny_bind (ty.at (wpAny_bind ((looks_find (M := model prog w) X I fo).at ?_)))))))
  show wpAny _ _ (holding [Value.builtin "object.__class__"] (call (.builtin "getset_descriptor.__get__") [.builtin "object.__class__", .ref x, .ref D]) >>= ret) _ _ _
  refine wpAny_bind (wpAny_holding (wpAny_call (class_get (s := ⟨hp, g, d, t + 1, os⟩) (ox := ox) (od := some od) X I h8 (wpAny_pure ?_))))
  show wpAny _ _ (handedOut (.ref D)) _ _ _
  rw [handedOut_of (v := .ref D) rfl]
  first
    | exact wpAny_pure (wpAny_pure q)
    | exact wpAny_pure q
    | exact wpAny_pure (wpAny_bind (wpAny_pure (wpAny_pure q)))
theorem kit_held (h1 : findIn K (.ref D) "__getattribute__" = some (some (.builtin "BaseException.__getattribute__"))) (h2 : findIn K (.ref D) "__getattr__" = some none) (h3 : subIn K (.ref D) (.type "BaseException") = some true) (h4 : hasDictIn K D = true)
    (h5 : findIn K (.ref D) "__class__" = some (some (.builtin "object.__class__"))) (h6 : specialIn K (.builtin "object.__class__") "__get__" = some (some (.builtin "getset_descriptor.__get__"))) (h7 : takesIn K (.builtin "object.__class__") = some true) (h8 : mroIn K D (.type "object") = some true) :
    KitX K (.ref x) (.ref D) (fun h => ∃ od, InstAt h x ox D (some od)) :=
  have old := handS_kitx_exc (x := x) (ox := ox) h1 h2 h3 h4 h5 h6 h7 h8
  { ty := fun _ _ _ ⟨_, I⟩ => I.type
    it := fun M h X ⟨_, I⟩ => by
      obtain ⟨cd, hc, _⟩ := any_some h4
      unfold clsIn at hc
      split at hc
      · rename_i c1 d1 cd1 sl1 ho
        intro A' Q' E' s' k q
        unfold isType loadHead
        exact wpAny_bind (wpAny_loadPart (k _ _ (X _ _ ho)) (wpAny_pure q))
      · cases hc
    ne := old.ne
    ca := fun X ⟨_, I⟩ k => class_of_held h1 h2 h3 h4 h5 h6 h7 h8 X I k }
end
end PySem.W
namespace DLR
open PySem PySem.Spec PyProof.Rows L2 LamX
def rIsD (K : PySem.W.Frag) (D a : Addr) (dd : Addr) : List V → Hp → VK → Prop := fun xs H Q => ∃ (fs : List (Str × V)) (c : V) (cv : Value) (b : Bool), H dd = some (.xd fs) ∧ xs = [.ref a, c] ∧ (∀ u, RelV c u → u = cv) ∧ PySem.W.kitOne K (.ref D) cv = some b ∧ Q (.bl b) H
theorem call_isD {X : Cx} {a D dd : Addr} {oe : Obj} {pn : List (Addr × Obj)} (C : ExcC X.K D) (hz : Zc (.ref D) (some dd) oe) (hf : ∃ vs, oe.data = .fields vs) : CallR (X.suite a ((a, oe) :: pn)) (.builtin "isinstance") (rIsD X.K D a dd) := by
  intro pins s σ H xs us Q I r h
  obtain ⟨fs, c, cv, b, hdd, rfl, hcv, e, q⟩ := h
  match us, r with
  | [u1, u2], .cons rx (.cons rt .nil) =>
    cases rx
    obtain rfl := hcv _ rt
    obtain ⟨hget, _⟩ := I.pin (a, oe) (List.mem_append.mpr (.inl List.mem_cons_self))
    obtain ⟨vs, hv⟩ := hf
    have hx : ObjOk X.prog X.w H s.heap dd (.xd fs) := I.hok dd _ hdd
    obtain ⟨mA, hns, _⟩ := hx
    obtain ⟨od, ho, _⟩ := lookIn_ns hns
    have J : PySem.W.InstAt s.heap a oe D (some od) := ⟨hget, hz.1, by unfold PySem.W.notCls; rw [hv] <;> rfl, by rw [hz.2]; exact ho⟩
    exact PySem.W.kia_one (PySem.W.kit_held C.hg C.hk C.hs C.hd C.ha C.hn C.ht C.hm) I.kIn ⟨_, J⟩ e (fun z => nomatch z) fun tk => ⟨.bl b, H, I.kept (t' := tk) fun _ _ z => z, rfl, q⟩
structure DeK (K : PySem.W.Frag) (mg : Str → Option Value) (DE : Addr) : Prop where
  m : mg "DrumError" = some (.ref DE)
  sp : PySem.W.specialIn K (.ref DE) "__getattribute__" = some (some (.builtin "type.__getattribute__"))
  ty : PySem.W.typeIn K (.ref DE) = some (.type "type")
  rd : PySem.W.readsIn K DE (.type "type") = true
  fi : PySem.W.findCls K (.ref DE) (.type "type") "__init__" = some (.val (.builtin "ValueError.__init__"))
section
variable {X : Cx} {e : Expr} {es : List Expr} {ta : TA} {p1 p2 pos : Pos} {DE : Addr}
theorem pe_deinit {pl : Sem Bool} (B : DeK X.K X.mg DE) (hg : Gl X "DrumError") (ha : PA X (e :: es) ta)
    (hc : eval (.Call (.Attribute (.Name "DrumError" p1) "__init__" p2) (e :: es) [] pos) X.env = (do
      let ov ← eval (.Name "DrumError" p1) X.env
      standAt p2.atName
      let (f, first) ← holding [ov] (getMethod ov "__init__" pl)
      callWith pos f first (backTo pos (starEach (e :: es) X.env)) (backToKw pos (keywordEach [] X.env))) := by rfl)
    (he : starEach (e :: es) X.env = (false, eval e X.env) :: starEach es X.env := by rfl) (hpl : (backTo pos (starEach es X.env)).any (·.1) = false := by rfl) :
    PE X (.Call (.Attribute (.Name "DrumError" p1) "__init__" p2) (e :: es) [] pos) (tVeI X.K ta) := by
  refine ⟨fun pins s σ H Q I h => PySem.W.methodCall_KW (ld_glob I hg B.m ?_ (by decide)) hc⟩
  obtain ⟨m, fr⟩ := I.fr
  refine PySem.W.method_of_cls fr I.ok.mod.kin B.sp (PySem.W.cls_val fr I.ok.mod.kin B.ty B.rd B.fi (by decide +kernel) ?_)
  show wpAny _ _ (callWith pos (Value.builtin "ValueError.__init__") [] (backTo pos (starEach (e :: es) X.env)) []) _ _ _
  refine PyProof.Rows.callWith_method1 (thn (ha.run pos pins _ σ H _ (I.tok _) h) fun us s1 ⟨vs, H1, I1, r1, a, C, ws, ev, hl, T, ea, q⟩ => ?_) he hpl
  subst ev
  match us, r1 with
  | u0 :: ur, .cons ra rr =>
    cases ra
    exact oinit_ok T I1 ea (by rw [← Paired.length rr, sizeLine_eq]; omega) fun s' J => ⟨.non, H1, J, rfl, q⟩
end
end DLR
namespace DL
open PySem PySem.Spec L2 DLR
/-! ### the errors that have fields: made and raised -/
structure ErI (K : Frg) (mg : Str → Option Value) (x : Str) (qual : Str) (C : Addr) (st : Stmt) (ps : List Str) where
  f : Addr
  fd : FuncData
  F : Fun K "__init__" qual st f fd
  b : Binds K fd ps []
  iC : PySem.W.findIn K (.ref C) "__init__" = some (some (.ref f))
  tI : PySem.W.typeIn K (.ref f) = some (.type "function")
  T : OexC K C
  m : mg x = some (.ref C)
theorem raised_eq {H : Hp} {a d : Addr} {o o1 o2 x : HO} (ha : H a = none) (hd : d ≠ a) : upd (L2.del (upd (upd (upd H a o) d o1) a o2) a) d x = upd H d x := by
  funext b
  by_cases h1 : b = d
  · rw [h1, upd_same, upd_same]
  · rw [upd_ne h1, upd_ne h1]
    by_cases h2 : b = a
    · rw [h2, L2.del_same, ha]
    · rw [L2.del_ne h2, upd_ne h2, upd_ne h1, upd_ne h2]
theorem raised_eq2 {H : Hp} {a d : Addr} {o o1 o2 o3 x : HO} (ha : H a = none) (hd : d ≠ a) : upd (L2.del (upd (upd (upd (upd H a o) d o1) a o2) d o3) a) d x = upd H d x := by
  funext b
  by_cases h1 : b = d
  · rw [h1, upd_same, upd_same]
  · rw [upd_ne h1, upd_ne h1]
    by_cases h2 : b = a
    · rw [h2, L2.del_same, ha]
    · rw [L2.del_ne h2, upd_ne h1, upd_ne h2, upd_ne h1, upd_ne h2]
def Sm (n : Int) : Prop := n.natAbs.log2 < 1920
theorem Sm.len {n : Int} (h : Sm n) : (Str.ofString (toString n)).length ≤ 1921 := by
  rw [ofString_length]
  exact int_text_length_le (by decide) h
theorem app_le {x y : Str} {m n : Nat} (h : x.length ≤ m) (g : y.length ≤ n) : (x ++ y).length ≤ m + n := by
  rw [Str.length_append]
  omega
theorem len_str (n : Nat) (x : Str) (h : x.length ≤ n) : x.length ≤ n := h
abbrev fsBT (line : Int) : List (Str × V) := [("line", .int line)]
def spBT (C : Addr) : Sp := fun vs H Q _ => ∃ (a : Addr) (line : Int), vs = [.ref a, .int line] ∧ H a = some (exo a C none) ∧ Sm line ∧ ∀ d, H d = none → d ≠ a → Q .non (upd (upd H d (exd d (fsBT line))) a (exo a C (some d)))
theorem toldBT {C : Addr} {line : Int} {H : Hp} {Q : XK} (hc : Sm line) (k : ∀ d H', H d = none → Same1 H H' → H' d = some (.xd (fsBT line)) → Q (.ref C) (some d) H') :
    ([.int line] : List V).length ≤ 1000 ∧ ∀ a, H a = none → spBT C (.ref a :: ([.int line] ++ [])) (upd H a (exo a C none)) (fun v H2 => v = .non ∧ ∃ (d : Addr) (fs : List (Str × V)), H2 a = some (exo a C (some d)) ∧ H2 d = some (exd d fs) ∧ H d = none ∧ Q (.ref C) (some d) (upd (L2.del H2 a) d (.xd fs))) (fun _ _ _ => False) := by
  refine ⟨by show 1 ≤ 1000; decide, fun a ha => ⟨a, line, rfl, upd_same, hc, fun d hd hne => ?_⟩⟩
  have hd0 : H d = none := by rwa [upd_ne hne] at hd
  refine ⟨rfl, d, fsBT line, upd_same, ?_, hd0, ?_⟩
  · rw [upd_ne hne, upd_same]
  · rw [raised_eq ha hne]
    exact k d _ hd0 (Same.new hd0) upd_same
section
variable {P : Program} {w : World} {K : PySem.W.Frag} {mg : Str → Option Value} {base : Heap} {C DE : Addr}
end
abbrev sBPInit : Stmt := inClass (top 3) 0
abbrev fsBP (row : Int) (why : Str) : List (Str × V) := [("why", .str why), ("row", .int row)]
def spBP (C : Addr) : Sp := fun vs H Q _ => ∃ (a : Addr) (row : Int) (why : Str), vs = [.ref a, .int row, .str why] ∧ H a = some (exo a C none) ∧ Sm row ∧ why.length ≤ 1000 ∧ ∀ d, H d = none → d ≠ a → Q .non (upd (upd (upd H d (exd d [("row", .int row)])) a (exo a C (some d))) d (exd d (fsBP row why)))
theorem toldBP {C : Addr} {row : Int} {why : Str} {H : Hp} {Q : XK} (hc : Sm row ∧ why.length ≤ 1000) (k : ∀ d H', H d = none → Same1 H H' → H' d = some (.xd (fsBP row why)) → Q (.ref C) (some d) H') :
    ([.int row, .str why] : List V).length ≤ 1000 ∧ ∀ a, H a = none → spBP C (.ref a :: ([.int row, .str why] ++ [])) (upd H a (exo a C none)) (fun v H2 => v = .non ∧ ∃ (d : Addr) (fs : List (Str × V)), H2 a = some (exo a C (some d)) ∧ H2 d = some (exd d fs) ∧ H d = none ∧ Q (.ref C) (some d) (upd (L2.del H2 a) d (.xd fs))) (fun _ _ _ => False) := by
  refine ⟨by show 2 ≤ 1000; decide, fun a ha => ⟨a, row, why, rfl, upd_same, hc.1, hc.2, fun d hd hne => ?_⟩⟩
  have hd0 : H d = none := by rwa [upd_ne hne] at hd
  refine ⟨rfl, d, fsBP row why, ?_, upd_same, hd0, ?_⟩
  · rw [upd_ne hne.symm, upd_same]
  · rw [raised_eq2 ha hne]
    exact k d _ hd0 (Same.new hd0) upd_same
section
variable {P : Program} {w : World} {K : PySem.W.Frag} {mg : Str → Option Value} {base : Heap} {C DE : Addr}
theorem scBPInit : FnScope ["self", "row", "why"] ["self", "row", "why"] (defScope sBPInit) := ⟨rfl, rfl, rfl, by decide +kernel, rfl, by decide +kernel, by decide +kernel⟩
theorem ok_BPInit (c : ErI K mg "BadProgram" "BadProgram.__init__" C sBPInit ["self", "row", "why"]) (B : DeK K mg DE) (nrow : PySem.W.findIn K (.ref C) "row" = some none) (nwhy : PySem.W.findIn K (.ref C) "why" = some none) : FnOk P w K mg base CX0 1 c.f c.fd ["self", "row", "why"] (spBP C) := by
  refine c.F.ok scBPInit (fun vs H Q E h => ?_) (fun cdv A outer s H vs Q E hr h => ?_)
  · obtain ⟨a, row, why, rfl, _⟩ := h
    rfl
  · obtain ⟨a, row, why, rfl, ha, hrow, hwhy, k⟩ := h
    refine ⟨_, (pss_cons (ps_expr (pe_deinit B (by rfl) (pa_cons (pv 0) (pa_cons (L2.pe_joined (L2.PJ.cons pe_str (L2.PJ.cons (L2.pe_fmt (pv 1)) (L2.PJ.cons pe_str (L2.PJ.cons (L2.pe_fmt (pv 2)) L2.PJ.nil))))) pa_nil)))) (pss_cons (L2.ps_ost (pv 0) (pv 1)) (pss_one (L2.ps_ost (pv 0) (pv 2))))), ?_⟩
    have lrow := Sm.len hrow
    refine ⟨_, rfl, ?_⟩
    refine ⟨_, rfl, (sz (Nat.le_trans (app_le (show (Str.empty : Str).length ≤ 0 by decide) (show (_ : Str).length ≤ 100 by decide +kernel)) (by decide))), ?_⟩
    refine ⟨_, rfl, .inr ⟨row, rfl, hrow, _, rfl, (sz (Nat.le_trans (app_le (app_le (show (Str.empty : Str).length ≤ 0 by decide) (show (_ : Str).length ≤ 100 by decide +kernel)) lrow) (by decide))), ?_⟩⟩
    refine ⟨_, rfl, (sz (Nat.le_trans (app_le (app_le (app_le (show (Str.empty : Str).length ≤ 0 by decide) (show (_ : Str).length ≤ 100 by decide +kernel)) lrow) (show (_ : Str).length ≤ 100 by decide +kernel)) (by decide))), ?_⟩
    refine ⟨_, rfl, .inl ⟨why, rfl, sz (Nat.le_trans hwhy (by decide)), _, rfl, (sz (Nat.le_trans (app_le (app_le (app_le (app_le (show (Str.empty : Str).length ≤ 0 by decide) (show (_ : Str).length ≤ 100 by decide +kernel)) lrow) (show (_ : Str).length ≤ 100 by decide +kernel)) hwhy) (by decide))), ?_⟩⟩
    refine ⟨a, C, _, rfl, (by show 1 ≤ 1000; decide), c.T, ha, ?_⟩
    refine ⟨_, rfl, _, rfl, a, C, rfl, c.T, nrow, .inl ⟨ha, fun d hd hne => ?_⟩⟩
    refine ⟨_, rfl, _, rfl, a, C, rfl, c.T, nwhy, .inr ⟨d, _, upd_same, ?_, by show 1 ≤ 900; decide, k d hd hne⟩⟩
    rw [upd_ne hne, upd_same]
end
abbrev sBLInit : Stmt := inClass (top 4) 0
abbrev fsBL (why : Str) (at_ : Int) : List (Str × V) := [("at", .int at_), ("why", .str why)]
def spBL (C : Addr) : Sp := fun vs H Q _ => ∃ (a : Addr) (why : Str) (at_ : Int), vs = [.ref a, .str why, .int at_] ∧ H a = some (exo a C none) ∧ why.length ≤ 1000 ∧ Sm at_ ∧ ∀ d, H d = none → d ≠ a → Q .non (upd (upd (upd H d (exd d [("why", .str why)])) a (exo a C (some d))) d (exd d (fsBL why at_)))
theorem toldBL {C : Addr} {why : Str} {at_ : Int} {H : Hp} {Q : XK} (hc : why.length ≤ 1000 ∧ Sm at_) (k : ∀ d H', H d = none → Same1 H H' → H' d = some (.xd (fsBL why at_)) → Q (.ref C) (some d) H') :
    ([.str why, .int at_] : List V).length ≤ 1000 ∧ ∀ a, H a = none → spBL C (.ref a :: ([.str why, .int at_] ++ [])) (upd H a (exo a C none)) (fun v H2 => v = .non ∧ ∃ (d : Addr) (fs : List (Str × V)), H2 a = some (exo a C (some d)) ∧ H2 d = some (exd d fs) ∧ H d = none ∧ Q (.ref C) (some d) (upd (L2.del H2 a) d (.xd fs))) (fun _ _ _ => False) := by
  refine ⟨by show 2 ≤ 1000; decide, fun a ha => ⟨a, why, at_, rfl, upd_same, hc.1, hc.2, fun d hd hne => ?_⟩⟩
  have hd0 : H d = none := by rwa [upd_ne hne] at hd
  refine ⟨rfl, d, fsBL why at_, ?_, upd_same, hd0, ?_⟩
  · rw [upd_ne hne.symm, upd_same]
  · rw [raised_eq2 ha hne]
    exact k d _ hd0 (Same.new hd0) upd_same
section
variable {P : Program} {w : World} {K : PySem.W.Frag} {mg : Str → Option Value} {base : Heap} {C DE : Addr}
theorem scBLInit : FnScope ["self", "why", "at"] ["self", "why", "at"] (defScope sBLInit) := ⟨rfl, rfl, rfl, by decide +kernel, rfl, by decide +kernel, by decide +kernel⟩
theorem ok_BLInit (c : ErI K mg "BadLaying" "BadLaying.__init__" C sBLInit ["self", "why", "at"]) (B : DeK K mg DE) (nwhy : PySem.W.findIn K (.ref C) "why" = some none) (nat : PySem.W.findIn K (.ref C) "at" = some none) : FnOk P w K mg base CX0 1 c.f c.fd ["self", "why", "at"] (spBL C) := by
  refine c.F.ok scBLInit (fun vs H Q E h => ?_) (fun cdv A outer s H vs Q E hr h => ?_)
  · obtain ⟨a, why, at_, rfl, _⟩ := h
    rfl
  · obtain ⟨a, why, at_, rfl, ha, hwhy, hat, k⟩ := h
    refine ⟨_, (pss_cons (ps_expr (pe_deinit B (by rfl) (pa_cons (pv 0) (pa_cons (L2.pe_joined (L2.PJ.cons pe_str (L2.PJ.cons (L2.pe_fmt (pv 1)) (L2.PJ.cons pe_str (L2.PJ.cons (L2.pe_fmt (pv 2)) L2.PJ.nil))))) pa_nil)))) (pss_cons (L2.ps_ost (pv 0) (pv 1)) (pss_one (L2.ps_ost (pv 0) (pv 2))))), ?_⟩
    have lat := Sm.len hat
    refine ⟨_, rfl, ?_⟩
    refine ⟨_, rfl, (sz (Nat.le_trans (app_le (show (Str.empty : Str).length ≤ 0 by decide) (show (_ : Str).length ≤ 100 by decide +kernel)) (by decide))), ?_⟩
    refine ⟨_, rfl, .inl ⟨why, rfl, sz (Nat.le_trans hwhy (by decide)), _, rfl, (sz (Nat.le_trans (app_le (app_le (show (Str.empty : Str).length ≤ 0 by decide) (show (_ : Str).length ≤ 100 by decide +kernel)) hwhy) (by decide))), ?_⟩⟩
    refine ⟨_, rfl, (sz (Nat.le_trans (app_le (app_le (app_le (show (Str.empty : Str).length ≤ 0 by decide) (show (_ : Str).length ≤ 100 by decide +kernel)) hwhy) (show (_ : Str).length ≤ 100 by decide +kernel)) (by decide))), ?_⟩
    refine ⟨_, rfl, .inr ⟨at_, rfl, hat, _, rfl, (sz (Nat.le_trans (app_le (app_le (app_le (app_le (show (Str.empty : Str).length ≤ 0 by decide) (show (_ : Str).length ≤ 100 by decide +kernel)) hwhy) (show (_ : Str).length ≤ 100 by decide +kernel)) lat) (by decide))), ?_⟩⟩
    refine ⟨a, C, _, rfl, (by show 1 ≤ 1000; decide), c.T, ha, ?_⟩
    refine ⟨_, rfl, _, rfl, a, C, rfl, c.T, nwhy, .inl ⟨ha, fun d hd hne => ?_⟩⟩
    refine ⟨_, rfl, _, rfl, a, C, rfl, c.T, nat, .inr ⟨d, _, upd_same, ?_, by show 1 ≤ 900; decide, k d hd hne⟩⟩
    rw [upd_ne hne, upd_same]
end
abbrev sBEInit : Stmt := inClass (top 6) 0
abbrev fsBE (at_ : Int) : List (Str × V) := [("at", .int at_)]
def spBE (C : Addr) : Sp := fun vs H Q _ => ∃ (a : Addr) (at_ : Int), vs = [.ref a, .int at_] ∧ H a = some (exo a C none) ∧ Sm at_ ∧ ∀ d, H d = none → d ≠ a → Q .non (upd (upd H d (exd d (fsBE at_))) a (exo a C (some d)))
theorem toldBE {C : Addr} {at_ : Int} {H : Hp} {Q : XK} (hc : Sm at_) (k : ∀ d H', H d = none → Same1 H H' → H' d = some (.xd (fsBE at_)) → Q (.ref C) (some d) H') :
    ([.int at_] : List V).length ≤ 1000 ∧ ∀ a, H a = none → spBE C (.ref a :: ([.int at_] ++ [])) (upd H a (exo a C none)) (fun v H2 => v = .non ∧ ∃ (d : Addr) (fs : List (Str × V)), H2 a = some (exo a C (some d)) ∧ H2 d = some (exd d fs) ∧ H d = none ∧ Q (.ref C) (some d) (upd (L2.del H2 a) d (.xd fs))) (fun _ _ _ => False) := by
  refine ⟨by show 1 ≤ 1000; decide, fun a ha => ⟨a, at_, rfl, upd_same, hc, fun d hd hne => ?_⟩⟩
  have hd0 : H d = none := by rwa [upd_ne hne] at hd
  refine ⟨rfl, d, fsBE at_, upd_same, ?_, hd0, ?_⟩
  · rw [upd_ne hne, upd_same]
  · rw [raised_eq ha hne]
    exact k d _ hd0 (Same.new hd0) upd_same
section
variable {P : Program} {w : World} {K : PySem.W.Frag} {mg : Str → Option Value} {base : Heap} {C DE : Addr}
theorem scBEInit : FnScope ["self", "at"] ["self", "at"] (defScope sBEInit) := ⟨rfl, rfl, rfl, by decide +kernel, rfl, by decide +kernel, by decide +kernel⟩
theorem ok_BEInit (c : ErI K mg "BadPaper" "BadPaper.__init__" C sBEInit ["self", "at"]) (B : DeK K mg DE) (nat : PySem.W.findIn K (.ref C) "at" = some none) : FnOk P w K mg base CX0 1 c.f c.fd ["self", "at"] (spBE C) := by
  refine c.F.ok scBEInit (fun vs H Q E h => ?_) (fun cdv A outer s H vs Q E hr h => ?_)
  · obtain ⟨a, at_, rfl, _⟩ := h
    rfl
  · obtain ⟨a, at_, rfl, ha, hat, k⟩ := h
    refine ⟨_, (pss_cons (ps_expr (pe_deinit B (by rfl) (pa_cons (pv 0) (pa_cons (L2.pe_joined (L2.PJ.cons pe_str (L2.PJ.cons (L2.pe_fmt (pv 1)) L2.PJ.nil))) pa_nil)))) (pss_one (L2.ps_ost (pv 0) (pv 1)))), ?_⟩
    have lat := Sm.len hat
    refine ⟨_, rfl, ?_⟩
    refine ⟨_, rfl, (sz (Nat.le_trans (app_le (show (Str.empty : Str).length ≤ 0 by decide) (show (_ : Str).length ≤ 100 by decide +kernel)) (by decide))), ?_⟩
    refine ⟨_, rfl, .inr ⟨at_, rfl, hat, _, rfl, (sz (Nat.le_trans (app_le (app_le (show (Str.empty : Str).length ≤ 0 by decide) (show (_ : Str).length ≤ 100 by decide +kernel)) lat) (by decide))), ?_⟩⟩
    refine ⟨a, C, _, rfl, (by show 1 ≤ 1000; decide), c.T, ha, ?_⟩
    exact ⟨_, rfl, _, rfl, a, C, rfl, c.T, nat, .inl ⟨ha, fun d hd hne => k d hd hne⟩⟩
end
end DL
namespace DLR
open PySem PySem.Spec PyProof.Rows L2
/-! ### {e for x in xs if t}, e a whole number -/
abbrev IS := (Int → Bool) × Nat
abbrev isO (w : World) (D : Addr) (t : IS) : HO := SetO w D t.1 t.2
def isAdd (t : IS) (c : Int) : IS := (fun j => t.1 j || decide (j = c), if t.1 c = true then t.2 else t.2 + 1)
abbrev is0 : IS := (fun _ => false, 0)
def turnI (w : World) (D : Addr) (g : TG) (tt : TT) (te : TE) (vs : List Nat) (σ : L2.St) (Nx : Hp → Prop) (x : V) (H : Hp) : Prop :=
  g x (wipe σ vs) H fun σ2 H2 => wipe σ2 vs = wipe σ vs ∧ tt σ2 H2 fun b H3 =>
    if b = true then te σ2 H3 fun y H4 => ∃ (c : Int) (t : IS), y = .int c ∧ H4 D = some (isO w D t) ∧ t.2 + 1 < scanBound ∧ Nx (upd H4 D (isO w D (isAdd t c)))
    else Nx H3
def tScI (w : World) (wi : TI) (g : TG) (tt : TT) (te : TE) (vs : List Nat) : TE := fun σ H Q => wi σ H fun J H1 => ∀ D, H1 D = none →
  ∃ W : Nat → Nat → Hp → Prop, (∃ m, W 0 m (upd H1 D (isO w D is0))) ∧ ∀ i m H, W i m H → (J.stop i H ∧ Q (.ref D) H) ∨
    (J.go i H ∧ ∃ Nx : Hp → Prop, (∀ H', Nx H' → ∃ m', m' < m ∧ W (i + 1) m' H') ∧ ∀ x H', J.yld i H x H' → turnI w D g tt te vs σ Nx x H')
section
variable {X : Cx}
theorem laysI {pins : List (Addr × Obj)} {σ : L2.St} {H : Hp} {s : Shared} {E : Value → Shared → Prop} {D : Addr} {t : IS} {c : Int} {k : Tok} {Q : Value → Shared → Prop} (I : Inv X pins σ H s)
    (hD : H D = some (isO X.w D t)) (hz : t.2 + 1 < scanBound) (h : ∀ s', Inv X pins σ (upd H D (isO X.w D (isAdd t c))) s' → Q .none s') :
    wpAny (model X.prog X.w) X.A (call (.builtin "set.add") [.ref D, .int c k]) Q E s := by
  refine setR_add (setO_get I hD) hz fun h' sb R => h _ ?_
  obtain ⟨o, _, _, _, ho, _⟩ := id R
  exact I.write (e := D) (t' := s.toks + 1) (by rw [hD]; trivial) (.inl rfl) (fun b u n e => (sb.2 b n).trans e) ⟨o, ho⟩ (setO_new R)
theorem pe_scI {elt tg iter : Expr} {ifs : List Expr} {scope : Scope} {own : List (PySem.Str × Nat)} {pos : Pos} {wi : TI} {g : TG} {tt : TT} {te : TE} (calm : X.calm = true) (uniq : X.N.Nodup) (walk : PI X tg iter wi) (blk : BlkOk X.N X.env.scope scope own)
    (tgt : ∀ (s : Shared) (H : Hp) (C : Addr) (cl : List (PySem.Str × Addr)) (fp : List Addr), PG (X.blk s H scope (compEnvC scope cl C X.env) fp) tg g)
    (tst : ∀ (s : Shared) (H : Hp) (C : Addr) (cl : List (PySem.Str × Addr)) (fp : List Addr), PTs (X.blk s H scope (compEnvC scope cl C X.env) fp) ifs tt)
    (item : ∀ (s : Shared) (H : Hp) (C : Addr) (cl : List (PySem.Str × Addr)) (fp : List Addr), PE (X.blk s H scope (compEnvC scope cl C X.env) fp) elt te)
    (plain : ∀ x, foldedSetIterable iter X.env x = pure x := by intro _; rfl) : PE X (.SetComp elt [⟨tg, iter, ifs, 0⟩] scope pos) (tScI X.w wi g tt te (own.map (·.2))) := by
  refine ⟨fun pins s σ H Q I h => ?_⟩
  rw [PpSet.eval_SetComp]
  have cells : ∀ y ∈ scope.names, y.2 = .free → ∃ c, X.env.cells.lookup y.1 = some c := fun y hy e => (blk.free y hy e).elim (fun k => I.ok.has _ (.inl k)) fun k => I.ok.has _ (.inr k)
  refine wpAny_comprehension_free (use := none) rfl plain (closure_ok cells) blk.kind (fun y hy e => (blk.uniq y hy).trans (by rw [e])) (thn (walk.run pins s σ H _ I h) fun _ _ hw => thn hw fun _ s2 begun => ?_)
  obtain ⟨it, fp, at_, J, H2, rfl, I2, T, began, own2, wish⟩ := begun
  refine PpSet.newSet_ok (newEnv_comp ?_)
  have fresh : H2 s2.heap.objs.size = none := I2.hok.fresh (Nat.le_refl _)
  obtain ⟨W, ⟨m0, w0⟩, goes⟩ := wish _ fresh
  -- the set stands
  have I3 := I2.laid (a := s2.heap.objs.size) (o := isO X.w s2.heap.objs.size is0) (h' := s2.heap.push { cls := .type "set", dict := none, data := .set #[] 0 (.fresh 0 0 (!X.w.params.followText "set-order")) }) (t' := s2.toks)
    (fun b o e => Heap.get?_push_of_some _ e) (Nat.le_refl _) (setO_new (setR_fresh X.w))
  have below : ∀ b ∈ fp, b < s2.heap.objs.size := fun b hb => by
    obtain ⟨o, e, _⟩ := T.obj _ _ began b hb
    exact Heap.lt_size e
  have up : ∀ b o, s2.heap.get? b = some o → (s2.heap.push { cls := .type "set", dict := none, data := .set #[] 0 (.fresh 0 0 (!X.w.params.followText "set-order")) }).get? b = some o := fun b o e => Heap.get?_push_of_some _ e
  have grown : (s2.heap.push { cls := .type "set", dict := none, data := .set #[] 0 (.fresh 0 0 (!X.w.params.followText "set-order")) }).objs.size = s2.heap.objs.size + 1 := Heap.size_push ..
  generalize s2.heap.push { cls := .type "set", dict := none, data := .set #[] 0 (.fresh 0 0 (!X.w.params.followText "set-order")) } = h3 at I3 up grown ⊢
  generalize s2.heap.objs.size = D at I3 below fresh goes w0 grown ⊢
  have far : ∀ b ∈ fp, FpOk X pins (upd H2 D (isO X.w D is0)) b ∧ b < h3.objs.size := fun b hb =>
    ⟨⟨(upd_ne (Nat.ne_of_lt (below b hb))).trans (own2 b hb).1, (own2 b hb).2⟩, by rw [grown]; exact Nat.lt_succ_of_lt (below b hb)⟩
  have stands : at_ 0 h3 := T.keep _ _ _ began fun b _ => up b
  have B := block_start (fp := fp) I3 blk uniq far
  have pg := tgt { s2 with heap := h3 } (upd H2 D (isO X.w D is0)) h3.objs.size (cellsFrom (h3.objs.size + 1) scope.names (cloFrom X.env.cells scope.names [])) fp
  have pt := tst { s2 with heap := h3 } (upd H2 D (isO X.w D is0)) h3.objs.size (cellsFrom (h3.objs.size + 1) scope.names (cloFrom X.env.cells scope.names [])) fp
  have pe := item { s2 with heap := h3 } (upd H2 D (isO X.w D is0)) h3.objs.size (cellsFrom (h3.objs.size + 1) scope.names (cloFrom X.env.cells scope.names [])) fp
  have hidden : ∀ b ∈ fp, (upd H2 D (isO X.w D is0)) b = none := fun b hb => (far b hb).1.1
  have kept4 : ∀ b o, h3.get? b = some o → (pushCells (h3.push { cls := .type "dict", data := .dict #[] }) scope.names).get? b = some o := fun b o e => pushCells_keeps _ _ _ _ (Heap.get?_push_of_some _ e)
  have stands4 := T.keep _ _ _ stands fun b _ => kept4 b
  show codeAny (model X.prog X.w) X.A (.compStart _ 0 (.ref it) (.ref D) (compEnvC scope (cellsFrom (h3.objs.size + 1) scope.names (cloFrom X.env.cells scope.names [])) h3.objs.size X.env)) _ _
  have home : (compEnvC scope (cellsFrom (h3.objs.size + 1) scope.names (cloFrom X.env.cells scope.names [])) h3.objs.size X.env).locals = h3.objs.size := rfl
  generalize compEnvC scope (cellsFrom (h3.objs.size + 1) scope.names (cloFrom X.env.cells scope.names [])) h3.objs.size X.env = ce at B pg pt pe home ⊢
  generalize upd H2 D (isO X.w D is0) = H3 at I3 B pg pt pe w0 hidden far
  -- what the iterator owns is out of the block's sight
  have owned : ∀ {σ' : L2.St} {H' : Hp} {z : Shared}, Inv (X.blk { s2 with heap := h3 } H3 scope ce fp) [] σ' H' z → (∀ b ∈ fp, H' b = none) → ∀ b ∈ fp, FpOk (X.blk { s2 with heap := h3 } H3 scope ce fp) [] H' b := by
    intro σ' H' z J none_ b hb
    have x1 := J.ok.exf b hb
    exact ⟨none_ b hb, x1.1, J.ok.exfs b hb, .inl hb, fun x c e => x1.2 x c e, fun p hp => by cases hp⟩
  have rounds : ∀ z : Shared, (∃ n i H', Inv (X.blk { s2 with heap := h3 } H3 scope ce fp) [] (wipe σ (own.map (·.2))) H' z ∧ at_ i z.heap ∧ (∀ b ∈ fp, H' b = none) ∧ W i n H') →
      codeAny (model X.prog X.w) X.A (.compLoop (.SetComp elt [⟨tg, iter, ifs, 0⟩] scope pos) 0 (.ref it) (.ref D) ce) (compPost (model X.prog X.w) X.A X.xe none (EP X pins σ Q) (.ref D) h3.objs.size) z := by
    rintro z ⟨n0, hz⟩
    refine PpSet.compLoopS_any (fun n z => ∃ i H', Inv (X.blk { s2 with heap := h3 } H3 scope ce fp) [] (wipe σ (own.map (·.2))) H' z ∧ at_ i z.heap ∧ (∀ b ∈ fp, H' b = none) ∧ W i n H') ?_ n0 hz
    rintro n z5 ⟨i, H5, I5, a5, none5, w5⟩
    rcases goes i n H5 w5 with ⟨stop, out⟩ | ⟨go, Nx, less, step⟩
    · refine thnF (T.done (X.blk { s2 with heap := h3 } H3 scope ce fp) rfl rfl rfl calm i [] z5 _ H5 (fun _ _ => False) I5 (owned I5 none5) a5 stop) fun r z6 ⟨hr, I6⟩ => ?_
      subst hr
      have back : Inv X pins σ H5 z6 := I3.call' (ch := fp) I6.os I6.base I6.hok I6.bare fun b hb => by
        obtain ⟨⟨_, f1, f2, f3, f4, f5⟩, _⟩ := far b hb
        exact ⟨f3, f1, f4, f5⟩
      have away : H5 h3.objs.size = none := by
        rw [← home]
        exact I6.free
      obtain ⟨m, ns, _⟩ := I6.loc
      have ns : z6.heap.Ns ce.locals m := ns
      rw [home] at ns
      obtain ⟨f0, f1, f2, f3, f4, f5⟩ := I3.fpOk (Nat.le_refl _) away
      exact ⟨m, ns, fun h' sb => ⟨.ref D, H5, back.turned (t' := z6.toks) (fun b o n e => (sb.2 b n).trans e) f0 f1 f3 f4 f5, rfl, out⟩⟩
    · refine thnF (T.item (X.blk { s2 with heap := h3 } H3 scope ce fp) rfl rfl rfl calm i [] z5 _ H5 (fun _ _ => False) I5 (owned I5 none5) a5 go) fun r z6 ⟨u, hr, drawn⟩ => ?_
      subst hr
      refine thnF drawn fun _ z7 ⟨x, H7, I7, r7, y7, a7, none7⟩ => ?_
      have P7 := I7.pinned (owned I7 none7) (T.obj _ _ a7)
      refine thnF (pg.run _ z7 _ H7 x u _ P7 r7 (step x H7 y7)) fun _ z8 ⟨σ8, H8, I8, same8, q8⟩ => ?_
      -- a turn that is through
      have through : ∀ {z : Shared} {H' : Hp}, Inv (X.blk { s2 with heap := h3 } H3 scope ce fp) ([] ++ pinsAt fp z7.heap) σ8 H' z → Nx H' →
          ∃ m, m < n ∧ ∃ i H', Inv (X.blk { s2 with heap := h3 } H3 scope ce fp) [] (wipe σ (own.map (·.2))) H' z ∧ at_ i z.heap ∧ (∀ b ∈ fp, H' b = none) ∧ W i m H' := by
        intro z H' J nx
        obtain ⟨m', lt, w'⟩ := less H' nx
        have held : ∀ b ∈ fp, ∀ o, z7.heap.get? b = some o → z.heap.get? b = some o ∧ H' b = none := by
          intro b hb o e
          have p := J.pin (b, o) (List.mem_append_right _ (List.mem_append_right _ (mem_pinsAt hb e)))
          exact ⟨p.1, p.2.1⟩
        refine ⟨m', lt, i + 1, H', (J.unpinned (pins := [])).weak ?_ ?_, T.keep _ _ _ a7 fun b hb o e => (held b hb o e).1, fun b hb => ?_, w'⟩
        · rw [← same8, wipe_length]
        · intro j v e
          rw [← same8] at e
          exact (wipe_some e).1
        · obtain ⟨o, e, _⟩ := T.obj _ _ a7 b hb
          exact (held b hb o e).2
      refine thnF (pt.run _ z8 σ8 H8 _ I8 q8) fun b z9 ⟨H9, I9, q9⟩ => ?_
      cases b with
      | false => exact through I9 q9
      | true =>
        refine thnF (pe.run _ z9 σ8 H9 _ I9 q9) fun v z10 ⟨y, H10, I10, r10, c, t, ey, eD, room, nx⟩ => ?_
        subst ey
        obtain ⟨k, rfl⟩ := r10
        exact laysI (X := X.blk { s2 with heap := h3 } H3 scope ce fp) I10 eD room fun z11 I11 => through I11 nx
  exact PpSet.codeAny_compStart_set (rounds _ ⟨m0, 0, H3, B, stands4, hidden, w0⟩) (T.self X.A 0 _ _ _ stands4 (rounds _ ⟨m0, 0, H3, B, stands4, hidden, w0⟩))
end
end DLR
namespace DLR
open PySem PySem.Spec PyProof.Rows L2
/-! ### min(xs), the order of the items told at the states where they stand -/
section
variable {prog : Program} {w : World} {A : Around}
theorem minLoopD {R : Result → Shared → Prop} {I S l : Addr} {its : Array Value} {bt : Nat → Nat → Bool} {h0 : Heap}
    (hd : A.handled = none) (hlI : l ≠ I) (hSI : S ≠ I) (hSl : S ≠ l) (hI0 : h0.get? I = none) (hS0 : h0.get? S = none)
    (cmp : ∀ (i j : Nat) (vi vj : Value) (z : Shared), its[i]? = some vi → its[j]? = some vj → (∀ b o, h0.get? b = some o → z.heap.get? b = some o) → SeqAt.RcLt A.in1 z vi vj (bt i j)) :
    ∀ (k j : Nat) (s : Shared) (vb : Value) (c : Nat), its.size - (j + 1) = k → j + 1 ≤ its.size → s.heap.IsListIter I l (j + 1) → s.heap.IsList l its →
      (∀ b o, h0.get? b = some o → s.heap.get? b = some o) → its[argBest bt j]? = some vb → s.heap.get? S = some { cls := .type "list", data := .seq #[vb, vb] c } →
      (∀ (v : Value) (h' : Heap) (tk : Nat), its[argBest bt (its.size - 1)]? = some v → (∀ b o, h0.get? b = some o → h'.get? b = some o) →
        R (.ok (.ret v)) { heap := h', gens := s.gens, drawn := s.drawn, toks := tk, os := s.os }) →
      codeAny (model prog w) A (.builtin "min.loop" { pos := [.ref I, .none, .ref S] }) R s := by
  intro k
  induction k with
  | zero =>
    intro j s vb c hk hj hi hl keep hb hS out
    have ej : j + 1 = its.size := by omega
    refine codeAny_builtin F.entry_min_loop ?_
    rw [Around.under_plainId F.plain_min_loop]
    unfold Builtin.«min.loop»
    refine wpAny_bind ?_
    refine wpAny_seqItems hS rfl ?_
    refine wpAny_bind (wpAny_tryCatch ?_)
    have T : Walks prog w A.in1 I [I, l] [I] its.size (fun i v => its[i]? = some v) (fun i h => h.IsListIter I l i ∧ h.IsList l its) := Walks.list (by exact hd) I l hlI its
    refine T.done s _ _ ⟨ej ▸ hi, hl⟩ fun h' tk kp => ?_
    have kS : h'.get? S = some { cls := .type "list", data := .seq #[vb, vb] c } := kp S _ (by simpa using hSI) hS
    refine wpAny_bind (wpAny_updateSeq kS rfl ?_ ?_ ?_)
    · refine wpAny_bind (wpAny_letGo ?_)
      refine wpAny_pure ?_
      refine out vb _ _ (by rw [← ej]; exact hb) fun b o e => ?_
      have nI : b ≠ I := fun x => by rw [x, hI0] at e; cases e
      have nS : b ≠ S := fun x => by rw [x, hS0] at e; cases e
      exact (Heap.get?_update_other _ _ (Ne.symm nS)).trans (kp b o (by simpa using nI) (keep b o e))
    · rw [sizeLine_eq]; exact (by decide : 2 ≤ 16777216)
    · rw [sizeLine_eq]; exact (by decide : 0 ≤ 16777216 + 1)
  | succ k ih =>
    intro j s vb c hk hj hi hl keep hb hS out
    have ej : j + 1 < its.size := by omega
    refine codeAny_builtin F.entry_min_loop ?_
    rw [Around.under_plainId F.plain_min_loop]
    unfold Builtin.«min.loop»
    refine wpAny_bind ?_
    refine wpAny_seqItems hS rfl ?_
    refine wpAny_bind (wpAny_tryCatch ?_)
    have T : Walks prog w A.in1 I [I, l] [I] its.size (fun i v => its[i]? = some v) (fun i h => h.IsListIter I l i ∧ h.IsList l its) := Walks.list (by exact hd) I l hlI its
    refine T.item (j + 1) s _ _ ej ⟨hi, hl⟩ fun v h' tk hv st kp => ?_
    have kS : h'.get? S = some { cls := .type "list", data := .seq #[vb, vb] c } := kp S _ (by simpa using hSI) hS
    have keep' : ∀ b o, h0.get? b = some o → h'.get? b = some o := fun b o e => by
      have nI : b ≠ I := fun x => by rw [x, hI0] at e; cases e
      exact kp b o (by simpa using nI) (keep b o e)
    refine wpAny_bind (wpAny_pure ?_)
    refine wpAny_bind (wpAny_tryCatch (wpAny_holding (wpAny_bind ?_)))
    refine cmp (j + 1) (argBest bt j) v vb _ hv hb keep' prog w _ _ ?_
    refine wpAny_bind (wpAny_holding (wpAny_truthy_bool ?_))
    refine wpAny_bind (wpAny_letGo ?_)
    refine wpAny_pure ?_
    by_cases hbt : bt (j + 1) (argBest bt j) = true
    · rw [if_pos hbt]
      have eB : argBest bt (j + 1) = j + 1 := by show (if bt (j + 1) (argBest bt j) = true then j + 1 else argBest bt j) = j + 1; rw [if_pos hbt]
      refine wpAny_bind (wpAny_updateSeq kS rfl ?_ ?_ ?_)
      · refine wpAny_bind (wpAny_letGo ?_)
        refine wpAny_pure ⟨plainId_quiet F.plain_min_loop _, ?_⟩
        have up : ∀ b, b ≠ S → (h'.update S (Obj.mapSeq fun _ => #[v, v])).get? b = h'.get? b := fun b nb => Heap.get?_update_other _ _ (Ne.symm nb)
        refine ih (j + 1) _ v _ (by omega) (by omega) ?_ ?_ ?_ (by rw [eB]; exact hv) (get?_update_seq (c := "list") kS _) ?_
        · obtain ⟨o, e1, e2⟩ := st.1
          exact ⟨o, (up I (Ne.symm hSI)).trans e1, e2⟩
        · obtain ⟨o, e1, e2⟩ := st.2
          exact ⟨o, (up l (Ne.symm hSl)).trans e1, e2⟩
        · exact fun b o e => (up b fun x => by rw [x, hS0] at e; cases e).trans (keep' b o e)
        · exact fun v' h'' tk' hv' kp' => out v' h'' tk' hv' kp'
      · rw [sizeLine_eq]; exact (by decide : 2 ≤ 16777216)
      · rw [sizeLine_eq]; exact (by decide : 2 ≤ 16777216 + 1)
    · rw [if_neg hbt]
      have eB : argBest bt (j + 1) = argBest bt j := by show (if bt (j + 1) (argBest bt j) = true then j + 1 else argBest bt j) = argBest bt j; rw [if_neg hbt]
      refine wpAny_bind (wpAny_letGo ?_)
      refine wpAny_pure ⟨plainId_quiet F.plain_min_loop _, ?_⟩
      exact ih (j + 1) _ vb c (by omega) (by omega) st.1 st.2 keep' (by rw [eB]; exact hb) kS fun v' h'' tk' hv' kp' => out v' h'' tk' hv' kp'
theorem minFirstD {R : Result → Shared → Prop} {I S l : Addr} {its : Array Value} {bt : Nat → Nat → Bool} {h0 : Heap}
    (hd : A.handled = none) (hlI : l ≠ I) (hSI : S ≠ I) (hSl : S ≠ l) (hI0 : h0.get? I = none) (hS0 : h0.get? S = none)
    (cmp : ∀ (i j : Nat) (vi vj : Value) (z : Shared), its[i]? = some vi → its[j]? = some vj → (∀ b o, h0.get? b = some o → z.heap.get? b = some o) → SeqAt.RcLt A.in1 z vi vj (bt i j))
    (s : Shared) (c : Nat) (pos : 0 < its.size) (hi : s.heap.IsListIter I l 0) (hl : s.heap.IsList l its)
    (keep : ∀ b o, h0.get? b = some o → s.heap.get? b = some o) (hS : s.heap.get? S = some { cls := .type "list", data := .seq #[] c })
    (out : ∀ (v : Value) (h' : Heap) (tk : Nat), its[argBest bt (its.size - 1)]? = some v → (∀ b o, h0.get? b = some o → h'.get? b = some o) →
        R (.ok (.ret v)) { heap := h', gens := s.gens, drawn := s.drawn, toks := tk, os := s.os }) :
      codeAny (model prog w) A (.builtin "min.loop" { pos := [.ref I, .none, .ref S] }) R s := by
  refine codeAny_builtin F.entry_min_loop ?_
  rw [Around.under_plainId F.plain_min_loop]
  unfold Builtin.«min.loop»
  refine wpAny_bind ?_
  refine wpAny_seqItems hS rfl ?_
  refine wpAny_bind (wpAny_tryCatch ?_)
  have T : Walks prog w A.in1 I [I, l] [I] its.size (fun i v => its[i]? = some v) (fun i h => h.IsListIter I l i ∧ h.IsList l its) := Walks.list (by exact hd) I l hlI its
  refine T.item 0 s _ _ pos ⟨hi, hl⟩ fun v h' tk hv st kp => ?_
  have kS : h'.get? S = some { cls := .type "list", data := .seq #[] c } := kp S _ (by simpa using hSI) hS
  have keep' : ∀ b o, h0.get? b = some o → h'.get? b = some o := fun b o e => by
    have nI : b ≠ I := fun x => by rw [x, hI0] at e; cases e
    exact kp b o (by simpa using nI) (keep b o e)
  refine wpAny_bind (wpAny_pure ?_)
  have up : ∀ b, b ≠ S → (h'.update S (Obj.mapSeq fun _ => #[v, v])).get? b = h'.get? b := fun b nb => Heap.get?_update_other _ _ (Ne.symm nb)
  refine wpAny_bind (wpAny_updateSeq kS rfl ?_ ?_ ?_)
  · refine wpAny_pure ⟨plainId_quiet F.plain_min_loop _, ?_⟩
    refine minLoopD hd hlI hSI hSl hI0 hS0 cmp _ 0 _ v _ rfl (by omega) ?_ ?_ ?_ hv (get?_update_seq (c := "list") kS _) ?_
    · obtain ⟨o, e1, e2⟩ := st.1
      exact ⟨o, (up I (Ne.symm hSI)).trans e1, e2⟩
    · obtain ⟨o, e1, e2⟩ := st.2
      exact ⟨o, (up l (Ne.symm hSl)).trans e1, e2⟩
    · exact fun b o e => (up b fun x => by rw [x, hS0] at e; cases e).trans (keep' b o e)
    · exact fun v' h'' tk' hv' kp' => out v' h'' tk' hv' kp'
  · rw [sizeLine_eq]; exact (by decide : 0 ≤ 16777216)
  · rw [sizeLine_eq]; exact (by decide : 2 ≤ 16777216 + 1)
theorem minD {E Q : Value → Shared → Prop} {s : Shared} {l : Addr} {its : Array Value} {bt : Nat → Nat → Bool}
    (hd : A.handled = none) (hl : s.heap.IsList l its) (pos : 0 < its.size)
    (cmp : ∀ (i j : Nat) (vi vj : Value) (z : Shared), its[i]? = some vi → its[j]? = some vj → (∀ b o, s.heap.get? b = some o → z.heap.get? b = some o) → SeqAt.RcLt A.in1 z vi vj (bt i j))
    (out : ∀ (v : Value) (h' : Heap) (tk : Nat), its[argBest bt (its.size - 1)]? = some v → (∀ b o, s.heap.get? b = some o → h'.get? b = some o) →
        Q v { heap := h', gens := s.gens, drawn := s.drawn, toks := tk, os := s.os }) :
    wpAny (model prog w) A (call (.builtin "min") [.ref l]) Q E s := by
  refine call_function_tree F.kind_min F.plain_min F.entry_min (F.args_min1 _) ?_
  unfold Builtin.min
  have hls : l < s.heap.objs.size := by
    obtain ⟨o, e, _⟩ := hl
    exact Heap.lt_size e
  refine wpAny_bind (wpAny_of_eq (a := [none, none]) rfl ?_)
  refine wpAny_bind (wpAny_pure ?_)
  refine wpAny_bind (wpAny_pyIter_list hl ?_)
  refine wpAny_bind (wpAny_newList ?_ ?_)
  · refine wpAny_pure ⟨plainId_quiet F.plain_min_loop _, ?_⟩
    have hI : (s.heap.push { cls := Value.type "list_iterator", data := Data.fields #[Value.ref l, Value.int 0 0] }).get? s.heap.objs.size = some { cls := Value.type "list_iterator", data := Data.fields #[Value.ref l, Value.int 0 0] } := Heap.get?_push_size _ rfl
    have e1 : (s.heap.push { cls := Value.type "list_iterator", data := Data.fields #[Value.ref l, Value.int 0 0] }).objs.size = s.heap.objs.size + 1 := Heap.size_push ..
    refine minFirstD (h0 := s.heap) hd (Nat.ne_of_lt hls) ?_ ?_ (Heap.get?_none_of_le (Nat.le_refl _)) ?_ cmp _ 0 pos ?_ ?_ ?_ ?_ fun v h' tk hv kp => out v h' tk hv kp
    · exact fun x => absurd (e1.symm.trans x) (Nat.succ_ne_self _)
    · exact fun x => Nat.lt_irrefl l (Nat.lt_trans hls (Nat.lt_of_lt_of_eq (Nat.lt_succ_self _) (e1.symm.trans x)))
    · exact Heap.get?_none_of_le (Nat.le_of_lt (Nat.lt_of_lt_of_eq (Nat.lt_succ_self _) e1.symm))
    · exact ⟨_, Heap.get?_push_of_some _ hI, rfl, rfl⟩
    · obtain ⟨o, e, r⟩ := hl
      exact ⟨o, Heap.get?_push_of_some _ (Heap.get?_push_of_some _ e), r⟩
    · exact fun b o e => Heap.get?_push_of_some _ (Heap.get?_push_of_some _ e)
    · exact Heap.get?_push_size _ rfl
  · rw [sizeLine_eq]; exact (by decide : 0 ≤ 16777216)
end
end DLR
namespace DLR
open PySem PySem.Spec PyProof.Rows L2
/-! ### min(xs), xs a list of data of any depth -/
theorem dpAt {K : PySem.W.Frag} {H : Hp} : ∀ {xs : List V} {ds : List PyData}, DpAll K H xs ds → ∀ (i : Nat) (x : V), xs[i]? = some x → ∃ d, ds[i]? = some d ∧ Dp K H x d
  | _, _, .nil, i, x, h => by simp at h
  | _, _, .cons (d := d) h0 hr, 0, x, h => ⟨d, rfl, by simp at h; exact h ▸ h0⟩
  | _, _, .cons h0 hr, i + 1, x, h => dpAt hr i x (by simpa using h)
theorem dpLen {K : PySem.W.Frag} {H : Hp} : ∀ {xs : List V} {ds : List PyData}, DpAll K H xs ds → ds.length = xs.length
  | _, _, .nil => rfl
  | _, _, .cons _ hr => congrArg (· + 1) (dpLen hr)
theorem valsAt : ∀ {xs : List V} {us : List Value}, Vals xs us → ∀ (i : Nat) (u : Value), us[i]? = some u → ∃ x, xs[i]? = some x ∧ RelV x u
  | _, _, .nil, i, u, h => by simp at h
  | _, _, .cons h0 hr, 0, u, h => ⟨_, rfl, by simp at h; exact h ▸ h0⟩
  | _, _, .cons h0 hr, i + 1, u, h => valsAt hr i u (by simpa using h)
theorem valsLen : ∀ {xs : List V} {us : List Value}, Vals xs us → us.length = xs.length
  | _, _, .nil => rfl
  | _, _, .cons _ hr => congrArg (· + 1) (valsLen hr)
abbrev leastD (ds : List PyData) : Nat := argBest (fun i j => PySem.W.dataLt (ds.getD i .none) (ds.getD j .none)) (ds.length - 1)
def rMinD (K : PySem.W.Frag) : List V → Hp → VK → Prop := fun vs H Q => ∃ (a : Addr) (xs : List V) (ds : List PyData), vs = [V.ref a] ∧ SqL K H a xs ∧ DpAll K H xs ds ∧
  0 < xs.length ∧ (∀ d ∈ ds, d ≠ .none ∧ d.depth ≤ 60) ∧ (∀ d ∈ ds, ∀ e ∈ ds, PySem.W.alike d e = true) ∧ ∀ x, xs[leastD ds]? = some x → Q x H
theorem cr_minD {X : Cx} (hc : X.calm = true) (hu : X.A.units + 64 < cLine) : CallR X (.builtin "min") (rMinD X.K) := by
  rintro pins s σ H vs us Q I hv ⟨a, xs, ds, rfl, hl, hd, pos, fit, like, fin⟩
  obtain ⟨its, hits, pl, _⟩ := I.list hl
  rw [Vals.ref1 hv]
  have n1 : its.length = xs.length := valsLen hits
  have n2 : ds.length = xs.length := dpLen hd
  refine minD (bt := fun i j => PySem.W.dataLt (ds.getD i .none) (ds.getD j .none)) (I.ok.hd hc) pl.isList (by simpa [n1] using pos) ?_ ?_
  · intro i j vi vj z hi hj keep
    obtain ⟨x, hx, rx⟩ := valsAt hits i vi (by simpa using hi)
    obtain ⟨y, hy, ry⟩ := valsAt hits j vj (by simpa using hj)
    obtain ⟨d, ed, px⟩ := dpAt hd i x hx
    obtain ⟨e, ee, py⟩ := dpAt hd j y hy
    have J : L2.Inv X pins σ H { heap := z.heap, gens := s.gens, drawn := s.drawn, toks := s.toks, os := s.os } := I.kept keep
    obtain ⟨as, ra⟩ := Dp.reads J d x vi px rx
    obtain ⟨bs, rb⟩ := Dp.reads J e y vj py ry
    have md : d ∈ ds := List.mem_of_getElem? ed
    have me : e ∈ ds := List.mem_of_getElem? ee
    have g1 : ds.getD i .none = d := by rw [List.getD_eq_getElem?_getD, ed]; rfl
    have g2 : ds.getD j .none = e := by rw [List.getD_eq_getElem?_getD, ee]; rfl
    show SeqAt.RcLt X.A.in1 z vi vj (PySem.W.dataLt (ds.getD i .none) (ds.getD j .none))
    rw [g1, g2]
    refine PySem.W.rcLt_alike d e X.A.in1 z vi vj as bs ra rb (like d md e me) (fit d md).1 ?_
    have f1 := (fit d md).2
    have u1 : X.A.in1.units ≤ X.A.units + 1 := by first | exact Nat.le_refl _ | exact Nat.le_succ _ | (simp [Around.in1])
    omega
  · intro v h' tk hv kp
    have hv' : its[leastD ds]? = some v := by
      have : its.toArray.size - 1 = ds.length - 1 := by simp [n1, n2]
      rw [this] at hv
      rw [List.getElem?_toArray] at hv
      exact hv
    obtain ⟨x, hx, rx⟩ := valsAt hits _ v hv'
    exact ⟨x, H, I.kept kp, rx, fin x hx⟩
theorem argBest_le (bt : Nat → Nat → Bool) : ∀ n, argBest bt n ≤ n
  | 0 => Nat.le_refl _
  | n + 1 => by
    show (if bt (n + 1) (argBest bt n) = true then n + 1 else argBest bt n) ≤ n + 1
    split
    · exact Nat.le_refl _
    · exact Nat.le_succ_of_le (argBest_le bt n)
theorem argBest_key (bt : Nat → Nat → Bool) (f : Nat → Int) (m : Nat) (yes : ∀ i j, i ≤ m → j ≤ m → f i < f j → bt i j = true) (no : ∀ i j, i ≤ m → j ≤ m → bt i j = true → f i ≤ f j) :
    ∀ n, n ≤ m → ∀ j, j ≤ n → f (argBest bt n) ≤ f j
  | 0, _, j, hj => by
    have : j = 0 := Nat.le_zero.1 hj
    subst this
    exact Int.le_refl _
  | n + 1, hn, j, hj => by
    have ih := argBest_key bt f m yes no n (Nat.le_of_succ_le hn)
    have hb := argBest_le bt n
    show f (if bt (n + 1) (argBest bt n) = true then n + 1 else argBest bt n) ≤ f j
    split
    next h =>
      have h1 := no _ _ hn (by omega) h
      rcases Nat.lt_or_ge j (n + 1) with lt | ge
      · exact Int.le_trans h1 (ih j (Nat.le_of_lt_succ lt))
      · have : j = n + 1 := Nat.le_antisymm hj ge
        subst this
        exact Int.le_refl _
    next h =>
      rcases Nat.lt_or_ge j (n + 1) with lt | ge
      · exact ih j (Nat.le_of_lt_succ lt)
      · have : j = n + 1 := Nat.le_antisymm hj ge
        subst this
        refine Int.not_lt.1 fun l => h (yes _ _ hn (by omega) l)
theorem eqv_ints {x y : Int} (h : x ≠ y) : (PyData.int x).eqv (.int y) = false := by
  cases e : (PyData.int x).eqv (.int y)
  · rfl
  · exact absurd (by simpa [PyData.eqv] using e) h
theorem dataLt_first {x y : Int} (xs ys : List PyData) (h : x ≠ y) : PySem.W.dataLt (.tuple (.int x :: xs)) (.tuple (.int y :: ys)) = decide (x < y) := by
  rw [PySem.W.dataLt_tuple, PySem.W.dataLt_all_no (by rfl) (eqv_ints h), PySem.W.dataLt_int]
theorem leastD_first (ds : List PyData) (f : Nat → Int) (hf : ∀ i, i < ds.length → ∃ r, ds[i]? = some (.tuple (.int (f i) :: r))) (pos : 0 < ds.length) :
    leastD ds < ds.length ∧ ∀ j, j < ds.length → f (leastD ds) ≤ f j := by
  have at_ : ∀ i, i ≤ ds.length - 1 → ∃ r, ds.getD i .none = .tuple (.int (f i) :: r) := fun i hi => by
    obtain ⟨r, e⟩ := hf i (by omega)
    exact ⟨r, by rw [List.getD_eq_getElem?_getD, e]; rfl⟩
  refine ⟨?_, fun j hj => ?_⟩
  · have := argBest_le (fun i j => PySem.W.dataLt (ds.getD i .none) (ds.getD j .none)) (ds.length - 1)
    show argBest _ _ < _
    omega
  · refine argBest_key _ f (ds.length - 1) ?_ ?_ _ (Nat.le_refl _) j (by omega)
    · intro i k hi hk lt
      obtain ⟨r, e⟩ := at_ i hi
      obtain ⟨t, e'⟩ := at_ k hk
      simp only [e, e']
      rw [dataLt_first _ _ (Int.ne_of_lt lt)]
      exact decide_eq_true lt
    · intro i k hi hk b
      obtain ⟨r, e⟩ := at_ i hi
      obtain ⟨t, e'⟩ := at_ k hk
      simp only [e, e'] at b
      by_cases eq : f i = f k
      · exact Int.le_of_eq eq
      · rw [dataLt_first _ _ eq] at b
        exact Int.le_of_lt (of_decide_eq_true b)
end DLR
namespace DLR
open PySem PySem.Spec L2
theorem pe_frz {X : Cx} {e : Expr} {td : TE} (h : PE X e td) : PE X e (fun σ H Q => td σ H fun x H1 => ∃ d u, x = .ref d ∧ H1 d = some u ∧ Mut (some u) ∧ ∀ od : Obj, Q x (upd H1 d (.frz od u))) := by
  refine ⟨fun pins s σ H Q I ht => thn (h.run pins s σ H _ I ht) ?_⟩
  rintro v s' ⟨x, H1, I1, r, d, u, rfl, hd, mu, q⟩
  obtain ⟨od, I2⟩ := I1.lock hd mu
  exact ⟨.ref d, _, I2, r, q od⟩
theorem lc_gen {J : It} {g : TG} {tt : TT} {te : TE} {vs : List Nat} {σ : L2.St} {H1 : Hp} {D : Addr} {Qd : Hp → Prop} (n : Nat) (Pv : Nat → Hp → Prop)
    (h0 : Pv 0 (upd H1 D (HO.lst []))) (go : ∀ i H, i < n → Pv i H → J.go i H) (stop : ∀ H, Pv n H → J.stop n H)
    (step : ∀ i x H H', i < n → Pv i H → J.yld i H x H' → g x (wipe σ vs) H' fun σ2 H2 => wipe σ2 vs = wipe σ vs ∧ tt σ2 H2 fun b H3 =>
      if b = true then te σ2 H3 fun y H4 => ∃ acc, H4 D = some (HO.lst acc) ∧ acc.length < sizeLine ∧ Pv (i + 1) (upd H4 D (HO.lst (acc ++ [y]))) else Pv (i + 1) H3)
    (fin : ∀ H, Pv n H → Qd H) :
    ∃ W : Nat → Nat → Hp → Prop, (∃ m, W 0 m (upd H1 D (HO.lst []))) ∧ ∀ i m H, W i m H → J.stop i H ∧ Qd H ∨ J.go i H ∧ ∃ Nx : Hp → Prop, (∀ H', Nx H' → ∃ m', m' < m ∧ W (i + 1) m' H') ∧
      ∀ x H', J.yld i H x H' → g x (wipe σ vs) H' fun σ2 H2 => wipe σ2 vs = wipe σ vs ∧ tt σ2 H2 fun b H3 =>
        if b = true then te σ2 H3 fun y H4 => ∃ acc, H4 D = some (HO.lst acc) ∧ acc.length < sizeLine ∧ Nx (upd H4 D (HO.lst (acc ++ [y]))) else Nx H3 := by
  refine ⟨fun i m H => m = n - i ∧ i ≤ n ∧ Pv i H, ⟨n, rfl, Nat.zero_le _, h0⟩, ?_⟩
  rintro i m H ⟨rfl, hi, hp⟩
  rcases Nat.lt_or_ge i n with lt | ge
  · exact .inr ⟨go i H lt hp, Pv (i + 1), fun H' h => ⟨n - (i + 1), by omega, rfl, lt, h⟩, fun x H' hy => step i x H H' lt hp hy⟩
  · have e : i = n := Nat.le_antisymm hi ge
    subst e
    exact .inl ⟨stop H hp, fin H hp⟩
def isOf (l : List Int) : IS := l.foldl isAdd is0
theorem isOf_app (l : List Int) (c : Int) : isOf (l ++ [c]) = isAdd (isOf l) c := by
  unfold isOf
  rw [List.foldl_append]
  rfl
theorem fold_mem (j : Int) : ∀ (l : List Int) (t : IS), (l.foldl isAdd t).1 j = true ↔ t.1 j = true ∨ j ∈ l
  | [], t => by simp
  | c :: l, t => by
    rw [List.foldl_cons, fold_mem j l (isAdd t c)]
    simp [isAdd, or_assoc]
theorem isOf_mem (l : List Int) (j : Int) : (isOf l).1 j = true ↔ j ∈ l := by
  unfold isOf
  rw [fold_mem]
  simp
theorem fold_le : ∀ (l : List Int) (t : IS), (l.foldl isAdd t).2 ≤ t.2 + l.length
  | [], t => Nat.le_refl _
  | c :: l, t => by
    rw [List.foldl_cons, List.length_cons]
    refine Nat.le_trans (fold_le l (isAdd t c)) ?_
    show (if t.1 c = true then t.2 else t.2 + 1) + l.length ≤ _
    split <;> omega
theorem isOf_le (l : List Int) : (isOf l).2 ≤ l.length := by
  have q := fold_le l is0
  show (l.foldl isAdd is0).2 ≤ l.length
  have e : (is0 : IS).2 = 0 := rfl
  omega
theorem sc_list {K : PySem.W.Frag} {w : World} {a : Addr} {xs : List V} {g : TG} {tt : TT} {te : TE} {vs : List Nat} {σ : L2.St} {H1 : Hp} {D : Addr} {Qd : Hp → Prop} (Pv : Nat → Hp → Prop)
    (h0 : Pv 0 (upd H1 D (isO w D is0))) (hl : ∀ i H, i ≤ xs.length → Pv i H → SqL K H a xs)
    (step : ∀ i x H, xs[i]? = some x → Pv i H → turnI w D g tt te vs σ (Pv (i + 1)) x H)
    (fin : ∀ H, Pv xs.length H → Qd H) :
    ∃ W : Nat → Nat → Hp → Prop, (∃ m, W 0 m (upd H1 D (isO w D is0))) ∧ ∀ i m H, W i m H → (Itl K a).stop i H ∧ Qd H ∨ (Itl K a).go i H ∧ ∃ Nx : Hp → Prop, (∀ H', Nx H' → ∃ m', m' < m ∧ W (i + 1) m' H') ∧
      ∀ x H', (Itl K a).yld i H x H' → turnI w D g tt te vs σ Nx x H' := by
  refine ⟨fun i m H => m = xs.length - i ∧ i ≤ xs.length ∧ Pv i H, ⟨_, rfl, Nat.zero_le _, h0⟩, ?_⟩
  rintro i m H ⟨rfl, hi, hp⟩
  rcases Nat.lt_or_ge i xs.length with lt | ge
  · refine .inr ⟨⟨xs, xs[i], hl i H hi hp, List.getElem?_eq_getElem lt⟩, Pv (i + 1), fun H' h => ⟨xs.length - (i + 1), by omega, rfl, lt, h⟩, ?_⟩
    rintro x H' ⟨rfl, hy⟩
    exact step i x _ (hy xs (hl i _ hi hp)) hp
  · have e : i = xs.length := Nat.le_antisymm hi ge
    subst e
    exact .inl ⟨⟨xs, hl _ H hi hp, Nat.le_refl _⟩, fin H hp⟩
end DLR
namespace DLR
open PySem PySem.Spec PyProof.Rows L2 PySem.W
open DL (nI)
/-! ### sorted(xs), xs a list of tuples of whole numbers, of any lengths but 0 -/
def natsP (l : List Nat) : List PyData := (l.map fun n : Nat => (n : Int)).map .int
def encI (l : List Nat) : PyData := .tuple (natsP l)
def TupsI (H : Hp) (bs : List Addr) (L : List (List Nat)) : Prop := Paired (fun b l => H b = some (.tup (l.map nI))) bs L
theorem intsD_at {K : PySem.W.Frag} {H : Hp} : ∀ l : List Nat, DpAll K H (l.map nI) (natsP l)
  | [] => .nil
  | x :: l => .cons (.int (x : Int)) (intsD_at l)
theorem encI_at {K : PySem.W.Frag} {H : Hp} {b : Addr} {l : List Nat} (h : H b = some (.tup (l.map nI))) : Dp K H (.ref b) (encI l) := .tup (SqT.of h) (intsD_at l)
theorem encI_dep (l : List Nat) : (encI l).depth ≤ 1 := by
  unfold encI natsP
  rw [PyData.depth, depth_ints]
  decide
def sortI2 (L : List (List Nat)) : List (List Nat) := L.mergeSort (dataLe false encI)
def rSortTI (K : PySem.W.Frag) : List V → Hp → VK → Prop := fun vs H Q => ∃ (a : Addr) (bs : List Addr) (L : List (List Nat)), vs = [V.ref a] ∧ SqL K H a (bs.map V.ref) ∧ TupsI H bs L ∧ (∀ l ∈ L, l ≠ []) ∧
  ∀ (cs : List Addr) (p : Addr), H p = none → cs.length = L.length → TupsI H cs (sortI2 L) → Q (.ref p) (upd H p (.lst (cs.map V.ref)))
theorem each_tups {H : Hp} : ∀ {bs : List Addr} {L : List (List Nat)} {its : List Value}, TupsI H bs L → Vals (bs.map V.ref) its → EachIs (fun v l => ∃ b, v = Value.ref b ∧ H b = some (.tup (l.map nI))) its L
  | [], [], [], .nil, _ => .nil
  | b :: bs, l :: L, _, .cons h t, .cons r rs => .cons ⟨b, r, h⟩ (each_tups t rs)
theorem back_tups {H : Hp} : ∀ {out : List Value} {L : List (List Nat)}, EachIs (fun v l => ∃ b, v = Value.ref b ∧ H b = some (.tup (l.map nI))) out L → ∃ cs : List Addr, Vals (cs.map V.ref) out ∧ TupsI H cs L
  | _, _, .nil => ⟨[], .nil, .nil⟩
  | _, _, .cons ⟨b, e, h⟩ t => by
    obtain ⟨cs, h1, h2⟩ := back_tups t
    exact ⟨b :: cs, .cons e h1, .cons h h2⟩
theorem tups_len {H : Hp} {bs : List Addr} {L : List (List Nat)} (h : TupsI H bs L) : bs.length = L.length := Paired.length h
theorem cr_sortedTI {X : Cx} (hu : X.A.units + 64 < cLine) : CallR X (.builtin "sorted") (rSortTI X.K) := by
  intro pins s σ H vs us Q I r h
  obtain ⟨a, bs, L, rfl, hs, hT, hne, q⟩ := h
  obtain ⟨its, rv, hl, hz⟩ := I.list hs
  rw [Vals.ref1 r]
  have e := each_tups hT rv
  have hlen := tups_len hT
  rw [List.length_map] at hz
  refine sorted_data (enc := encI) (bs := L) hl.isList e (e.mono fun v l ⟨b, ev, hb⟩ => by subst ev; exact Dp.reads I _ (.ref b) _ (encI_at hb) rfl) (fun d hd d' hd' => ?_) (.inl fun d hd => ?_) (by omega) (fun l _ => ?_) fun out hlo ho => ?_
  · obtain ⟨l, _, rfl⟩ := List.mem_map.mp hd
    obtain ⟨l', _, rfl⟩ := List.mem_map.mp hd'
    exact alike_ints _ _
  · obtain ⟨l, hm, rfl⟩ := List.mem_map.mp hd
    match l, hne l hm with
    | x :: r, _ => exact ⟨_, _, rfl⟩
  · have := encI_dep l
    omega
  · obtain ⟨cs, h1, h2⟩ := back_tups ho
    obtain ⟨ep, he'⟩ := PyProof.Rows.sortedAll_at s.heap its out.toArray
    have hcl : cs.length = L.length := by
      have z := h1.length
      rw [List.length_map] at z
      omega
    refine ⟨.ref _, upd H (s.heap.objs.size + 1) (.lst (cs.map V.ref)), I.laid (t' := s.toks) (fun _ _ => PyProof.Rows.sortedAll_old) (Nat.le_succ _) ⟨?_, out, ep, h1, he'⟩, rfl, q _ _ (I.hok.fresh (Nat.le_succ _)) hcl h2⟩
    rw [List.length_map, hcl, ← hlen]
    exact hz
end DLR
namespace DLR
open PySem PySem.Spec PyProof.Rows L2
theorem op_notIn_seqK {X : Cx} (K0 : PySem.W.Frag) (hK : X.K = K0) : OpR X (compareOp .NotIn) (rIn K0 true) := hK ▸ op_notIn_seq
theorem pa_starK {X : Cx} {e : Expr} {es : List Expr} {te : TE} {t : TA} {p : Pos} (K0 : PySem.W.Frag) (hK : X.K = K0) (he : PE X e te) (hr : PA X es t) (hs : starEach (.Starred e p :: es) X.env = (true, eval e X.env) :: starEach es X.env := by rfl) : PA X (.Starred e p :: es) (StX.tStar K0 te t) := by
  subst hK
  exact StX.pa_star he hr hs
end DLR
namespace DL
open PySem PySem.Spec L2 DLR
/-! ### the loops of a program -/
structure Cg (mg : Str → Option Value) where
  tG : Tok
  mG : mg "MOST_LOOPS" = some (.int 100 tG)
structure Cs (mg : Str → Option Value) where
  tS : Tok
  mS : mg "MOST_STRETCHES" = some (.int 3000 tS)
def stepsOf (rows : List Row) (start : Nat) (s : List Nat) : List (List Nat) := ((tgt (rows.getD (s.getLastD 0) .stop)).filter fun t => decide (start < t) && decide (t ∉ s)).map fun t => s ++ [t]
def dfs (rows : List Row) (start : Nat) : Nat → List (List Nat) → List (List Nat) → Option (Nat × List (List Nat))
  | n, [], f => some (n, f)
  | 0, _ :: _, _ => none
  | n + 1, s :: st, f => dfs rows start n ((stepsOf rows start s).reverse ++ st) (if start ∈ tgt (rows.getD (s.getLastD 0) .stop) then f ++ [s] else f)
theorem dfs_nil (rows : List Row) (start n : Nat) (f : List (List Nat)) : dfs rows start n [] f = some (n, f) := by cases n <;> rfl
def dfsAll (rows : List Row) : List Nat → Nat → List (List Nat) → Option (Nat × List (List Nat))
  | [], n, f => some (n, f)
  | s :: ss, n, f => match dfs rows s n [[s]] f with
    | none => none
    | some (n', f') => dfsAll rows ss n' f'
def loopsF (rows : List Row) : Option (List (List Nat)) := match dfsAll rows (List.range rows.length) 3000 [] with
  | none => none
  | some (_, f) => if 100 < f.length then none else some (sortI2 f)
structure Str_ (N : Nat) (s : List Nat) : Prop where
  ne : s ≠ []
  nd : s.Nodup
  lt : ∀ x ∈ s, x < N
theorem sub_len {α : Type} [DecidableEq α] : ∀ {l m : List α}, l.Nodup → (∀ x ∈ l, x ∈ m) → l.length ≤ m.length
  | [], _, _, _ => Nat.zero_le _
  | x :: l, m, nd, h => by
    obtain ⟨h1, h2⟩ := List.nodup_cons.mp nd
    have q := sub_len (m := m.erase x) h2 fun y hy => (List.mem_erase_of_ne (fun e => h1 (by rw [← e]; exact hy))).mpr (h y (List.mem_cons_of_mem _ hy))
    rw [List.length_erase_of_mem (h x List.mem_cons_self)] at q
    have p := List.length_pos_of_mem (h x List.mem_cons_self)
    rw [List.length_cons]
    omega
theorem Str_.len {N : Nat} {s : List Nat} (h : Str_ N s) : s.length ≤ N := by
  have q := sub_len h.nd (m := List.range N) fun x hx => List.mem_range.mpr (h.lt x hx)
  rw [List.length_range] at q
  exact q
theorem Str_.last {N : Nat} {s : List Nat} (h : Str_ N s) : ∃ x, s[s.length - 1]? = some x ∧ s.getLastD 0 = x ∧ x < N := by
  obtain ⟨ne, nd, lt⟩ := h
  refine ⟨s.getLast ne, ?_, ?_, lt _ (List.getLast_mem ne)⟩
  · rw [← List.getLast?_eq_getElem?, List.getLast?_eq_some_getLast ne]
  · rw [List.getLastD_eq_getLast?, List.getLast?_eq_some_getLast ne]
    rfl
theorem inV_n (j : Nat) : ∀ L : List Nat, inV (nI j) (L.map nI) = decide (j ∈ L)
  | [] => rfl
  | x :: L => by
    show (eqV (nI x) (nI j) || inV (nI j) (L.map nI)) = _
    rw [inV_n j L]
    have e : eqV (nI x) (nI j) = decide (x = j) := by
      show decide ((x : Int) = (j : Int)) = _
      by_cases h : x = j
      · rw [decide_eq_true h]
        exact decide_eq_true (by omega)
      · rw [decide_eq_false h]
        exact decide_eq_false (by omega)
    rw [e]
    by_cases h : x = j
    · subst h
      simp
    · simp [h, Ne.symm h]
theorem flat_n : ∀ L : List Nat, (L.map nI).all flatV = true
  | [] => rfl
  | x :: L => flat_n L
theorem whileP {c : TT} {tb : TS} {D : Ends} {σ : L2.St} {H : Hp} (W : Nat → L2.St → Hp → Prop) (R : L2.St → Hp → Prop) (w0 : ∃ m, W m σ H) (key : ∀ σ' H', R σ' H' → D.nx σ' H')
    (turn : ∀ Nx : L2.St → Hp → Prop, (∀ σ' H', R σ' H' → Nx σ' H') → ∀ m σ H, W m σ H → c σ H fun b H1 => if b = true then ∃ N : L2.St → Hp → Prop, (∀ σ' H', N σ' H' → ∃ m', m' < m ∧ W m' σ' H') ∧ tb { D with nx := N, ct := N, bk := D.nx } σ H1 else Nx σ H1) :
    tWhile c tb D σ H := ⟨W, w0, fun m σ H w => turn D.nx key m σ H w⟩
abbrev TupsN (H : Hp) (bs : List Addr) (L : List (List Nat)) : Prop := TupsI H bs L
theorem TupsN.kp {H H' : Hp} {bs : List Addr} {L : List (List Nat)} (h : TupsN H bs L) (k : Kp H H') : TupsN H' bs L := Paired.mapP h fun b x e => k _ _ e
theorem tups_last {H : Hp} {x : List Nat} : ∀ {bs : List Addr} {L : List (List Nat)}, TupsN H bs (L ++ [x]) → ∃ b0 b, bs = b0 ++ [b] ∧ TupsN H b0 L ∧ H b = some (.tup (x.map nI))
  | _, [], .cons h .nil => ⟨[], _, rfl, .nil, h⟩
  | _, l :: L, .cons h t => by
    obtain ⟨b0, b, e, h1, h2⟩ := tups_last t
    exact ⟨_ :: b0, b, by rw [e]; rfl, .cons h h1, h2⟩
theorem dfsAll_cons (rows : List Row) (s : Nat) (ss : List Nat) (n : Nat) (f : List (List Nat)) : dfsAll rows (s :: ss) n f = match dfs rows s n [[s]] f with
    | none => none
    | some (n', f') => dfsAll rows ss n' f' := rfl
theorem Str_.at {N : Nat} {s : List Nat} (h : Str_ N s) : atI (s.map nI) (-1) = some (nI (s.getLastD 0)) ∧ s.getLastD 0 < N := by
  obtain ⟨x, h1, h2, h3⟩ := h.last
  rw [h2]
  refine ⟨?_, h3⟩
  rcases List.eq_nil_or_concat s with e | ⟨s0, y, e⟩
  · exact absurd e h.ne
  · rw [List.concat_eq_append] at e
    have hy : y = x := by
      rw [e, List.getLastD_eq_getLast?] at h2
      simpa using h2
    rw [e, List.map_append, hy]
    exact atI_last _ _
theorem tgt_ltP {r : Row} {n N : Nat} (h : r.ok n N) : ∀ t ∈ tgt r, t < N := fun t ht => by
  have ht := (tgt_mem r t).mp ht
  cases r with
  | load x m => rw [List.mem_singleton.mp ht]; exact h.2
  | add x m => rw [List.mem_singleton.mp ht]; exact h.2
  | take x m => rw [List.mem_singleton.mp ht]; exact h.2
  | store x m => rw [List.mem_singleton.mp ht]; exact h.2
  | say m => rw [List.mem_singleton.mp ht]; exact h
  | test a b =>
    rcases List.mem_cons.mp ht with e | e
    · rw [e]; exact h.1
    · rw [List.mem_singleton.mp e]; exact h.2
  | stop => cases ht
theorem in64P {k : Nat} {A : Around} (hr : Room k A) : A.units + 64 < cLine := by
  have := hr.un
  omega
theorem stepsOf_len (rows : List Row) (start : Nat) (s : List Nat) : (stepsOf rows start s).length ≤ 2 := by
  unfold stepsOf
  rw [List.length_map]
  exact Nat.le_trans (List.length_filter_le _ _) (tgt_len _)
abbrev nLoops : List Str := ["program","found","stretches","start","waiting","stretch","ahead","to"]
def spLoops (TM : Addr) : Sp := fun vs H Q E => ∃ (a : Addr) (p : Prog), vs = [.ref a] ∧ ProgAt H a p ∧ Good p ∧ (loopsF p.rows = none → ∀ H', Same1 H H' → E (.ref TM) none H') ∧
  ∀ L, loopsF p.rows = some L → (∀ s ∈ L, Str_ p.rows.length s) → L.length ≤ 100 → ∀ l bs H', Same1 H H' → H l = none → H' l = some (.lst (bs.map V.ref)) → TupsN H' bs L → Q (.ref l) H'
section
variable {P : Program} {w : World} {K : PySem.W.Frag} {mg : Str → Option Value} {base : Heap}
end
end DL
namespace DLR
open PySem PySem.Spec PyProof.Rows L2
/-! ### list(zip(a, b)), a and b tuples -/
theorem zip_no_len : typeLookup (.type "zip") "__len__" = pure none := by rw [typeLookup_type, builtinLookup_eq_fast]; kernel_rfl
theorem zip_no_hint : typeLookup (.type "zip") "__length_hint__" = pure none := by rw [typeLookup_type, builtinLookup_eq_fast]; kernel_rfl
section
variable {prog : Program} {w : World} {A : Around} {E : Value → Shared → Prop} {s : Shared} {z TI TO T i1 i2 l1 l2 : Addr} {f : Bool} {oT : Obj} {k1 k2 : Nat} {xs ys : Array Value}
theorem held_item {x y : Value} {Q : Option Value → Shared → Prop} (D : ZipApart z TI TO i1 i2 l1 l2) (hz : IsZipHeld s.heap z TI TO T f) (hT : s.heap.get? T = some oT) (hTI : IsPair s.heap TI (.ref i1) (.ref i2))
    (h1 : s.heap.IsTupleIter i1 l1 k1) (h2 : s.heap.IsTupleIter i2 l2 k2) (hl1 : s.heap.IsTuple l1 xs) (hl2 : s.heap.IsTuple l2 ys) (hx : xs[k1]? = some x) (hy : ys[k2]? = some y)
    (hQ : ∀ h', IsZipHeld h' z TI TO T true → h'.IsTupleIter i1 l1 (k1 + 1) → h'.IsTupleIter i2 l2 (k2 + 1) → IsPair h' s.heap.objs.size x y → h'.objs.size = s.heap.objs.size + 1 →
      (∀ c o, c ≠ z → c ≠ i1 → c ≠ i2 → s.heap.get? c = some o → h'.get? c = some o) → Q (some (.ref s.heap.objs.size)) { s with heap := h' }) : wpAny (model prog w) A (pyNext (.ref z)) Q E s := by
  have ty : s.TypeIs (.ref z) "zip" := ⟨_, hz, rfl⟩
  unfold pyNext
  refine wpAny_bind (wpAny_attempt (wpAny_callSpecial?_slot (name := Str.ofString "__next__") ty F.slot_zip_next (wpAny_call_entry F.slot_zip_next ty F.entry_zip_next ?_ (F.args_zip_next_1 _))))
  show wpAny _ _ (field (.ref z) 2 >>= _) _ _ _
  refine wpAny_bind (wpAny_field hz rfl (x := .bool false) rfl ?_)
  show wpAny _ _ (field (.ref z) 3 >>= _) _ _ _
  refine wpAny_bind (wpAny_field hz rfl (x := .ref TI) rfl (wpAny_bind (wpAny_seqItems hTI rfl ?_)))
  show wpAny _ _ (Builtin.SmallTypes.ownedTupleIsFree (.ref z) >>= _) _ _ _
  refine wpAny_bind (wpAny_tupleHeld_zip hz hT fun g1 z1 s1 => ?_)
  simp only [Bool.false_eq_true, if_false]
  refine wpAny_bind ?_
  rw [← Array.forIn_toList]
  simp only [List.forIn_cons, List.forIn_nil]
  refine wpAny_bind (wpAny_bind (wpAny_holding ?_))
  show wpAny _ _ (Builtin.SmallTypes.nextOf (.ref i1) >>= _) _ _ _
  refine wpAny_bind (RZ.nextOf_tuple_item (s := { s with heap := g1 }) (h1.extBut s1.extBut D.i1z) (hl1.extBut s1.extBut D.l1z) hx fun g2 a2 s2 => wpAny_pure (wpAny_pure ?_))
  refine wpAny_bind (wpAny_bind (wpAny_holding ?_))
  show wpAny _ _ (Builtin.SmallTypes.nextOf (.ref i2) >>= _) _ _ _
  refine wpAny_bind (RZ.nextOf_tuple_item (s := { s with heap := g2 }) ((h2.extBut s1.extBut D.i2z).extBut s2.extBut D.i12.symm) ((hl2.extBut s1.extBut D.l2z).extBut s2.extBut D.l2i1) hy fun g3 a3 s3 => wpAny_pure (wpAny_pure (wpAny_pure ?_)))
  show wpAny _ _ (newTuple [x, y] >>= _) _ _ _
  refine wpAny_bind (wpAny_newTuple ?_)
  have hsz : g3.objs.size = s.heap.objs.size := by rw [s3.1, s2.1, s1.1]
  have z3 : IsZipHeld g3 z TI TO T true := s3.extBut _ _ D.i2z.symm (s2.extBut _ _ D.i1z.symm z1)
  have old : ∀ c o, c ≠ z → c ≠ i1 → c ≠ i2 → s.heap.get? c = some o → g3.get? c = some o := fun c o c1 c2 c3 e => s3.extBut _ _ c3 (s2.extBut _ _ c2 (s1.extBut _ _ c1 e))
  have b3 : g3.IsTupleIter i1 l1 (k1 + 1) := a2.extBut s3.extBut D.i12
  have pr : IsPair (g3.push { cls := .type "tuple", data := .seq #[x, y] }) g3.objs.size x y := Heap.get?_push_size _ rfl
  have sz4 : (g3.push { cls := .type "tuple", data := .seq #[x, y] }).objs.size = g3.objs.size + 1 := Heap.size_push ..
  refine wpAny_pure ⟨_, rfl, wpAny_pure ?_⟩
  show Q (some (.ref g3.objs.size)) _
  rw [hsz] at pr sz4 ⊢
  exact hQ _ (Heap.get?_push_of_some _ z3) (b3.at fun o e => Heap.get?_push_of_some _ e) (a3.at fun o e => Heap.get?_push_of_some _ e) pr sz4 fun c o c1 c2 c3 e => Heap.get?_push_of_some _ (old c o c1 c2 c3 e)
theorem held_end {x : Value} {Q : Option Value → Shared → Prop} (hh : A.handled = none) (D : ZipApart z TI TO i1 i2 l1 l2) (hz : IsZipHeld s.heap z TI TO T f) (hT : s.heap.get? T = some oT) (hTI : IsPair s.heap TI (.ref i1) (.ref i2))
    (h1 : s.heap.IsTupleIter i1 l1 k1) (h2 : s.heap.IsTupleIter i2 l2 k2) (hl1 : s.heap.IsTuple l1 xs) (hl2 : s.heap.IsTuple l2 ys) (hx : xs[k1]? = some x) (hy : ys[k2]? = none)
    (hQ : ∀ h', (∀ c o, c ≠ z → c ≠ i1 → c ≠ i2 → s.heap.get? c = some o → h'.get? c = some o) → Q none { s with heap := h' }) : wpAny (model prog w) A (pyNext (.ref z)) Q E s := by
  have ty : s.TypeIs (.ref z) "zip" := ⟨_, hz, rfl⟩
  have body : ∀ (A' : Around) (Q' : Fin → Shared → Prop) (E' : Value → Shared → Prop), A'.handled = none → (∀ h' e, (∀ c o, c ≠ z → c ≠ i1 → c ≠ i2 → s.heap.get? c = some o → h'.get? c = some o) → (∃ o, h'.get? e = some o ∧ o.cls = .type "StopIteration") → E' (.ref e) { s with heap := h' }) →
      wpAny (model prog w) A' (Builtin.«zip.__next__» ⟨[.ref z], []⟩) Q' E' s := by
    intro A' Q' E' hh hE
    show wpAny _ _ (field (.ref z) 2 >>= _) _ _ _
    refine wpAny_bind (wpAny_field hz rfl (x := .bool false) rfl ?_)
    show wpAny _ _ (field (.ref z) 3 >>= _) _ _ _
    refine wpAny_bind (wpAny_field hz rfl (x := .ref TI) rfl (wpAny_bind (wpAny_seqItems hTI rfl ?_)))
    show wpAny _ _ (Builtin.SmallTypes.ownedTupleIsFree (.ref z) >>= _) _ _ _
    refine wpAny_bind (wpAny_tupleHeld_zip hz hT fun g1 z1 s1 => ?_)
    simp only [Bool.false_eq_true, if_false]
    refine wpAny_bind ?_
    rw [← Array.forIn_toList]
    simp only [List.forIn_cons, List.forIn_nil]
    refine wpAny_bind (wpAny_bind (wpAny_holding ?_))
    show wpAny _ _ (Builtin.SmallTypes.nextOf (.ref i1) >>= _) _ _ _
    refine wpAny_bind (RZ.nextOf_tuple_item (s := { s with heap := g1 }) (h1.extBut s1.extBut D.i1z) (hl1.extBut s1.extBut D.l1z) hx fun g2 a2 s2 => wpAny_pure (wpAny_pure ?_))
    refine wpAny_bind (wpAny_bind (wpAny_holding ?_))
    show wpAny _ _ (Builtin.SmallTypes.nextOf (.ref i2) >>= _) _ _ _
    refine wpAny_bind (RZ.nextOf_tuple_end (s := { s with heap := g2 }) hh ((h2.extBut s1.extBut D.i2z).extBut s2.extBut D.i12.symm) ((hl2.extBut s1.extBut D.l2z).extBut s2.extBut D.l2i1) hy fun g3 e s3 he => ?_)
    exact hE g3 e (fun c o c1 c2 c3 q => s3 _ _ c3 (s2.extBut _ _ c2 (s1.extBut _ _ c1 q))) he
  unfold pyNext
  refine wpAny_bind (wpAny_attempt (wpAny_callSpecial?_slot (name := Str.ofString "__next__") ty F.slot_zip_next (wpAny_call_entry F.slot_zip_next ty F.entry_zip_next (body _ _ _ hh fun h' e hk he => ?_) (F.args_zip_next_1 _))))
  obtain ⟨o, ho, hc⟩ := he
  refine wpAny_bind (wpAny_isInstance (T := "StopIteration") (b := true) ⟨o, ho, hc⟩ isSubtype_stop ?_)
  exact wpAny_pure (hQ _ hk)
end
end DLR
namespace DLR
open PySem PySem.Spec PyProof.Rows L2
structure ZwAt (S z TI TO i1 i2 l1 l2 : Addr) (i : Nat) (h : Heap) : Prop where
  zf : (i = 0 ∧ IsZip h z TI TO .none) ∨ (∃ T f oT, IsZipHeld h z TI TO T f ∧ h.get? T = some oT ∧ T ≠ z ∧ T ≠ i1 ∧ T ≠ i2 ∧ T ≠ S)
  ti : IsPair h TI (.ref i1) (.ref i2)
  to : ∃ a b, IsPair h TO a b
  u1 : h.IsTupleIter i1 l1 i
  u2 : h.IsTupleIter i2 l2 i
theorem ZwAt.keep {S z TI TO i1 i2 l1 l2 : Addr} {i : Nat} {h h' : Heap} (st : ZwAt S z TI TO i1 i2 l1 l2 i h) (n : ∀ c ∈ [z, TI, TO, i1, i2], c ≠ S) (k : ∀ b o, b ≠ S → h.get? b = some o → h'.get? b = some o) : ZwAt S z TI TO i1 i2 l1 l2 i h' := by
  obtain ⟨zf, ti, ⟨a, b, to⟩, u1, u2⟩ := st
  refine ⟨?_, k _ _ (n _ (by simp)) ti, ⟨a, b, k _ _ (n _ (by simp)) to⟩, u1.at fun o e => k _ o (n _ (by simp)) e, u2.at fun o e => k _ o (n _ (by simp)) e⟩
  rcases zf with ⟨e, hz⟩ | ⟨T, f, oT, hz, hT, n1, n2, n3, n4⟩
  · exact .inl ⟨e, k _ _ (n _ (by simp)) hz⟩
  · exact .inr ⟨T, f, oT, k _ _ (n _ (by simp)) hz, k _ _ n4 hT, n1, n2, n3, n4⟩
abbrev PrAt (H : Hp) (ts : List Addr) (qs : List (V × V)) : Prop := Paired (fun t (q : V × V) => H t = some (.tup [q.1, q.2])) ts qs
theorem zip_loop {X : Cx} {A : Around} {R : Result → Shared → Prop} {pins : List (Addr × Obj)} {σ : L2.St} {S z TI TO i1 i2 a b : Addr} {res : Value} {H0 : Hp} {xs ys : List V} (hh : A.handled = none) (D : ZipApart z TI TO i1 i2 a b)
    (hA : H0 a = some (.tup xs)) (hB : H0 b = some (.tup ys)) (hl : ys.length < xs.length) (h1000 : ys.length ≤ 1000) (hS0 : H0 S = none)
    (out : ∀ (s' : Shared) (H' : Hp) (ts : List Addr), Inv X pins σ H' s' → H' S = some (.lst (ts.map V.ref)) → PrAt H' ts (xs.zip ys) → (∀ c o, H0 c = some o → H' c = some o) → R (.ok (.ret res)) s') :
    ∀ (k i : Nat) (s : Shared) (H : Hp) (acc : List Addr), ys.length - i = k → i ≤ ys.length → Inv X pins σ H s → ZwAt S z TI TO i1 i2 a b i s.heap → (∀ c ∈ [z, TI, TO, i1, i2], FpOk X pins H c) →
      H S = some (.lst (acc.map V.ref)) → PrAt H acc ((xs.zip ys).take i) → (∀ c o, H0 c = some o → H c = some o) → codeAny (model X.prog X.w) A (.builtin "list.extend.loop" ⟨[.ref S, .ref z, res], []⟩) R s := by
  intro k
  have zl : (xs.zip ys).length = ys.length := by rw [List.length_zip]; omega
  induction k with
  | zero =>
    intro i s H acc hk hi I st hf hS hP hkp
    have ei : i = ys.length := by omega
    subst ei
    refine codeAny_builtin F.entry_extend_loop ?_
    rw [Around.under_plainId F.plain_extend_loop _]
    show wpAny _ A.in1 (pyNext (.ref z) >>= _) _ _ s
    obtain ⟨its, rv, p, _⟩ := I.tuple (SqT.of (hkp _ _ hA))
    obtain ⟨jts, rw', p', _⟩ := I.tuple (SqT.of (hkp _ _ hB))
    have l1 := rv.length
    have l2 := rw'.length
    have hy : jts.toArray[ys.length]? = none := by simp; omega
    have hx : ys.length < its.length := by omega
    have hP' : PrAt H acc (xs.zip ys) := by rw [List.take_of_length_le (by omega)] at hP; exact hP
    have fin : ∀ h' : Heap, (∀ c o, c ≠ z → c ≠ TO → c ≠ i1 → c ≠ i2 → s.heap.get? c = some o → h'.get? c = some o) → R (.ok (.ret res)) { s with heap := h' } := fun h' kp =>
      out _ H acc (I.turnedL (t' := s.toks) (ch := [z, TI, TO, i1, i2]) (fun c o hb q => kp c o (fun e => hb (by simp [e])) (fun e => hb (by simp [e])) (fun e => hb (by simp [e])) (fun e => hb (by simp [e])) q) hf) hS hP' hkp
    refine wpAny_bind ?_
    obtain ⟨x0, y0, hTO⟩ := st.to
    rcases st.zf with ⟨e0, hz⟩ | ⟨T, f, oT, hz, hT, n1, n2, n3, n4⟩
    · exact RZ.pyNext_zipT_end (by exact hh) D hz st.ti hTO st.u1 st.u2 p p' (.inr hy) fun h' kp => wpAny_pure (fin h' kp)
    · exact held_end (x := its[ys.length]) (by exact hh) D hz hT st.ti st.u1 st.u2 p p' (by simp [List.getElem?_eq_getElem hx]) hy fun h' kp => wpAny_pure (fin h' fun c o c1 _ c3 c4 q => kp c o c1 c3 c4 q)
  | succ k ih =>
    intro i s H acc hk hi I st hf hS hP hkp
    have hlt : i < ys.length := by omega
    refine codeAny_builtin F.entry_extend_loop ?_
    rw [Around.under_plainId F.plain_extend_loop _]
    show wpAny _ A.in1 (pyNext (.ref z) >>= _) _ _ s
    obtain ⟨its, rv, p, _⟩ := I.tuple (SqT.of (hkp _ _ hA))
    obtain ⟨jts, rw', p', _⟩ := I.tuple (SqT.of (hkp _ _ hB))
    have l1 := rv.length
    have l2 := rw'.length
    have hxi : xs[i]? = some (xs[i]'(by omega)) := List.getElem?_eq_getElem _
    have hyi : ys[i]? = some (ys[i]'hlt) := List.getElem?_eq_getElem _
    generalize xs[i]'(by omega) = x at hxi
    generalize ys[i]'hlt = y at hyi
    obtain ⟨u, hu, ru⟩ := rv.get hxi
    obtain ⟨v, hv, rv'⟩ := rw'.get hyi
    have hal := Paired.length hP
    rw [List.length_take, zl] at hal
    have hSn : ∀ c ∈ [z, TI, TO, i1, i2], c ≠ S := fun c hc e => by
      have q := (hf c hc).1
      rw [e, hS] at q
      cases q
    have hlow : ∀ c ∈ [z, TI, TO, i1, i2], c < s.heap.objs.size := fun c hc => by
      have e' : c = z ∨ c = TI ∨ c = TO ∨ c = i1 ∨ c = i2 := by simpa using hc
      have zz : z < s.heap.objs.size := by
        rcases st.zf with ⟨_, hz⟩ | ⟨T, f, oT, hz, _⟩
        · exact Heap.lt_size hz
        · exact Heap.lt_size hz
      rcases e' with q | q | q | q | q
      · rw [q]; exact zz
      · rw [q]; exact Heap.lt_size st.ti
      · rw [q]
        obtain ⟨_, _, e1⟩ := st.to
        exact Heap.lt_size e1
      · rw [q]; obtain ⟨_, e1, _⟩ := st.u1; exact Heap.lt_size e1
      · rw [q]; obtain ⟨_, e1, _⟩ := st.u2; exact Heap.lt_size e1
    have hTn : H s.heap.objs.size = none := I.hok.fresh (Nat.le_refl _)
    have hSs : S ≠ s.heap.objs.size := fun e => by rw [e, hTn] at hS; cases hS
    refine wpAny_bind ?_
    have next : ∀ (h' : Heap) (T' : Addr) (f' : Bool) (oT' : Obj), IsZipHeld h' z TI TO T' f' → (∃ a b, IsPair h' TO a b) → h'.get? T' = some oT' → T' ≠ z → T' ≠ i1 → T' ≠ i2 → T' ≠ S → h'.IsTupleIter i1 a (i + 1) → h'.IsTupleIter i2 b (i + 1) → IsPair h' s.heap.objs.size u v →
        (∀ c o, c ≠ z → c ≠ TO → c ≠ i1 → c ≠ i2 → s.heap.get? c = some o → h'.get? c = some o) →
        wpAny (model X.prog X.w) A.in1 (updateSeq S (·.push (.ref s.heap.objs.size)) >>= fun _ => again (.builtin "list.extend.loop" ⟨[.ref S, .ref z, res], []⟩))
          (fun fin s' => match fin with | .done f => R (.ok f) s' | .again c' => c'.quiet = true ∧ codeAny (model X.prog X.w) A c' R s') (fun e s' => R (.error e) s') { s with heap := h' } := by
      intro h' T' f' oT' hz' to' hT' m1 m2 m3 m4 w1 w2 pr kp
      have new : ObjOk X.prog X.w (upd H s.heap.objs.size (.tup [x, y])) h' s.heap.objs.size (.tup [x, y]) := ⟨by show 2 ≤ sizeLine; decide, [u, v], .cons ru (.cons rv' .nil), ⟨_, pr, rfl, _, rfl⟩⟩
      have I1 : Inv X pins σ (upd H s.heap.objs.size (.tup [x, y])) { s with heap := h' } :=
        I.turnedNew (t' := s.toks) (ch := [z, TI, TO, i1, i2]) (fun c o hb q => kp c o (fun e => hb (by simp [e])) (fun e => hb (by simp [e])) (fun e => hb (by simp [e])) (fun e => hb (by simp [e])) q) hf (Nat.le_refl _) new
      have hS1 : (upd H s.heap.objs.size (.tup [x, y])) S = some (.lst (acc.map V.ref)) := (upd_ne hSs).trans hS
      obtain ⟨_, kts, n, r, hkl, e⟩ := I1.lstM hS1
      rw [List.length_map] at hkl
      have I2 := I1.lset (t' := s.toks) (f := (·.push (.ref s.heap.objs.size))) (its' := kts ++ [.ref s.heap.objs.size]) (ys := acc.map V.ref ++ [V.ref s.heap.objs.size]) hS1 e (by simp) (r.append (.cons (show RelV (V.ref s.heap.objs.size) (Value.ref s.heap.objs.size) from rfl) .nil)) (by rw [List.length_append, List.length_map, sizeLine_eq]; show acc.length + 1 ≤ _; omega)
      refine wpAny_bind (wpAny_updateSeq e rfl (wpAny_pure ⟨plainId_quiet F.plain_extend_loop _, ih (i + 1) _ _ (acc ++ [s.heap.objs.size]) (by omega) hlt I2 ?_ ?_ ?_ ?_ ?_⟩) (by rw [List.size_toArray, sizeLine_eq]; omega) (by rw [Array.size_push, List.size_toArray, sizeLine_eq]; omega))
      · exact ZwAt.keep ⟨.inr ⟨T', f', oT', hz', hT', m1, m2, m3, m4⟩, kp _ _ D.TIz D.TITO D.TIi1 D.TIi2 st.ti, to', w1, w2⟩ hSn fun c o hb q => (Heap.get?_update_other _ _ (Ne.symm hb)).trans q
      · intro c hc
        exact ⟨(upd_ne (hSn c hc)).trans ((upd_ne (Nat.ne_of_lt (hlow c hc))).trans (hf c hc).1), (hf c hc).2⟩
      · rw [upd_same, List.map_append]; rfl
      · rw [List.take_add_one, show (xs.zip ys)[i]? = some (x, y) from List.getElem?_zip_eq_some.mpr ⟨hxi, hyi⟩]
        refine DL.Paired.app (Paired.mapP hP fun t q e => ?_) (.cons ?_ .nil)
        · have n1 : t ≠ S := fun z => by rw [z, hS] at e; cases e
          have n2 : t ≠ s.heap.objs.size := fun z => by rw [z, hTn] at e; cases e
          exact (upd_ne n1).trans ((upd_ne n2).trans e)
        · exact (upd_ne hSs.symm).trans upd_same
      · intro c o hc
        have n1 : c ≠ S := fun e => by rw [e, hS0] at hc; cases hc
        have n2 : c ≠ s.heap.objs.size := fun e => by
          have q := hkp c o hc
          rw [e, hTn] at q
          cases q
        exact (upd_ne n1).trans ((upd_ne n2).trans (hkp c o hc))
    obtain ⟨x0, y0, hTO⟩ := st.to
    rcases st.zf with ⟨e0, hz⟩ | ⟨T, f, oT, hz, hT, n1, n2, n3, n4⟩
    · refine RZ.pyNext_zipT_item D hz st.ti hTO st.u1 st.u2 p p' (x := u) (y := v) (by simpa using hu) (by simpa using hv) fun h' z' TO' h1' h2' pr hsz kp => ?_
      exact next h' s.heap.objs.size false _ z' ⟨_, _, TO'⟩ pr (Nat.ne_of_gt (hlow z (by simp))) (Nat.ne_of_gt (hlow i1 (by simp))) (Nat.ne_of_gt (hlow i2 (by simp))) hSs.symm h1' h2' pr kp
    · refine held_item D hz hT st.ti st.u1 st.u2 p p' (x := u) (y := v) (by simpa using hu) (by simpa using hv) fun h' z' h1' h2' pr hsz kp => ?_
      exact next h' T true oT z' ⟨_, _, kp _ _ D.TOz D.TOi1 D.TOi2 hTO⟩ (kp _ _ n1 n2 n3 hT) n1 n2 n3 n4 h1' h2' pr fun c o c1 _ c3 c4 q => kp c o c1 c3 c4 q
theorem init_zip {X : Cx} {A : Around} {R : Result → Shared → Prop} {pins : List (Addr × Obj)} {σ : L2.St} {S z TI TO i1 i2 a b : Addr} {H0 H : Hp} {xs ys : List V} {s : Shared} (hh : A.handled = none) (D : ZipApart z TI TO i1 i2 a b)
    (hA : H0 a = some (.tup xs)) (hB : H0 b = some (.tup ys)) (hl : ys.length < xs.length) (h1000 : ys.length ≤ 1000) (hS0 : H0 S = none) (I : Inv X pins σ H s) (st : ZwAt S z TI TO i1 i2 a b 0 s.heap) (hf : ∀ c ∈ [z, TI, TO, i1, i2], FpOk X pins H c)
    (hS : H S = some (.lst [])) (hkp : ∀ c o, H0 c = some o → H c = some o) (hz : IsZip s.heap z TI TO .none)
    (out : ∀ (s' : Shared) (H' : Hp) (ts : List Addr), Inv X pins σ H' s' → H' S = some (.lst (ts.map V.ref)) → PrAt H' ts (xs.zip ys) → (∀ c o, H0 c = some o → H' c = some o) → R (.ok (.ret .none)) s') :
    wpAny (model X.prog X.w) A.in1 (Builtin.«list.__init__» ⟨[.ref S, .ref z], []⟩)
      (fun fin s' => match fin with | .done f => R (.ok f) s' | .again c' => c'.quiet = true ∧ codeAny (model X.prog X.w) A c' R s') (fun e s' => R (.error e) s') s := by
  have hSn : ∀ c ∈ [z, TI, TO, i1, i2], c ≠ S := fun c hc e => by
    have q := (hf c hc).1
    rw [e, hS] at q
    cases q
  have hSz : S ≠ z := (hSn z (by simp)).symm
  obtain ⟨_, its, n, r, hl0, e0⟩ := I.lstM hS
  cases r
  show wpAny _ A.in1 (do let old ← Builtin.List.listItems (.ref S); Builtin.List.listUpdate (.ref S) (fun _ => #[]); letGo old.toList.reverse; Builtin.List.listExtendWith (.ref S) (.ref z) .none) _ _ s
  refine wpAny_bind ?_
  unfold Builtin.List.listItems
  refine wpAny_bind (wpAny_seqItems e0 rfl (wpAny_pure ?_))
  show wpAny _ A.in1 (updateSeq S (fun _ => #[]) >>= fun _ => letGo (#[] : Array Value).toList.reverse >>= fun _ => Builtin.List.listExtendWith (.ref S) (.ref z) .none) _ _ s
  refine wpAny_bind (wpAny_updateSeq e0 rfl ?_)
  have e1 := Heap.get?_update_self (Obj.mapSeq (fun _ => (#[] : Array Value))) e0 rfl
  have k1 : ∀ b o, b ≠ S → s.heap.get? b = some o → (s.heap.update S (Obj.mapSeq (fun _ => (#[] : Array Value)))).get? b = some o := fun b o hb q => (Heap.get?_update_other _ _ (Ne.symm hb)).trans q
  refine wpAny_bind (wpAny_letGo ?_)
  generalize s.heap.update S (Obj.mapSeq (fun _ => (#[] : Array Value))) = h1 at e1 k1
  have ty : (Shared.mk h1 s.gens s.drawn s.toks s.os).TypeIs (.ref z) "zip" := ⟨_, k1 _ _ hSz.symm hz, rfl⟩
  unfold Builtin.List.listExtendWith
  refine wpAny_bind (wpAny_typeOf ty ?_)
  have g1 : Builtin.List.listSameRef (.ref S) (.ref z) = false := by simp [Builtin.List.listSameRef, hSz]
  have g2 : (Value.type "zip" == Value.type "list") = false := by decide
  have g3 : (Value.type "zip" == Value.type "tuple") = false := by decide
  simp only [g1, g2, g3, Bool.or_false, Bool.false_eq_true, if_false]
  refine wpAny_bind (wpAny_pyIter_zip (k1 _ _ hSz.symm hz) ?_)
  refine wpAny_bind (wpAny_holding ?_)
  unfold Builtin.List.listLengthHint
  refine wpAny_bind (wpAny_specialOf ty zip_no_len ?_)
  show wpAny _ A.in1 (specialOf (Value.ref z) (Str.ofString "__length_hint__") >>= _) _ _ _
  refine wpAny_bind (wpAny_specialOf ty zip_no_hint ?_)
  refine wpAny_pure ?_
  show wpAny _ A.in1 (rule "list.extend.makes-room" >>= fun _ => Builtin.List.listTouch (.ref S) >>= fun _ => again (.builtin "list.extend.loop" ⟨[.ref S, .ref z, .none], []⟩)) _ _ _
  refine wpAny_bind (wpAny_rule (wpAny_bind ?_))
  show wpAny _ A.in1 (updateSeq S (·.push .none) >>= fun _ => updateSeq S (·.pop)) _ _ _
  refine wpAny_bind (wpAny_updateSeq e1 rfl ?_)
  have e2 := Heap.get?_update_self (Obj.mapSeq (·.push Value.none)) e1 rfl
  refine wpAny_updateSeq (hz := by seq_fits) e2 rfl ?_
  have e3 := Heap.get?_update_self (Obj.mapSeq (·.pop)) e2 rfl
  have k3 : ∀ b o, b ≠ S → s.heap.get? b = some o → ((h1.update S (Obj.mapSeq (·.push Value.none))).update S (Obj.mapSeq (·.pop))).get? b = some o := fun b o hb q => (Heap.get?_update_other _ _ (Ne.symm hb)).trans ((Heap.get?_update_other _ _ (Ne.symm hb)).trans (k1 b o hb q))
  generalize (h1.update S (Obj.mapSeq (·.push Value.none))).update S (Obj.mapSeq (·.pop)) = h3 at e3 k3
  have I3 : Inv X pins σ (upd H S (.lst [])) { s with heap := h3, toks := s.toks } := I.write (x := S) (e := S) (by rw [hS]; exact trivial) (.inl rfl) k3 ⟨_, e3⟩ ⟨Nat.zero_le _, [], _, .nil, e3⟩
  exact wpAny_pure ⟨plainId_quiet F.plain_extend_loop _, zip_loop hh D hA hB hl h1000 hS0 out _ 0 _ _ [] rfl (Nat.zero_le _) I3 (st.keep hSn k3) (fun c hc => ⟨(upd_ne (hSn c hc)).trans (hf c hc).1, (hf c hc).2⟩) upd_same .nil fun c o hc => (upd_ne fun z => by rw [z, hS0] at hc; cases hc).trans (hkp c o hc)⟩
def tLZ (ta : TA) : TE := fun σ H Q => ta σ H fun vs H1 => ∃ (a b : Addr) (xs ys : List V), vs = [.ref a, .ref b] ∧ H1 a = some (.tup xs) ∧ H1 b = some (.tup ys) ∧ ys.length < xs.length ∧ ys.length ≤ 1000 ∧
  ∀ (q : Addr) (ts : List Addr) (H2 : Hp), (∀ c o, H1 c = some o → H2 c = some o) → H1 q = none → H2 q = some (.lst (ts.map V.ref)) → PrAt H2 ts (xs.zip ys) → Q (.ref q) H2
theorem pe_listZip {X : Cx} {e e2 : Expr} {ta : TA} {p p2 q pos : Pos} (hc : X.calm = true) (hg : Gl X "list") (hm : X.mg "list" = none) (hg2 : Gl X "zip") (hm2 : X.mg "zip" = none) (ha : PA X [e, e2] ta)
    (hs : starEach [e, e2] X.env = (false, eval e X.env) :: starEach [e2] X.env := by rfl) (hpl : (backTo q (starEach [e2] X.env)).any (·.1) = false := by rfl)
    (na : starEach [Expr.Call (.Name "zip" p2) [e, e2] [] q] X.env = (false, eval (.Call (.Name "zip" p2) [e, e2] [] q) X.env) :: starEach [] X.env := by rfl) :
    PE X (.Call (.Name "list" p) [.Call (.Name "zip" p2) [e, e2] [] q] [] pos) (tLZ ta) := by
  refine ⟨fun pins s σ H Q I h => ?_⟩
  refine Call_ (ld_blt I hg hm boot_list ?_)
  refine PyProof.Rows.callWith_type1 (PyProof.Rows.args_cons ?_ na) na rfl
  refine Call_ (ld_blt I hg2 hm2 PyProof.Rows.boot_zip (PyProof.Rows.callWith_type1 (thn (ha.run q pins s σ H _ I h) fun us s1 ⟨vs, H1, I1, r1, q1⟩ => ?_) hs hpl))
  obtain ⟨a, b, xs, ys, ex, hA, hB, hl, h1000, qq⟩ := q1
  subst ex
  cases r1 with
  | cons r rr =>
    cases rr with
    | cons r' rr =>
      cases rr
      cases r
      cases r'
      obtain ⟨its, rv, p1, _⟩ := I1.tuple (SqT.of hA)
      obtain ⟨jts, rw', p2', _⟩ := I1.tuple (SqT.of hB)
      obtain ⟨o1, ho1, _⟩ := id p1
      obtain ⟨o2, ho2, _⟩ := id p2'
      refine RZ.call_zipT (show s1.heap.IsTuple a its.toArray from p1) (show s1.heap.IsTuple b jts.toArray from p2') fun h' hz hTI hTO h1 h2 hsz hk => PyProof.Rows.args_nil ?_
      have hlow := Heap.lt_size hz
      have I2 : Inv X pins σ H1 { s1 with heap := h', toks := s1.toks } := I1.kept (t' := s1.toks) hk
      have I3 := I2.lnew (t' := s1.toks) (ys := []) (its := []) .nil (Nat.zero_le _)
      have hS : (h'.push { cls := .type "list", data := .seq #[] }).get? h'.objs.size = some { cls := .type "list", data := .seq #[] } := Heap.get?_push_size _ rfl
      have fr : H1 h'.objs.size = none := I2.hok.fresh (Nat.le_refl _)
      have up : ∀ c o, h'.get? c = some o → (h'.push { cls := .type "list", data := .seq #[] }).get? c = some o := fun c o e => Heap.get?_push_of_some _ e
      have five : ∀ c ∈ [s1.heap.objs.size + 4, s1.heap.objs.size + 2, s1.heap.objs.size + 3, s1.heap.objs.size, s1.heap.objs.size + 1], s1.heap.objs.size ≤ c ∧ c < h'.objs.size := fun c hc => by
        have e' : c = s1.heap.objs.size + 4 ∨ c = s1.heap.objs.size + 2 ∨ c = s1.heap.objs.size + 3 ∨ c = s1.heap.objs.size ∨ c = s1.heap.objs.size + 1 := by simpa using hc
        have hsz : h'.objs.size = s1.heap.objs.size + 5 := hsz
        rw [hsz]
        rcases e' with e | e | e | e | e <;> rw [e]
        · exact ⟨Nat.le_add_right _ _, Nat.lt_succ_self _⟩
        · exact ⟨Nat.le_add_right _ _, Nat.add_lt_add_left (by decide) _⟩
        · exact ⟨Nat.le_add_right _ _, Nat.add_lt_add_left (by decide) _⟩
        · exact ⟨Nat.le_refl _, Nat.lt_add_of_pos_right (by decide)⟩
        · exact ⟨Nat.le_add_right _ _, Nat.add_lt_add_left (by decide) _⟩
      refine callType_codes (Q₁ := fun obj s₁ => obj = .ref h'.objs.size ∧ s₁ = { s1 with heap := h'.push { cls := .type "list", data := .seq #[] } }) F.called_list (F.typeCall_list_1 _) F.entry_list_init (code_list_new _ ⟨rfl, rfl⟩) fun obj s₁ h₁ => ?_
      obtain ⟨rfl, rfl⟩ := h₁
      refine ⟨⟨_, hS, rfl⟩, F.args_list_init_2 _ _, init_zip (X := X) (A := X.A.in1) (H0 := H1) (H := upd H1 h'.objs.size (.lst [])) (by exact I1.ok.hd hc) (PySem.W.ktu_apart s1.heap.objs.size a b (Heap.lt_size ho1) (Heap.lt_size ho2)) hA hB hl h1000 fr I3 ⟨.inl ⟨rfl, up _ _ hz⟩, up _ _ hTI, ⟨_, _, up _ _ hTO⟩, h1.at fun o e => up _ o e, h2.at fun o e => up _ o e⟩ (fun c hcm => ?_) upd_same (fun c o e => (upd_ne fun z => by rw [z, fr] at e; cases e).trans e) (up _ _ hz) fun s' H' ts I' hS' hP' hk' => ?_⟩
      · obtain ⟨q1, q2⟩ := five c hcm
        obtain ⟨f1, f2⟩ := I1.fpOk (H' := H1) q1 (I1.hok.fresh q1)
        exact ⟨(upd_ne (Nat.ne_of_lt q2)).trans f1, f2⟩
      · exact ⟨rfl, .ref h'.objs.size, H', I', rfl, qq _ ts H' hk' fr hS' hP'⟩
end DLR
namespace DLR
open PySem PySem.Spec L2
theorem lc_zipT {K : PySem.W.Frag} {a b : Addr} {xs ys : List V} {g : TG} {tt : TT} {te : TE} {vs : List Nat} {σ : L2.St} {H1 : Hp} {D : Addr} {Qd : Hp → Prop} (hxy : ys.length ≤ xs.length) (Pv : Nat → Hp → Prop) (h0 : Pv 0 (upd H1 D (.lst [])))
    (hl : ∀ i H, i ≤ ys.length → Pv i H → SqT K H a xs ∧ SqT K H b ys)
    (hs : ∀ i x y T H H', xs[i]? = some x → ys[i]? = some y → Pv i H → H T = none → H' = upd H T (.tup [x, y]) → g (.ref T) (wipe σ vs) H' fun σ2 H2 => wipe σ2 vs = wipe σ vs ∧ tt σ2 H2 fun b H3 =>
      if b = true then te σ2 H3 fun y H4 => ∃ acc, H4 D = some (.lst acc) ∧ acc.length < sizeLine ∧ Pv (i + 1) (upd H4 D (.lst (acc ++ [y]))) else Pv (i + 1) H3) (hd : ∀ H, Pv ys.length H → Qd H) :
    ∃ W : Nat → Nat → Hp → Prop, (∃ m, W 0 m (upd H1 D (.lst []))) ∧ ∀ i m H, W i m H →
      ((RZ.ItzT K a b).stop i H ∧ Qd H) ∨ ((RZ.ItzT K a b).go i H ∧ ∃ Nx : Hp → Prop, (∀ H', Nx H' → ∃ m', m' < m ∧ W (i + 1) m' H') ∧ ∀ x H', (RZ.ItzT K a b).yld i H x H' → g x (wipe σ vs) H' fun σ2 H2 => wipe σ2 vs = wipe σ vs ∧ tt σ2 H2 fun b H3 =>
        if b = true then te σ2 H3 fun y H4 => ∃ acc, H4 D = some (.lst acc) ∧ acc.length < sizeLine ∧ Nx (upd H4 D (.lst (acc ++ [y]))) else Nx H3) := by
  refine ⟨fun i m H => m = ys.length - i ∧ i ≤ ys.length ∧ Pv i H, ⟨ys.length, by simp, Nat.zero_le _, h0⟩, ?_⟩
  rintro i m H ⟨rfl, hi, p⟩
  obtain ⟨q, q'⟩ := hl i H hi p
  by_cases hlt : i < ys.length
  · have hlt2 : i < xs.length := by omega
    have gx := List.getElem?_eq_getElem hlt2
    have gy := List.getElem?_eq_getElem hlt
    refine .inr ⟨⟨xs, ys, xs[i], ys[i], q, q', gx, gy⟩, Pv (i + 1), fun H' p' => ⟨ys.length - (i + 1), by omega, rfl, hlt, p'⟩, fun x H' y => ?_⟩
    obtain ⟨T, u, v, rfl, hT, rfl, hu, hv⟩ := y
    exact hs i u v T H _ (hu xs q) (hv ys q') p hT rfl
  · have e : i = ys.length := by omega
    subst e
    exact .inl ⟨⟨xs, ys, q, q', .inr (Nat.le_refl _)⟩, hd H p⟩
end DLR
namespace DL
open PySem PySem.Spec L2 DLR
/-! ### the least beats of a way -/
def pairsF (w : List Nat) : List (Nat × Nat) := w.zip (w.drop 1)
def halvesF (w : List Nat) : List (List Nat) := (pairsF w).map (fun q => [q.1, q.2]) ++ (w.drop 1).map fun x => [x]
def leastHalfF (rows : List Row) (l : List Nat) : Int := if l.length = 1 then 1 else (if (rows.getD (l.headD 0) .stop).uses = true then 1 else 0) + work (rows.getD (l.headD 0) .stop)
def leastF (rows : List Row) (w : List Nat) : Int := ((halvesF w).map (leastHalfF rows)).sum
theorem prAt_tups {H : Hp} : ∀ {w v : List Nat} {ts : List Addr}, PrAt H ts ((w.map nI).zip (v.map nI)) → TupsN H ts ((w.zip v).map fun q => [q.1, q.2])
  | [], _, [], .nil => .nil
  | _ :: _, [], [], .nil => .nil
  | x :: w, y :: v, _, .cons h t => .cons h (prAt_tups t)
theorem halvesF_len (w : List Nat) : (halvesF w).length ≤ 2 * w.length := by
  unfold halvesF pairsF
  rw [List.length_append, List.length_map, List.length_map, List.length_zip, List.length_drop]
  omega
abbrev sHalves : Stmt := top 52
abbrev sLeastHalf : Stmt := top 54
abbrev sLeastBeats : Stmt := top 55
abbrev sInRounds : Stmt := top 56
abbrev FHalves (K : Frg) (mg : Str → Option Value) := Fd K mg "halves" sHalves ["way"]
abbrev FLeastHalf (K : Frg) (mg : Str → Option Value) := Fd K mg "least_half" sLeastHalf ["program", "half"]
abbrev FLeastBeats (K : Frg) (mg : Str → Option Value) := Fd K mg "least_beats" sLeastBeats ["program", "way"]
abbrev FInRounds (K : Frg) (mg : Str → Option Value) := Fd K mg "in_rounds" sInRounds ["beats", "wide"]
abbrev nHalves : List Str := ["way","row"]
abbrev nLeastHalf : List Str := ["program","half","row","use"]
abbrev nLeastBeats : List Str := ["program","way","half"]
def spHalves : Sp := fun vs H Q _ => ∃ (a : Addr) (w : List Nat), vs = [.ref a] ∧ H a = some (.tup (w.map nI)) ∧ 0 < w.length ∧ w.length ≤ 100 ∧
  ∀ l bs H', Same1 H H' → H l = none → H' l = some (.lst (bs.map V.ref)) → TupsN H' bs (halvesF w) → Q (.ref l) H'
def spLeastHalf : Sp := fun vs H Q _ => ∃ (a h : Addr) (p : Prog) (l : List Nat), vs = [.ref a, .ref h] ∧ ProgAt H a p ∧ H h = some (.tup (l.map nI)) ∧ (l.length ≠ 1 → ∃ x l0, l = x :: l0 ∧ x < p.rows.length) ∧ ∀ H', Same1 H H' → Q (.int (leastHalfF p.rows l)) H'
def spLeastBeats : Sp := fun vs H Q _ => ∃ (a b : Addr) (p : Prog) (w : List Nat), vs = [.ref a, .ref b] ∧ ProgAt H a p ∧ H b = some (.tup (w.map nI)) ∧ 0 < w.length ∧ w.length ≤ 100 ∧ (∀ x ∈ w, x < p.rows.length) ∧ ∀ H', Same1 H H' → Q (.int (leastF p.rows w)) H'
def spInRounds : Sp := fun vs H Q _ => ∃ (b : Int) (W : Nat), vs = [.int b, nI W] ∧ 0 < W ∧ Q (.int (b + (-b) % (W : Int))) H
section
variable {P : Program} {w : World} {K : PySem.W.Frag} {mg : Str → Option Value} {base : Heap}
theorem scHalves : FnScope nHalves ["way"] (defScope sHalves) := ⟨rfl, rfl, rfl, by decide +kernel, rfl, by decide +kernel, by decide +kernel⟩
theorem scLeastHalf : FnScope nLeastHalf ["program", "half"] (defScope sLeastHalf) := ⟨rfl, rfl, rfl, by decide +kernel, rfl, by decide +kernel, by decide +kernel⟩
theorem scLeastBeats : FnScope nLeastBeats ["program", "way"] (defScope sLeastBeats) := ⟨rfl, rfl, rfl, by decide +kernel, rfl, by decide +kernel, by decide +kernel⟩
theorem scInRounds : FnScope ["beats","wide"] ["beats","wide"] (defScope sInRounds) := ⟨rfl, rfl, rfl, by decide +kernel, rfl, by decide +kernel, by decide +kernel⟩
theorem ok_inRounds (c : FInRounds K mg) : FnOk P w K mg base CX0 1 c.f c.fd ["beats", "wide"] spInRounds := by
  refine c.F.ok scInRounds (fun vs H Q E h => ?_) (fun cdv A outer s H vs Q E hr h => ?_)
  · obtain ⟨b, W, rfl, _⟩ := h
    rfl
  · obtain ⟨b, W, rfl, w0, k⟩ := h
    refine ⟨_, (pss_one (ps_ret (pe_op op_add (pv 0) (pe_op op_mod (pe_un un_neg (pv 0)) (pv 1))))), ?_⟩
    exact ⟨_, rfl, _, rfl, _, rfl, _, rfl, _, _, rfl, rfl, by omega, _, _, rfl, rfl, k⟩
theorem ok_halves (c : FHalves K mg) (T : Bt mg) : FnOk P w K mg base CX0 1 c.f c.fd ["way"] spHalves := by
  refine c.F.ok scHalves (fun vs H Q E h => ?_) (fun cdv A outer s H vs Q E hr h => ?_)
  · obtain ⟨a, w, rfl, _⟩ := h
    rfl
  · obtain ⟨a, w, rfl, ha, w0, w100, k⟩ := h
    refine ⟨_, (pss_one (ps_ret (pe_op op_cat (DLR.pe_listZip rfl (by rfl) T.list (by rfl) T.zip (pa_cons (pv 0) (pa_cons (pe_slice sl_tupS (pv 0) (po_some pe_int) po_none) pa_nil))) (pe_lc (own := [("row", 1)]) (g := gName 1) (tt := tYes) rfl scHalves.nd (pi_tup (pe_slice sl_tupS (pv 0) (po_some pe_int) po_none)) (blkOk_by (N := nHalves) (sc := defScope sHalves) (by decide +kernel)) (fun _ _ _ _ _ => (pg_name (i := 1) scHalves.nd rfl (Or.inl rfl))) (fun _ _ _ _ _ => pts_nil) (fun _ _ _ _ _ => (pe_tup (pa_cons (pv 1) pa_nil))))))), ?_⟩
    refine ⟨_, rfl, _, rfl, _, rfl, a, _, rfl, ha, fun t H1 s1 e1 => ?_⟩
    have e1 : H1 t = some (.tup ((w.drop 1).map nI)) := by
      rw [e1]
      exact congrArg (fun z => some (HO.tup z)) ((dropn 1).trans List.map_drop.symm)
    refine ⟨a, t, w.map nI, (w.drop 1).map nI, rfl, s1 _ _ ha, e1, by rw [List.length_map, List.length_map, List.length_drop]; omega, by rw [List.length_map, List.length_drop]; omega, fun q ts H2 s2 nq e2 hP => ?_⟩
    have hT := prAt_tups hP
    have s2 : Same1 H1 H2 := s2
    have S2 := s1.trans s2
    refine ⟨_, rfl, _, rfl, a, _, rfl, S2 _ _ ha, fun t2 H3 s3 e3 => ?_⟩
    have e3 : H3 t2 = some (.tup ((w.drop 1).map nI)) := by
      rw [e3]
      exact congrArg (fun z => some (HO.tup z)) ((dropn 1).trans List.map_drop.symm)
    have S3 := S2.trans s3
    have f2 := s3 _ _ e2
    have dl : (w.drop 1).length ≤ 100 := by rw [List.length_drop]; omega
    refine ⟨t2, rfl, ⟨_, SqT.of e3⟩, fun D hD => ?_⟩
    have nqD : q ≠ D := ne_of_none f2 hD
    refine lc_tup (K := K) (a := t2) (xs := (w.drop 1).map nI) (fun j H' => ∃ ds : List Addr, Same1 H3 H' ∧ H' D = some (.lst (ds.map V.ref)) ∧ TupsN H' ds (((w.drop 1).take j).map fun x => [x]))
      ⟨[], Same.new hD, upd_same, .nil⟩ (fun j H' _ ⟨_, q2, _⟩ => SqT.of (q2 _ _ e3)) ?_ ?_
    · rintro j x H4 hj ⟨ds, s4, hd4, hh4⟩
      rw [List.getElem?_map] at hj
      cases hz : (w.drop 1)[j]? with
      | none => rw [hz] at hj; cases hj
      | some y =>
        rw [hz] at hj
        have e : nI y = x := Option.some.inj hj
        subst e
        have hdl := tups_len hh4
        rw [List.length_map, List.length_take] at hdl
        refine ⟨rfl, _, rfl, (by show 1 ≤ sizeLine; decide), fun t3 ht3 => ?_⟩
        refine alloc ht3 fun H5 s5 e5 => ?_
        have hd5 := s5 _ _ hd4
        refine ⟨_, hd5, szl (by rw [List.length_map]; omega), ds ++ [t3], Same.mut (s4.trans s5) hD, by rw [upd_same, List.map_append]; rfl, ?_⟩
        rw [List.take_add_one, hz, List.map_append]
        exact TupsN.kp (Paired.app (TupsN.kp hh4 (Kp.same s5)) (Paired.one e5)) (Kp.lst hd5)
    · rintro H4 ⟨ds, s4, hd4, hh4⟩
      rw [List.length_map, List.take_length] at hh4
      have hql := tups_len hT
      have hdl := tups_len hh4
      rw [List.length_map, List.length_zip] at hql
      rw [List.length_map] at hdl
      refine ⟨q, D, _, _, rfl, rfl, s4 _ _ f2, hd4, sz (by rw [List.length_map, List.length_map]; omega), fun r hr => ?_⟩
      refine alloc hr fun H5 s5 e5 => ?_
      refine k r (ts ++ ds) H5 ((S3.trans s4).trans s5) ((S3.trans s4).free hr) (by rw [e5, List.map_append]) ?_
      exact Paired.app (TupsN.kp hT (((Kp.same s3).trans (Kp.same s4)).trans (Kp.same s5))) (TupsN.kp hh4 (Kp.same s5))
theorem ok_leastHalf (c : FLeastHalf K mg) (cUsesWorth : FUsesWorth K mg) (T : Bt mg) (Z : Pt K w mg) (ZW : Pw K w mg) : FnOk P w K mg base CX0 2 c.f c.fd ["program", "half"] spLeastHalf := by
  have GUsesWorth : FnOk P w K mg base CX0 1 cUsesWorth.f cUsesWorth.fd ["row"] spUses := ok_usesWorth cUsesWorth Z
  refine c.F.ok scLeastHalf (fun vs H Q E h => ?_) (fun cdv A outer s H vs Q E hr h => ?_)
  · obtain ⟨a, hh, p, l, rfl, _⟩ := h
    rfl
  · obtain ⟨a, hh, p, l, rfl, hP, hl, hx, k⟩ := h
    refine ⟨_, (pss_cons (ps_if (pt_cmpR op_eq (pe_callB call_len_seq (by rfl) T.len PySem.boot_len (pa_cons (pv 1) pa_nil)) pe_int (nomark _))
          (pss_one (ps_ret pe_int))
          pss_nil)
      (pss_cons (ps_set (i := 2) scLeastHalf.nd rfl (Or.inl rfl) (pe_ix ix_tup (pe_ix ix_tup (pv 0) pe_int (fun _ _ => rfl)) (pe_ix ix_tup (pv 1) pe_int (fun _ _ => rfl)) (fun _ _ => rfl)))
      (pss_cons (ps_set (i := 3) scLeastHalf.nd rfl (Or.inl rfl) (pe_ifExp (pt_val (pe_call GUsesWorth (hr.mono (by first | omega | decide)) (by rfl) cUsesWorth.m cUsesWorth.F.kp cUsesWorth.b .nil pass0 (pa_cons (pv 2) pa_nil))) pe_int pe_int))
      (pss_one (ps_ret (pe_op op_add (pv 3) (pe_ix ix_kdict (pe_glob (v := .ref ZW.d) rfl ZW.m rfl) (pe_ix ix_tup (pv 2) pe_int (fun _ _ => rfl)) (fun _ _ => rfl)))))))), ?_⟩
    refine ⟨_, rfl, hh, _, rfl, .inr (SqT.of hl), rfl, _, rfl, ?_⟩
    unfold leastHalfF at k
    by_cases c : l.length = 1
    · rw [show decide (V.int (((l.map nI).length : Nat) : Int) = V.int 1) = true from decide_eq_true (by rw [List.length_map, c]; rfl)]
      rw [if_pos c] at k
      exact iteT (k H (Same.refl _))
    · rw [show decide (V.int (((l.map nI).length : Nat) : Int) = V.int 1) = false from decide_eq_false (fun z => c (by have := V.int.inj z; rw [List.length_map] at this; omega))]
      rw [if_neg c] at k
      obtain ⟨x, l0, rfl, hxN⟩ := hx c
      obtain ⟨wa, ra, rbs, hpa, hwa, hra, hR⟩ := hP
      obtain ⟨rb, hb1, hb2⟩ := Paired.getR hR (List.getElem?_eq_getElem hxN)
      have hbV : (rbs.map V.ref)[x]? = some (.ref rb) := by rw [List.getElem?_map, hb1]; rfl
      have er : p.rows.getD x .stop = p.rows[x] := by rw [List.getD_eq_getElem?_getD, List.getElem?_eq_getElem hxN]; rfl
      refine iteF ⟨_, rfl, a, _, _, _, rfl, rfl, SqT.of hpa, at1, _, rfl, hh, _, _, _, rfl, rfl, SqT.of hl, at0, ra, _, _, _, rfl, rfl, SqT.of hra, atI_nat hbV, ?_⟩
      refine ⟨_, rfl, rb, p.rows[x], rfl, hb2, ?_⟩
      have k : ∀ H', Same1 H H' → Q (.int ((if (p.rows.getD x .stop).uses = true then 1 else 0) + work (p.rows.getD x .stop))) H' := k
      rw [er] at k
      refine ⟨_, rfl, ?_⟩
      cases hu : p.rows[x].uses with
      | true =>
        rw [hu] at k
        exact iteT ⟨_, rfl, _, rfl, rb, _, _, _, rfl, rfl, SqT.of hb2, atI_nat (j := 0) (Row.w0 _), ZW.d, _, _, rfl, rfl, ZW.get _, _, _, rfl, rfl, k H (Same.refl _)⟩
      | false =>
        rw [hu] at k
        exact iteF ⟨_, rfl, _, rfl, rb, _, _, _, rfl, rfl, SqT.of hb2, atI_nat (j := 0) (Row.w0 _), ZW.d, _, _, rfl, rfl, ZW.get _, _, _, rfl, rfl, k H (Same.refl _)⟩
theorem ok_leastBeats (c : FLeastBeats K mg) (cHalves : FHalves K mg) (cLeastHalf : FLeastHalf K mg) (T : Bt mg) (GHalves : FnOk P w K mg base CX0 1 cHalves.f cHalves.fd ["way"] spHalves) (GLeastHalf : FnOk P w K mg base CX0 2 cLeastHalf.f cLeastHalf.fd ["program", "half"] spLeastHalf) : FnOk P w K mg base CX0 3 c.f c.fd ["program", "way"] spLeastBeats := by
  refine c.F.ok scLeastBeats (fun vs H Q E h => ?_) (fun cdv A outer s H vs Q E hr h => ?_)
  · obtain ⟨a, b, p, w, rfl, _⟩ := h
    rfl
  · obtain ⟨a, b, p, w, rfl, hP, hb, w0, w100, hw, k⟩ := h
    refine ⟨_, (pss_one (ps_ret (pe_callB (cr_sum rfl) (by rfl) T.sum (by decide +kernel) (pa_cons (pe_lc (own := [("half", 2)]) (g := gName 2) (tt := tYes) rfl scLeastBeats.nd (pi_list (pe_call GHalves (hr.mono (by first | omega | decide)) (by rfl) cHalves.m cHalves.F.kp cHalves.b .nil pass0 (pa_cons (pv 1) pa_nil))) (blkOk_by (N := nLeastBeats) (sc := defScope sLeastBeats) (by decide +kernel)) (fun _ _ _ _ _ => (pg_name (i := 2) scLeastBeats.nd rfl (Or.inl rfl))) (fun _ _ _ _ _ => pts_nil) (fun _ _ _ _ _ => (pe_call GLeastHalf (hr.mono (by first | omega | decide)) (by rfl) cLeastHalf.m cLeastHalf.F.kp cLeastHalf.b .nil pass0 (pa_cons (pv 0) (pa_cons (pv 2) pa_nil))))) pa_nil)))), ?_⟩
    refine ⟨_, rfl, b, w, rfl, hb, w0, w100, fun l bs H1 s1 nl e1 hT => ?_⟩
    have hbl := tups_len hT
    have hHl := halvesF_len w
    refine ⟨l, rfl, ⟨_, SqL.of e1⟩, fun D hD => ?_⟩
    refine lc_list (K := K) (a := l) (xs := bs.map V.ref) (fun i H' => Same1 H1 H' ∧ H' D = some (.lst ((((halvesF w).take i).map (leastHalfF p.rows)).map V.int))) ⟨Same.new hD, upd_same⟩ (fun i H' _ ⟨q, _⟩ => SqL.of (q _ _ e1)) ?_ ?_
    · rintro i x H2 hi ⟨s2, hd2⟩
      have hic : i < bs.length := by
        have q := (List.getElem?_eq_some_iff.mp hi).1
        rwa [List.length_map] at q
      have ex : x = .ref bs[i] := by
        rw [List.getElem?_map, List.getElem?_eq_getElem hic] at hi
        exact (Option.some.inj hi).symm
      subst ex
      obtain ⟨lv, hq1, hq2⟩ := Paired.get hT (List.getElem?_eq_getElem hic)
      refine ⟨rfl, _, rfl, _, rfl, a, bs[i], p, lv, rfl, hP.kp (Kp.same (s1.trans s2)), s2 _ _ hq2, fun ne => ?_, fun H3 s3 => ?_⟩
      · have hm := List.mem_of_getElem? hq1
        unfold halvesF at hm
        rcases List.mem_append.mp hm with z | z
        · obtain ⟨⟨u, v⟩, hz, rfl⟩ := List.mem_map.mp z
          exact ⟨u, [v], rfl, hw u (List.of_mem_zip hz).1⟩
        · obtain ⟨u, hz, rfl⟩ := List.mem_map.mp z
          exact absurd rfl ne
      · have hd3 := s3 _ _ hd2
        refine ⟨_, hd3, szl (by rw [List.length_map, List.length_map, List.length_take]; omega), Same.mut (s2.trans s3) hD, ?_⟩
        rw [upd_same, List.take_add_one, hq1, List.map_append, List.map_append]
        rfl
    · rintro H2 ⟨s2, hd2⟩
      rw [List.length_map, hbl, List.take_length] at hd2
      exact ⟨D, _, rfl, SqL.of hd2, k H2 (s1.trans s2)⟩
end
end DL
namespace DLR
open PySem PySem.Spec PyProof.Rows L2 PySem.W
open DL (nI Kp Same1)
/-! ### heapq: heappush, heappop -/
theorem kind_hpush : builtinKind "_heapq.heappush" = none := by decide +kernel
theorem plain_hpush : plainId "_heapq.heappush" = true := by decide +kernel
theorem entry_hpush : entryFor table "_heapq.heappush" = some Builtin.«_heapq.heappush» := entryFor_of_fast (by kernel_rfl)
theorem args_hpush (a b : Value) : argsOk "_heapq.heappush" ⟨[a, b], []⟩ := by unfold argsOk; kernel_rfl
theorem kind_hpop : builtinKind "_heapq.heappop" = none := by decide +kernel
theorem plain_hpop : plainId "_heapq.heappop" = true := by decide +kernel
theorem entry_hpop : entryFor table "_heapq.heappop" = some Builtin.«_heapq.heappop» := entryFor_of_fast (by kernel_rfl)
theorem args_hpop (a : Value) : argsOk "_heapq.heappop" ⟨[a], []⟩ := by unfold argsOk; kernel_rfl
theorem plain_sift : plainId "_heapq.heapify.sift" = true := by decide +kernel
theorem entry_sift : entryFor table "_heapq.heapify.sift" = some Builtin.«_heapq.heapify.sift» := entryFor_of_fast (by kernel_rfl)
def siftA (a : Addr) (down : Bool) (pos : Nat) (r : Value) : Args := ⟨[.ref a, .bool false, .bool down, rawInt (pos : Int), rawInt (0 : Nat), r, rawInt (-1)], []⟩
section
variable {P : Program} {w : World} {A : Around} {E : Value → Shared → Prop} {s : Shared} {a pos : Nat} {r : Value} {its : List Value} {n : Nat} {Q : Fin → Shared → Prop}
theorem up_stop (e : s.heap.get? a = some { cls := .type "list", data := .seq its.toArray n }) (h0 : ¬ 0 < pos) (h : Q (.done (.ret r)) s) :
    wpAny (model P w) A (Builtin.«_heapq.heapify.sift» (siftA a false pos r)) Q E s := by
  unfold Builtin.«_heapq.heapify.sift» siftA
  dsimp only [rawInt]
  have h1 : ¬ (pos : Int).toNat > ((0 : Nat) : Int).toNat := by omega
  wp_walk using wpAny_seqItems e rfl
  exact h
theorem up_run (e : s.heap.get? a = some { cls := .type "list", data := .seq its.toArray n }) {x p : Value} (hx : its[pos]? = some x) (hp : its[(pos - 1) / 2]? = some p) (h0 : 0 < pos) {b : Bool} (hz : its.length ≤ sizeLine)
    (hc : ∀ (Q : Value → Shared → Prop), Q (.bool b) s → wpAny (model P w) A (richCompare .Lt x p) Q E s)
    (hn : b = false → Q (.done (.ret r)) s) (hy : b = true → Q (.again (.builtin "_heapq.heapify.sift" (siftA a false ((pos - 1) / 2) r))) { s with heap := s.heap.update a (Obj.mapSeq fun xs => (xs.setIfInBounds ((pos - 1) / 2) x).setIfInBounds pos p) }) :
    wpAny (model P w) A (Builtin.«_heapq.heapify.sift» (siftA a false pos r)) Q E s := by
  unfold Builtin.«_heapq.heapify.sift» siftA
  dsimp only [rawInt]
  have h1 : (pos : Int).toNat > ((0 : Nat) : Int).toNat := by omega
  wp_walk using wpAny_seqItems e rfl
  have e1 : its.toArray[(pos : Int).toNat]? = some x := by rw [Int.toNat_natCast]; simpa using hx
  have e2 : its.toArray[((pos : Int).toNat - 1) / 2]? = some p := by rw [Int.toNat_natCast]; simpa using hp
  rw [e1]
  wp_walk
  rw [e2]
  wp_walk using hc
  cases b with
  | false =>
    wp_walk
    exact hn rfl
  | true =>
    rw [if_pos rfl]
    wp_walk using wpAny_seqItems e rfl
    rw [e2]
    wp_walk
    rw [e1]
    wp_walk using wpAny_updateSeq e rfl
    exact hy rfl
theorem down_end (e : s.heap.get? a = some { cls := .type "list", data := .seq its.toArray n }) (h0 : ¬ pos < its.length / 2) (h : Q (.again (.builtin "_heapq.heapify.sift" (siftA a false pos r))) s) :
    wpAny (model P w) A (Builtin.«_heapq.heapify.sift» (siftA a true pos r)) Q E s := by
  unfold Builtin.«_heapq.heapify.sift» siftA
  dsimp only [rawInt]
  have h1 : ¬ (pos : Int).toNat < its.toArray.size / 2 := by rw [Int.toNat_natCast, List.size_toArray]; exact h0
  wp_walk using wpAny_seqItems e rfl
  exact h
theorem down_one (e : s.heap.get? a = some { cls := .type "list", data := .seq its.toArray n }) {x y : Value} (hx : its[2 * pos + 1]? = some x) (hy : its[pos]? = some y) (h0 : pos < its.length / 2) (h2 : ¬ 2 * pos + 1 + 1 < its.length) (hz : its.length ≤ sizeLine)
    (h : Q (.again (.builtin "_heapq.heapify.sift" (siftA a true (2 * pos + 1) r))) { s with heap := s.heap.update a (Obj.mapSeq fun xs => (xs.setIfInBounds (2 * pos + 1) y).setIfInBounds pos x) }) :
    wpAny (model P w) A (Builtin.«_heapq.heapify.sift» (siftA a true pos r)) Q E s := by
  unfold Builtin.«_heapq.heapify.sift» siftA
  dsimp only [rawInt]
  have h1 : (pos : Int).toNat < its.toArray.size / 2 := by rw [Int.toNat_natCast, List.size_toArray]; exact h0
  have h3 : ¬ 2 * (pos : Int).toNat + 1 + 1 < its.toArray.size := by rw [Int.toNat_natCast, List.size_toArray]; exact h2
  have e1 : its.toArray[(pos : Int).toNat]? = some y := by rw [Int.toNat_natCast]; simpa using hy
  have e2 : its.toArray[2 * (pos : Int).toNat + 1]? = some x := by rw [Int.toNat_natCast]; simpa using hx
  wp_walk using wpAny_seqItems e rfl
  rw [e2]
  wp_walk
  rw [e1]
  wp_walk using wpAny_updateSeq e rfl
  exact h
theorem down_two (e : s.heap.get? a = some { cls := .type "list", data := .seq its.toArray n }) {l u y : Value} (hl : its[2 * pos + 1]? = some l) (hu : its[2 * pos + 1 + 1]? = some u) (hy : its[pos]? = some y) (h0 : pos < its.length / 2) {b : Bool} (hz : its.length ≤ sizeLine)
    (hc : ∀ (Q : Value → Shared → Prop), Q (.bool b) s → wpAny (model P w) A (richCompare .Lt l u) Q E s)
    (hn : b = false → Q (.again (.builtin "_heapq.heapify.sift" (siftA a true (2 * pos + 1 + 1) r))) { s with heap := s.heap.update a (Obj.mapSeq fun xs => (xs.setIfInBounds (2 * pos + 1 + 1) y).setIfInBounds pos u) })
    (ht : b = true → Q (.again (.builtin "_heapq.heapify.sift" (siftA a true (2 * pos + 1) r))) { s with heap := s.heap.update a (Obj.mapSeq fun xs => (xs.setIfInBounds (2 * pos + 1) y).setIfInBounds pos l) }) :
    wpAny (model P w) A (Builtin.«_heapq.heapify.sift» (siftA a true pos r)) Q E s := by
  unfold Builtin.«_heapq.heapify.sift» siftA
  dsimp only [rawInt]
  have hul : 2 * pos + 1 + 1 < its.length := (List.getElem?_eq_some_iff.mp hu).1
  have h1 : (pos : Int).toNat < its.toArray.size / 2 := by rw [Int.toNat_natCast, List.size_toArray]; exact h0
  have h3 : 2 * (pos : Int).toNat + 1 + 1 < its.toArray.size := by rw [Int.toNat_natCast, List.size_toArray]; exact hul
  have e1 : its.toArray[(pos : Int).toNat]? = some y := by rw [Int.toNat_natCast]; simpa using hy
  have e2 : its.toArray[2 * (pos : Int).toNat + 1]? = some l := by rw [Int.toNat_natCast]; simpa using hl
  have e3 : its.toArray[2 * (pos : Int).toNat + 1 + 1]? = some u := by rw [Int.toNat_natCast]; simpa using hu
  wp_walk using wpAny_seqItems e rfl
  rw [e2]
  wp_walk
  rw [e3]
  wp_walk using hc
  cases b with
  | false =>
    wp_walk using wpAny_seqItems e rfl
    rw [e3]
    wp_walk
    rw [e1]
    wp_walk using wpAny_updateSeq e rfl
    exact hn rfl
  | true =>
    wp_walk using wpAny_seqItems e rfl
    rw [e2]
    wp_walk
    rw [e1]
    wp_walk using wpAny_updateSeq e rfl
    exact ht rfl
theorem push_run {u : Value} (e : s.heap.get? a = some { cls := .type "list", data := .seq its.toArray n }) (hz : its.length < sizeLine)
    (h : Q (.again (.builtin "_heapq.heapify.sift" (siftA a false its.length .none))) { s with heap := s.heap.update a (Obj.mapSeq fun xs => xs.push u) }) :
    wpAny (model P w) A (Builtin.«_heapq.heappush» ⟨[.ref a, u], []⟩) Q E s := by
  unfold Builtin.«_heapq.heappush»
  have q : (s.heap.update a (Obj.mapSeq fun xs => xs.push u)).get? a = some _ := PySem.IsL.update e (fun xs => xs.push u)
  have hT : s.TypeIs (.ref a) "list" := ⟨_, e, rfl⟩
  have f3 := AutoSeq1.sub_list_list
  wp_walk using wpAny_seqItems e rfl, wpAny_updateSeq e rfl, wpAny_seqItems q rfl
  rw [show (its.toArray.push u).size - 1 = its.length by simp]
  exact h
theorem pop_one {u : Value} (e : s.heap.get? a = some { cls := .type "list", data := .seq [u].toArray n })
    (h : Q (.done (.ret u)) { s with heap := s.heap.update a (Obj.mapSeq fun xs => xs.pop) }) :
    wpAny (model P w) A (Builtin.«_heapq.heappop» ⟨[.ref a], []⟩) Q E s := by
  have hT : s.TypeIs (.ref a) "list" := ⟨_, e, rfl⟩
  have f3 := AutoSeq1.sub_list_list
  unfold Builtin.«_heapq.heappop»
  wp_walk using wpAny_seqItems e rfl, wpAny_updateSeq e rfl
  exact h
theorem pop_more {u v : Value} (e : s.heap.get? a = some { cls := .type "list", data := .seq its.toArray n }) (h2 : 2 ≤ its.length) (hu : its[0]? = some u) (hv : its[its.length - 1]? = some v) (hz : its.length ≤ sizeLine)
    (h : Q (.again (.builtin "_heapq.heapify.sift" (siftA a true 0 u))) { s with heap := (s.heap.update a (Obj.mapSeq fun xs => xs.pop)).update a (Obj.mapSeq fun xs => xs.setIfInBounds 0 v) }) :
    wpAny (model P w) A (Builtin.«_heapq.heappop» ⟨[.ref a], []⟩) Q E s := by
  have hT : s.TypeIs (.ref a) "list" := ⟨_, e, rfl⟩
  have f3 := AutoSeq1.sub_list_list
  have q : (s.heap.update a (Obj.mapSeq fun xs => xs.pop)).get? a = some _ := PySem.IsL.update e (fun xs => xs.pop)
  unfold Builtin.«_heapq.heappop»
  wp_walk using wpAny_seqItems e rfl, wpAny_updateSeq e rfl
  rw [show its.toArray.back? = some v by
    rw [Array.back?_eq_getElem?, List.size_toArray]
    simpa using hv]
  have hs : ¬ (its.toArray.size == 1) = true := by
    rw [List.size_toArray]
    intro z
    have := eq_of_beq z
    omega
  have e0 : its.toArray[0]? = some u := by simpa using hu
  wp_walk using wpAny_updateSeq e rfl
  rw [if_neg hs]
  wp_walk
  rw [e0]
  refine wpAny_pure ?_
  refine wpAny_bind ?_
  refine wpAny_updateSeq q rfl ?_ (by simp; omega) (by simp; omega)
  wp_walk
  exact h
end
/-! the same, of the lists -/
abbrev BW := Int × List Nat
def encE (e : BW) : PyData := .tuple [.int e.1, encI e.2]
def entLt (d e : BW) : Bool := dataLt (encE d) (encE e)
def WayAt (H : Hp) (b : Addr) (e : BW) : Prop := ∃ t, H b = some (.tup [.int e.1, .ref t]) ∧ H t = some (.tup (e.2.map nI))
abbrev WaysAt (H : Hp) (bs : List Addr) (L : List BW) : Prop := Paired (WayAt H) bs L
def upL {α : Type} (lt : α → α → Bool) : Nat → List α → Nat → List α
  | 0, L, _ => L
  | f + 1, L, pos => if 0 < pos then (match L[pos]?, L[(pos - 1) / 2]? with
    | some x, some p => if lt x p = true then upL lt f ((L.set ((pos - 1) / 2) x).set pos p) ((pos - 1) / 2) else L
    | _, _ => L) else L
def downL {α : Type} (lt : α → α → Bool) : Nat → List α → Nat → List α
  | 0, L, _ => L
  | f + 1, L, pos => if pos < L.length / 2 then (match L[2 * pos + 1]?, L[pos]? with
      | some l, some y => (match L[2 * pos + 1 + 1]? with
        | some u => if lt l u = true then downL lt f ((L.set (2 * pos + 1) y).set pos l) (2 * pos + 1) else downL lt f ((L.set (2 * pos + 1 + 1) y).set pos u) (2 * pos + 1 + 1)
        | none => downL lt f ((L.set (2 * pos + 1) y).set pos l) (2 * pos + 1))
      | _, _ => L) else upL lt (pos + 1) L pos
def hpush {α : Type} (lt : α → α → Bool) (L : List α) (x : α) : List α := upL lt (L.length + 1) (L ++ [x]) L.length
def hpop {α : Type} (lt : α → α → Bool) (L : List α) : List α := match L.getLast? with
  | some v => if L.length = 1 then [] else downL lt (L.length + 1) (L.dropLast.set 0 v) 0
  | none => []
theorem vals_refs : ∀ {bs : List Addr} {its : List Value}, Vals (bs.map V.ref) its → its = bs.map Value.ref
  | [], _, .nil => rfl
  | b :: bs, _, .cons h t => by
    cases h
    rw [vals_refs t]
    rfl
theorem paired_set {α β : Type} {F : α → β → Prop} : ∀ {l₁ : List α} {l₂ : List β}, Paired F l₁ l₂ → ∀ (i : Nat) (a : α) (b : β), F a b → Paired F (l₁.set i a) (l₂.set i b)
  | _, _, .nil, _, _, _, _ => .nil
  | _, _, .cons h t, 0, _, _, r => .cons r t
  | _, _, .cons h t, i + 1, _, _, r => .cons h (paired_set t i _ _ r)
theorem WayAt.kp {H H' : Hp} {b : Addr} {e : BW} (h : WayAt H b e) (k : Kp H H') : WayAt H' b e := by
  obtain ⟨t, h1, h2⟩ := h
  exact ⟨t, k _ _ h1, k _ _ h2⟩
theorem WaysAt.kp {H H' : Hp} {bs : List Addr} {L : List BW} (h : WaysAt H bs L) (k : Kp H H') : WaysAt H' bs L := Paired.mapP h fun _ _ r => r.kp k
theorem encE_dep (e : BW) : (encE e).depth ≤ 2 := by
  have := encI_dep e.2
  unfold encE
  simp only [PyData.depth, PyData.depthAll]
  omega
section
variable {X : Cx} {pins : List (Addr × Obj)} {σ : L2.St} {H : Hp} {s : Shared} {l : Addr} {R : Result → Shared → Prop}
theorem ent_lt (hu : X.A.units + 64 < cLine) (I : Inv X pins σ H s) {b c : Addr} {d e : BW} (h1 : WayAt H b d) (h2 : WayAt H c e) (E : Value → Shared → Prop) (Q : Value → Shared → Prop) (h : Q (.bool (entLt d e)) s) : wpAny (model X.prog X.w) X.A.in1 (richCompare .Lt (.ref b) (.ref c)) Q E s := by
  obtain ⟨t1, a1, a2⟩ := h1
  obtain ⟨t2, b1, b2⟩ := h2
  obtain ⟨as, r1⟩ := Dp.reads I (encE d) (.ref b) (.ref b) (.tup (SqT.of a1) (.cons (.int _) (.cons (encI_at a2) .nil))) rfl
  obtain ⟨bs, r2⟩ := Dp.reads I (encE e) (.ref c) (.ref c) (.tup (SqT.of b1) (.cons (.int _) (.cons (encI_at b2) .nil))) rfl
  refine rcLt_alike (encE d) (encE e) X.A.in1 s _ _ as bs r1 r2 ?_ (by unfold encE; intro z; cases z) ?_ X.prog X.w E Q h
  · unfold encE encI natsP
    simp only [alike, alikeAll, alike_ints, Bool.and_self]
  · have := encE_dep d
    show X.A.units + 1 + _ < _
    omega
theorem updSelf {H : Hp} {l : Addr} {o : HO} (h : H l = some o) : upd H l o = H := by
  funext q
  unfold upd
  by_cases e : q = l
  · rw [if_pos e, e, h]
  · rw [if_neg e]
theorem siftStep {prog : Program} {w : World} {A : Around} {R : Result → Shared → Prop} {s : Shared} {as : Args} (h : wpAny (model prog w) A.in1 (Builtin.«_heapq.heapify.sift» as) (fun fin s' => match fin with
    | .done f => R (.ok f) s'
    | .again c' => c'.quiet = true ∧ codeAny (model prog w) A c' R s') (fun e s' => R (.error e) s') s) : codeAny (model prog w) A (.builtin "_heapq.heapify.sift" as) R s := by
  refine codeAny_builtin entry_sift ?_
  rw [Around.under_plainId plain_sift _]
  exact h
theorem get_ref {bs : List Addr} {i : Nat} {b : Addr} (h : bs[i]? = some b) : (bs.map Value.ref)[i]? = some (.ref b) := by rw [List.getElem?_map, h]; rfl
theorem arr_set2 {bs : List Addr} {i j : Nat} {b c : Addr} : ((bs.map Value.ref).toArray.setIfInBounds i (.ref b)).setIfInBounds j (.ref c) = (((bs.set i b).set j c).map Value.ref).toArray := by
  simp [List.map_set]
theorem refs_vals : ∀ bs : List Addr, Vals (bs.map V.ref) (bs.map Value.ref)
  | [] => .nil
  | b :: bs => .cons rfl (refs_vals bs)
theorem list_step {xs : List V} {n : Nat} {f : Array Value → Array Value} {bs cs : List Addr} (I : Inv X pins σ H s) (hH : H l = some (.lst xs)) (e : s.heap.get? l = some { cls := .type "list", data := .seq (bs.map Value.ref).toArray n })
    (hf : f (bs.map Value.ref).toArray = (cs.map Value.ref).toArray) (hz : cs.length ≤ sizeLine) : Inv X pins σ (upd H l (.lst (cs.map V.ref))) { s with heap := s.heap.update l (Obj.mapSeq f) } :=
  I.lset (its' := cs.map Value.ref) (t' := s.toks) hH e hf (refs_vals cs) (by rw [List.length_map]; exact hz)
theorem up_code (hu : X.A.units + 64 < cLine) {r : Value} : ∀ (f pos : Nat) (L : List BW) (bs : List Addr) (H : Hp) (s : Shared), Inv X pins σ H s → H l = some (.lst (bs.map V.ref)) → WaysAt H bs L → pos < L.length → pos < f →
    (∀ H' s' cs, Inv X pins σ H' s' → H' = upd H l (.lst (cs.map V.ref)) → WaysAt H' cs (upL entLt f L pos) → R (.ok (.ret r)) s') → codeAny (model X.prog X.w) X.A (.builtin "_heapq.heapify.sift" (siftA l false pos r)) R s
  | 0, pos, L, bs, H, s, _, _, _, _, hf, _ => absurd hf (Nat.not_lt_zero _)
  | f + 1, pos, L, bs, H, s, I, hH, hW, hp, hf, k => by
    refine siftStep ?_
    obtain ⟨z, its, n, rv, hl, e⟩ := I.lstM hH
    have ei := vals_refs rv
    subst ei
    have hbl := Paired.length hW
    rw [List.length_map] at z
    by_cases h0 : 0 < pos
    · have hp2 : (pos - 1) / 2 < L.length := by omega
      obtain ⟨x, hx⟩ : ∃ x, L[pos]? = some x := ⟨_, List.getElem?_eq_getElem hp⟩
      obtain ⟨y, hy⟩ : ∃ y, L[(pos - 1) / 2]? = some y := ⟨_, List.getElem?_eq_getElem hp2⟩
      obtain ⟨b, hb, hb2⟩ := DL.Paired.getR hW hx
      obtain ⟨c, hc, hc2⟩ := DL.Paired.getR hW hy
      refine up_run e (get_ref hb) (get_ref hc) h0 (b := entLt x y) (by rw [List.length_map]; exact z) (fun Q q => ent_lt hu I hb2 hc2 _ Q q) (fun hn => ?_) fun hn => ?_
      · refine k H s bs I (updSelf hH).symm ?_
        unfold upL
        rw [if_pos h0, hx, hy]
        dsimp only
        rw [if_neg (by rw [hn]; decide)]
        exact hW
      · refine ⟨plainId_quiet plain_sift _, ?_⟩
        have I2 := list_step (f := fun xs => (xs.setIfInBounds ((pos - 1) / 2) (.ref b)).setIfInBounds pos (.ref c)) (cs := (bs.set ((pos - 1) / 2) b).set pos c) I hH e arr_set2 (by rw [List.length_set, List.length_set]; exact z)
        have hk : Kp H (upd H l (.lst (((bs.set ((pos - 1) / 2) b).set pos c).map V.ref))) := Kp.lst hH
        refine up_code hu f _ _ _ _ _ I2 upd_same (WaysAt.kp (paired_set (paired_set hW _ _ _ hb2) _ _ _ hc2) hk) (by rw [List.length_set, List.length_set]; exact hp2) (by omega) fun H' s' cs I' eH hW' => k H' s' cs I' (by rw [eH, upd_upd]) ?_
        unfold upL
        rw [if_pos h0, hx, hy]
        dsimp only
        rw [if_pos hn]
        exact hW'
    · refine up_stop e h0 (k H s bs I (updSelf hH).symm ?_)
      unfold upL
      rw [if_neg h0]
      exact hW
theorem down_code (hu : X.A.units + 64 < cLine) {r : Value} : ∀ (f pos : Nat) (L : List BW) (bs : List Addr) (H : Hp) (s : Shared), Inv X pins σ H s → H l = some (.lst (bs.map V.ref)) → WaysAt H bs L → pos < L.length → L.length < f + pos →
    (∀ H' s' cs, Inv X pins σ H' s' → H' = upd H l (.lst (cs.map V.ref)) → WaysAt H' cs (downL entLt f L pos) → R (.ok (.ret r)) s') → codeAny (model X.prog X.w) X.A (.builtin "_heapq.heapify.sift" (siftA l true pos r)) R s
  | 0, pos, L, bs, H, s, _, _, _, _, hf, _ => by omega
  | f + 1, pos, L, bs, H, s, I, hH, hW, hp, hf, k => by
    refine siftStep ?_
    obtain ⟨z, its, n, rv, hl, e⟩ := I.lstM hH
    have ei := vals_refs rv
    subst ei
    have hbl := Paired.length hW
    rw [List.length_map] at z
    by_cases h0 : pos < L.length / 2
    · have hp2 : 2 * pos + 1 < L.length := by omega
      obtain ⟨y, hy⟩ : ∃ y, L[pos]? = some y := ⟨_, List.getElem?_eq_getElem hp⟩
      obtain ⟨x, hx⟩ : ∃ x, L[2 * pos + 1]? = some x := ⟨_, List.getElem?_eq_getElem hp2⟩
      obtain ⟨b, hb, hb2⟩ := DL.Paired.getR hW hy
      obtain ⟨c, hc, hc2⟩ := DL.Paired.getR hW hx
      have go : ∀ (j : Nat) (cv : Addr) (xv : BW), bs[j]? = some cv → WayAt H cv xv → j < L.length → pos < j → downL entLt (f + 1) L pos = downL entLt f ((L.set j y).set pos xv) j →
          (Code.builtin "_heapq.heapify.sift" (siftA l true j r)).quiet = true ∧ codeAny (model X.prog X.w) X.A (.builtin "_heapq.heapify.sift" (siftA l true j r)) R { s with heap := s.heap.update l (Obj.mapSeq fun xs => (xs.setIfInBounds j (.ref b)).setIfInBounds pos (.ref cv)) } := fun j cv xv e1 e2 hj hpj ed => by
        refine ⟨plainId_quiet plain_sift _, ?_⟩
        have I2 := list_step (f := fun xs => (xs.setIfInBounds j (.ref b)).setIfInBounds pos (.ref cv)) (cs := (bs.set j b).set pos cv) I hH e arr_set2 (by rw [List.length_set, List.length_set]; exact z)
        have hk : Kp H (upd H l (.lst (((bs.set j b).set pos cv).map V.ref))) := Kp.lst hH
        exact down_code hu f j _ _ _ _ I2 upd_same (WaysAt.kp (paired_set (paired_set hW _ _ _ hb2) _ _ _ e2) hk) (by rw [List.length_set, List.length_set]; exact hj) (by rw [List.length_set, List.length_set]; omega) fun H' s' cs I' eH hW' => k H' s' cs I' (by rw [eH, upd_upd]) (by rw [ed]; exact hW')
      by_cases h2 : 2 * pos + 1 + 1 < L.length
      · obtain ⟨u, hu'⟩ : ∃ u, L[2 * pos + 1 + 1]? = some u := ⟨_, List.getElem?_eq_getElem h2⟩
        obtain ⟨d, hd, hd2⟩ := DL.Paired.getR hW hu'
        refine down_two e (get_ref hc) (get_ref hd) (get_ref hb) (by rw [List.length_map, hbl]; exact h0) (b := entLt x u) (by rw [List.length_map]; exact z) (fun Q q => ent_lt hu I hc2 hd2 _ Q q) (fun hn => ?_) fun hn => ?_
        · exact go _ d u hd hd2 h2 (by omega) (by rw [downL, if_pos h0, hx, hy]; dsimp only; rw [hu']; dsimp only; rw [if_neg (by rw [hn]; decide)])
        · exact go _ c x hc hc2 hp2 (by omega) (by rw [downL, if_pos h0, hx, hy]; dsimp only; rw [hu']; dsimp only; rw [if_pos hn])
      · refine down_one e (get_ref hc) (get_ref hb) (by rw [List.length_map, hbl]; exact h0) (by rw [List.length_map, hbl]; exact h2) (by rw [List.length_map]; exact z) ?_
        exact go _ c x hc hc2 hp2 (by omega) (by rw [downL, if_pos h0, hx, hy]; dsimp only; rw [List.getElem?_eq_none (by omega)])
    · refine down_end e (by rw [List.length_map, hbl]; exact h0) ⟨plainId_quiet plain_sift _, ?_⟩
      refine up_code hu (pos + 1) pos L bs H s I hH hW hp (Nat.lt_succ_self _) fun H' s' cs I' eH hW' => k H' s' cs I' eH ?_
      rw [downL, if_neg h0]
      exact hW'
def rHPush : List V → Hp → VK → Prop := fun vs H Q => ∃ (l b : Addr) (bs : List Addr) (L : List BW) (e : BW), vs = [.ref l, .ref b] ∧ H l = some (.lst (bs.map V.ref)) ∧ WaysAt H bs L ∧ WayAt H b e ∧ L.length < sizeLine ∧
  ∀ H' cs, H' = upd H l (.lst (cs.map V.ref)) → WaysAt H' cs (hpush entLt L e) → Q .non H'
def rHPop : List V → Hp → VK → Prop := fun vs H Q => ∃ (l : Addr) (bs : List Addr) (L : List BW) (e : BW), vs = [.ref l] ∧ H l = some (.lst (bs.map V.ref)) ∧ WaysAt H bs L ∧ L[0]? = some e ∧
  ∀ b H' cs, H' = upd H l (.lst (cs.map V.ref)) → WayAt H' b e → WaysAt H' cs (hpop entLt L) → Q (.ref b) H'
theorem cr_hpush (hu : X.A.units + 64 < cLine) : CallR X (.builtin "_heapq.heappush") rHPush := by
  intro pins s σ H vs us Q I r h
  obtain ⟨l, b, bs, L, e, rfl, hH, hW, hb, hz, k⟩ := h
  have ev : us = [.ref l, .ref b] := by
    obtain ⟨_, _, rfl, r1, r2⟩ := r.two
    cases r1
    cases r2
    rfl
  subst ev
  refine call_function_tree kind_hpush plain_hpush entry_hpush (args_hpush _ _) ?_
  obtain ⟨z, its, n, rv, hl, ho⟩ := I.lstM hH
  have ei := vals_refs rv
  subst ei
  have hbl := Paired.length hW
  refine push_run ho (by rw [List.length_map, hbl]; exact hz) ⟨plainId_quiet plain_sift _, ?_⟩
  have I2 := list_step (f := fun xs => xs.push (.ref b)) (cs := bs ++ [b]) I hH ho (by simp) (by rw [List.length_append, hbl]; exact hz)
  have hk : Kp H (upd H l (.lst ((bs ++ [b]).map V.ref))) := Kp.lst hH
  rw [List.length_map, hbl]
  refine up_code hu (L.length + 1) L.length (L ++ [e]) (bs ++ [b]) _ _ I2 upd_same (WaysAt.kp (DL.Paired.app hW (DL.Paired.one hb)) hk) (by rw [List.length_append]; exact Nat.lt_succ_self _) (Nat.lt_succ_self _) fun H' s' cs I' eH hW' => ?_
  exact ⟨.non, H', I', rfl, k H' cs (by rw [eH, upd_upd]) hW'⟩
theorem cr_hpop (hu : X.A.units + 64 < cLine) : CallR X (.builtin "_heapq.heappop") rHPop := by
  intro pins s σ H vs us Q I r h
  obtain ⟨l, bs, L, e, rfl, hH, hW, h0, k⟩ := h
  rw [Vals.ref1 r]
  refine call_function_tree kind_hpop plain_hpop entry_hpop (args_hpop _) ?_
  obtain ⟨z, its, n, rv, hl, ho⟩ := I.lstM hH
  have ei := vals_refs rv
  subst ei
  have hbl := Paired.length hW
  rw [List.length_map] at z
  obtain ⟨b, hb, hb2⟩ := DL.Paired.getR hW h0
  have hL : 0 < L.length := (List.getElem?_eq_some_iff.mp h0).1
  obtain ⟨v, hv⟩ : ∃ v, L[L.length - 1]? = some v := ⟨_, List.getElem?_eq_getElem (by omega)⟩
  obtain ⟨c, hc, hc2⟩ := DL.Paired.getR hW hv
  have hgl : L.getLast? = some v := by rw [List.getLast?_eq_getElem?]; exact hv
  by_cases h1 : L.length = 1
  · have eb : bs = [b] := by
      match bs, hb, hbl with
      | [x], hb, _ => rw [Option.some.inj hb]
      | [], hb, _ => cases hb
      | _ :: _ :: _, _, hbl => simp at hbl; omega
    subst eb
    refine pop_one ho ?_
    have I2 := list_step (f := fun xs => xs.pop) (cs := []) I hH ho (by simp) (Nat.zero_le _)
    have hk : Kp H (upd H l (.lst (([] : List Addr).map V.ref))) := Kp.lst hH
    refine ⟨.ref b, _, I2, rfl, k b _ [] rfl (hb2.kp hk) ?_⟩
    unfold hpop
    rw [hgl]
    dsimp only
    rw [if_pos h1]
    exact .nil
  · refine pop_more ho (by rw [List.length_map]; omega) (get_ref hb) (by rw [List.length_map, hbl]; exact get_ref hc) (by rw [List.length_map]; exact z) ⟨plainId_quiet plain_sift _, ?_⟩
    have I2 := list_step (f := fun xs => xs.pop) (cs := bs.dropLast) I hH ho (by simp) (by rw [List.length_dropLast]; omega)
    obtain ⟨z3, its3, n3, rv3, hl3, ho3⟩ := I2.lstM upd_same
    have ei3 := vals_refs rv3
    subst ei3
    have I3 := list_step (f := fun xs => xs.setIfInBounds 0 (.ref c)) (cs := bs.dropLast.set 0 c) I2 upd_same ho3 (by simp [List.map_set]) (by rw [List.length_set, List.length_dropLast]; omega)
    rw [upd_upd] at I3
    have hk : Kp H (upd H l (.lst ((bs.dropLast.set 0 c).map V.ref))) := Kp.lst hH
    have hD : Paired (WayAt H) bs.dropLast L.dropLast := by
      have : ∀ {l₁ : List Addr} {l₂ : List BW}, Paired (WayAt H) l₁ l₂ → Paired (WayAt H) l₁.dropLast l₂.dropLast := fun {l₁ l₂} q => by
        induction q with
        | nil => exact .nil
        | cons h t ih => cases t with
          | nil => exact .nil
          | cons h2 t2 => exact .cons h ih
      exact this hW
    refine down_code hu (L.length + 1) 0 (L.dropLast.set 0 v) (bs.dropLast.set 0 c) _ _ I3 upd_same (WaysAt.kp (paired_set hD _ _ _ hc2) hk) (by rw [List.length_set, List.length_dropLast]; omega) (by rw [List.length_set, List.length_dropLast]; omega) fun H' s' cs I' eH hW' => ?_
    refine ⟨.ref b, H', I', rfl, k b H' cs (by rw [eH, upd_upd]) (hb2.kp (hk.trans ?_)) ?_⟩
    · rw [eH]
      exact Kp.lst upd_same
    · unfold hpop
      rw [hgl]
      dsimp only
      rw [if_neg h1]
      exact hW'
end
end DLR
namespace DLR
open PySem PySem.Spec PyProof.Rows L2
/-! ### dicts with tuple keys: comprehensions, items() -/
def tDcT (wi : TI) (g : TG) (tt : TT) (tk tv : TE) (vs : List Nat) : TE := fun σ H Q => wi σ H fun J H1 => ∀ D, H1 D = none → ∃ W : Nat → Nat → Hp → Prop, (∃ m, W 0 m (upd H1 D (.dT []))) ∧ ∀ i m H, W i m H →
  (J.stop i H ∧ Q (.ref D) H) ∨ (J.go i H ∧ ∃ Nx : Hp → Prop, (∀ H', Nx H' → ∃ m', m' < m ∧ W (i + 1) m' H') ∧ ∀ x H', J.yld i H x H' → g x (wipe σ vs) H' fun σ2 H2 => wipe σ2 vs = wipe σ vs ∧ tt σ2 H2 fun b H3 =>
    if b = true then tk σ2 H3 fun y H4 => tv σ2 H4 fun z H5 => ∃ (kvs : List (List Key × V)) (k : List Key) (c : Addr), y = .ref c ∧ H5 c = some (.tup (k.map kV)) ∧ H5 D = some (.dT kvs) ∧ kvs.length < sizeLine ∧ Nx (upd H5 D (.dT (putK kvs k z))) else Nx H3)
theorem d_setT {X : Cx} {pins : List (Addr × Obj)} {σ : L2.St} {H : Hp} {s : Shared} {E : Value → Shared → Prop} {D b : Addr} {kvs : List (List Key × V)} {k : List Key} {v : V} {u r : Value} {Q : Unit → Shared → Prop} (hu : X.A.units + 1 < cLine) (I : Inv X pins σ H s) (hD : H D = some (.dT kvs)) (hz : kvs.length < sizeLine)
    (ry : RelV (.ref b) u) (eb : H b = some (.tup (k.map kV))) (rv : RelV v r) (h : ∀ s', Inv X pins σ (upd H D (.dT (putK kvs k v))) s' → Q () s') : wpAny (model X.prog X.w) X.A (dictSet D u r) Q E s := by
  cases (show u = Value.ref b from ry)
  obtain ⟨z, hd, xs, rel, dd⟩ := dt_of I.hok hD
  have hzx : xs.length ≤ sizeLine := by rw [← Paired.length rel]; exact z
  have hl : (putK kvs k v).length ≤ sizeLine := by have := length_putK kvs k v; omega
  refine wpAny_dictSet_heap (hsz := hzx) (show (tupleKind (mixKind X.prog X.w)).room X.A from (by show X.A.units < cLine; omega)) (key_of I.hok eb) dd fun h' dd' hs => h _ ?_
  obtain ⟨q, es, ep, hq, h2, h3, h4, _, h5⟩ := dd'
  refine d_write I (by rw [hD]; exact True.intro) hs ⟨q, hq⟩ ⟨hl, hd, _, (rel.put k eb rv).keeps fun c ys ec => ?_, q, es, ep, hq, h2, h3, h4, h5⟩
  rw [upd_ne (ne_of ec hD (fun z => nomatch z))]
  exact ec
section
variable {X : Cx}
theorem dcT_core {pins : List (Addr × Obj)} {s : Shared} {σ : L2.St} {H : Hp} {Q : VK} {kx vx tg iter : Expr} {ifs : List Expr} {scope : Scope} {own : List (Str × Nat)} {pos pos' : Pos} {wi : TI} {g : TG} {tt : TT} {tk tv : TE} {use : Option (Value → Sem Unit)} {Qf : Value → Shared → Prop} (calm : X.calm = true) (hu : X.A.units + 1 < cLine) (nd : X.N.Nodup) (I0 : Inv X pins σ H s) (src : PI X tg iter wi) (blk : BlkOk X.N X.env.scope scope own)
    (Gt : ∀ (s : Shared) (H : Hp) (C : Addr) (cl : List (Str × Addr)) (fp : List Addr), PG (X.blk s H scope (compEnvC scope cl C X.env) fp) tg g)
    (Tt : ∀ (s : Shared) (H : Hp) (C : Addr) (cl : List (Str × Addr)) (fp : List Addr), PTs (X.blk s H scope (compEnvC scope cl C X.env) fp) ifs tt)
    (Kt : ∀ (s : Shared) (H : Hp) (C : Addr) (cl : List (Str × Addr)) (fp : List Addr), PE (X.blk s H scope (compEnvC scope cl C X.env) fp) kx tk)
    (Et : ∀ (s : Shared) (H : Hp) (C : Addr) (cl : List (Str × Addr)) (fp : List Addr), PE (X.blk s H scope (compEnvC scope cl C X.env) fp) vx tv) (fold : ∀ x, foldedSetIterable iter X.env x = pure x)
    (rd : tDcT wi g tt tk tv (own.map (·.2)) σ H Q)
    (hRR : ∀ dd C s' m H', Inv X pins σ H' s' → Q (.ref dd) H' → s'.heap.Ns C m → FpOk X pins H' C → compPost (model X.prog X.w) X.A X.xe use Qf (.ref dd) C (.ok .next) s') :
    wpAny (model X.prog X.w) X.A (comprehension (.DictComp kx vx [⟨tg, iter, ifs, 0⟩] scope pos) scope X.env pos' newDict false (eval iter X.env) use) Qf X.xe s := by
  have caps : ∀ y ∈ scope.names, y.2 = .free → ∃ c, X.env.cells.lookup y.1 = some c := fun y hy e => (blk.free y hy e).elim (fun k => I0.ok.has _ (.inl k)) fun k => I0.ok.has _ (.inr k)
  refine wpAny_comprehension_free (use := use) rfl fold (closure_ok caps) blk.kind (fun y hy e => by rw [blk.uniq y hy, e]) (thn (src.run pins s σ H _ I0 rd) fun _ _ got => thn got fun _ sI start => ?_)
  obtain ⟨it, fp, tn, J, HI, rfl, II, T, stI, fpI, q⟩ := start
  refine wpAny_newObj_type (newEnv_comp ?_)
  have nD : HI sI.heap.objs.size = none := II.hok.fresh (Nat.le_refl _)
  obtain ⟨W, ⟨m0, w0⟩, turn⟩ := q _ nD
  obtain ⟨sL, eL⟩ : ∃ sL : Shared, sL = { sI with heap := sI.heap.push { cls := .type "dict", data := .dict #[] } } := ⟨_, rfl⟩
  obtain ⟨HL, eH⟩ : ∃ HL : Hp, HL = upd HI sI.heap.objs.size (.dT []) := ⟨_, rfl⟩
  have IL : Inv X pins σ HL sL := by
    rw [eL, eH]
    exact II.laid (t' := sI.toks) (fun b o e => Heap.get?_push_of_some _ e) (Nat.le_refl _) (dt_empty sI.heap II.big)
  have keepL : ∀ b o, sI.heap.get? b = some o → sL.heap.get? b = some o := fun b o e => by rw [eL]; exact Heap.get?_push_of_some _ e
  have fpL : ∀ b ∈ fp, FpOk X pins HL b ∧ b < sL.heap.objs.size := fun b hb => by
    obtain ⟨o, e, _⟩ := T.obj _ _ stI b hb
    refine ⟨⟨?_, (fpI b hb).2⟩, Heap.lt_size (keepL b o e)⟩
    rw [eH, upd_ne (Nat.ne_of_lt (Heap.lt_size e))]
    exact (fpI b hb).1
  have IB := block_start IL blk nd fpL
  obtain ⟨cl, ecl⟩ : ∃ cl, cl = cellsFrom (sL.heap.objs.size + 1) scope.names (cloFrom X.env.cells scope.names []) := ⟨_, rfl⟩
  have PGb := Gt sL HL sL.heap.objs.size cl fp
  have PTb := Tt sL HL sL.heap.objs.size cl fp
  have PKb := Kt sL HL sL.heap.objs.size cl fp
  have PEb := Et sL HL sL.heap.objs.size cl fp
  rw [ecl] at PGb PTb PKb PEb
  rw [← eL]
  rw [← eH] at w0
  show codeAny _ _ (.compStart _ 0 (.ref it) (.ref sI.heap.objs.size) (compEnvC scope (cellsFrom (sL.heap.objs.size + 1) scope.names (cloFrom X.env.cells scope.names [])) sL.heap.objs.size X.env)) (compPost (model X.prog X.w) X.A X.xe use Qf (.ref sI.heap.objs.size) sL.heap.objs.size) { sL with heap := pushCells (sL.heap.push { cls := .type "dict", data := .dict #[] }) scope.names }
  obtain ⟨ce, ece⟩ : ∃ ce, ce = compEnvC scope (cellsFrom (sL.heap.objs.size + 1) scope.names (cloFrom X.env.cells scope.names [])) sL.heap.objs.size X.env := ⟨_, rfl⟩
  have eloc : ce.locals = sL.heap.objs.size := by rw [ece]; rfl
  rw [← ece] at IB PGb PTb PKb PEb ⊢
  obtain ⟨sB, eB⟩ : ∃ sB : Shared, sB = { sL with heap := pushCells (sL.heap.push { cls := .type "dict", data := .dict #[] }) scope.names } := ⟨_, rfl⟩
  rw [← eB] at IB ⊢
  have stB : tn 0 sB.heap := T.keep _ _ _ stI fun b _ o e => by rw [eB]; exact pushCells_keeps _ _ _ _ (Heap.get?_push_of_some _ (keepL b o e))
  have fpB : ∀ {σ' : L2.St} {H' : Hp} {s' : Shared}, Inv (X.blk sL HL scope ce fp) [] σ' H' s' → (∀ b ∈ fp, H' b = none) → ∀ b ∈ fp, FpOk (X.blk sL HL scope ce fp) [] H' b := fun I' n b hb =>
    ⟨n b hb, (I'.ok.exf b hb).1, I'.ok.exfs b hb, .inl hb, fun x c e => (I'.ok.exf b hb).2 x c e, fun p hp => absurd (show p ∈ ([] : List (Addr × Obj)) ++ [] from hp) (by simp)⟩
  refine codeAny_compStart_dict ?_ (T.self X.A 0 _ _ _ stB ?_)
  all_goals
    refine compLoop_anyD (fun n s' => ∃ i H', Inv (X.blk sL HL scope ce fp) [] (wipe σ (own.map (·.2))) H' s' ∧ tn i s'.heap ∧ (∀ b ∈ fp, H' b = none) ∧ W i n H') ?_ m0 ⟨0, HL, IB, stB, fun b hb => (fpL b hb).1.1, w0⟩
    rintro n s1 ⟨i, H1, I1, st1, n1, w1⟩
    rcases turn i n H1 w1 with ⟨stop, fin⟩ | ⟨go, Nx, hNx, step⟩
    · refine thnF (T.done (X.blk sL HL scope ce fp) rfl rfl rfl calm i [] s1 _ H1 (fun _ _ => False) I1 (fpB I1 n1) st1 stop) fun r s2 ⟨hr, I2⟩ => ?_
      subst hr
      have I3 : Inv X pins σ H1 s2 := IL.call' (ch := fp) I2.os I2.base I2.hok I2.bare fun b hb => ⟨(fpL b hb).1.2.2.2.1, (fpL b hb).1.2.1, (fpL b hb).1.2.2.2.2.1, (fpL b hb).1.2.2.2.2.2⟩
      obtain ⟨m, ns, _⟩ := I2.loc
      have free := I2.free
      rw [show (X.blk sL HL scope ce fp).env.locals = sL.heap.objs.size from eloc] at ns free
      have n0 : FpOk X pins H1 sL.heap.objs.size := by
        obtain ⟨g0, g1, g2, g3, g4, g5⟩ := IL.fpOk (Nat.le_refl _) free
        exact ⟨g0, g1, g2, g3, g4, g5⟩
      exact hRR _ _ s2 m H1 I3 fin ns n0
    · refine thnF (T.item (X.blk sL HL scope ce fp) rfl rfl rfl calm i [] s1 _ H1 (fun _ _ => False) I1 (fpB I1 n1) st1 go) fun r s2 ⟨u, hr, more⟩ => ?_
      subst hr
      refine thnF more fun _ s3 ⟨x, H3, I3, r3, y3, st3, n3⟩ => ?_
      refine thnF (PGb.run _ s3 _ H3 x u _ (I3.pinned (fpB I3 n3) (T.obj _ _ st3)) r3 (step x H3 y3)) fun _ s4 ⟨σ4, H4, I4, wp4, q4⟩ => ?_
      refine thnF (PTb.run _ s4 σ4 H4 _ I4 q4) fun b s5 ⟨H5, I5, q5⟩ => ?_
      have on : ∀ {s' : Shared} {H' : Hp}, Inv (X.blk sL HL scope ce fp) ([] ++ pinsAt fp s3.heap) σ4 H' s' → Nx H' → ∃ m, m < n ∧ ∃ i H', Inv (X.blk sL HL scope ce fp) [] (wipe σ (own.map (·.2))) H' s' ∧ tn i s'.heap ∧ (∀ b ∈ fp, H' b = none) ∧ W i m H' := fun I' nx => by
        obtain ⟨m', lt, w'⟩ := hNx _ nx
        have pin : ∀ b ∈ fp, ∀ o, s3.heap.get? b = some o → _ := fun b hb o e => I'.pin (b, o) (List.mem_append_right _ (List.mem_append_right _ (mem_pinsAt hb e)))
        refine ⟨m', lt, i + 1, _, (I'.unpinned (pins := [])).weak (by rw [← wp4, wipe_length]) (fun j v e => ?_), T.keep _ _ _ st3 fun b hb o e => (pin b hb o e).1, fun b hb => ?_, w'⟩
        · rw [← wp4] at e
          exact (wipe_some e).1
        · obtain ⟨o, e, _⟩ := T.obj _ _ st3 b hb
          exact (pin b hb o e).2.1
      by_cases hb : b = true
      · subst hb
        rw [if_pos rfl] at q5 ⊢
        refine thnF (PKb.run _ s5 σ4 H5 _ I5 q5) fun z s6 ⟨v6, H6, I6, r6, q6⟩ => ?_
        refine thnF (PEb.run _ s6 σ4 H6 _ I6 q6) fun z7 s7 ⟨v7, H7, I7, r7, kvs, k, c, ek, hc, hD, hz, nx⟩ => ?_
        subst ek
        exact d_setT (X := X.blk sL HL scope ce fp) hu I7 hD hz r6 hc r7 fun s8 I8 => on I8 nx
      · dsimp only at q5 ⊢
        rw [if_neg hb] at q5 ⊢
        exact on I5 q5
theorem pe_dcT {kx vx tg iter : Expr} {ifs : List Expr} {scope : Scope} {own : List (Str × Nat)} {pos : Pos} {wi : TI} {g : TG} {tt : TT} {tk tv : TE} (calm : X.calm = true) (hu : X.A.units + 1 < cLine) (nd : X.N.Nodup) (src : PI X tg iter wi) (blk : BlkOk X.N X.env.scope scope own)
    (Gt : ∀ (s : Shared) (H : Hp) (C : Addr) (cl : List (Str × Addr)) (fp : List Addr), PG (X.blk s H scope (compEnvC scope cl C X.env) fp) tg g)
    (Tt : ∀ (s : Shared) (H : Hp) (C : Addr) (cl : List (Str × Addr)) (fp : List Addr), PTs (X.blk s H scope (compEnvC scope cl C X.env) fp) ifs tt)
    (Kt : ∀ (s : Shared) (H : Hp) (C : Addr) (cl : List (Str × Addr)) (fp : List Addr), PE (X.blk s H scope (compEnvC scope cl C X.env) fp) kx tk)
    (Et : ∀ (s : Shared) (H : Hp) (C : Addr) (cl : List (Str × Addr)) (fp : List Addr), PE (X.blk s H scope (compEnvC scope cl C X.env) fp) vx tv) (fold : ∀ x, foldedSetIterable iter X.env x = pure x := by intro _; rfl) :
    PE X (.DictComp kx vx [⟨tg, iter, ifs, 0⟩] scope pos) (tDcT wi g tt tk tv (own.map (·.2))) := by
  refine ⟨fun pins s σ H Q I rd => ?_⟩
  rw [arm_eval_DictComp]
  refine dcT_core calm hu nd I src blk Gt Tt Kt Et fold rd fun dd C s' m H' I' q hn f => ⟨m, hn, fun h'' sb => ?_⟩
  obtain ⟨f0, f1, f2, f3, f4, f5⟩ := f
  exact ⟨.ref dd, H', I'.turned (t' := s'.toks) (fun b o hb e => (sb.2 b hb).trans e) f0 f1 f3 f4 f5, rfl, q⟩
end
theorem ps_setDcT {X : Cx} {i : Nat} {y : Str} {py : Pos} {kx vx tg iter : Expr} {ifs : List Expr} {scope : Scope} {own : List (Str × Nat)} {pos spos : Pos} {wi : TI} {g : TG} {tt : TT} {tk tv : TE} (calm : X.calm = true) (hu : X.A.units + 1 < cLine) (nd : X.N.Nodup) (at_ : X.N[i]? = some y) (loc : X.env.scope.names.lookup y = some .local)
    (swap : swapsWith (.DictComp kx vx [⟨tg, iter, ifs, 0⟩] scope pos) (some (.Name y py)) spos.line X.env = pure true) (src : PI X tg iter wi) (blk : BlkOk X.N X.env.scope scope own)
    (Gt : ∀ (s : Shared) (H : Hp) (C : Addr) (cl : List (Str × Addr)) (fp : List Addr), PG (X.blk s H scope (compEnvC scope cl C X.env) fp) tg g)
    (Tt : ∀ (s : Shared) (H : Hp) (C : Addr) (cl : List (Str × Addr)) (fp : List Addr), PTs (X.blk s H scope (compEnvC scope cl C X.env) fp) ifs tt)
    (Kt : ∀ (s : Shared) (H : Hp) (C : Addr) (cl : List (Str × Addr)) (fp : List Addr), PE (X.blk s H scope (compEnvC scope cl C X.env) fp) kx tk)
    (Et : ∀ (s : Shared) (H : Hp) (C : Addr) (cl : List (Str × Addr)) (fp : List Addr), PE (X.blk s H scope (compEnvC scope cl C X.env) fp) vx tv) (fold : ∀ x, foldedSetIterable iter X.env x = pure x := by intro _; rfl) :
    PS X (.Assign [.Name y py] (.DictComp kx vx [⟨tg, iter, ifs, 0⟩] scope pos) spos) (tAsg (tDcT wi g tt tk tv (own.map (·.2))) (gName i)) := by
  refine ⟨fun pins s σ H D I rd => ?_⟩
  rw [exec_Assign_Name_used _ _ _ _ swap]
  refine wpAny_bind (wpAny_standAt (wpAny_bind ?_))
  have rd : tDcT wi g tt tk tv (own.map (·.2)) σ H (fun x H1 => gName i x σ H1 D.nx) := rd
  show wpAny _ X.A (do
    let _ ← comprehension (.DictComp kx vx [⟨tg, iter, ifs, 0⟩] scope pos) scope X.env (firstIterPos [⟨tg, iter, ifs, 0⟩] pos) newDict false (eval iter X.env) (some (assign (.Name y py) X.env))) _ _ s
  refine wpAny_bind (thn (dcT_core (Qf := fun _ s' => SP X pins D .next s') calm hu nd I src blk Gt Tt Kt Et fold rd fun dd C s' m H' I' q hn f => ?_) fun _ s' hq => wpAny_pure (wpAny_pure hq))
  show wpAny _ _ (assign (.Name y py) X.env (.ref dd)) _ _ _
  refine wpAny_assign_Name (store_ok2 (v := V.ref dd) I' nd at_ (.inl loc) rfl (fun s2 I2 ⟨a, sb, ha⟩ => ?_) (.inr loc))
  obtain ⟨f0, f1, f2, f3, f4, f5⟩ := f
  have ne : C ≠ a := by
    rcases ha with z | z
    · rw [z]
      exact f1
    · exact fun e => f4 y a z e.symm
  refine ⟨m, hn.sameBut sb ne, fun h3 sb3 => ?_⟩
  exact ⟨_, H', I2.turned (t' := s2.toks) (fun b o hb e => (sb3.2 b hb).trans e) f0 f1 f3 f4 f5, q⟩
theorem sw_trueD {kx vx : Expr} {gs : List Comprehension} {scope : Scope} {pos py : Pos} {y : Str} {l : Nat} {env : Env} (hk : env.scope.kind = .function) (hy : env.scope.names.lookup y = some .local) (hl : (py.line == pos.line) = true)
    (ha : (scope.names.any fun (n, k) => n == y && (k == .local || k == .cell)) = false) : swapsWith (.DictComp kx vx gs scope pos) (some (.Name y py)) l env = pure true := by
  have ky : env.kindOf y = some .local := hy
  have hb : env.blockKind = .function := by unfold Env.blockKind; rw [hk]; rfl
  unfold swapsWith
  simp only [hb, ky, ha, Expr.pos, hl]
  rfl
theorem dcT_gen {J : It} {g : TG} {tt : TT} {tk tv : TE} {vs : List Nat} {σ : L2.St} {H1 : Hp} {D : Addr} {Qd : Hp → Prop} (n : Nat) (Pv : Nat → Hp → Prop)
    (h0 : Pv 0 (upd H1 D (HO.dT []))) (go : ∀ i H, i < n → Pv i H → J.go i H) (stop : ∀ H, Pv n H → J.stop n H)
    (step : ∀ i x H H', i < n → Pv i H → J.yld i H x H' → g x (wipe σ vs) H' fun σ2 H2 => wipe σ2 vs = wipe σ vs ∧ tt σ2 H2 fun b H3 =>
      if b = true then tk σ2 H3 fun y H4 => tv σ2 H4 fun z H5 => ∃ (kvs : List (List Key × V)) (k : List Key) (c : Addr), y = .ref c ∧ H5 c = some (.tup (k.map kV)) ∧ H5 D = some (.dT kvs) ∧ kvs.length < sizeLine ∧ Pv (i + 1) (upd H5 D (.dT (putK kvs k z))) else Pv (i + 1) H3)
    (fin : ∀ H, Pv n H → Qd H) :
    ∃ W : Nat → Nat → Hp → Prop, (∃ m, W 0 m (upd H1 D (HO.dT []))) ∧ ∀ i m H, W i m H → J.stop i H ∧ Qd H ∨ J.go i H ∧ ∃ Nx : Hp → Prop, (∀ H', Nx H' → ∃ m', m' < m ∧ W (i + 1) m' H') ∧
      ∀ x H', J.yld i H x H' → g x (wipe σ vs) H' fun σ2 H2 => wipe σ2 vs = wipe σ vs ∧ tt σ2 H2 fun b H3 =>
        if b = true then tk σ2 H3 fun y H4 => tv σ2 H4 fun z H5 => ∃ (kvs : List (List Key × V)) (k : List Key) (c : Addr), y = .ref c ∧ H5 c = some (.tup (k.map kV)) ∧ H5 D = some (.dT kvs) ∧ kvs.length < sizeLine ∧ Nx (upd H5 D (.dT (putK kvs k z))) else Nx H3 := by
  refine ⟨fun i m H => m = n - i ∧ i ≤ n ∧ Pv i H, ⟨n, rfl, Nat.zero_le _, h0⟩, ?_⟩
  rintro i m H ⟨rfl, hi, hp⟩
  rcases Nat.lt_or_ge i n with lt | ge
  · exact .inr ⟨go i H lt hp, Pv (i + 1), fun H' h => ⟨n - (i + 1), by omega, rfl, lt, h⟩, fun x H' hy => step i x H H' lt hp hy⟩
  · have e : i = n := Nat.le_antisymm hi ge
    subst e
    exact .inl ⟨stop H hp, fin H hp⟩
/-! items() of a dict with tuple keys -/
def Itit (d : Addr) (o : Obj) (kvs : List (List Key × V)) : It :=
  ⟨fun i H => H d = some (.frz o (.dT kvs)) ∧ i < kvs.length, fun i H x H' => ∃ (t : Addr) (k : List Key) (v : V) (q : Addr), kvs[i]? = some (k, v) ∧ x = .ref t ∧ H t = none ∧ H q = some (.tup (k.map kV)) ∧ H' = upd H t (.tup [.ref q, v]), fun i H => H d = some (.frz o (.dT kvs)) ∧ kvs.length ≤ i⟩
theorem frzT_ent {X : Cx} {pins : List (Addr × Obj)} {σ : L2.St} {H : Hp} {s : Shared} {d : Addr} {o : Obj} {kvs : List (List Key × V)} (I : Inv X pins σ H s) (h : H d = some (.frz o (.dT kvs))) :
    (d == sysModules) = false ∧ s.heap.get? d = some o ∧ o.ExactDict ∧ ∃ (es : Array DictEntry) (ep : Nat), o.data = .dict es ep ∧ es.size = kvs.length ∧
      ∀ (i : Nat) (k : List Key) (v : V), kvs[i]? = some (k, v) → ∃ (en : DictEntry) (q : Addr), es[i]? = some en ∧ en.key = .ref q ∧ H q = some (.tup (k.map kV)) ∧ RelV v en.val := by
  obtain ⟨hd, z, hs, xs, pr, o', es, ep, ho, hx, hdt, he, _⟩ := I.hok d _ h
  rw [hd] at ho
  cases ho
  refine ⟨hs, hd, hx, es, ep, hdt, ?_, fun i k v e => ?_⟩
  · have l1 : es.size = xs.length := size_of_entries he
    have l2 : kvs.length = xs.length := Paired.length pr
    omega
  · obtain ⟨b, hb, e1, e2, e3⟩ := paired_get pr e
    have q := entry_at he i
    rw [hb] at q
    exact ⟨_, b.2.1, q, rfl, e2, e3⟩
theorem raw_of {h : Heap} {d : Addr} {o : Obj} {es : Array DictEntry} {ep : Nat} (h1 : h.get? d = some o) (h2 : o.ExactDict) (h3 : o.data = .dict es ep) : DT.Raw h d es ep := ⟨o, h1, h2, h3⟩
theorem turn_itemsT {P : Program} {w : World} {K : PySem.W.Frag} {d : Addr} {o : Obj} {es : Array DictEntry} {ep : Nat} {kvs : List (List Key × V)} {elts : List Expr} {kk : Nat} {tpos : Pos} (it : Addr) (hod : o.data = .dict es ep) :
    Turn P w K (.Tuple elts kk tpos) (Itit d o kvs) [it] it (fun i h => ∃ ok ov, IsItemIter h it d i es.size ep ok ov) where
  mem := by simp
  obj := fun i h st b hb => by
    have e : b = it := by simpa using hb
    subst e
    obtain ⟨ok, ov, e⟩ := st
    exact ⟨_, e, fun v z => nomatch z⟩
  keep := fun i h h' st k => let ⟨ok, ov, e⟩ := st; ⟨ok, ov, k it (by simp) _ e⟩
  item := by
    intro X hP hw hK hc i pins s σ H E I hf st hg
    subst hP hw hK
    obtain ⟨hd, hi⟩ := hg
    obtain ⟨hs, hgd, hx, es', ep', hdt, hsz, ent⟩ := frzT_ent I hd
    obtain ⟨rfl, rfl⟩ := dict_ep hod hdt
    obtain ⟨⟨k, v⟩, hkv⟩ : ∃ p, kvs[i]? = some p := ⟨kvs[i], List.getElem?_eq_getElem hi⟩
    obtain ⟨en, q, hen, hkey, hq, rv⟩ := ent i k v hkv
    obtain ⟨ok, ov, he⟩ := st
    have hlt : it < s.heap.objs.size := Heap.lt_size he
    have hie : i < es'.size := by omega
    have een : es'[i] = en := by
      rw [Array.getElem?_eq_getElem hie] at hen
      exact Option.some.inj hen
    refine DT.nextI he (raw_of hgd hx hdt) hie fun h' ho hT hz hk => ?_
    refine ⟨_, rfl, wpAny_letOwnedTupleGo_items (s := { s with heap := h' }) ho fun h'' he' sb => ?_⟩
    rw [een] at hT
    have hT2 : h''.get? s.heap.objs.size = some { cls := .type "tuple", data := .seq #[en.key, en.val] } := (sb.2 _ (Nat.ne_of_gt hlt)).trans hT
    have new : ObjOk X.prog X.w (upd H s.heap.objs.size (.tup [.ref q, v])) h'' s.heap.objs.size (.tup [.ref q, v]) :=
      ⟨by show 2 ≤ sizeLine; decide, [en.key, en.val], .cons hkey (.cons rv .nil), ⟨_, hT2, rfl, _, rfl⟩⟩
    have I1 : Inv X pins σ (upd H s.heap.objs.size (.tup [.ref q, v])) { s with heap := h'' } :=
      I.turnedNew (t' := s.toks) (ch := [it]) (fun b ob hb e => (sb.2 b (by simpa using hb)).trans (hk b ob (by simpa using hb) e)) hf (Nat.le_refl _) new
    refine ⟨.ref s.heap.objs.size, _, I1, rfl, ⟨_, k, v, q, hkv, rfl, I.hok.fresh (Nat.le_refl _), hq, rfl⟩, ⟨_, _, he'⟩, fun b hb => ?_⟩
    have e : b = it := by simpa using hb
    rw [e, upd_ne (Nat.ne_of_lt hlt)]
    exact (hf it (by simp)).1
  done := by
    intro X hP hw hK hc i pins s σ H E I hf st hg
    subst hP hw hK
    obtain ⟨hd, hi⟩ := hg
    obtain ⟨f0, f1, f2, f3, f4, f5⟩ := hf it (by simp)
    obtain ⟨hs, hgd, hx, es', ep', hdt, hsz, ent⟩ := frzT_ent I hd
    obtain ⟨rfl, rfl⟩ := dict_ep hod hdt
    obtain ⟨ok, ov, he⟩ := st
    exact DT.endI (I.ok.hd hc) he (raw_of hgd hx hdt) (by omega) fun h' eb => ⟨rfl, I.turned (t' := s.toks) (fun b ob hb e => eb b ob hb e) f0 f1 f3 f4 f5⟩
  self := fun A i s Q E st h => let ⟨_, _, e⟩ := st; PySem.W.kcp_self e h
def iItemsT (td : TE) : TI := fun σ H R => td σ H fun x H1 => ∃ d o kvs, x = .ref d ∧ H1 d = some (.frz o (.dT kvs)) ∧ R (Itit d o kvs) H1
theorem pi_itemsT {X : Cx} {e : Expr} {td : TE} {apos cpos : Pos} {elts : List Expr} {kk : Nat} {tpos : Pos} (he : PE X e td) (hbase : attributeBase e "items" X.env (eval e X.env) = eval e X.env := by rfl) (hline : (apos.endLine == cpos.line) = true := by rfl) :
    PI X (.Tuple elts kk tpos) (.Call (.Attribute e "items" apos) [] [] cpos) (iItemsT td) := by
  refine ⟨fun pins s σ H R I h => ?_⟩
  refine wpAny_Call_method (T := "dict") (id := "dict.items") hbase rfl hline F.plainAttrs_dict F.slot_dict_items F.type_dict_items (thn (he.run pins s σ H _ I h) fun u s1 ⟨x, H1, I1, rx, d, o, kvs, ex, hd, q⟩ => ?_)
  subst ex
  obtain rfl : u = Value.ref d := rx
  obtain ⟨hs, hgd, hx, es, ep, hdt, hsz, ent⟩ := frzT_ent I1 hd
  have rw_ := raw_of hgd hx hdt
  refine ⟨rw_.typeIs, ?_, ?_⟩
  · intro a e
    cases e
    exact ⟨o, hgd, hx.2.1⟩
  have I2 : Inv X pins σ H1 { s1 with heap := s1.heap.push { cls := .type "dict_items", data := .fields #[.ref d] } } := I1.kept (t' := s1.toks) fun b ob q => Heap.get?_push_of_some _ q
  have fin : wpAny (model X.prog X.w) X.A (pyIter (.ref s1.heap.objs.size)) (PIE X pins σ (.Tuple elts kk tpos) R) X.xe { s1 with heap := s1.heap.push { cls := .type "dict_items", data := .fields #[.ref d] } } := by
    refine DT.iterI (d := d) ⟨_, Heap.get?_push_size _ rfl, rfl, rfl⟩ (rw_.push _) (pi_one (tk := s1.toks) I2 _ (turn_itemsT _ hdt) ⟨.none, .none, ?_⟩ q)
    exact Heap.get?_push_size _ rfl
  show wpAny _ _ (callWith cpos (.builtin "dict.items") [.ref d] [] []) _ X.xe s1
  exact method_meetsIn F.slot_dict_items F.entry_dict_items rfl (PySem.evalArgs_none ⟨rfl, rw_.typeIs, F.args_dict_items_1 _, _, DT.meetsItems (es := es) (ep := ep) hs, ⟨rw_, fin⟩⟩)
/-! list(d.values()), the keys numbers and texts -/
def valsO (p d : Addr) : HO := .ext fun h => h.IsValuesView p d
theorem valsO_ok {P : Program} {w : World} {H : Hp} {h : Heap} {p d : Addr} (e : h.get? p = some { cls := .type "dict_values", data := .fields #[.ref d] }) : ObjOk P w H h p (valsO p d) :=
  ⟨⟨_, e, rfl, rfl⟩, ⟨_, e⟩, fun h1 h2 x k => let ⟨o, ho, r⟩ := x; ⟨o, k o ho, r⟩⟩
def rValsK : V → List V → Hp → VK → Prop := fun x xs H Q => ∃ (a : Addr) (kvs : List (Key × V)), x = .ref a ∧ xs = [] ∧ H a = some (.dK kvs) ∧ ∀ p, H p = none → Q (.ref p) (upd H p (valsO p a))
theorem mt_valsK {X : Cx} : MtR X "dict.values" rValsK := by
  intro pins s σ H x xs v us Q I rx rxs h
  obtain ⟨a, kvs, rfl, rfl, ha, q⟩ := h
  cases rx
  cases rxs
  obtain ⟨z, hd, vs, rel, dd⟩ := dk_of I.hok ha
  refine call_meetsIn PySem.F.slot_dict_values dd.typeIs PySem.F.entry_dict_values (PySem.F.args_dict_values_1 _) (meets_dict_values (mixKind X.prog X.w) a hd) ⟨⟨vs, dd⟩, ?_⟩
  have hf : H s.heap.objs.size = none := I.hok.fresh (Nat.le_refl _)
  exact ⟨.ref s.heap.objs.size, upd H s.heap.objs.size (valsO s.heap.objs.size a), I.laid (t' := s.toks) (fun b u e => Heap.get?_push_of_some _ e) (Nat.le_refl _) (valsO_ok (Heap.get?_push_size _ rfl)), rfl, q _ hf⟩
theorem kv_vals {kvs : List (Key × V)} {vs : List (Key × Value)} (h : KV kvs vs) : Vals (kvs.map (·.2)) (vs.map (·.2)) := by
  unfold KV at h
  induction h with
  | nil => exact .nil
  | cons r t ih => exact .cons r.2 ih
theorem call_list_vals {X : Cx} (hc : X.calm = true) : CallR X (.type "list") (fun xs H Q => ∃ p d kvs, xs = [V.ref p] ∧ H p = some (valsO p d) ∧ H d = some (.dK kvs) ∧ ∀ l, H l = none → Q (.ref l) (upd H l (.lst (kvs.map (·.2))))) := by
  intro pins s σ H xs us Q I r h
  obtain ⟨p, d, kvs, rfl, hp, hd, q⟩ := h
  rw [Vals.ref1 r]
  obtain ⟨z, hs, vs, rel, dd⟩ := dk_of I.hok hd
  obtain ⟨ep, hat⟩ := dd.dictAt
  have hl : kvs.length = vs.length := Paired.length rel
  have hv : s.heap.IsValuesView p d := (I.hok p _ hp).1
  refine PySem.W.kdl_call (PySem.W.kdl_values (knd := mixKind X.prog X.w) (kvs := vs) (ep := ep)) (I.ok.hd hc) ⟨hv, hat⟩ (by omega) fun h' tk acc' c' kp e it => ?_
  have ea : acc'.toList = vs.map (·.2) := by
    apply List.ext_getElem?
    intro j
    rw [List.getElem?_map]
    have hla : acc'.toList.length = vs.length := by rw [Array.length_toList, it.1]
    cases hj : acc'.toList[j]? with
    | none =>
      have h1 := List.getElem?_eq_none_iff.mp hj
      rw [List.getElem?_eq_none (by omega)]
      rfl
    | some v =>
      obtain ⟨k, hk⟩ := it.2 j v (by rw [← Array.getElem?_toList]; exact hj)
      rw [hk]
      rfl
  refine ⟨.ref s.heap.objs.size, _, I.laid (t' := tk) (o := .lst (kvs.map (·.2))) kp (Nat.le_refl _) ⟨by rw [List.length_map]; exact z, acc'.toList, c', ?_, by rw [Array.toArray_toList]; exact e⟩, rfl, q _ (I.hok.fresh (Nat.le_refl _))⟩
  rw [ea]
  exact kv_vals rel
end DLR
namespace DL
open PySem PySem.Spec L2 DLR
/-! ### the halves done, as a dict -/
section
variable {κ β : Type} [DecidableEq κ]
def getE : List (κ × β) → κ → Option β
  | [], _ => none
  | q :: L, k => if q.1 = k then some q.2 else getE L k
def setE (L : List (κ × β)) (k : κ) (v : β) : List (κ × β) := if (getE L k).isSome = true then L.map (fun q => if q.1 = k then (q.1, v) else q) else L ++ [(k, v)]
def emap {κ' : Type} (enc : κ → κ') (f : β → V) (L : List (κ × β)) : List (κ' × V) := L.map fun q => (enc q.1, f q.2)
theorem emap_val {κ' : Type} [DecidableEq κ'] {enc : κ → κ'} (inj : ∀ a b, enc a = enc b → a = b) (f : β → V) (k : κ) : ∀ L : List (κ × β), valV (emap enc f L) (enc k) = (getE L k).map f
  | [] => rfl
  | q :: L => by
    unfold getE
    by_cases e : q.1 = k
    · rw [if_pos e]
      exact valV_pos (p := (enc q.1, f q.2)) (by rw [e])
    · rw [if_neg e, ← emap_val inj f k L]
      exact valV_neg (p := (enc q.1, f q.2)) (fun z => e (inj _ _ z))
theorem emap_put {κ' : Type} [DecidableEq κ'] {enc : κ → κ'} (inj : ∀ a b, enc a = enc b → a = b) (f : β → V) (L : List (κ × β)) (k : κ) (v : β) : putK (emap enc f L) (enc k) (f v) = emap enc f (setE L k v) := by
  unfold putK setE
  have e : ((emap enc f L).any fun kv => decide (kv.1 = enc k)) = (getE L k).isSome := by
    rw [valV_any, emap_val inj, Option.isSome_map]
  rw [e]
  split
  · unfold emap
    rw [List.map_map, List.map_map]
    refine List.map_congr_left fun x _ => ?_
    show (if enc x.1 = enc k then (enc x.1, f v) else (enc x.1, f x.2)) = (enc (if x.1 = k then (x.1, v) else x).1, f (if x.1 = k then (x.1, v) else x).2)
    by_cases h : x.1 = k
    · rw [if_pos h, if_pos (by rw [h])]
    · rw [if_neg h, if_neg (fun z => h (inj _ _ z))]
  · unfold emap
    rw [List.map_append]
    rfl
theorem emap_len {κ' : Type} (enc : κ → κ') (f : β → V) (L : List (κ × β)) : (emap enc f L).length = L.length := List.length_map _
theorem setE_len (L : List (κ × β)) (k : κ) (v : β) : (setE L k v).length ≤ L.length + 1 ∧ L.length ≤ (setE L k v).length := by
  unfold setE
  split
  · rw [List.length_map]
    omega
  · rw [List.length_append]
    show L.length + 1 ≤ _ ∧ _ ≤ L.length + 1
    omega
theorem getE_snoc {L : List (κ × β)} {k k' : κ} {v : β} : getE (L ++ [(k, v)]) k' = (getE L k').or (if k = k' then some v else none) := by
  induction L with
  | nil => show (if k = k' then some v else getE [] k') = _; split <;> rfl
  | cons q L ih =>
    show (if q.1 = k' then some q.2 else getE (L ++ [(k, v)]) k') = (if q.1 = k' then some q.2 else getE L k').or _
    by_cases e : q.1 = k'
    · rw [if_pos e, if_pos e]; rfl
    · rw [if_neg e, if_neg e, ih]
theorem getE_mapset {L : List (κ × β)} {k k' : κ} {v : β} : getE (L.map fun q => if q.1 = k then (q.1, v) else q) k' = if k = k' then (getE L k').map (fun _ => v) else getE L k' := by
  induction L with
  | nil => split <;> rfl
  | cons q L ih =>
    rw [List.map_cons]
    show (if (if q.1 = k then (q.1, v) else q).1 = k' then some (if q.1 = k then (q.1, v) else q).2 else getE (L.map _) k') = _
    have e1 : (if q.1 = k then (q.1, v) else q).1 = q.1 := by split <;> rfl
    rw [e1, ih]
    by_cases e : q.1 = k'
    · have e3 : getE (q :: L) k' = some q.2 := by show (if q.1 = k' then some q.2 else getE L k') = _; rw [if_pos e]
      rw [if_pos e, e3]
      by_cases e2 : k = k'
      · rw [if_pos (e.trans e2.symm), if_pos e2]; rfl
      · rw [if_neg fun z => e2 (z.symm.trans e), if_neg e2]
    · have e3 : getE (q :: L) k' = getE L k' := by show (if q.1 = k' then some q.2 else getE L k') = _; rw [if_neg e]
      rw [if_neg e, e3]
theorem getE_setE (L : List (κ × β)) (k k' : κ) (v : β) : getE (setE L k v) k' = if k = k' then some v else getE L k' := by
  unfold setE
  cases h : getE L k with
  | none =>
    rw [if_neg (by simp), getE_snoc]
    by_cases e : k = k'
    · subst e
      rw [if_pos rfl, if_pos rfl, h]; rfl
    · rw [if_neg e, if_neg e]
      cases getE L k' <;> rfl
  | some z =>
    rw [if_pos (by rfl), getE_mapset]
    by_cases e : k = k'
    · subst e
      rw [if_pos rfl, if_pos rfl, h]; rfl
    · rw [if_neg e, if_neg e]
theorem setE_keys {L : List (κ × β)} {k : κ} {v : β} (h : (getE L k).isSome = true) : (setE L k v).map (·.1) = L.map (·.1) := by
  unfold setE
  rw [if_pos h, List.map_map]
  refine List.map_congr_left fun q _ => ?_
  show (if q.1 = k then (q.1, v) else q).1 = q.1
  split <;> rfl
end
theorem kNs_inj : ∀ a b : List Nat, a.map kN = b.map kN → a = b
  | [], [], _ => rfl
  | [], _ :: _, h => by cases h
  | _ :: _, [], h => by cases h
  | x :: a, y :: b, h => by
    obtain ⟨h1, h2⟩ := List.cons.inj h
    rw [kN_inj h1, kNs_inj a b h2]
theorem kNs_kV (h : List Nat) : (h.map kN).map kV = h.map nI := by
  rw [List.map_map]
  rfl
theorem kN_inj' (a b : Nat) (h : kN a = kN b) : a = b := kN_inj h
abbrev Left := List (List Nat × Int)
def tmap (T : List (Nat × Int)) : List (Key × V) := emap kN V.int T
def lmap (L : Left) : List (List Key × V) := emap (fun h : List Nat => h.map kN) V.int L
def timesF (G : GoL) : List (Nat × Int) := G.foldl (fun T e => setE T e.1.2 ((getE T e.1.2).getD 0 + e.2)) [(0, 1)]
def firstsF (T : List (Nat × Int)) : Left := T.foldl (fun L q => setE L [q.1] q.2) []
def leftF (G : GoL) : Left := G.foldl (fun L e => setE L [e.1.1, e.1.2] e.2) (firstsF (timesF G))
theorem timesF_len (G : GoL) : (timesF G).length ≤ G.length + 1 := by
  have : ∀ (G : GoL) (T : List (Nat × Int)), (G.foldl (fun T e => setE T e.1.2 ((getE T e.1.2).getD 0 + e.2)) T).length ≤ T.length + G.length := by
    intro G
    induction G with
    | nil => intro T; exact Nat.le_refl _
    | cons e G ih =>
      intro T
      rw [List.foldl_cons, List.length_cons]
      have h1 := ih (setE T e.1.2 ((getE T e.1.2).getD 0 + e.2))
      have h2 := (setE_len T e.1.2 ((getE T e.1.2).getD 0 + e.2)).1
      omega
  have h := this G [(0, 1)]
  unfold timesF
  simp only [List.length_cons, List.length_nil] at h
  omega
theorem fold_len {α κ β : Type} [DecidableEq κ] (kf : α → κ) (vf : List (κ × β) → α → β) : ∀ (M : List α) (L : List (κ × β)), (M.foldl (fun L e => setE L (kf e) (vf L e)) L).length ≤ L.length + M.length
  | [], L => Nat.le_refl _
  | e :: M, L => by
    rw [List.foldl_cons, List.length_cons]
    have h1 := fold_len kf vf M (setE L (kf e) (vf L e))
    have h2 := (setE_len L (kf e) (vf L e)).1
    omega
theorem firstsF_len (T : List (Nat × Int)) : (firstsF T).length ≤ T.length := by
  have := fold_len (fun q : Nat × Int => [q.1]) (fun _ q => q.2) T ([] : Left)
  unfold firstsF
  simpa using this
theorem leftF_len (G : GoL) : (leftF G).length ≤ 2 * G.length + 1 := by
  have h1 : (leftF G).length ≤ (firstsF (timesF G)).length + G.length := fold_len (fun e : (Nat × Nat) × Int => [e.1.1, e.1.2]) (fun (_ : Left) e => e.2) G (firstsF (timesF G))
  have h2 := firstsF_len (timesF G)
  have h3 := timesF_len G
  omega
theorem take_snoc {α : Type} {l : List α} {i : Nat} {x : α} (h : l[i]? = some x) : l.take (i + 1) = l.take i ++ [x] := by rw [List.take_add_one, h]; rfl
abbrev LeftAt (H : Hp) (d : Addr) (L : Left) : Prop := H d = some (.dT (lmap L))
theorem LeftAt.get {H : Hp} {d b : Addr} {L : Left} {h : List Nat} (e : LeftAt H d L) (eb : H b = some (.tup (h.map nI))) : DGet H d (.ref b) ((getE L h).map V.int) := by
  have q := DGet.t (k := h.map kN) e (by rw [kNs_kV]; exact eb)
  unfold lmap at q
  rwa [emap_val (enc := fun h : List Nat => h.map kN) kNs_inj] at q
theorem LeftAt.put {H : Hp} {d b : Addr} {L : Left} {h : List Nat} {v : Int} (e : LeftAt H d L) (eb : H b = some (.tup (h.map nI))) (hl : L.length < sizeLine) : DPut H d (.ref b) (.int v) (upd H d (.dT (lmap (setE L h v)))) := by
  have q := DPut.t (k := h.map kN) (v := V.int v) e (by rw [kNs_kV]; exact eb) (by unfold lmap; rw [emap_len]; exact hl)
  unfold lmap at q
  rwa [emap_put (enc := fun h : List Nat => h.map kN) kNs_inj] at q
theorem tmap_get {H : Hp} {d : Addr} {T : List (Nat × Int)} (x : Nat) (e : H d = some (.dK (tmap T))) : DGet H d (nI x) ((getE T x).map V.int) := by
  have q := DGet.k (k := kN x) e
  unfold tmap at q
  rwa [emap_val kN_inj'] at q
theorem tmap_put {H : Hp} {d : Addr} {T : List (Nat × Int)} {x : Nat} {v : Int} (e : H d = some (.dK (tmap T))) (hl : T.length < sizeLine) : DPut H d (nI x) (.int v) (upd H d (.dK (tmap (setE T x v)))) := by
  have q := DPut.k (k := kN x) (v := V.int v) e (by unfold tmap; rw [emap_len]; exact hl)
  unfold tmap at q
  rwa [emap_put kN_inj'] at q
abbrev sTimesE : Stmt := top 43
abbrev sHalvesDone : Stmt := top 48
abbrev nTimesE : List Str := ["goes","done","_","to","many"]
abbrev nHalvesDone : List Str := ["goes","done","begin","to","many","row"]
abbrev FTimesE (K : Frg) (mg : Str → Option Value) := Fd K mg "times_done" sTimesE ["goes"]
abbrev FHalvesDone (K : Frg) (mg : Str → Option Value) := Fd K mg "halves_done" sHalvesDone ["goes"]
def spTimesE : Sp := fun vs H Q _ => ∃ (l : Addr) (bs : List Addr) (G : GoL), vs = [.ref l] ∧ H l = some (.lst (bs.map V.ref)) ∧ GoesAt H bs G ∧ G.length ≤ 100 ∧ ∀ da H', Same1 H H' → H da = none → H' da = some (.dK (tmap (timesF G))) → Q (.ref da) H'
def spHalvesDone : Sp := fun vs H Q _ => ∃ (l : Addr) (bs : List Addr) (G : GoL), vs = [.ref l] ∧ H l = some (.lst (bs.map V.ref)) ∧ GoesAt H bs G ∧ G.length ≤ 100 ∧ ∀ da H', Same1 H H' → H da = none → LeftAt H' da (leftF G) → Q (.ref da) H'
section
variable {P : Program} {w : World} {K : PySem.W.Frag} {mg : Str → Option Value} {base : Heap}
theorem scTimesE : FnScope nTimesE ["goes"] (defScope sTimesE) := ⟨rfl, rfl, rfl, by decide +kernel, rfl, by decide +kernel, by decide +kernel⟩
theorem scHalvesDone : FnScope nHalvesDone ["goes"] (defScope sHalvesDone) := ⟨rfl, rfl, rfl, by decide +kernel, rfl, by decide +kernel, by decide +kernel⟩
theorem ok_timesE (c : FTimesE K mg) : FnOk P w K mg base CX0 1 c.f c.fd ["goes"] spTimesE := by
  refine c.F.ok scTimesE (fun vs H Q E h => ?_) (fun cdv A outer s H vs Q E hr h => ?_)
  · obtain ⟨l, bs, G, rfl, _⟩ := h
    rfl
  · obtain ⟨l, bs, G, rfl, hl, hG, g60, k⟩ := h
    have hbl := Paired.length hG
    refine ⟨_, (pss_cons (ps_set (i := 1) scTimesE.nd rfl (Or.inl rfl) (pe_disp (pps_cons pe_int pe_int pps_nil) (by rfl) (by rfl) (fun z => by cases z) (by decide)))
      (pss_cons (ps_for PassesOwn.never rfl (pi_list (pv 0)) (pg_tup rfl (pgs_cons (pg_name (i := 2) scTimesE.nd rfl (Or.inl rfl)) (pgs_cons (pg_name (i := 3) scTimesE.nd rfl (Or.inl rfl)) (pgs_cons (pg_name (i := 4) scTimesE.nd rfl (Or.inl rfl)) pgs_nil))))
          (pss_one (ps_dput (hu_of hr) (pv 1) (pv 3) (pe_op op_add (pe_dget2 (hu_of hr) (pv 1) (pv 3) pe_int ⟨rfl, rfl, rfl, rfl⟩) (pv 4)) rfl)))
      (pss_one (ps_ret (pv 1))))), ?_⟩
    refine fun da hda => ?_
    refine alloc hda fun H1 s1 e1 => ?_
    refine ⟨e1, [(kN 0, .int 1)], rfl, (by show 1 ≤ 15; decide), ?_⟩
    have S1 : Same1 H (upd H1 da (.dK (mergeK [] [(kN 0, V.int 1)]))) := Same.mut s1 hda
    have T1 : (upd H1 da (.dK (mergeK [] [(kN 0, V.int 1)]))) da = some (.dK (tmap (timesF (G.take 0)))) := upd_same
    revert S1 T1
    refine change fun H2 b2 e2 => ?_
    intro S1 T1
    refine ⟨_, rfl, l, rfl, ⟨_, SqL.of (S1 _ _ hl)⟩, ?_⟩
    refine for_list (K := K) (a := l) (xs := bs.map V.ref) (fun i σ H' => ∃ (x2 x3 x4 : Option V), σ = [some (.ref l), some (.ref da), x2, x3, x4] ∧ Same1 H H' ∧ H' da = some (.dK (tmap (timesF (G.take i)))))
      ⟨none, none, none, rfl, S1, T1⟩ (fun i σ H' _ ⟨_, _, _, _, q, _⟩ => SqL.of (q _ _ hl)) ?_ ?_
    · rintro i x σ H3 hi ⟨x2, x3, x4, rfl, s3, t3⟩
      have hic : i < bs.length := by
        have q := (List.getElem?_eq_some_iff.mp hi).1
        rwa [List.length_map] at q
      have ex : x = .ref bs[i] := by
        rw [List.getElem?_map, List.getElem?_eq_getElem hic] at hi
        exact (Option.some.inj hi).symm
      subst ex
      obtain ⟨⟨⟨u, v⟩, n⟩, hq1, hq2⟩ := Paired.get hG (List.getElem?_eq_getElem hic)
      have tl : (timesF (G.take i)).length < 100000 := by
        have := timesF_len (G.take i)
        rw [List.length_take] at this
        omega
      refine ⟨bs[i], _, rfl, SqT.of (s3 _ _ hq2), rfl, _, _, rfl, _, _, rfl, _, _, rfl, rfl, ?_⟩
      refine ⟨_, rfl, da, rfl, .inl ⟨_, .inl t3⟩, _, rfl, _, tmap_get v t3, ?_⟩
      have hi0 : ((getE (timesF (G.take i)) v).map V.int).getD (V.int 0) = .int ((getE (timesF (G.take i)) v).getD 0) := by
        cases getE (timesF (G.take i)) v <;> rfl
      rw [hi0]
      refine ⟨_, rfl, _, _, rfl, rfl, _, rfl, _, rfl, da, _, rfl, tmap_put t3 (szl (by omega)), ?_⟩
      refine ⟨_, _, _, rfl, Same.mut s3 hda, ?_⟩
      rw [upd_same, take_snoc hq1]
      unfold timesF
      rw [List.foldl_append]
      rfl
    · rintro σ H3 ⟨x2, x3, x4, rfl, s3, t3⟩
      rw [List.length_map, hbl, List.take_length] at t3
      exact ⟨_, rfl, k da H3 s3 hda t3⟩
theorem ok_halvesDone (c : FHalvesDone K mg) (cTimes : FTimesE K mg) : FnOk P w K mg base CX0 2 c.f c.fd ["goes"] spHalvesDone := by
  have GTimes : FnOk P w K mg base CX0 1 cTimes.f cTimes.fd ["goes"] spTimesE := ok_timesE cTimes
  refine c.F.ok scHalvesDone (fun vs H Q E h => ?_) (fun cdv A outer s H vs Q E hr h => ?_)
  · obtain ⟨l, bs, G, rfl, _⟩ := h
    rfl
  · obtain ⟨l, bs, G, rfl, hl, hG, g60, k⟩ := h
    have hbl := Paired.length hG
    refine ⟨_, (pss_cons (DLR.ps_setDcT (i := 1) (own := [("row", 5), ("many", 4)]) (g := (gTup K 2 (gCons (gName 5) (gCons (gName 4) gNil)))) (tt := tYes) rfl (hu_of hr) scHalvesDone.nd rfl rfl (DLR.sw_trueD rfl rfl rfl (by decide +kernel)) (pi_items (pe_frz (pe_call GTimes (hr.mono (by first | omega | decide)) (by rfl) cTimes.m cTimes.F.kp cTimes.b .nil pass0 (pa_cons (pv 0) pa_nil)))) (blkOk_by (N := nHalvesDone) (sc := defScope sHalvesDone) (by decide +kernel)) (fun _ _ _ _ _ => (pg_tupK K rfl rfl (pgs_cons (pg_name (i := 5) scHalvesDone.nd rfl (Or.inl rfl)) (pgs_cons (pg_name (i := 4) scHalvesDone.nd rfl (Or.inl rfl)) pgs_nil)))) (fun _ _ _ _ _ => pts_nil) (fun _ _ _ _ _ => (pe_tup (pa_cons (pv 5) pa_nil))) (fun _ _ _ _ _ => (pv 4)))
      (pss_cons (ps_for PassesOwn.never rfl (pi_list (pv 0)) (pg_tup rfl (pgs_cons (pg_name (i := 2) scHalvesDone.nd rfl (Or.inl rfl)) (pgs_cons (pg_name (i := 3) scHalvesDone.nd rfl (Or.inl rfl)) (pgs_cons (pg_name (i := 4) scHalvesDone.nd rfl (Or.inl rfl)) pgs_nil))))
          (pss_one (ps_dput (hu_of hr) (pv 1) (pe_tup (pa_cons (pv 2) (pa_cons (pv 3) pa_nil))) (pv 4) rfl)))
      (pss_one (ps_ret (pv 1))))), ?_⟩
    refine ⟨_, rfl, l, bs, G, rfl, hl, hG, g60, fun da H1 s1 nda e1 => ?_⟩
    refine ⟨da, _, rfl, e1, trivial, fun od => ⟨da, od, _, rfl, upd_same, fun dd hdd => ?_⟩⟩
    have s2 : Same1 H (upd H1 da (.frz od (.dK (tmap (timesF G))))) := Same.mut s1 nda
    have e2 : (upd H1 da (.frz od (.dK (tmap (timesF G))))) da = some (.frz od (.dK (tmap (timesF G)))) := upd_same
    generalize upd H1 da (.frz od (.dK (tmap (timesF G)))) = H2 at *
    have tl := timesF_len G
    have fl : ∀ i, (firstsF ((timesF G).take i)).length ≤ 101 := fun i => by
      have := firstsF_len ((timesF G).take i)
      rw [List.length_take] at this
      omega
    refine dcT_gen (n := (timesF G).length) (fun i H' => Same1 H2 H' ∧ LeftAt H' dd (firstsF ((timesF G).take i))) ⟨Same.new hdd, upd_same⟩ (fun i H' hi q => ⟨q.1 _ _ e2, by unfold tmap; rw [emap_len]; exact hi⟩) (fun H' q => ⟨q.1 _ _ e2, by unfold tmap; rw [emap_len]; exact Nat.le_refl _⟩) ?_ ?_
    · rintro i x H3 H4 hi ⟨s3, d3⟩ ⟨t, k0, v0, hk0, rfl, ht, rfl⟩
      have hT : (timesF G)[i]? = some (timesF G)[i] := List.getElem?_eq_getElem hi
      obtain ⟨x, v, exv⟩ : ∃ x v, (timesF G)[i] = (x, v) := ⟨_, _, rfl⟩
      rw [exv] at hT
      have ekv : (k0, v0) = (kN x, V.int v) := by
        unfold tmap emap at hk0
        rw [List.getElem?_map, hT] at hk0
        exact (Option.some.inj hk0).symm
      cases ekv
      have e4 : (upd H3 t (.tup [kV (kN x), V.int v])) t = some (.tup [nI x, .int v]) := upd_same
      have s4 : Same1 H3 (upd H3 t (.tup [kV (kN x), V.int v])) := Same.new ht
      generalize upd H3 t (.tup [kV (kN x), V.int v]) = H4 at *
      have d4 := s4 _ _ d3
      refine ⟨t, _, rfl, SqT.of e4, rfl, _, _, rfl, _, _, rfl, rfl, rfl, ?_⟩
      dsimp only [tYes]
      rw [if_pos rfl]
      refine ⟨_, rfl, (by show 1 ≤ sizeLine; decide), fun c hc => ?_⟩
      refine alloc hc fun H5 s5 e5 => ?_
      refine ⟨_, rfl, lmap (firstsF ((timesF G).take i)), [kN x], c, rfl, e5, s5 _ _ d4, by unfold lmap; rw [emap_len]; exact szl (by have := fl i; omega), Same.mut (s3.trans (s4.trans s5)) hdd, ?_⟩
      show _ = some (HO.dT _)
      rw [upd_same, take_snoc hT]
      have q : putK (lmap (firstsF ((timesF G).take i))) ([x].map kN) (V.int v) = lmap (setE (firstsF ((timesF G).take i)) [x] v) := emap_put (enc := fun h : List Nat => h.map kN) kNs_inj V.int _ [x] v
      have q2 : firstsF ((timesF G).take i ++ [(x, v)]) = setE (firstsF ((timesF G).take i)) [x] v := by
        unfold firstsF
        rw [List.foldl_append]
        rfl
      rw [q2]
      exact congrArg (fun z => some (HO.dT z)) q
    · rintro H3 ⟨s3, d3⟩
      rw [List.take_length] at d3
      dsimp only [gName]
      have S3 := s2.trans s3
      have ndd : H dd = none := s2.free hdd
      refine ⟨_, rfl, l, rfl, ⟨_, SqL.of (S3 _ _ hl)⟩, ?_⟩
      have ll : ∀ i, ((G.take i).foldl (fun L e => setE L [e.1.1, e.1.2] e.2) (firstsF (timesF G))).length ≤ 1000 := fun i => by
        have h1 : ((G.take i).foldl (fun L e => setE L [e.1.1, e.1.2] e.2) (firstsF (timesF G))).length ≤ (firstsF (timesF G)).length + (G.take i).length := fold_len (fun e : (Nat × Nat) × Int => [e.1.1, e.1.2]) (fun (_ : Left) e => e.2) (G.take i) (firstsF (timesF G))
        have h2 := firstsF_len (timesF G)
        rw [List.length_take] at h1
        omega
      refine for_list (K := K) (a := l) (xs := bs.map V.ref) (fun i σ H' => ∃ (x2 x3 x4 x5 : Option V), σ = [some (.ref l), some (.ref dd), x2, x3, x4, x5] ∧ Same1 H H' ∧ LeftAt H' dd ((G.take i).foldl (fun L e => setE L [e.1.1, e.1.2] e.2) (firstsF (timesF G))))
        ⟨none, none, none, none, rfl, S3, d3⟩ (fun i σ H' _ ⟨_, _, _, _, _, q, _⟩ => SqL.of (q _ _ hl)) ?_ ?_
      · rintro i x σ H4 hi ⟨x2, x3, x4, x5, rfl, s4, d4⟩
        have hic : i < bs.length := by
          have q := (List.getElem?_eq_some_iff.mp hi).1
          rwa [List.length_map] at q
        have ex : x = .ref bs[i] := by
          rw [List.getElem?_map, List.getElem?_eq_getElem hic] at hi
          exact (Option.some.inj hi).symm
        subst ex
        obtain ⟨⟨⟨u, v⟩, n⟩, hq1, hq2⟩ := Paired.get hG (List.getElem?_eq_getElem hic)
        refine ⟨bs[i], _, rfl, SqT.of (s4 _ _ hq2), rfl, _, _, rfl, _, _, rfl, _, _, rfl, rfl, ?_⟩
        refine ⟨_, rfl, _, rfl, _, rfl, _, rfl, (by show 2 ≤ sizeLine; decide), fun c hc => ?_⟩
        refine alloc hc fun H5 s5 e5 => ?_
        refine ⟨dd, _, rfl, LeftAt.put (h := [u, v]) (s5 _ _ d4) e5 (szl (Nat.lt_of_le_of_lt (ll i) (by decide))), ?_⟩
        refine ⟨_, _, _, _, rfl, Same.mut (s4.trans s5) ndd, ?_⟩
        show _ = some (HO.dT _)
        rw [upd_same, take_snoc hq1, List.foldl_append]
        rfl
      · rintro σ H4 ⟨x2, x3, x4, x5, rfl, s4, d4⟩
        rw [List.length_map, hbl, List.take_length] at d4
        exact ⟨_, rfl, k dd H4 s4 ndd d4⟩
end
end DL
namespace DLR
open PySem PySem.Spec PyProof.Rows L2 RZ
/-! ### for x in zip(a, b), a and b tuples, x a name -/
abbrev ZipO (h : Heap) (z TI TO : Addr) (v0 v1 : Value) : Prop := h.get? z = some { cls := .type "zip", dict := none, data := .fields #[v0, v1, .bool false, .ref TI, .ref TO], slots := #[] }
section
variable {prog : Program} {w : World} {A : Around} {E : Value → Shared → Prop} {s : Shared} {z TI TO i1 i2 l1 l2 : Addr} {k1 k2 : Nat} {xs ys : Array Value} {v0 v1 : Value}
def ZFree (prog : Program) (w : World) (A : Around) (z : Addr) (s : Shared) : Prop := ∀ (E : Value → Shared → Prop) (Q : Bool → Shared → Prop), Q true s → wpAny (model prog w) A (Builtin.SmallTypes.ownedTupleIsFree (.ref z)) Q E s
theorem zfree_none (hz : ZipO s.heap z TI TO .none v1) : ZFree prog w A z s := fun E Q h => by
  unfold Builtin.SmallTypes.ownedTupleIsFree
  exact wpAny_bind (wpAny_field hz rfl (x := .none) rfl (wpAny_pure h))
theorem zfree_dead {T : Addr} (hz : ZipO s.heap z TI TO (rawInt T) v1) (hT : s.heap.get? T = none) : ZFree prog w A z s := fun E Q h => by
  unfold Builtin.SmallTypes.ownedTupleIsFree
  refine wpAny_bind (wpAny_field hz rfl (x := rawInt T) rfl ?_)
  show wpAny _ _ (loadIfAlive ((T : Int).toNat) >>= _) _ _ _
  rw [Int.toNat_natCast]
  refine wpAny_bind (show wpAny (model prog w) A (loadIfAlive T) _ E s from fun _ _ _ => (show (fun (o : Option Obj) s' => wpAny (model prog w) A _ Q E s') (s.heap.get? T) s from ?_))
  rw [hT]
  exact wpAny_pure h
theorem free_item {x y a b : Value} {Q : Value → Shared → Prop} (D : ZipApart z TI TO i1 i2 l1 l2)
    (hz : ZipO s.heap z TI TO v0 v1) (fr : ZFree prog w A z s) (hTI : IsPair s.heap TI (.ref i1) (.ref i2)) (hTO : IsPair s.heap TO a b)
    (h1 : s.heap.IsTupleIter i1 l1 k1) (h2 : s.heap.IsTupleIter i2 l2 k2) (hl1 : s.heap.IsTuple l1 xs) (hl2 : s.heap.IsTuple l2 ys) (hx : xs[k1]? = some x) (hy : ys[k2]? = some y)
    (hQ : ∀ h', IsZipHeld h' z TI TO s.heap.objs.size false → IsPair h' TO x y → h'.IsTupleIter i1 l1 (k1 + 1) → h'.IsTupleIter i2 l2 (k2 + 1) → IsPair h' s.heap.objs.size x y → h'.objs.size = s.heap.objs.size + 1 →
      (∀ c o, c ≠ z → c ≠ TO → c ≠ i1 → c ≠ i2 → s.heap.get? c = some o → h'.get? c = some o) → Q (.ref s.heap.objs.size) { s with heap := h' }) :
    wpAny (model prog w) A (Builtin.«zip.__next__» ⟨[.ref z], []⟩) (fun fin s' => ∃ v, fin = .done (.ret v) ∧ Q v s') E s := by
  show wpAny _ _ (field (.ref z) 2 >>= _) _ _ _
  refine wpAny_bind (wpAny_field hz rfl (x := .bool false) rfl ?_)
  show wpAny _ _ (field (.ref z) 3 >>= _) _ _ _
  refine wpAny_bind (wpAny_field hz rfl (x := .ref TI) rfl (wpAny_bind (wpAny_seqItems hTI rfl ?_)))
  show wpAny _ _ (Builtin.SmallTypes.ownedTupleIsFree (.ref z) >>= _) _ _ _
  refine wpAny_bind (fr _ _ ?_)
  simp only [if_true]
  refine wpAny_bind (wpAny_rule ?_)
  refine wpAny_bind (wpAny_field hz rfl (x := .ref TO) rfl ?_)
  refine wpAny_bind (wpAny_setField_rec hz (by simp) fun g1 z1 s1 => ?_)
  replace z1 : ZipO g1 z TI TO .ellipsis v1 := z1
  refine wpAny_bind ?_
  simp only [List.zipIdx_cons, List.zipIdx_nil, List.forIn_cons, List.forIn_nil]
  refine wpAny_bind (wpAny_bind (wpAny_onRaise ?_))
  show wpAny _ _ (Builtin.SmallTypes.nextOf (.ref i1) >>= _) _ _ _
  refine wpAny_bind (nextOf_tuple_item (s := { s with heap := g1 }) (h1.extBut s1.extBut D.i1z) (hl1.extBut s1.extBut D.l1z) hx fun g2 a2 s2 => wpAny_pure ?_)
  have p2 : IsPair g2 TO a b := s2.extBut _ _ D.TOi1 (s1.extBut _ _ D.TOz hTO)
  refine wpAny_bind (wpAny_seqItems p2 rfl ?_)
  refine wpAny_bind (wpAny_updateSeq_pair p2 fun g3 p3 s3 => ?_)
  replace p3 : IsPair g3 TO x b := p3
  refine wpAny_bind (wpAny_letGo (wpAny_pure ?_))
  refine wpAny_bind (wpAny_bind (wpAny_onRaise ?_))
  show wpAny _ _ (Builtin.SmallTypes.nextOf (.ref i2) >>= _) _ _ _
  refine wpAny_bind (nextOf_tuple_item (s := { s with heap := g3 }) (((h2.extBut s1.extBut D.i2z).extBut s2.extBut D.i12.symm).extBut s3.extBut D.TOi2.symm) (((hl2.extBut s1.extBut D.l2z).extBut s2.extBut D.l2i1).extBut s3.extBut D.l2TO) hy fun g4 a4 s4 => wpAny_pure ?_)
  have p4 : IsPair g4 TO x b := s4.extBut _ _ D.TOi2 p3
  refine wpAny_bind (wpAny_seqItems p4 rfl ?_)
  refine wpAny_bind (wpAny_updateSeq_pair p4 fun g5 p5 s5 => ?_)
  replace p5 : IsPair g5 TO x y := p5
  refine wpAny_bind (wpAny_letGo (wpAny_pure (wpAny_pure ?_)))
  refine wpAny_bind (wpAny_seqItems p5 rfl ?_)
  refine wpAny_bind (wpAny_newTuple ?_)
  have sz : g5.objs.size = s.heap.objs.size := by rw [s5.1, s4.1, s3.1, s2.1, s1.1]
  have z5 : ZipO g5 z TI TO .ellipsis v1 := s5.extBut _ _ D.TOz.symm (s4.extBut _ _ D.i2z.symm (s3.extBut _ _ D.TOz.symm (s2.extBut _ _ D.i1z.symm z1)))
  have k5 : ∀ c o, c ≠ z → c ≠ TO → c ≠ i1 → c ≠ i2 → s.heap.get? c = some o → g5.get? c = some o := fun c o c1 c2 c3 c4 e => s5.extBut _ _ c2 (s4.extBut _ _ c4 (s3.extBut _ _ c2 (s2.extBut _ _ c3 (s1.extBut _ _ c1 e))))
  have n1 : g5.IsTupleIter i1 l1 (k1 + 1) := ((a2.extBut s3.extBut D.TOi1.symm).extBut s4.extBut D.i12).extBut s5.extBut D.TOi1.symm
  have n2 : g5.IsTupleIter i2 l2 (k2 + 1) := a4.extBut s5.extBut D.TOi2.symm
  have zlt : z < g5.objs.size := Heap.lt_size z5
  show wpAny _ _ (Builtin.SmallTypes.ownedTupleHandOut (.ref z) (.ref g5.objs.size) >>= _) _ _ _
  refine wpAny_bind ?_
  unfold Builtin.SmallTypes.ownedTupleHandOut
  have z6 : ZipO (g5.push { cls := .type "tuple", data := .seq #[x, y] }) z TI TO .ellipsis v1 := Heap.get?_push_of_some _ z5
  refine wpAny_bind (wpAny_setField_rec z6 (by simp) fun g7 z7 s7 => ?_)
  replace z7 : ZipO g7 z TI TO (rawInt g5.objs.size) v1 := z7
  refine wpAny_setField_rec z7 (by simp) fun g8 z8 s8 => ?_
  replace z8 : IsZipHeld g8 z TI TO g5.objs.size false := z8
  have up : ∀ c o, c ≠ z → g5.get? c = some o → g8.get? c = some o := fun c o c1 e => s8.extBut _ _ c1 (s7.extBut _ _ c1 (Heap.get?_push_of_some _ e))
  have p8 : IsPair g8 g5.objs.size x y := s8.extBut _ _ (Nat.ne_of_gt zlt) (s7.extBut _ _ (Nat.ne_of_gt zlt) (Heap.get?_push_size _ rfl))
  have e8 : g8.objs.size = g5.objs.size + 1 := by rw [s8.1, s7.1, Heap.size_push]
  rw [sz] at z8 p8 e8
  refine wpAny_pure ⟨_, rfl, ?_⟩
  show Q (.ref g5.objs.size) _
  rw [sz]
  exact hQ g8 z8 (up _ _ D.TOz p5) (n1.at fun o e => up _ o D.i1z e) (n2.at fun o e => up _ o D.i2z e) p8 e8 fun c o c1 c2 c3 c4 e => up c o c1 (k5 c o c1 c2 c3 c4 e)
theorem free_end {a b : Value} {Q : Fin → Shared → Prop} (hh : A.handled = none) (D : ZipApart z TI TO i1 i2 l1 l2)
    (hz : ZipO s.heap z TI TO v0 v1) (fr : ZFree prog w A z s) (hTI : IsPair s.heap TI (.ref i1) (.ref i2)) (hTO : IsPair s.heap TO a b)
    (h1 : s.heap.IsTupleIter i1 l1 k1) (h2 : s.heap.IsTupleIter i2 l2 k2) (hl1 : s.heap.IsTuple l1 xs) (hl2 : s.heap.IsTuple l2 ys) {x : Value} (hx : xs[k1]? = some x) (hy : ys[k2]? = none)
    (hE : ∀ h' e, (∀ c o, c ≠ z → c ≠ TO → c ≠ i1 → c ≠ i2 → s.heap.get? c = some o → h'.get? c = some o) → (∃ o, h'.get? e = some o ∧ o.cls = .type "StopIteration") → E (.ref e) { s with heap := h' }) :
    wpAny (model prog w) A (Builtin.«zip.__next__» ⟨[.ref z], []⟩) Q E s := by
  show wpAny _ _ (field (.ref z) 2 >>= _) _ _ _
  refine wpAny_bind (wpAny_field hz rfl (x := .bool false) rfl ?_)
  show wpAny _ _ (field (.ref z) 3 >>= _) _ _ _
  refine wpAny_bind (wpAny_field hz rfl (x := .ref TI) rfl (wpAny_bind (wpAny_seqItems hTI rfl ?_)))
  show wpAny _ _ (Builtin.SmallTypes.ownedTupleIsFree (.ref z) >>= _) _ _ _
  refine wpAny_bind (fr _ _ ?_)
  simp only [if_true]
  refine wpAny_bind (wpAny_rule ?_)
  refine wpAny_bind (wpAny_field hz rfl (x := .ref TO) rfl ?_)
  refine wpAny_bind (wpAny_setField_rec hz (by simp) fun g1 z1 s1 => ?_)
  replace z1 : ZipO g1 z TI TO .ellipsis v1 := z1
  refine wpAny_bind ?_
  simp only [List.zipIdx_cons, List.zipIdx_nil, List.forIn_cons, List.forIn_nil]
  refine wpAny_bind (wpAny_bind (wpAny_onRaise ?_))
  show wpAny _ _ (Builtin.SmallTypes.nextOf (.ref i1) >>= _) _ _ _
  refine wpAny_bind (nextOf_tuple_item (s := { s with heap := g1 }) (h1.extBut s1.extBut D.i1z) (hl1.extBut s1.extBut D.l1z) hx fun g2 a2 s2 => wpAny_pure ?_)
  have p2 : IsPair g2 TO a b := s2.extBut _ _ D.TOi1 (s1.extBut _ _ D.TOz hTO)
  refine wpAny_bind (wpAny_seqItems p2 rfl ?_)
  refine wpAny_bind (wpAny_updateSeq_pair p2 fun g3 p3 s3 => ?_)
  refine wpAny_bind (wpAny_letGo (wpAny_pure ?_))
  refine wpAny_bind (wpAny_bind (wpAny_onRaise ?_))
  show wpAny _ _ (Builtin.SmallTypes.nextOf (.ref i2) >>= _) _ _ _
  refine wpAny_bind (nextOf_tuple_end (s := { s with heap := g3 }) hh (((h2.extBut s1.extBut D.i2z).extBut s2.extBut D.i12.symm).extBut s3.extBut D.TOi2.symm) (((hl2.extBut s1.extBut D.l2z).extBut s2.extBut D.l2i1).extBut s3.extBut D.l2TO) hy fun g4 e s4 he => ?_)
  obtain ⟨oe, hoe, hce⟩ := he
  have z4 : ZipO g4 z TI TO .ellipsis v1 := s4 _ _ D.i2z.symm (s3.extBut _ _ D.TOz.symm (s2.extBut _ _ D.i1z.symm z1))
  have hez : e ≠ z := fun q => by subst q; rw [z4] at hoe; cases hoe; simp at hce
  refine wpAny_setField_rec z4 (by simp) fun g5 _ s5 => hE g5 e (fun c o c1 c2 c3 c4 q => s5.extBut _ _ c1 (s4 _ _ c4 (s3.extBut _ _ c2 (s2.extBut _ _ c3 (s1.extBut _ _ c1 q))))) ⟨oe, s5.extBut _ _ hez hoe, hce⟩
theorem pyFree_item {x y a b : Value} {Q : Option Value → Shared → Prop} (D : ZipApart z TI TO i1 i2 l1 l2)
    (hz : ZipO s.heap z TI TO v0 v1) (fr : ZFree prog w A.in1 z s) (hTI : IsPair s.heap TI (.ref i1) (.ref i2)) (hTO : IsPair s.heap TO a b)
    (h1 : s.heap.IsTupleIter i1 l1 k1) (h2 : s.heap.IsTupleIter i2 l2 k2) (hl1 : s.heap.IsTuple l1 xs) (hl2 : s.heap.IsTuple l2 ys) (hx : xs[k1]? = some x) (hy : ys[k2]? = some y)
    (hQ : ∀ h', IsZipHeld h' z TI TO s.heap.objs.size false → IsPair h' TO x y → h'.IsTupleIter i1 l1 (k1 + 1) → h'.IsTupleIter i2 l2 (k2 + 1) → IsPair h' s.heap.objs.size x y → h'.objs.size = s.heap.objs.size + 1 →
      (∀ c o, c ≠ z → c ≠ TO → c ≠ i1 → c ≠ i2 → s.heap.get? c = some o → h'.get? c = some o) → Q (some (.ref s.heap.objs.size)) { s with heap := h' }) :
    wpAny (model prog w) A (pyNext (.ref z)) Q E s := by
  have ty : s.TypeIs (.ref z) "zip" := ⟨_, hz, rfl⟩
  unfold pyNext
  exact wpAny_bind (wpAny_attempt (wpAny_callSpecial?_slot (name := Str.ofString "__next__") ty F.slot_zip_next (wpAny_call_entry F.slot_zip_next ty F.entry_zip_next
    (free_item D hz fr hTI hTO h1 h2 hl1 hl2 hx hy fun h' a1 a2 a3 a4 a5 a6 a7 => wpAny_pure (hQ h' a1 a2 a3 a4 a5 a6 a7)) (F.args_zip_next_1 _))))
theorem pyFree_end {a b x : Value} {Q : Option Value → Shared → Prop} (hh : A.handled = none) (D : ZipApart z TI TO i1 i2 l1 l2)
    (hz : ZipO s.heap z TI TO v0 v1) (fr : ZFree prog w A.in1 z s) (hTI : IsPair s.heap TI (.ref i1) (.ref i2)) (hTO : IsPair s.heap TO a b)
    (h1 : s.heap.IsTupleIter i1 l1 k1) (h2 : s.heap.IsTupleIter i2 l2 k2) (hl1 : s.heap.IsTuple l1 xs) (hl2 : s.heap.IsTuple l2 ys) (hx : xs[k1]? = some x) (hy : ys[k2]? = none)
    (hQ : ∀ h', (∀ c o, c ≠ z → c ≠ TO → c ≠ i1 → c ≠ i2 → s.heap.get? c = some o → h'.get? c = some o) → Q none { s with heap := h' }) : wpAny (model prog w) A (pyNext (.ref z)) Q E s := by
  have ty : s.TypeIs (.ref z) "zip" := ⟨_, hz, rfl⟩
  unfold pyNext
  refine wpAny_bind (wpAny_attempt (wpAny_callSpecial?_slot (name := Str.ofString "__next__") ty F.slot_zip_next (wpAny_call_entry F.slot_zip_next ty F.entry_zip_next (free_end (A := A.in1) hh D hz fr hTI hTO h1 h2 hl1 hl2 hx hy fun h' e hk he => ?_) (F.args_zip_next_1 _))))
  obtain ⟨o, ho, hc⟩ := he
  refine wpAny_bind (wpAny_isInstance (T := "StopIteration") (b := true) ⟨o, ho, hc⟩ isSubtype_stop ?_)
  exact wpAny_pure (hQ _ hk)
end
def ItzW (K : PySem.W.Frag) (a b : Addr) : It :=
  ⟨fun i H => ∃ (xs ys : List V) (x y : V), SqT K H a xs ∧ SqT K H b ys ∧ xs[i]? = some x ∧ ys[i]? = some y,
    fun i H v H' => ∃ t x y, v = .ref t ∧ H t = none ∧ H' = upd H t (.tup [x, y]) ∧ (∀ xs, SqT K H a xs → xs[i]? = some x) ∧ ∀ ys, SqT K H b ys → ys[i]? = some y,
    fun i H => ∃ (xs ys : List V) (x : V), SqT K H a xs ∧ SqT K H b ys ∧ xs[i]? = some x ∧ ys.length = i⟩
def ZSt (z TI TO i1 i2 a b : Addr) (i : Nat) (h : Heap) : Prop := (∃ v0 v1, ZipO h z TI TO v0 v1 ∧ (v0 = .none ∨ ∃ (t : Addr) (f : Bool), v0 = rawInt t ∧ v1 = .bool f)) ∧ IsPair h TI (.ref i1) (.ref i2) ∧ (∃ x y, IsPair h TO x y) ∧ h.IsTupleIter i1 a i ∧ h.IsTupleIter i2 b i
theorem turn_zipW {P : Program} {w : World} {K : PySem.W.Frag} {nm : Str} {tp : Pos} {a b z TI TO i1 i2 : Addr} (D : ZipApart z TI TO i1 i2 a b) : Turn P w K (.Name nm tp) (ItzW K a b) [z, TI, TO, i1, i2] z (ZSt z TI TO i1 i2 a b) where
  mem := by simp
  obj := fun i h st c hc => by
    obtain ⟨⟨v0, v1, hz, _⟩, hTI, ⟨x, y, hTO⟩, ⟨o1, e1, _, d1⟩, ⟨o2, e2, _, d2⟩⟩ := st
    have e' : c = z ∨ c = TI ∨ c = TO ∨ c = i1 ∨ c = i2 := by simpa using hc
    rcases e' with q | q | q | q | q
    · rw [q]; exact ⟨_, hz, fun v q => nomatch q⟩
    · rw [q]; exact ⟨_, hTI, fun v q => nomatch q⟩
    · rw [q]; exact ⟨_, hTO, fun v q => nomatch q⟩
    · rw [q]; exact ⟨o1, e1, fun v q => by rw [d1] at q; cases q⟩
    · rw [q]; exact ⟨o2, e2, fun v q => by rw [d2] at q; cases q⟩
  keep := fun i h h' st k => by
    obtain ⟨⟨v0, v1, hz, hv⟩, hTI, ⟨x, y, hTO⟩, h1, h2⟩ := st
    exact ⟨⟨v0, v1, k z (by simp) _ hz, hv⟩, k TI (by simp) _ hTI, ⟨x, y, k TO (by simp) _ hTO⟩, h1.at fun o q => k i1 (by simp) o q, h2.at fun o q => k i2 (by simp) o q⟩
  item := by
    intro X hP hw hK hc i pins s σ H E I hf st hg
    subst hP hw hK
    obtain ⟨⟨v0, v1, hz, hv⟩, hTI, ⟨x0, y0, hTO⟩, h1, h2⟩ := st
    obtain ⟨xs, ys, x, y, hqx, hqy, hx, hy⟩ := hg
    obtain ⟨its, rv, p, _⟩ := I.tuple hqx
    obtain ⟨its2, rv2, p2, _⟩ := I.tuple hqy
    obtain ⟨u, hu, ru⟩ := rv.get hx
    obtain ⟨u2, hu2, ru2⟩ := rv2.get hy
    have zl : z < s.heap.objs.size := Heap.lt_size hz
    have low : ∀ c ∈ [z, TI, TO, i1, i2], c < s.heap.objs.size := fun c hcm => by
      have e' : c = z ∨ c = TI ∨ c = TO ∨ c = i1 ∨ c = i2 := by simpa using hcm
      rcases e' with q | q | q | q | q
      · rw [q]; exact zl
      · rw [q]; exact Heap.lt_size hTI
      · rw [q]; exact Heap.lt_size hTO
      · rw [q]; obtain ⟨_, e1, _⟩ := h1; exact Heap.lt_size e1
      · rw [q]; obtain ⟨_, e2, _⟩ := h2; exact Heap.lt_size e2
    have on : ∀ (h' : Heap) (w0 w1 : Value), ZipO h' z TI TO w0 w1 → (w0 = .none ∨ ∃ (t : Addr) (f : Bool), w0 = rawInt t ∧ w1 = .bool f) → (∃ x y, IsPair h' TO x y) → h'.IsTupleIter i1 a (i + 1) → h'.IsTupleIter i2 b (i + 1) → IsPair h' s.heap.objs.size u u2 →
        (∀ c o, c ≠ z → c ≠ TO → c ≠ i1 → c ≠ i2 → s.heap.get? c = some o → h'.get? c = some o) → ∃ u', some (Value.ref s.heap.objs.size) = some u' ∧ wpAny (model X.prog X.w) X.A (letOwnedTupleGo (.Name nm tp) (.ref z) u') (fun _ s' => ∃ x' H', Inv X pins σ H' s' ∧ RelV x' u' ∧ (ItzW X.K a b).yld i H x' H' ∧ ZSt z TI TO i1 i2 a b (i + 1) s'.heap ∧ ∀ b ∈ [z, TI, TO, i1, i2], H' b = none) E { s with heap := h' } := fun h' w0 w1 z' hw to' n1 n2 pr kp => by
      refine ⟨_, rfl, ?_⟩
      show wpAny _ _ (pure ()) _ _ _
      refine wpAny_pure ?_
      have new : ObjOk X.prog X.w (upd H s.heap.objs.size (.tup [x, y])) h' s.heap.objs.size (.tup [x, y]) := ⟨by show 2 ≤ sizeLine; decide, [u, u2], .cons ru (.cons ru2 .nil), ⟨_, pr, rfl, _, rfl⟩⟩
      have I1 : Inv X pins σ (upd H s.heap.objs.size (.tup [x, y])) { s with heap := h' } :=
        I.turnedNew (t' := s.toks) (ch := [z, TI, TO, i1, i2]) (fun c o hb q => kp c o (fun e => hb (by simp [e])) (fun e => hb (by simp [e])) (fun e => hb (by simp [e])) (fun e => hb (by simp [e])) q) hf (Nat.le_refl _) new
      refine ⟨.ref s.heap.objs.size, _, I1, rfl, ⟨_, x, y, rfl, I.hok.fresh (Nat.le_refl _), rfl, fun l hl => by rw [I.tuple_inj hl hqx]; exact hx, fun l hl => by rw [I.tuple_inj hl hqy]; exact hy⟩, ⟨⟨w0, w1, z', hw⟩, kp _ _ D.TIz D.TITO D.TIi1 D.TIi2 hTI, to', n1, n2⟩, fun c hcm => ?_⟩
      rw [upd_ne (Nat.ne_of_lt (low c hcm))]
      exact (hf c hcm).1
    rcases hv with e0 | ⟨t, f, e0, e1⟩
    · rw [e0] at hz
      refine pyFree_item D hz (zfree_none hz) hTI hTO h1 h2 p p2 (x := u) (y := u2) (by simpa using hu) (by simpa using hu2) fun h' z' TO' h1' h2' pr hsz hk => ?_
      exact on h' _ _ z' (.inr ⟨_, _, rfl, rfl⟩) ⟨_, _, TO'⟩ h1' h2' pr hk
    · rw [e0, e1] at hz
      cases ht : s.heap.get? t with
      | none =>
        have fr : ZFree X.prog X.w X.A.in1 z s := zfree_dead hz ht
        refine pyFree_item D hz fr hTI hTO h1 h2 p p2 (x := u) (y := u2) (by simpa using hu) (by simpa using hu2) fun h' z' TO' h1' h2' pr hsz hk => ?_
        exact on h' _ _ z' (.inr ⟨_, _, rfl, rfl⟩) ⟨_, _, TO'⟩ h1' h2' pr hk
      | some oT =>
        refine held_item D hz ht hTI h1 h2 p p2 (x := u) (y := u2) (by simpa using hu) (by simpa using hu2) fun h' z' h1' h2' pr hsz hk => ?_
        exact on h' _ _ z' (.inr ⟨_, _, rfl, rfl⟩) ⟨_, _, hk _ _ D.TOz D.TOi1 D.TOi2 hTO⟩ h1' h2' pr fun c o c1 _ c3 c4 q => hk c o c1 c3 c4 q
  done := by
    intro X hP hw hK hc i pins s σ H E I hf st hg
    subst hP hw hK
    obtain ⟨⟨v0, v1, hz, hv⟩, hTI, ⟨x0, y0, hTO⟩, h1, h2⟩ := st
    obtain ⟨xs, ys, x, hqx, hqy, hx, hy⟩ := hg
    obtain ⟨its, rv, p, _⟩ := I.tuple hqx
    obtain ⟨its2, rv2, p2, _⟩ := I.tuple hqy
    obtain ⟨u, hu, ru⟩ := rv.get hx
    have l2 := rv2.length
    have he : its2.toArray[i]? = none := by simp; omega
    have fin : ∀ h' : Heap, (∀ c o, c ≠ z → c ≠ TO → c ≠ i1 → c ≠ i2 → s.heap.get? c = some o → h'.get? c = some o) → _ := fun h' hk => I.turnedL (t' := s.toks) (h' := h') (ch := [z, TI, TO, i1, i2]) (fun c o hb q =>
      hk c o (fun q' => hb (by simp [q'])) (fun q' => hb (by simp [q'])) (fun q' => hb (by simp [q'])) (fun q' => hb (by simp [q'])) q) hf
    rcases hv with e0 | ⟨t, f, e0, e1⟩
    · rw [e0] at hz
      exact pyFree_end (I.ok.hd hc) D hz (zfree_none hz) hTI hTO h1 h2 p p2 (by simpa using hu) he fun h' hk => ⟨rfl, fin h' hk⟩
    · rw [e0, e1] at hz
      cases ht : s.heap.get? t with
      | none => exact pyFree_end (I.ok.hd hc) D hz (zfree_dead hz ht) hTI hTO h1 h2 p p2 (by simpa using hu) he fun h' hk => ⟨rfl, fin h' hk⟩
      | some oT => exact held_end (I.ok.hd hc) D hz ht hTI h1 h2 p p2 (by simpa using hu) he fun h' hk => ⟨rfl, fin h' fun c o c1 _ c3 c4 q => hk c o c1 c3 c4 q⟩
  self := fun A i s Q E st h => by
    obtain ⟨⟨v0, v1, hz, _⟩, _⟩ := st
    refine wpAny_pyIter_slot (T := "zip") ⟨_, hz, rfl⟩ F.slot_zip_iter (wpAny_call_entry F.slot_zip_iter ⟨_, hz, rfl⟩ F.entry_zip_iter ?_ (F.args_zip_iter_1 _))
    show wpAny _ _ (ret (.ref z)) _ _ s
    exact wpAny_pure ⟨_, rfl, "zip", _, ⟨_, hz, rfl⟩, F.slot_zip_next.lookup, h⟩
def iZipW (K : PySem.W.Frag) (ta : TA) : TI := fun σ H R => ta σ H fun vs H1 => ∃ a b xs ys, vs = [.ref a, .ref b] ∧ SqT K H1 a xs ∧ SqT K H1 b ys ∧ R (ItzW K a b) H1
theorem pi_zipW {X : Cx} {e e2 : Expr} {ta : TA} {p pos tp : Pos} {y : Str} (hg : Gl X "zip") (hm : X.mg "zip" = none) (ha : PA X [e, e2] ta)
    (hs : starEach [e, e2] X.env = (false, eval e X.env) :: starEach [e2] X.env := by rfl) (hpl : (backTo pos (starEach [e2] X.env)).any (·.1) = false := by rfl) :
    PI X (.Name y tp) (.Call (.Name "zip" p) [e, e2] [] pos) (iZipW X.K ta) := by
  refine ⟨fun pins s σ H R I h => ?_⟩
  refine Call_ (ld_blt I hg hm PyProof.Rows.boot_zip (PyProof.Rows.callWith_type1 (thn (ha.run pos pins s σ H _ I h) fun us s1 ⟨vs, H1, I1, r1, q1⟩ => ?_) hs hpl))
  obtain ⟨a, b, xs, ys, ex, hqx, hqy, q⟩ := q1
  subst ex
  cases r1 with
  | cons r rr =>
    cases rr with
    | cons r' rr =>
      cases rr
      cases r
      cases r'
      have fresh5 : ∀ c, c ∈ [s1.heap.objs.size + 4, s1.heap.objs.size + 2, s1.heap.objs.size + 3, s1.heap.objs.size, s1.heap.objs.size + 1] → FpOk X pins H1 c := fun c hcm => by
        have e' : c = s1.heap.objs.size + 4 ∨ c = s1.heap.objs.size + 2 ∨ c = s1.heap.objs.size + 3 ∨ c = s1.heap.objs.size ∨ c = s1.heap.objs.size + 1 := by simpa using hcm
        have hle : s1.heap.objs.size ≤ c := by
          rcases e' with z | z | z | z | z
          · rw [z]; exact Nat.le_add_right _ _
          · rw [z]; exact Nat.le_add_right _ _
          · rw [z]; exact Nat.le_add_right _ _
          · rw [z]; exact Nat.le_refl _
          · rw [z]; exact Nat.le_add_right _ _
        exact I1.fpOk hle (I1.hok.fresh hle)
      obtain ⟨its, rv, p1, _⟩ := I1.tuple hqx
      obtain ⟨its2, rv2, p2, _⟩ := I1.tuple hqy
      obtain ⟨o1, ho1, _⟩ := id p1
      obtain ⟨o2, ho2, _⟩ := id p2
      refine RZ.call_zipT (show s1.heap.IsTuple a its.toArray from p1) (show s1.heap.IsTuple b its2.toArray from p2) fun h' hz hTI hTO h1 h2 hsz hk => wpAny_pyIter_zip hz ?_
      have I2 : Inv X pins σ H1 { s1 with heap := h' } := I1.kept (t' := s1.toks) hk
      exact ⟨s1.heap.objs.size + 4, [s1.heap.objs.size + 4, s1.heap.objs.size + 2, s1.heap.objs.size + 3, s1.heap.objs.size, s1.heap.objs.size + 1], _, _, H1, rfl, I2, turn_zipW (PySem.W.ktu_apart s1.heap.objs.size a b (Heap.lt_size ho1) (Heap.lt_size ho2)), ⟨⟨_, _, hz, .inl rfl⟩, hTI, ⟨_, _, hTO⟩, h1, h2⟩, fresh5, q⟩
end DLR
namespace DL
open PySem PySem.Spec L2 DLR
/-! ### entries of papers -/
structure Entry where
  sort : Str
  way : List Nat
  many : Int
def wNo : Row → Nat
  | .load x _ => x
  | .add x _ => x
  | .take x _ => x
  | .store x _ => x
  | _ => 0
def useOneF (rows : List Row) (a b : Nat) : Bool := (rows.getD a .stop).uses && ((rows.getD b .stop).uses && decide (wNo (rows.getD a .stop) = wNo (rows.getD b .stop)))
def isWayF (L : Left) (w : List Nat) : Bool := decide (2 ≤ w.length) && (pairsF w).all fun q => (getE L [q.1, q.2]).isSome
def entB (rows : List Row) (L : Left) (e : Entry) : Bool := isWayF L e.way && (decide (1 ≤ e.many) && (if e.sort = "row" then decide (e.way.headD 0 = e.way.getLastD 0) else decide (e.sort = "worth") && useOneF rows (e.way.headD 0) (e.way.getLastD 0)))
def takeH (L : Left) (w : List Nat) (m : Int) : Left := (halvesF w).foldl (fun L h => setE L h ((getE L h).getD 0 - m)) L
def EntAt (H : Hp) (a : Addr) (e : Entry) : Prop := ∃ t, H a = some (.tup [.str e.sort, .ref t, .int e.many]) ∧ H t = some (.tup (e.way.map nI))
abbrev EntsAt (H : Hp) (bs : List Addr) (es : List Entry) : Prop := Paired (EntAt H) bs es
theorem EntAt.kp {H H' : Hp} {a : Addr} {e : Entry} (h : EntAt H a e) (k : Kp H H') : EntAt H' a e := by
  obtain ⟨t, h1, h2⟩ := h
  exact ⟨t, k _ _ h1, k _ _ h2⟩
theorem EntsAt.kp {H H' : Hp} {bs : List Addr} {es : List Entry} (h : EntsAt H bs es) (k : Kp H H') : EntsAt H' bs es := Paired.mapP h fun _ _ r => r.kp k
theorem headD_at {w : List Nat} (h : w ≠ []) : atI (w.map nI) 0 = some (nI (w.headD 0)) := by
  cases w with
  | nil => exact absurd rfl h
  | cons x w => exact at0
theorem lastD_at {w : List Nat} (h : w ≠ []) : atI (w.map nI) (-1) = some (nI (w.getLastD 0)) := by
  rcases List.eq_nil_or_concat w with e | ⟨s0, y, e⟩
  · exact absurd e h
  · rw [List.concat_eq_append] at e
    subst e
    have q : (s0 ++ [y]).getLastD 0 = y := by rw [List.getLastD_eq_getLast?]; simp
    rw [q, List.map_append]
    exact atI_last _ _
theorem headD_mem {w : List Nat} (h : w ≠ []) : w.headD 0 ∈ w := by
  cases w with
  | nil => exact absurd rfl h
  | cons x w => exact List.mem_cons_self
theorem lastD_mem {w : List Nat} (h : w ≠ []) : w.getLastD 0 ∈ w := by
  rcases List.eq_nil_or_concat w with e | ⟨s0, y, e⟩
  · exact absurd e h
  · rw [List.concat_eq_append] at e
    subst e
    have q : (s0 ++ [y]).getLastD 0 = y := by rw [List.getLastD_eq_getLast?]; simp
    rw [q]
    exact List.mem_append_right _ (List.mem_singleton.mpr rfl)
abbrev sUsesOne : Stmt := top 51
abbrev sIsWay : Stmt := top 50
abbrev sIsEntry : Stmt := top 49
abbrev sTakeHalves : Stmt := top 53
abbrev nUsesOne : List Str := ["program","row","other","first","last"]
abbrev nIsWay : List Str := ["done","way","row","pair"]
abbrev nIsEntry : List Str := ["program","done","entry","way","many"]
abbrev nTakeHalves : List Str := ["left","way","many","half"]
abbrev FUsesOne (K : Frg) (mg : Str → Option Value) := Fd K mg "use_one_worth" sUsesOne ["program","row","other"]
abbrev FIsWay (K : Frg) (mg : Str → Option Value) := Fd K mg "is_way" sIsWay ["done","way"]
abbrev FIsEntry (K : Frg) (mg : Str → Option Value) := Fd K mg "is_entry" sIsEntry ["program","done","entry"]
abbrev FTakeHalves (K : Frg) (mg : Str → Option Value) := Fd K mg "take_halves" sTakeHalves ["left","way","many"]
def spUsesOne : Sp := fun vs H Q _ => ∃ (a : Addr) (p : Prog) (i j : Nat), vs = [.ref a, nI i, nI j] ∧ ProgAt H a p ∧ Good p ∧ i < p.rows.length ∧ j < p.rows.length ∧ ∀ H', Same1 H H' → Q (.bl (useOneF p.rows i j)) H'
def spIsWay : Sp := fun vs H Q _ => ∃ (d t : Addr) (L : Left) (w : List Nat), vs = [.ref d, .ref t] ∧ LeftAt H d L ∧ H t = some (.tup (w.map nI)) ∧ w.length ≤ 100 ∧ ∀ H', Same1 H H' → Q (.bl (isWayF L w)) H'
def spIsEntry : Sp := fun vs H Q _ => ∃ (a d b : Addr) (p : Prog) (L : Left) (e : Entry), vs = [.ref a, .ref d, .ref b] ∧ ProgAt H a p ∧ Good p ∧ LeftAt H d L ∧ EntAt H b e ∧ e.way.length ≤ 100 ∧ (∀ x ∈ e.way, x < p.rows.length) ∧ ∀ H', Same1 H H' → Q (.bl (entB p.rows L e)) H'
def spTakeHalves : Sp := fun vs H Q _ => ∃ (d t : Addr) (L : Left) (w : List Nat) (m : Int), vs = [.ref d, .ref t, .int m] ∧ LeftAt H d L ∧ L.length < 100000 ∧ H t = some (.tup (w.map nI)) ∧ 0 < w.length ∧ w.length ≤ 100 ∧ (∀ h ∈ halvesF w, (getE L h).isSome = true) ∧
  ∀ H', (∀ a o, H a = some o → a ≠ d → H' a = some o) → LeftAt H' d (takeH L w m) → Q .non H'
section
variable {P : Program} {w : World} {K : PySem.W.Frag} {mg : Str → Option Value} {base : Heap}
theorem scUsesOne : FnScope nUsesOne ["program","row","other"] (defScope sUsesOne) := ⟨rfl, rfl, rfl, by decide +kernel, rfl, by decide +kernel, by decide +kernel⟩
theorem scIsWay : FnScope nIsWay ["done","way"] (defScope sIsWay) := ⟨rfl, rfl, rfl, by decide +kernel, rfl, by decide +kernel, by decide +kernel⟩
theorem scIsEntry : FnScope nIsEntry ["program","done","entry"] (defScope sIsEntry) := ⟨rfl, rfl, rfl, by decide +kernel, rfl, by decide +kernel, by decide +kernel⟩
theorem scTakeHalves : FnScope nTakeHalves ["left","way","many"] (defScope sTakeHalves) := ⟨rfl, rfl, rfl, by decide +kernel, rfl, by decide +kernel, by decide +kernel⟩
theorem worth_at {r : Row} (h : r.uses = true) : (rowVs r)[1]? = some (nI (wNo r)) := by
  cases r <;> first | rfl | cases h
theorem ok_usesOne (c : FUsesOne K mg) (cUsesWorth : FUsesWorth K mg) (Z : Pt K w mg) : FnOk P w K mg base CX0 2 c.f c.fd ["program","row","other"] spUsesOne := by
  have GUsesWorth : FnOk P w K mg base CX0 1 cUsesWorth.f cUsesWorth.fd ["row"] spUses := ok_usesWorth cUsesWorth Z
  refine c.F.ok scUsesOne (fun vs H Q E h => ?_) (fun cdv A outer s H vs Q E hr h => ?_)
  · obtain ⟨a, p, i, j, rfl, _⟩ := h
    rfl
  · obtain ⟨a, p, i, j, rfl, hP, g, hi, hj, k⟩ := h
    refine ⟨_, (pss_cons (ps_set (i := 3) scUsesOne.nd rfl (Or.inl rfl) (pe_ix ix_tup (pe_ix ix_tup (pv 0) pe_int (fun _ _ => rfl)) (pv 1) (fun _ _ => rfl)))
      (pss_cons (ps_set (i := 4) scUsesOne.nd rfl (Or.inl rfl) (pe_ix ix_tup (pe_ix ix_tup (pv 0) pe_int (fun _ _ => rfl)) (pv 2) (fun _ _ => rfl)))
      (pss_one (ps_ret (pe_and (pe_call GUsesWorth (hr.mono (by first | omega | decide)) (by rfl) cUsesWorth.m cUsesWorth.F.kp cUsesWorth.b .nil pass0 (pa_cons (pv 3) pa_nil)) (pe_and (pe_call GUsesWorth (hr.mono (by first | omega | decide)) (by rfl) cUsesWorth.m cUsesWorth.F.kp cUsesWorth.b .nil pass0 (pa_cons (pv 4) pa_nil)) (pe_one (pe_cmpR op_eq (pe_ix ix_tup (pv 3) pe_int (fun _ _ => rfl)) (pe_ix ix_tup (pv 4) pe_int (fun _ _ => rfl)) (nomark _))))))))), ?_⟩
    obtain ⟨wa, ra, bs, ha, hwa, hra, hR⟩ := hP
    have hbr := Paired.length hR
    have rowAt : ∀ x, x < p.rows.length → ∃ b, (bs.map V.ref)[x]? = some (.ref b) ∧ H b = some (.tup (rowVs (p.rows.getD x .stop))) := fun x hx => by
      have hxb : x < bs.length := by omega
      obtain ⟨r, h1, h2⟩ := Paired.get hR (List.getElem?_eq_getElem hxb)
      have er : p.rows.getD x .stop = r := by rw [List.getD_eq_getElem?_getD, h1]; rfl
      exact ⟨bs[x], by rw [List.getElem?_map, List.getElem?_eq_getElem hxb]; rfl, by rw [er]; exact h2⟩
    obtain ⟨b1, q1, r1⟩ := rowAt i hi
    obtain ⟨b2, q2, r2⟩ := rowAt j hj
    refine ⟨_, rfl, a, _, _, _, rfl, rfl, SqT.of ha, at1, _, rfl, ra, _, _, _, rfl, rfl, SqT.of hra, atI_nat q1, ?_⟩
    dsimp only [gName]
    refine ⟨_, rfl, a, _, _, _, rfl, rfl, SqT.of ha, at1, _, rfl, ra, _, _, _, rfl, rfl, SqT.of hra, atI_nat q2, ?_⟩
    dsimp only [gName]
    refine ⟨_, rfl, b1, _, rfl, r1, _, rfl, ?_⟩
    have kk : ∀ b : Bool, useOneF p.rows i j = b → Q (.bl b) H := fun b e => by rw [← e]; exact k H fun _ _ e => e
    cases u1 : (p.rows.getD i .stop).uses with
    | false =>
      rw [if_neg (by decide)]
      exact kk false (by unfold useOneF; rw [u1]; rfl)
    | true =>
      rw [if_pos rfl]
      refine ⟨_, rfl, b2, _, rfl, r2, _, rfl, ?_⟩
      cases u2 : (p.rows.getD j .stop).uses with
      | false =>
        rw [if_neg (by decide)]
        exact kk false (by unfold useOneF; rw [u1, u2]; rfl)
      | true =>
        rw [if_pos rfl]
        refine ⟨_, rfl, b1, _, _, _, rfl, rfl, SqT.of r1, atI_nat (j := 1) (worth_at u1), _, rfl, b2, _, _, _, rfl, rfl, SqT.of r2, atI_nat (j := 1) (worth_at u2), rfl, ?_⟩
        refine kk _ ?_
        unfold useOneF
        rw [u1, u2]
        show decide (wNo _ = wNo _) = decide (nI _ = nI _)
        by_cases e : wNo (p.rows.getD i .stop) = wNo (p.rows.getD j .stop)
        · rw [decide_eq_true e, decide_eq_true (by rw [e])]
        · rw [decide_eq_false e, decide_eq_false fun z => e (by have := V.int.inj z; omega)]
theorem ok_takeHalves (c : FTakeHalves K mg) (cHalves : FHalves K mg) (T : Bt mg) : FnOk P w K mg base CX0 2 c.f c.fd ["left","way","many"] spTakeHalves := by
  have GHalves : FnOk P w K mg base CX0 1 cHalves.f cHalves.fd ["way"] spHalves := ok_halves cHalves T
  refine c.F.ok scTakeHalves (fun vs H Q E h => ?_) (fun cdv A outer s H vs Q E hr h => ?_)
  · obtain ⟨d, t, L, w, m, rfl, _⟩ := h
    rfl
  · obtain ⟨d, t, L, w, m, rfl, hL, lL, ht, w0, w100, hh, k⟩ := h
    refine ⟨_, (pss_one (ps_for PassesOwn.never rfl (pi_list (pe_call GHalves (hr.mono (by first | omega | decide)) (by rfl) cHalves.m cHalves.F.kp cHalves.b .nil pass0 (pa_cons (pv 1) pa_nil))) (pg_name (i := 3) scTakeHalves.nd rfl (Or.inl rfl))
          (pss_one (ps_daug (hu_of hr) (pv 0) (pv 3) (pv 2) ip_sub (fun _ _ _ => rfl))))), ?_⟩
    refine ⟨_, rfl, t, w, rfl, ht, w0, w100, fun hl bs H1 s1 nhl e1 hT => ?_⟩
    have hbl := tups_len hT
    have hL1 := s1 _ _ hL
    refine ⟨hl, rfl, ⟨_, SqL.of e1⟩, ?_⟩
    have ne : hl ≠ d := fun z => by rw [z, hL] at nhl; cases nhl
    have ll : ∀ (M : List (List Nat)), (∀ h ∈ M, (getE L h).isSome = true) → (∀ h, (getE (M.foldl (fun L h => setE L h ((getE L h).getD 0 - m)) L) h).isSome = (getE L h).isSome) ∧ (M.foldl (fun L h => setE L h ((getE L h).getD 0 - m)) L).length = L.length := by
      have : ∀ (M : List (List Nat)) (L : Left), (∀ h ∈ M, (getE L h).isSome = true) → (∀ h, (getE (M.foldl (fun L h => setE L h ((getE L h).getD 0 - m)) L) h).isSome = (getE L h).isSome) ∧ (M.foldl (fun L h => setE L h ((getE L h).getD 0 - m)) L).length = L.length := by
        intro M
        induction M with
        | nil => intro L _; exact ⟨fun _ => rfl, rfl⟩
        | cons x M ih =>
          intro L hM
          rw [List.foldl_cons]
          have hx := hM x List.mem_cons_self
          have hs : ∀ h, (getE (setE L x ((getE L x).getD 0 - m)) h).isSome = (getE L h).isSome := fun h => by
            rw [getE_setE]
            by_cases e : x = h
            · rw [if_pos e, ← e, hx]; rfl
            · rw [if_neg e]
          obtain ⟨h1, h2⟩ := ih (setE L x ((getE L x).getD 0 - m)) fun h hm => by rw [hs]; exact hM h (List.mem_cons_of_mem _ hm)
          refine ⟨fun h => by rw [h1, hs], h2.trans ?_⟩
          have := congrArg List.length (setE_keys (v := (getE L x).getD 0 - m) hx)
          rwa [List.length_map, List.length_map] at this
      exact fun M => this M L
    refine for_list (K := K) (a := hl) (xs := bs.map V.ref) (fun i σ H' => ∃ x3 : Option V, σ = [some (.ref d), some (.ref t), some (.int m), x3] ∧ (∀ a o, H1 a = some o → a ≠ d → H' a = some o) ∧ LeftAt H' d (((halvesF w).take i).foldl (fun L h => setE L h ((getE L h).getD 0 - m)) L))
      ⟨none, rfl, fun a o e _ => e, hL1⟩ (fun i σ H' _ ⟨_, _, q, _⟩ => SqL.of (q _ _ e1 ne)) ?_ ?_
    · rintro i x σ H3 hi ⟨x3, rfl, b3, l3⟩
      have hic : i < bs.length := by
        have q := (List.getElem?_eq_some_iff.mp hi).1
        rwa [List.length_map] at q
      have ex : x = .ref bs[i] := by
        rw [List.getElem?_map, List.getElem?_eq_getElem hic] at hi
        exact (Option.some.inj hi).symm
      subst ex
      obtain ⟨h, hq1, hq2⟩ := Paired.get hT (List.getElem?_eq_getElem hic)
      have nb : bs[i] ≠ d := fun z => by rw [z, hL1] at hq2; cases hq2
      obtain ⟨p1, p2⟩ := ll ((halvesF w).take i) fun h hm => hh h (List.mem_of_mem_take hm)
      have hs : (getE (((halvesF w).take i).foldl (fun L h => setE L h ((getE L h).getD 0 - m)) L) h).isSome = true := by
        rw [p1]
        exact hh h (List.mem_of_getElem? hq1)
      obtain ⟨z, hz⟩ := Option.isSome_iff_exists.mp hs
      refine ⟨_, rfl, _, rfl, d, .int z, rfl, ?_, ?_⟩
      · have q := LeftAt.get l3 (b3 _ _ hq2 nb)
        rw [hz] at q
        exact q
      refine ⟨_, rfl, _, _, rfl, rfl, _, LeftAt.put l3 (b3 _ _ hq2 nb) (szl (by rw [p2]; exact lL)), _, rfl, fun a o e n => by rw [upd_ne n]; exact b3 _ _ e n, ?_⟩
      show _ = some (HO.dT _)
      rw [upd_same, take_snoc hq1, List.foldl_append]
      show _ = some (HO.dT (lmap (setE _ h ((getE _ h).getD 0 - m))))
      rw [hz]
      rfl
    · rintro σ H3 ⟨x3, rfl, b3, l3⟩
      rw [List.length_map, hbl, List.take_length] at l3
      exact k H3 (fun a o e n => b3 _ _ (s1 _ _ e) n) l3
theorem ok_isWay (c : FIsWay K mg) (cIsNumber : FIsNumber K mg) (T : Bt mg) : FnOk P w K mg base CX0 2 c.f c.fd ["done","way"] spIsWay := by
  have GIsNumber : FnOk P w K mg base CX0 1 cIsNumber.f cIsNumber.fd ["thing"] spNum := ok_isNumber cIsNumber T
  refine c.F.ok scIsWay (fun vs H Q E h => ?_) (fun cdv A outer s H vs Q E hr h => ?_)
  · obtain ⟨d, t, L, w, rfl, _⟩ := h
    rfl
  · obtain ⟨d, t, L, w, rfl, hL, ht, w100, k⟩ := h
    refine ⟨_, (pss_cons (ps_if (PW.pt (pw_or (pt_not (pt_val (pe_callB call_isi (by rfl) T.isinstance (by decide +kernel) (pa_cons (pv 1) (pa_cons (pe_bltn (v := .ty "tuple") (by rfl) T.tuple (by decide +kernel) rfl) pa_nil))))) (pw_or (pt_cmpR op_lt (pe_callB call_len_seq (by rfl) T.len PySem.boot_len (pa_cons (pv 1) pa_nil)) pe_int (nomark _)) (pw_or1 (pt_not (pt_val (pe_callB (cr_all rfl) (by rfl) T.all (by decide +kernel) (pa_cons (pe_lc (own := [("row", 2)]) (g := gName 2) (tt := tYes) rfl scIsWay.nd (pi_tup (pv 1)) (blkOk_by (N := nIsWay) (sc := defScope sIsWay) (by decide +kernel)) (fun _ _ _ _ _ => (pg_name (i := 2) scIsWay.nd rfl (Or.inl rfl))) (fun _ _ _ _ _ => pts_nil) (fun _ _ _ _ _ => (pe_call GIsNumber (hr.mono (by first | omega | decide)) (by rfl) cIsNumber.m cIsNumber.F.kp cIsNumber.b .nil pass0 (pa_cons (pv 2) pa_nil)))) pa_nil))))))))
          (pss_one (ps_ret pe_bl))
          pss_nil)
      (pss_one (ps_ret (pe_callB (cr_all rfl) (by rfl) T.all (by decide +kernel) (pa_cons (pe_lc (own := [("pair", 3)]) (g := gName 3) (tt := tYes) rfl scIsWay.nd (DLR.pi_zipW (by rfl) T.zip (pa_cons (pv 1) (pa_cons (pe_slice sl_tupS (pv 1) (po_some pe_int) po_none) pa_nil))) (blkOk_by (N := nIsWay) (sc := defScope sIsWay) (by decide +kernel)) (fun _ _ _ _ _ => (pg_name (i := 3) scIsWay.nd rfl (Or.inl rfl))) (fun _ _ _ _ _ => pts_nil) (fun _ _ _ _ _ => (pe_cmp (pc_din (hu_of hr) (pv 3) (pv 0))))) pa_nil))))), ?_⟩
    have kk : ∀ (b : Bool) (H' : Hp), Same1 H H' → isWayF L w = b → Q (.bl b) H' := fun b H' s' e => by rw [← e]; exact k H' s'
    refine ⟨_, rfl, _, _, _, _, true, rfl, .ty _, .base (.tup ht), kit_ty (by decide +kernel), _, rfl, ?_⟩
    refine iteF ⟨_, rfl, t, _, rfl, .inr (SqT.of ht), _, _, rfl, rfl, _, rfl, ?_⟩
    refine ite2 (fun c => ?_) (fun c => ?_)
    · have c := of_decide_eq_true c
      rw [List.length_map] at c
      refine iteT (kk false H (fun _ _ e => e) ?_)
      unfold isWayF
      rw [decide_eq_false (by omega)]
      rfl
    · have c : 2 ≤ w.length := by
        have : ¬ ((w.map nI).length : Int) < 2 := fun z => c (decide_eq_true z)
        rw [List.length_map] at this
        omega
      refine ⟨_, rfl, t, rfl, ⟨_, SqT.of ht⟩, fun D hD => ?_⟩
      refine lc_tup (K := K) (a := t) (xs := w.map nI) (fun i H' => H' D = some (.lst ((List.replicate i true).map V.bl)) ∧ Same1 H H') ⟨upd_same, Same.new hD⟩ (fun i H' _ ⟨_, q⟩ => SqT.of (q _ _ ht)) ?_ ?_
      · rintro i x H3 hi ⟨hd, s3⟩
        have hin : i < w.length := by
          have q := (List.getElem?_eq_some_iff.mp hi).1
          rwa [List.length_map] at q
        obtain ⟨z, rfl⟩ : ∃ z, x = V.int z := by
          rw [List.getElem?_map, List.getElem?_eq_getElem hin] at hi
          exact ⟨_, (Option.some.inj hi).symm⟩
        refine ⟨rfl, _, rfl, z, rfl, _, hd, szl (by rw [List.length_map, List.length_replicate]; omega), ?_, Same.mut s3 hD⟩
        rw [upd_same, List.replicate_succ', List.map_append]
        rfl
      · rintro H3 ⟨hd, s3⟩
        refine ⟨D, _, rfl, SqL.of hd, ?_⟩
        rw [show (List.replicate (w.map nI).length true).all id = true by rw [List.all_eq_true]; intro x hx; rw [List.eq_of_mem_replicate hx]; rfl]
        refine ⟨_, rfl, iteF ?_⟩
        refine ⟨_, rfl, _, rfl, _, rfl, t, _, rfl, s3 _ _ ht, fun t2 H4 s4 e4 => ?_⟩
        have e4 : H4 t2 = some (.tup ((w.drop 1).map nI)) := by
          rw [e4]
          exact congrArg (fun z => some (HO.tup z)) ((dropn 1).trans List.map_drop.symm)
        have S4 := s3.trans s4
        have ht4 := S4 _ _ ht
        have hL4 := S4 _ _ hL
        refine ⟨t, t2, _, _, rfl, SqT.of ht4, SqT.of e4, fun D2 hD2 => ?_⟩
        have pl : (pairsF w).length = w.length - 1 := by
          unfold pairsF
          rw [List.length_zip, List.length_drop]
          omega
        have pat : ∀ i x y, (w.map nI)[i]? = some x → ((w.drop 1).map nI)[i]? = some y → ∃ u v, x = nI u ∧ y = nI v ∧ (pairsF w)[i]? = some (u, v) := fun i x y hx hy => by
          rw [List.getElem?_map] at hx hy
          cases hu : w[i]? with
          | none => rw [hu] at hx; cases hx
          | some u =>
            cases hv : (w.drop 1)[i]? with
            | none => rw [hv] at hy; cases hy
            | some v =>
              rw [hu] at hx
              rw [hv] at hy
              exact ⟨u, v, (Option.some.inj hx).symm, (Option.some.inj hy).symm, List.getElem?_zip_eq_some.mpr ⟨hu, hv⟩⟩
        refine lc_gen (J := ItzW K t t2) (w.length - 1) (fun i H' => Same1 H4 H' ∧ H' D2 = some (.lst ((((pairsF w).take i).map fun q => (getE L [q.1, q.2]).isSome).map V.bl))) ⟨Same.new hD2, upd_same⟩ (fun i H' hi ⟨q, _⟩ => ?_) (fun H' ⟨q, _⟩ => ?_) ?_ ?_
        · have h1 : i < w.length := by omega
          have h2 : i < (w.drop 1).length := by rw [List.length_drop]; omega
          exact ⟨_, _, _, _, SqT.of (q _ _ ht4), SqT.of (q _ _ e4), by rw [List.getElem?_map, List.getElem?_eq_getElem h1]; rfl, by rw [List.getElem?_map, List.getElem?_eq_getElem h2]; rfl⟩
        · have h1 : w.length - 1 < w.length := by omega
          exact ⟨_, _, _, SqT.of (q _ _ ht4), SqT.of (q _ _ e4), by rw [List.getElem?_map, List.getElem?_eq_getElem h1]; rfl, by rw [List.length_map, List.length_drop]⟩
        · rintro i x H5 H6 hi ⟨s5, d5⟩ ⟨tp, xv, yv, rfl, htp, rfl, fx, fy⟩
          have h1 : i < w.length := by omega
          have h2 : i < (w.drop 1).length := by rw [List.length_drop]; omega
          obtain ⟨u, v, rfl, rfl, hq⟩ := pat i xv yv (fx _ (SqT.of (s5 _ _ ht4))) (fy _ (SqT.of (s5 _ _ e4)))
          have s6 : Same1 H5 (upd H5 tp (.tup [nI u, nI v])) := Same.new htp
          have e6 : (upd H5 tp (.tup [nI u, nI v])) tp = some (.tup ([u, v].map nI)) := upd_same
          generalize upd H5 tp (.tup [nI u, nI v]) = H6 at *
          refine ⟨rfl, ?_⟩
          dsimp only [tYes]
          rw [if_pos rfl]
          have hL6 := s6 _ _ (s5 _ _ hL4)
          refine ⟨_, rfl, _, rfl, d, _, rfl, LeftAt.get hL6 e6, _, s6 _ _ d5, szl (by rw [List.length_map, List.length_map, List.length_take]; omega), Same.mut (s5.trans s6) hD2, ?_⟩
          rw [upd_same, take_snoc hq, List.map_append, List.map_append, Option.isSome_map]
          rfl
        · rintro H5 ⟨s5, d5⟩
          rw [← pl, List.take_length] at d5
          refine ⟨D2, _, rfl, SqL.of d5, ?_⟩
          refine kk _ H5 (S4.trans s5) ?_
          unfold isWayF
          rw [decide_eq_true c, Bool.true_and, List.all_map]
          rfl
theorem ok_isEntry (c : FIsEntry K mg) (cPart : FPart K mg) (cIsWay : FIsWay K mg) (cIsNumber : FIsNumber K mg) (cUseOneWorth : FUsesOne K mg) (T : Bt mg)
    (GIsWay : FnOk P w K mg base CX0 2 cIsWay.f cIsWay.fd ["done","way"] spIsWay) (GUseOneWorth : FnOk P w K mg base CX0 2 cUseOneWorth.f cUseOneWorth.fd ["program","row","other"] spUsesOne) : FnOk P w K mg base CX0 3 c.f c.fd ["program","done","entry"] spIsEntry := by
  have GIsNumber : FnOk P w K mg base CX0 1 cIsNumber.f cIsNumber.fd ["thing"] spNum := ok_isNumber cIsNumber T
  have GPart : FnOk P w K mg base CX0 1 cPart.f cPart.fd ["whole", "at"] spPart := ok_part cPart T
  refine c.F.ok scIsEntry (fun vs H Q E h => ?_) (fun cdv A outer s H vs Q E hr h => ?_)
  · obtain ⟨a, d, b, p, L, e, rfl, _⟩ := h
    rfl
  · obtain ⟨a, d, b, p, L, e, rfl, hP, g, hL, he, w100, hw, k⟩ := h
    refine ⟨_, (pss_cons (ps_set (i := 3) scIsEntry.nd rfl (Or.inl rfl) (pe_call GPart (hr.mono (by first | omega | decide)) (by rfl) cPart.m cPart.F.kp cPart.b .nil pass0 (pa_cons (pv 2) (pa_cons pe_int pa_nil))))
      (pss_cons (ps_set (i := 4) scIsEntry.nd rfl (Or.inl rfl) (pe_call GPart (hr.mono (by first | omega | decide)) (by rfl) cPart.m cPart.F.kp cPart.b .nil pass0 (pa_cons (pv 2) (pa_cons pe_int pa_nil))))
      (pss_cons (ps_if (PW.pt (pw_or (pt_not (pt_val (pe_call GIsWay (hr.mono (by first | omega | decide)) (by rfl) cIsWay.m cIsWay.F.kp cIsWay.b .nil pass0 (pa_cons (pv 1) (pa_cons (pv 3) pa_nil))))) (pw_or (pt_cmpR op_ne (pe_callB call_len_seq (by rfl) T.len PySem.boot_len (pa_cons (pv 2) pa_nil)) pe_int (nomark _)) (pw_or (pt_not (pt_val (pe_call GIsNumber (hr.mono (by first | omega | decide)) (by rfl) cIsNumber.m cIsNumber.F.kp cIsNumber.b .nil pass0 (pa_cons (pv 4) pa_nil)))) (pw_or1 (pt_cmpR op_lt (pv 4) pe_int (nomark _)))))))
          (pss_one (ps_ret pe_bl))
          pss_nil)
      (pss_cons (ps_if (pt_cmpR op_eq (pe_ix ix_tup (pv 2) pe_int (fun _ _ => rfl)) pe_str (nomark _))
          (pss_one (ps_ret (pe_cmpR op_eq (pe_ix ix_tup (pv 3) pe_int (fun _ _ => rfl)) (pe_ix ix_tup (pv 3) (pe_un un_neg pe_int) (fun _ _ => rfl)) (nomark _))))
          pss_nil)
      (pss_one (ps_ret (pe_and (pe_cmpR op_eq (pe_ix ix_tup (pv 2) pe_int (fun _ _ => rfl)) pe_str (nomark _)) (pe_one (pe_call GUseOneWorth (hr.mono (by first | omega | decide)) (by rfl) cUseOneWorth.m cUseOneWorth.F.kp cUseOneWorth.b .nil pass0 (pa_cons (pv 0) (pa_cons (pe_ix ix_tup (pv 3) pe_int (fun _ _ => rfl)) (pa_cons (pe_ix ix_tup (pv 3) (pe_un un_neg pe_int) (fun _ _ => rfl)) pa_nil)))))))))))), ?_⟩
    obtain ⟨t, h1, h2⟩ := he
    have kk : ∀ (z : Bool) (H' : Hp), Same1 H H' → entB p.rows L e = z → Q (.bl z) H' := fun z H' s' e => by rw [← e]; exact k H' s'
    refine ⟨_, rfl, b, _, 1, _, rfl, h1, rfl, ?_⟩
    dsimp only [gName]
    refine ⟨_, rfl, b, _, 2, _, rfl, h1, rfl, ?_⟩
    dsimp only [gName]
    refine ⟨_, rfl, _, rfl, d, t, L, e.way, rfl, hL, h2, w100, fun H1 s1 => ⟨_, rfl, ?_⟩⟩
    cases hway : isWayF L e.way with
    | false => exact iteT (kk false H1 s1 (by unfold entB; rw [hway]; rfl))
    | true =>
    have wne : e.way ≠ [] := fun z => by
      unfold isWayF at hway
      rw [z] at hway
      cases hway
    refine iteF ⟨_, rfl, b, _, rfl, .inr (SqT.of (s1 _ _ h1)), rfl, _, rfl, iteF ?_⟩
    refine ⟨_, rfl, e.many, rfl, _, rfl, iteF ?_⟩
    refine ⟨_, rfl, _, _, rfl, rfl, _, rfl, ite2 (fun c => ?_) (fun c => ?_)⟩
    · have c := of_decide_eq_true c
      exact kk false H1 s1 (by unfold entB; rw [decide_eq_false (by omega : ¬ 1 ≤ e.many)]; rw [hway]; rfl)
    · have c : 1 ≤ e.many := by
        have : ¬ e.many < 1 := fun z => c (decide_eq_true z)
        omega
      have ht1 := s1 _ _ h2
      have hb1 := s1 _ _ h1
      have hd := headD_at wne
      have la := lastD_at wne
      refine ⟨_, rfl, b, _, _, _, rfl, rfl, SqT.of hb1, at0, rfl, _, rfl, ite2 (fun c2 => ?_) (fun c2 => ?_)⟩
      · have c2 := of_decide_eq_true c2
        have c2 : e.sort = "row" := V.str.inj c2
        refine ⟨_, rfl, t, _, _, _, rfl, rfl, SqT.of ht1, hd, _, rfl, _, rfl, t, _, _, _, rfl, rfl, SqT.of ht1, la, rfl, kk _ H1 s1 ?_⟩
        unfold entB
        rw [hway, decide_eq_true c, if_pos c2, Bool.true_and, Bool.true_and]
        by_cases q : e.way.headD 0 = e.way.getLastD 0
        · rw [decide_eq_true q, decide_eq_true (by rw [q])]
        · rw [decide_eq_false q, decide_eq_false fun z => q (by have := V.int.inj z; omega)]
      · have c2 : e.sort ≠ "row" := fun z => c2 (decide_eq_true (by rw [z]))
        refine ⟨_, rfl, b, _, _, _, rfl, rfl, SqT.of hb1, at0, rfl, _, rfl, ?_⟩
        by_cases q : e.sort = "worth"
        · rw [if_pos (decide_eq_true (by rw [q]))]
          refine ⟨_, rfl, _, rfl, t, _, _, _, rfl, rfl, SqT.of ht1, hd, _, rfl, _, rfl, t, _, _, _, rfl, rfl, SqT.of ht1, la, a, p, _, _, rfl, hP.kp (Kp.same s1), g, hw _ (headD_mem wne), hw _ (lastD_mem wne), fun H2 s2 => kk _ H2 (s1.trans s2) ?_⟩
          unfold entB
          rw [hway, decide_eq_true c, if_neg c2, decide_eq_true q]
          rfl
        · rw [if_neg (by rw [decide_eq_false fun z => q (V.str.inj z)]; decide)]
          refine kk false H1 s1 ?_
          unfold entB
          rw [hway, decide_eq_true c, if_neg c2, decide_eq_false q]
          rfl
end
end DL
namespace DLR
open PySem PySem.Spec L2
theorem for_enumE {K : PySem.W.Frag} {a : Addr} {xs : List V} {g : TG} {tb : TS} {D : Ends} {σ : L2.St} {H : Hp} (Pv : Nat → L2.St → Hp → Prop) (h0 : Pv 0 σ H) (hq : ∀ i σ H, Pv i σ H → SqL K H a xs)
    (hs : ∀ i x T σ H, xs[i]? = some x → Pv i σ H → H T = none → g (.ref T) σ (upd H T (.tup [.int (i : Nat), x])) fun σ2 H2 => tb { D with nx := Pv (i + 1), ct := Pv (i + 1), bk := D.nx } σ2 H2)
    (hd : ∀ σ H, Pv xs.length σ H → D.nx σ H) :
    ∃ W : Nat → Nat → L2.St → Hp → Prop, (∃ m, W 0 m σ H) ∧ ∀ i m σ H, W i m σ H →
      ((Ite K a).stop i H ∧ D.nx σ H) ∨ ((Ite K a).go i H ∧ ∃ N : L2.St → Hp → Prop, (∀ σ' H', N σ' H' → ∃ m', m' < m ∧ W (i + 1) m' σ' H') ∧ ∀ x H', (Ite K a).yld i H x H' → g x σ H' fun σ2 H2 => tb { D with nx := N, ct := N, bk := D.nx } σ2 H2) := by
  refine ⟨fun i m σ H => m = xs.length - i ∧ i ≤ xs.length ∧ Pv i σ H, ⟨xs.length, rfl, Nat.zero_le _, h0⟩, ?_⟩
  rintro i m σ H ⟨rfl, hi, p⟩
  have qx := hq i σ H p
  by_cases hlt : i < xs.length
  · refine .inr ⟨⟨xs, _, qx, List.getElem?_eq_getElem hlt⟩, Pv (i + 1), fun σ' H' p' => ⟨_, by omega, rfl, hlt, p'⟩, fun v H' y => ?_⟩
    obtain ⟨T, x', rfl, hT, rfl, f1⟩ := y
    exact hs i x' T σ H (f1 xs qx) p hT
  · have e : i = xs.length := by omega
    subst e
    exact .inl ⟨⟨xs, qx, Nat.le_refl _⟩, hd σ H p⟩
end DLR
namespace DL
open PySem PySem.Spec L2 DLR
/-! ### bound -/
def rndF (b : Int) (W : Nat) : Int := b + (-b) % (W : Int)
def sumLeast (rows : List Row) (L : Left) : Int := (L.map fun q => q.2 * leastHalfF rows q.1).sum
def overF (L : Left) (w : List Nat) : Bool := (halvesF w).any fun h => decide ((getE L h).getD 0 < 0)
def boundF (rows : List Row) (W : Nat) : List Entry → Nat → Left → Int → Nat ⊕ Int
  | [], _, L, s => .inr (s + sumLeast rows L)
  | e :: es, i, L, s => if entB rows L e = true then (if overF (takeH L e.way e.many) e.way = true then .inl i else boundF rows W es (i + 1) (takeH L e.way e.many) (s + e.many * rndF (leastF rows e.way) W)) else .inl i
theorem small_natE {n : Nat} (h : n < 1000000) : Sm (n : Int) := by
  unfold Sm
  show n.log2 < 1920
  by_cases e : n = 0
  · subst e
    decide
  · exact Nat.lt_of_lt_of_le ((Nat.log2_lt e).mpr (Nat.lt_of_lt_of_le h (by decide : 1000000 ≤ 2 ^ 20))) (by decide)
theorem leastHalf_bd (rows : List Row) (l : List Nat) : 0 ≤ leastHalfF rows l ∧ leastHalfF rows l ≤ 5 := by
  unfold leastHalfF
  by_cases h : l.length = 1
  · rw [if_pos h]; omega
  · rw [if_neg h]
    cases rows.getD (l.headD 0) .stop <;> simp [work, Row.uses]
theorem sum_bd {α : Type} (f : α → Int) (h : ∀ x, 0 ≤ f x ∧ f x ≤ 5) : ∀ l : List α, 0 ≤ (l.map f).sum ∧ (l.map f).sum ≤ 5 * (l.length : Int)
  | [] => ⟨Int.le_refl _, Int.le_refl _⟩
  | x :: l => by
    obtain ⟨h1, h2⟩ := sum_bd f h l
    obtain ⟨h3, h4⟩ := h x
    rw [List.map_cons, List.sum_cons, List.length_cons]
    omega
theorem leastF_bd (rows : List Row) (w : List Nat) : 0 ≤ leastF rows w ∧ leastF rows w ≤ 10 * (w.length : Int) := by
  obtain ⟨h1, h2⟩ := sum_bd (leastHalfF rows) (leastHalf_bd rows) (halvesF w)
  have h3 := halvesF_len w
  unfold leastF
  omega
theorem rndF_bd (b : Int) {W : Nat} (h : 0 < W) : b ≤ rndF b W ∧ rndF b W < b + W := by
  unfold rndF
  have h1 := Int.emod_nonneg (-b) (show (W : Int) ≠ 0 by omega)
  have h2 := Int.emod_lt_of_pos (-b) (show (0 : Int) < W by omega)
  omega
structure Bn (mg : Str → Option Value) : Prop where
  any : mg "any" = none
abbrev sCheckWGE : Stmt := top 39
abbrev sBound : Stmt := top 47
abbrev nCheckWGE : List Str := ["program","wide","goes"]
abbrev nBound : List Str := ["program","wide","goes","told","left","shown","at","entry","_","way","many","half"]
abbrev FCheckWGE (K : Frg) (mg : Str → Option Value) := Fd K mg "check_wide_and_goes" sCheckWGE ["program","wide","goes"]
abbrev FBound (K : Frg) (mg : Str → Option Value) := Fd K mg "bound" sBound ["program","wide","goes","told"]
abbrev IBE (K : Frg) (mg : Str → Option Value) (C : Addr) := ErI K mg "BadPaper" "BadPaper.__init__" C sBEInit ["self", "at"]
abbrev BadE (BP : Addr) (H : Hp) (E : XK) (i : Int) : Prop := ∀ d H', H d = none → Same1 H H' → H' d = some (.xd (fsBE i)) → E (.ref BP) (some d) H'
theorem BadE.to {BP : Addr} {H H1 : Hp} {E : XK} {i : Int} (h : BadE BP H E i) (s : Same1 H H1) : BadE BP H1 E i := fun d H' hd s' e => h d H' (s.free hd) (s.trans s') e
structure LOk (N : Nat) (L : Left) : Prop where
  keys : ∀ q ∈ L, (∃ x, q.1 = [x] ∧ x < N) ∨ ∃ a x, q.1 = [a, x] ∧ a < N ∧ x < N
  fst : ∀ a x, (getE L [a, x]).isSome = true → (getE L [x]).isSome = true
  nd : (L.map (·.1)).Nodup
theorem getE_some {κ β : Type} [DecidableEq κ] : ∀ {L : List (κ × β)} {k : κ}, (getE L k).isSome = true ↔ k ∈ L.map (·.1)
  | [], k => by simp [getE]
  | q :: L, k => by
    unfold getE
    by_cases e : q.1 = k
    · rw [if_pos e]
      exact ⟨fun _ => by rw [List.map_cons, e]; exact List.mem_cons_self, fun _ => rfl⟩
    · rw [if_neg e, getE_some, List.map_cons, List.mem_cons]
      exact ⟨.inr, fun h => h.elim (fun z => absurd z.symm e) id⟩
theorem isSome_keys {κ β : Type} [DecidableEq κ] {L L' : List (κ × β)} (h : L'.map (·.1) = L.map (·.1)) (k : κ) : (getE L' k).isSome = (getE L k).isSome := by
  rw [Bool.eq_iff_iff, getE_some, getE_some, h]
theorem LOk.of_keys {N : Nat} {L L' : Left} (h : LOk N L) (e : L'.map (·.1) = L.map (·.1)) : LOk N L' := by
  refine ⟨fun q hq => ?_, fun a x hx => ?_, by rw [e]; exact h.nd⟩
  · have : q.1 ∈ L.map (·.1) := by rw [← e]; exact List.mem_map.mpr ⟨q, hq, rfl⟩
    obtain ⟨q', hq', e'⟩ := List.mem_map.mp this
    rw [← e']
    exact h.keys q' hq'
  · rw [isSome_keys e] at hx ⊢
    exact h.fst a x hx
theorem fold_keys (m : Int) : ∀ (M : List (List Nat)) (L : Left), (∀ h ∈ M, (getE L h).isSome = true) → (M.foldl (fun L h => setE L h ((getE L h).getD 0 - m)) L).map (·.1) = L.map (·.1)
  | [], L, _ => rfl
  | x :: M, L, hM => by
    rw [List.foldl_cons]
    have e := setE_keys (v := (getE L x).getD 0 - m) (hM x List.mem_cons_self)
    rw [fold_keys m M _ fun h hm => by rw [isSome_keys e]; exact hM h (List.mem_cons_of_mem _ hm)]
    exact e
theorem isWay_halves {N : Nat} {L : Left} {w : List Nat} (lo : LOk N L) (h : isWayF L w = true) : ∀ x ∈ halvesF w, (getE L x).isSome = true := by
  unfold isWayF at h
  obtain ⟨_, h2⟩ := Bool.and_eq_true_iff.mp h
  have h2 := List.all_eq_true.mp h2
  intro x hx
  unfold halvesF at hx
  rcases List.mem_append.mp hx with q | q
  · obtain ⟨z, hz, rfl⟩ := List.mem_map.mp q
    exact h2 z hz
  · obtain ⟨y, hy, rfl⟩ := List.mem_map.mp q
    obtain ⟨i, hi, rfl⟩ := List.mem_iff_getElem.mp hy
    rw [List.length_drop] at hi
    have hz : (pairsF w)[i]? = some (w[i], (w.drop 1)[i]) := List.getElem?_zip_eq_some.mpr ⟨List.getElem?_eq_getElem (by omega), List.getElem?_eq_getElem _⟩
    exact lo.fst _ _ (h2 _ (List.mem_of_getElem? hz))
theorem takeH_keys {N : Nat} {L : Left} {w : List Nat} {m : Int} (lo : LOk N L) (h : isWayF L w = true) : (takeH L w m).map (·.1) = L.map (·.1) := fold_keys m _ _ (isWay_halves lo h)
theorem ent_way {rows : List Row} {L : Left} {e : Entry} (h : entB rows L e = true) : isWayF L e.way = true := (Bool.and_eq_true_iff.mp h).1
theorem fold_some {α κ β : Type} [DecidableEq κ] (kf : α → κ) (vf : List (κ × β) → α → β) (k : κ) : ∀ (M : List α) (L : List (κ × β)), (getE (M.foldl (fun L e => setE L (kf e) (vf L e)) L) k).isSome = true ↔ (getE L k).isSome = true ∨ ∃ e ∈ M, kf e = k
  | [], L => ⟨.inl, fun h => h.elim id fun ⟨e, he, _⟩ => absurd he (by simp)⟩
  | e :: M, L => by
    rw [List.foldl_cons, fold_some kf vf k M, getE_setE]
    constructor
    · rintro (h | ⟨e', he', q⟩)
      · by_cases z : kf e = k
        · exact .inr ⟨e, List.mem_cons_self, z⟩
        · rw [if_neg z] at h; exact .inl h
      · exact .inr ⟨e', List.mem_cons_of_mem _ he', q⟩
    · rintro (h | ⟨e', he', q⟩)
      · refine .inl ?_
        split
        · rfl
        · exact h
      · rcases List.mem_cons.mp he' with z | z
        · subst z
          exact .inl (by rw [if_pos q]; rfl)
        · exact .inr ⟨e', z, q⟩
theorem setE_nd {κ β : Type} [DecidableEq κ] {L : List (κ × β)} {k : κ} {v : β} (h : (L.map (·.1)).Nodup) : ((setE L k v).map (·.1)).Nodup := by
  cases e : (getE L k).isSome with
  | true => rw [setE_keys e]; exact h
  | false =>
    unfold setE
    rw [e, if_neg (by decide), List.map_append]
    refine List.nodup_append.mpr ⟨h, by simp, fun y hy z hz q => ?_⟩
    have hz : z = k := List.mem_singleton.mp hz
    subst hz
    subst q
    have := getE_some.mpr hy
    rw [e] at this
    cases this
theorem fold_nd {α κ β : Type} [DecidableEq κ] (kf : α → κ) (vf : List (κ × β) → α → β) : ∀ (M : List α) (L : List (κ × β)), (L.map (·.1)).Nodup → ((M.foldl (fun L e => setE L (kf e) (vf L e)) L).map (·.1)).Nodup
  | [], L, h => h
  | e :: M, L, h => by rw [List.foldl_cons]; exact fold_nd kf vf M _ (setE_nd h)
theorem times_some (G : GoL) (x : Nat) : (getE (timesF G) x).isSome = true ↔ x = 0 ∨ ∃ e ∈ G, e.1.2 = x := by
  have h := fold_some (fun e : (Nat × Nat) × Int => e.1.2) (fun T e => (getE T e.1.2).getD 0 + e.2) x G [(0, (1 : Int))]
  have e : (getE [((0 : Nat), (1 : Int))] x).isSome = true ↔ x = 0 := by
    unfold getE
    by_cases q : 0 = x
    · rw [if_pos q]; exact ⟨fun _ => q.symm, fun _ => rfl⟩
    · rw [if_neg q]; exact ⟨fun z => (by cases z), fun z => absurd z.symm q⟩
  rw [e] at h
  exact h
theorem times_nd (G : GoL) : ((timesF G).map (·.1)).Nodup := fold_nd (fun e : (Nat × Nat) × Int => e.1.2) (fun T e => (getE T e.1.2).getD 0 + e.2) G [(0, (1 : Int))] (by simp)
theorem firsts_some (T : List (Nat × Int)) (h : List Nat) : (getE (firstsF T) h).isSome = true ↔ ∃ q ∈ T, [q.1] = h := by
  have q := fold_some (fun q : Nat × Int => [q.1]) (fun _ q => q.2) h T ([] : Left)
  exact q.trans ⟨fun z => z.elim (fun y => by cases y) id, .inr⟩
theorem left_some (G : GoL) (h : List Nat) : (getE (leftF G) h).isSome = true ↔ (∃ x, h = [x] ∧ (x = 0 ∨ ∃ e ∈ G, e.1.2 = x)) ∨ ∃ e ∈ G, h = [e.1.1, e.1.2] := by
  have q : (getE (leftF G) h).isSome = true ↔ _ := fold_some (fun e : (Nat × Nat) × Int => [e.1.1, e.1.2]) (fun (_ : Left) e => e.2) h G (firstsF (timesF G))
  rw [q, firsts_some]
  constructor
  · rintro (⟨q, hq, e⟩ | ⟨e, he, z⟩)
    · exact .inl ⟨q.1, e.symm, (times_some G q.1).mp (getE_some.mpr (List.mem_map.mpr ⟨q, hq, rfl⟩))⟩
    · exact .inr ⟨e, he, z.symm⟩
  · rintro (⟨x, rfl, hx⟩ | ⟨e, he, z⟩)
    · obtain ⟨q, hq, e⟩ := List.mem_map.mp (getE_some.mp ((times_some G x).mpr hx))
      exact .inl ⟨q, hq, by rw [e]⟩
    · exact .inr ⟨e, he, z.symm⟩
theorem left_ok {p : Prog} {G : GoL} (g : Good p) (gk : Goes p G) : LOk p.rows.length (leftF G) := by
  have r1 := g.r1
  have to_lt : ∀ e ∈ G, e.1.2 < p.rows.length := fun e he => by
    obtain ⟨k1, k2, _⟩ := gk.key e he
    have er : p.rows.getD e.1.1 .stop = p.rows[e.1.1] := by rw [List.getD_eq_getElem?_getD, List.getElem?_eq_getElem k1]; rfl
    rw [er] at k2
    exact tgt_ltP (g.ok _ (List.getElem_mem k1)) _ k2
  refine ⟨fun q hq => ?_, fun a x h => ?_, ?_⟩
  · have := (left_some G q.1).mp (getE_some.mpr (List.mem_map.mpr ⟨q, hq, rfl⟩))
    rcases this with ⟨x, e, hx⟩ | ⟨e, he, z⟩
    · refine .inl ⟨x, e, ?_⟩
      rcases hx with rfl | ⟨e', he', rfl⟩
      · omega
      · exact to_lt e' he'
    · exact .inr ⟨_, _, z, (gk.key e he).1, to_lt e he⟩
  · rcases (left_some G _).mp h with ⟨y, e, _⟩ | ⟨e, he, z⟩
    · cases e
    · cases z
      exact (left_some G _).mpr (.inl ⟨_, rfl, .inr ⟨e, he, rfl⟩⟩)
  · refine fold_nd (fun e : (Nat × Nat) × Int => [e.1.1, e.1.2]) (fun (_ : Left) e => e.2) G (firstsF (timesF G)) ?_
    exact fold_nd (fun q : Nat × Int => [q.1]) (fun (_ : Left) q => q.2) (timesF G) [] (by simp)
def spCheckWGE : Sp := fun vs H Q _ => ∃ (a l : Addr) (bs : List Addr) (p : Prog) (W : Nat) (G : GoL), vs = [.ref a, nI W, .ref l] ∧ ProgAt H a p ∧ Good p ∧ 2 ≤ W ∧ W ≤ 24 ∧ H l = some (.lst (bs.map V.ref)) ∧ GoesAt H bs G ∧ Goes p G ∧ G.length < 60 ∧ ∀ H', Same1 H H' → Q .non H'
def spBound (BE : Addr) : Sp := fun vs H Q E => ∃ (a l tl : Addr) (bs es : List Addr) (p : Prog) (W : Nat) (G : GoL) (M : List Entry), vs = [.ref a, nI W, .ref l, .ref tl] ∧ ProgAt H a p ∧ Good p ∧ 2 ≤ W ∧ W ≤ 24 ∧ H l = some (.lst (bs.map V.ref)) ∧ GoesAt H bs G ∧ Goes p G ∧ G.length < 60 ∧
  H tl = some (.lst (es.map V.ref)) ∧ EntsAt H es M ∧ M.length ≤ 1000 ∧ (∀ e ∈ M, e.way.length ≤ 100 ∧ ∀ x ∈ e.way, x < p.rows.length) ∧
  (∀ i : Nat, boundF p.rows W M 0 (leftF G) 0 = .inl i → BadE BE H E (i : Int)) ∧ ∀ v, boundF p.rows W M 0 (leftF G) 0 = .inr v → ∀ H', Same1 H H' → Q (.int v) H'
section
variable {P : Program} {w : World} {K : PySem.W.Frag} {mg : Str → Option Value} {base : Heap}
theorem scCheckWGE : FnScope nCheckWGE ["program","wide","goes"] (defScope sCheckWGE) := ⟨rfl, rfl, rfl, by decide +kernel, rfl, by decide +kernel, by decide +kernel⟩
theorem scBound : FnScope nBound ["program","wide","goes","told"] (defScope sBound) := ⟨rfl, rfl, rfl, by decide +kernel, rfl, by decide +kernel, by decide +kernel⟩
theorem ok_checkWGE (c : FCheckWGE K mg) (cCheckProgram : FCheckProgram K mg) (cCheckWide : FCheckWide K mg) (cCheckGoes : FCheckGoes K mg)
    (GCheckProgram : FnOk P w K mg base CX0 4 cCheckProgram.f cCheckProgram.fd ["program"] spCheckProgram) (GCheckWide : FnOk P w K mg base CX0 3 cCheckWide.f cCheckWide.fd ["wide"] spCheckWide)
    (GCheckGoes : FnOk P w K mg base CX0 5 cCheckGoes.f cCheckGoes.fd ["program", "goes"] spCheckGoes) : FnOk P w K mg base CX0 6 c.f c.fd ["program","wide","goes"] spCheckWGE := by
  refine c.F.ok scCheckWGE (fun vs H Q E h => ?_) (fun cdv A outer s H vs Q E hr h => ?_)
  · obtain ⟨a, l, bs, p, W, G, rfl, _⟩ := h
    rfl
  · obtain ⟨a, l, bs, p, W, G, rfl, hP, g, w2, w24, hl, hG, gk, g60, k⟩ := h
    refine ⟨_, (pss_cons (ps_expr (pe_call GCheckProgram (hr.mono (by first | omega | decide)) (by rfl) cCheckProgram.m cCheckProgram.F.kp cCheckProgram.b .nil pass0 (pa_cons (pv 0) pa_nil)))
      (pss_cons (ps_expr (pe_call GCheckWide (hr.mono (by first | omega | decide)) (by rfl) cCheckWide.m cCheckWide.F.kp cCheckWide.b .nil pass0 (pa_cons (pv 1) pa_nil)))
      (pss_one (ps_expr (pe_call GCheckGoes (hr.mono (by first | omega | decide)) (by rfl) cCheckGoes.m cCheckGoes.F.kp cCheckGoes.b .nil pass0 (pa_cons (pv 0) (pa_cons (pv 2) pa_nil))))))), ?_⟩
    refine ⟨_, rfl, a, p, rfl, hP, g, fun H1 s1 => ?_⟩
    refine ⟨_, rfl, (W : Int), rfl, by omega, by omega, ?_⟩
    exact ⟨_, rfl, _, rfl, a, l, bs, p, G, rfl, hP.kp (Kp.same s1), g, s1 _ _ hl, hG.kp (Kp.same s1), gk, g60, fun H2 s2 => k H2 (s1.trans s2)⟩
theorem ok_bound {BEA : Addr} (BE : IBE K mg BEA) (GBE : FnOk P w K mg base CX0 1 BE.f BE.fd ["self", "at"] (spBE BEA)) (c : FBound K mg) (cCheckWG : FCheckWGE K mg) (cHalvesDone : FHalvesDone K mg) (cIsEntry : FIsEntry K mg) (cTakeHalves : FTakeHalves K mg) (cHalves : FHalves K mg) (cInRounds : FInRounds K mg) (cLeastBeats : FLeastBeats K mg) (cLeastHalf : FLeastHalf K mg) (T : Bt mg) (TN : Bn mg)
    (GCheckWG : FnOk P w K mg base CX0 6 cCheckWG.f cCheckWG.fd ["program","wide","goes"] spCheckWGE) (GHalvesDone : FnOk P w K mg base CX0 2 cHalvesDone.f cHalvesDone.fd ["goes"] spHalvesDone) (GIsEntry : FnOk P w K mg base CX0 3 cIsEntry.f cIsEntry.fd ["program","done","entry"] spIsEntry) (GTakeHalves : FnOk P w K mg base CX0 2 cTakeHalves.f cTakeHalves.fd ["left","way","many"] spTakeHalves)
    (GInRounds : FnOk P w K mg base CX0 1 cInRounds.f cInRounds.fd ["beats", "wide"] spInRounds) (GLeastBeats : FnOk P w K mg base CX0 3 cLeastBeats.f cLeastBeats.fd ["program", "way"] spLeastBeats) (GLeastHalf : FnOk P w K mg base CX0 2 cLeastHalf.f cLeastHalf.fd ["program", "half"] spLeastHalf) :
    FnOk P w K mg base (L2.CX P w) 7 c.f c.fd ["program","wide","goes","told"] (spBound BEA) := by
  have GHalves : FnOk P w K mg base CX0 1 cHalves.f cHalves.fd ["way"] spHalves := ok_halves cHalves T
  refine c.F.okX scBound (fun vs H Q E h => ?_) (fun cdv A outer s H vs Q E hr h => ?_)
  · obtain ⟨a, l, tl, bs, es, p, W, G, M, rfl, _⟩ := h
    rfl
  · obtain ⟨a, l, tl, bs, es, p, W, G, M, rfl, hP, g, w2, w24, hl, hG, gk, g60, htl, hM, m1000, hw, ke, k⟩ := h
    refine ⟨_, (pss_cons (ps_expr (pe_call GCheckWG (hr.mono (by first | omega | decide)) (by rfl) cCheckWG.m cCheckWG.F.kp cCheckWG.b .nil pass0 (pa_cons (pv 0) (pa_cons (pv 1) (pa_cons (pv 2) pa_nil)))))
      (pss_cons (ps_set (i := 4) scBound.nd rfl (Or.inr rfl) (pe_call GHalvesDone (hr.mono (by first | omega | decide)) (by rfl) cHalvesDone.m cHalvesDone.F.kp cHalvesDone.b .nil pass0 (pa_cons (pv 2) pa_nil)))
      (pss_cons (ps_set (i := 5) scBound.nd rfl (Or.inl rfl) pe_int)
      (pss_cons (ps_for (L2.passes_of rfl) rfl (pi_enum (by rfl) T.enumerate (pa_cons (pv 3) pa_nil)) (pg_tup rfl (pgs_cons (pg_name (i := 6) scBound.nd rfl (Or.inl rfl)) (pgs_cons (pg_name (i := 7) scBound.nd rfl (Or.inl rfl)) pgs_nil)))
          (pss_cons (ps_if (pt_not (pt_val (pe_call GIsEntry (hr.mono (by first | omega | decide)) (by rfl) cIsEntry.m cIsEntry.F.kp cIsEntry.b .nil pass0 (pa_cons (pv 0) (pa_cons (pv 4) (pa_cons (pv 7) pa_nil))))))
              (pss_one (ps_raise rfl (takes_of rfl rfl rfl rfl) (L2.pmk_oex BE.T BE.iC BE.tI GBE (hr.mono (by first | omega | decide)) BE.b .nil pass0 (by rfl) BE.m (pa_cons (pv 6) pa_nil))))
              pss_nil)
          (pss_cons (ps_asg (pv 7) (pg_tup rfl (pgs_cons (pg_name (i := 8) scBound.nd rfl (Or.inl rfl)) (pgs_cons (pg_name (i := 9) scBound.nd rfl (Or.inl rfl)) (pgs_cons (pg_name (i := 10) scBound.nd rfl (Or.inl rfl)) pgs_nil)))))
          (pss_cons (ps_expr (pe_call GTakeHalves (hr.mono (by first | omega | decide)) (by rfl) cTakeHalves.m cTakeHalves.F.kp cTakeHalves.b .nil pass0 (pa_cons (pv 4) (pa_cons (pv 9) (pa_cons (pv 10) pa_nil)))))
          (pss_cons (ps_if (pt_val (pe_callB (cr_any rfl) (by rfl) TN.any (by decide +kernel) (pa_cons (pe_lc (own := [("half", 11)]) (g := gName 11) (tt := tYes) rfl scBound.nd (pi_list (pe_call GHalves (hr.mono (by first | omega | decide)) (by rfl) cHalves.m cHalves.F.kp cHalves.b .nil pass0 (pa_cons (pv 9) pa_nil))) (blkOk_by (N := nBound) (sc := defScope sBound) (by decide +kernel)) (fun _ _ _ _ _ => (pg_name (i := 11) scBound.nd rfl (Or.inl rfl))) (fun _ _ _ _ _ => pts_nil) (fun _ _ _ _ _ => (pe_cmpR op_lt (pe_dget (hu_of hr) (pv 4) (pv 11) (fun _ _ => rfl)) pe_int (nomark _)))) pa_nil)))
              (pss_one (ps_raise rfl (takes_of rfl rfl rfl rfl) (L2.pmk_oex BE.T BE.iC BE.tI GBE (hr.mono (by first | omega | decide)) BE.b .nil pass0 (by rfl) BE.m (pa_cons (pv 6) pa_nil))))
              pss_nil)
          (pss_one (ps_aug (i := 5) scBound.nd rfl (.inl rfl) (pe_op op_mul (pv 10) (pe_call GInRounds (hr.mono (by first | omega | decide)) (by rfl) cInRounds.m cInRounds.F.kp cInRounds.b .nil pass0 (pa_cons (pe_call GLeastBeats (hr.mono (by first | omega | decide)) (by rfl) cLeastBeats.m cLeastBeats.F.kp cLeastBeats.b .nil pass0 (pa_cons (pv 0) (pa_cons (pv 9) pa_nil))) (pa_cons (pv 1) pa_nil)))) ip_add)))))))
      (pss_one (ps_ret (pe_op op_add (pv 5) (pe_callB (cr_sum rfl) (by rfl) T.sum (by decide +kernel) (pa_cons (pe_lc (own := [("half", 11), ("many", 10)]) (g := gTup K 2 (gCons (gName 11) (gCons (gName 10) gNil))) (tt := tYes) rfl scBound.nd (DLR.pi_itemsT (pe_frz (pv 4))) (blkOk_by (N := nBound) (sc := defScope sBound) (by decide +kernel)) (fun _ _ _ _ _ => (pg_tupK K rfl rfl (pgs_cons (pg_name (i := 11) scBound.nd rfl (Or.inl rfl)) (pgs_cons (pg_name (i := 10) scBound.nd rfl (Or.inl rfl)) pgs_nil)))) (fun _ _ _ _ _ => pts_nil) (fun _ _ _ _ _ => (pe_op op_mul (pv 10) (pe_call GLeastHalf (hr.mono (by first | omega | decide)) (by rfl) cLeastHalf.m cLeastHalf.F.kp cLeastHalf.b .nil pass0 (pa_cons (pv 0) (pa_cons (pv 11) pa_nil)))))) pa_nil))))))))), ?_⟩
    have w0 : 0 < W := by omega
    have r40 := g.r40
    have lo0 := left_ok g gk
    have ll0 := leftF_len G
    obtain ⟨R, hR⟩ : ∃ R, R = boundF p.rows W M 0 (leftF G) 0 := ⟨_, rfl⟩
    rw [← hR] at ke k
    refine ⟨_, rfl, _, rfl, _, rfl, a, l, bs, p, W, G, rfl, hP, g, w2, w24, hl, hG, gk, g60, fun H1 s1 => ?_⟩
    refine ⟨_, rfl, l, bs, G, rfl, s1 _ _ hl, hG.kp (Kp.same s1), by omega, fun d H2 s2 nd e2 => ?_⟩
    dsimp only [gName]
    have S2 := s1.trans s2
    have ndH : H d = none := s1.free nd
    have hbm := Paired.length hM
    refine ⟨_, rfl, tl, _, rfl, SqL.of (S2 _ _ htl), for_enumE (K := K) (a := tl) (xs := es.map V.ref) (fun i σ H' => ∃ (x6 x7 x8 x9 x10 x11 : Option V) (L : Left) (sh : Int), σ = [some (.ref a), some (nI W), some (.ref l), some (.ref tl), some (.ref d), some (.int sh), x6, x7, x8, x9, x10, x11] ∧ Same1 H H' ∧ LeftAt H' d L ∧ LOk p.rows.length L ∧ L.length = (leftF G).length ∧ boundF p.rows W (M.drop i) i L sh = R)
      ⟨none, none, none, none, none, none, leftF G, 0, rfl, S2, e2, lo0, rfl, hR.symm⟩ (fun i σ H' ⟨_, _, _, _, _, _, _, _, _, q, _⟩ => SqL.of (q _ _ htl)) ?_ ?_⟩
    · rintro i x T' σ H3 hi ⟨x6, x7, x8, x9, x10, x11, L, sh, rfl, s3, l3, lo, hll, hb⟩ hT
      have hic : i < es.length := by
        have q := (List.getElem?_eq_some_iff.mp hi).1
        rwa [List.length_map] at q
      have ex : x = .ref es[i] := by
        rw [List.getElem?_map, List.getElem?_eq_getElem hic] at hi
        exact (Option.some.inj hi).symm
      subst ex
      obtain ⟨e, hq1, hq2⟩ := Paired.get (hM.kp (Kp.same s3)) (List.getElem?_eq_getElem hic)
      have hd : M.drop i = e :: M.drop (i + 1) := by
        obtain ⟨h1, h2⟩ := List.getElem?_eq_some_iff.mp hq1
        rw [← h2]
        exact (List.getElem_cons_drop h1).symm
      rw [hd] at hb
      unfold boundF at hb
      obtain ⟨e100, ew⟩ := hw e (List.mem_of_getElem? hq1)
      have s4 : Same1 H3 (upd H3 T' (.tup [.int (i : Nat), .ref es[i]])) := Same.new hT
      have e4 : (upd H3 T' (.tup [.int (i : Nat), .ref es[i]])) T' = some (.tup [.int (i : Nat), .ref es[i]]) := upd_same
      generalize upd H3 T' (.tup [.int (i : Nat), .ref es[i]]) = H4 at *
      have S4 := s3.trans s4
      refine ⟨T', _, rfl, SqT.of e4, rfl, _, _, rfl, _, _, rfl, rfl, ?_⟩
      refine ⟨_, rfl, _, rfl, _, rfl, a, d, es[i], p, L, e, rfl, hP.kp (Kp.same S4), g, s4 _ _ l3, hq2.kp (Kp.same s4), e100, ew, fun H5 s5 => ⟨_, rfl, ?_⟩⟩
      have S5 := S4.trans s5
      have si : Sm (i : Int) := small_natE (by omega : i < 1000000)
      cases hen : entB p.rows L e with
      | false =>
        rw [hen, if_neg (by decide)] at hb
        exact iteT ⟨_, rfl, toldBE si ((ke i hb.symm).to S5)⟩
      | true =>
        rw [hen, if_pos rfl] at hb
        have hway := ent_way hen
        have wl : 2 ≤ e.way.length := by
          unfold isWayF at hway
          exact of_decide_eq_true (Bool.and_eq_true_iff.mp hway).1
        have hk := takeH_keys (m := e.many) lo hway
        have lo' := lo.of_keys hk
        obtain ⟨t, ht1, ht2⟩ := hq2.kp (Kp.same (s4.trans s5))
        refine iteF ⟨_, rfl, es[i], _, rfl, SqT.of ht1, rfl, _, _, rfl, _, _, rfl, _, _, rfl, rfl, ?_⟩
        refine ⟨_, rfl, _, rfl, _, rfl, d, t, L, e.way, e.many, rfl, (s4.trans s5) _ _ l3, by omega, ht2, by omega, e100, isWay_halves lo hway, fun H6 b6 l6 => ?_⟩
        have s6 : Same1 H H6 := fun a o q => b6 _ _ (S5 _ _ q) fun z => by rw [z, ndH] at q; cases q
        have nt : t ≠ d := fun z => by
          have q := (s4.trans s5) _ _ l3
          rw [← z, ht2] at q
          cases q
        have ht6 := b6 _ _ ht2 nt
        have hkl : (takeH L e.way e.many).length = L.length := by
          have := congrArg List.length hk
          rwa [List.length_map, List.length_map] at this
        obtain ⟨L', hL'⟩ : ∃ L', L' = takeH L e.way e.many := ⟨_, rfl⟩
        rw [← hL'] at hb l6 lo' hkl hk
        have hsome : ∀ h ∈ halvesF e.way, (getE L' h).isSome = true := fun h hh => by
          rw [isSome_keys hk]
          exact isWay_halves lo hway h hh
        refine ⟨_, rfl, t, e.way, rfl, ht6, by omega, e100, fun hl' hs H7 s7 nhl e7 hT7 => ⟨hl', rfl, ⟨_, SqL.of e7⟩, fun D hD => ?_⟩⟩
        have hsl := tups_len hT7
        have l7 := s7 _ _ l6
        have hv := halvesF_len e.way
        refine lc_list (K := K) (a := hl') (xs := hs.map V.ref) (fun j H' => Same1 H7 H' ∧ H' D = some (.lst ((((halvesF e.way).take j).map fun h => decide ((getE L' h).getD 0 < 0)).map V.bl))) ⟨Same.new hD, upd_same⟩ (fun j H' _ ⟨q, _⟩ => SqL.of (q _ _ e7)) ?_ ?_
        · rintro j y H8 hj ⟨s8, d8⟩
          have hjc : j < hs.length := by
            have q := (List.getElem?_eq_some_iff.mp hj).1
            rwa [List.length_map] at q
          have ey : y = .ref hs[j] := by
            rw [List.getElem?_map, List.getElem?_eq_getElem hjc] at hj
            exact (Option.some.inj hj).symm
          subst ey
          obtain ⟨h, h1, h2⟩ := Paired.get hT7 (List.getElem?_eq_getElem hjc)
          obtain ⟨z, hz⟩ := Option.isSome_iff_exists.mp (hsome h (List.mem_of_getElem? h1))
          have dg := LeftAt.get (s8 _ _ l7) (s8 _ _ h2)
          rw [hz] at dg
          refine ⟨rfl, _, rfl, _, rfl, d, .int z, rfl, dg, _, _, rfl, rfl, _, d8, szl (by rw [List.length_map, List.length_map, List.length_take]; omega), Same.mut s8 hD, ?_⟩
          rw [upd_same, take_snoc h1, List.map_append, List.map_append]
          show _ = some (HO.lst (_ ++ [V.bl (decide ((getE L' h).getD 0 < 0))]))
          rw [hz]
          rfl
        · rintro H8 ⟨s8, d8⟩
          rw [List.length_map, hsl, List.take_length] at d8
          refine ⟨D, _, rfl, SqL.of d8, _, rfl, ?_⟩
          have S8 := (s6.trans s7).trans s8
          have ov : (((halvesF e.way).map fun h => decide ((getE L' h).getD 0 < 0)).any id) = overF L' e.way := by
            unfold overF
            rw [List.any_map]
            rfl
          rw [ov]
          cases hov : overF L' e.way with
          | true =>
            rw [hov, if_pos rfl] at hb
            exact iteT ⟨_, rfl, toldBE si ((ke i hb.symm).to S8)⟩
          | false =>
            rw [hov, if_neg (by decide)] at hb
            refine iteF ?_
            have l8 := s8 _ _ l7
            obtain ⟨lb0, lb1⟩ := leastF_bd p.rows e.way
            have rb := rndF_bd (leastF p.rows e.way) w0
            refine ⟨_, rfl, _, rfl, _, rfl, _, rfl, a, t, p, e.way, rfl, hP.kp (Kp.same S8), (s7.trans s8) _ _ ht6, by omega, e100, ew, fun H9 s9 => ?_⟩
            refine ⟨_, rfl, _, W, rfl, w0, _, _, rfl, rfl, .inr (show -(2 ^ 64) < rndF _ _ ∧ rndF _ _ < 2 ^ 64 by omega), _, _, rfl, rfl, ?_⟩
            exact ⟨_, _, _, _, _, _, L', _, rfl, S8.trans s9, s9 _ _ l8, lo', by omega, hb⟩
    · rintro σ H3 ⟨x6, x7, x8, x9, x10, x11, L, sh, rfl, s3, l3, lo, hll, hb⟩
      rw [List.length_map, hbm, List.drop_length] at hb
      unfold boundF at hb
      refine ⟨_, rfl, _, rfl, d, _, rfl, l3, trivial, fun od => ⟨d, od, _, rfl, upd_same, fun D hD => ?_⟩⟩
      have s4 : Same1 H (upd H3 d (.frz od (.dT (lmap L)))) := Same.mut s3 ndH
      have e4 : (upd H3 d (.frz od (.dT (lmap L)))) d = some (.frz od (.dT (lmap L))) := upd_same
      generalize upd H3 d (.frz od (.dT (lmap L))) = H4 at *
      refine lc_gen (J := Itit d od (lmap L)) L.length (fun i H' => Same1 H4 H' ∧ H' D = some (.lst (((L.take i).map fun q => q.2 * leastHalfF p.rows q.1).map V.int))) ⟨Same.new hD, upd_same⟩ (fun i H' hi q => ⟨q.1 _ _ e4, by unfold lmap; rw [emap_len]; exact hi⟩) (fun H' q => ⟨q.1 _ _ e4, by unfold lmap; rw [emap_len]; exact Nat.le_refl _⟩) ?_ ?_
      · rintro i x H5 H6 hi ⟨s5, d5⟩ ⟨t, k0, v0, q0, hk0, rfl, ht, hq0, rfl⟩
        have hT : L[i]? = some L[i] := List.getElem?_eq_getElem hi
        obtain ⟨h, m, ehm⟩ : ∃ h m, L[i] = (h, m) := ⟨_, _, rfl⟩
        rw [ehm] at hT
        have ekv : (k0, v0) = (h.map kN, V.int m) := by
          unfold lmap emap at hk0
          rw [List.getElem?_map, hT] at hk0
          exact (Option.some.inj hk0).symm
        cases ekv
        rw [kNs_kV] at hq0
        have s6 : Same1 H5 (upd H5 t (.tup [.ref q0, .int m])) := Same.new ht
        have e6 : (upd H5 t (.tup [.ref q0, .int m])) t = some (.tup [.ref q0, .int m]) := upd_same
        generalize upd H5 t (.tup [.ref q0, .int m]) = H6 at *
        have hq6 := s6 _ _ hq0
        have hmem : (h, m) ∈ L := List.mem_of_getElem? hT
        refine ⟨t, _, rfl, SqT.of e6, rfl, _, _, rfl, _, _, rfl, rfl, rfl, ?_⟩
        dsimp only [tYes]
        rw [if_pos rfl]
        refine ⟨_, rfl, _, rfl, _, rfl, a, q0, p, h, rfl, hP.kp (Kp.same (s4.trans (s5.trans s6))), hq6, fun hne => ?_, fun H7 s7 => ?_⟩
        · rcases lo.keys _ hmem with ⟨x, e, _⟩ | ⟨x, y, e, hx, _⟩
          · exact absurd (show h.length = 1 by rw [show h = [x] from e]; rfl) hne
          · exact ⟨x, [y], e, hx⟩
        have lb := leastHalf_bd p.rows h
        refine ⟨_, _, rfl, rfl, .inr (by omega), _, (s6.trans s7) _ _ d5, szl (by rw [List.length_map, List.length_map, List.length_take]; omega), Same.mut (s5.trans (s6.trans s7)) hD, ?_⟩
        rw [upd_same, take_snoc hT, List.map_append, List.map_append]
        rfl
      · rintro H5 ⟨s5, d5⟩
        rw [List.take_length] at d5
        refine ⟨D, _, rfl, SqL.of d5, _, _, rfl, rfl, ?_⟩
        exact k _ hb.symm H5 (s4.trans s5)
end
end DL
namespace DLR
open PySem PySem.Spec L2
theorem swap_perm {α : Type} {L : List α} {i j : Nat} {x y : α} (hi : L[i]? = some x) (hj : L[j]? = some y) : ((L.set i y).set j x).Perm L := by
  obtain ⟨h1, e1⟩ := List.getElem?_eq_some_iff.mp hi
  obtain ⟨h2, e2⟩ := List.getElem?_eq_some_iff.mp hj
  subst e1
  subst e2
  exact List.set_set_perm h1 h2
theorem upL_perm {α : Type} (lt : α → α → Bool) : ∀ (f : Nat) (L : List α) (pos : Nat), (upL lt f L pos).Perm L
  | 0, L, pos => List.Perm.refl _
  | f + 1, L, pos => by
    unfold upL
    split
    · split
      · next x p hx hp =>
        split
        · exact (upL_perm lt f _ _).trans (swap_perm hp hx)
        · exact List.Perm.refl _
      · exact List.Perm.refl _
    · exact List.Perm.refl _
theorem downL_perm {α : Type} (lt : α → α → Bool) : ∀ (f : Nat) (L : List α) (pos : Nat), (downL lt f L pos).Perm L
  | 0, L, pos => List.Perm.refl _
  | f + 1, L, pos => by
    unfold downL
    split
    · split
      · next l y hl hy =>
        split
        · next u hu =>
          split
          · exact (downL_perm lt f _ _).trans (swap_perm hl hy)
          · exact (downL_perm lt f _ _).trans (swap_perm hu hy)
        · exact (downL_perm lt f _ _).trans (swap_perm hl hy)
      · exact List.Perm.refl _
    · exact upL_perm lt _ _ _
theorem hpush_perm {α : Type} (lt : α → α → Bool) (L : List α) (x : α) : (hpush lt L x).Perm (x :: L) := (upL_perm lt _ _ _).trans (List.perm_append_singleton x L)
theorem hpop_perm {α : Type} (lt : α → α → Bool) {L : List α} {e : α} (h : L[0]? = some e) : (e :: hpop lt L).Perm L := by
  cases L with
  | nil => cases h
  | cons y L =>
    have h : y = e := Option.some.inj h
    subst h
    unfold hpop
    cases L with
    | nil => exact List.Perm.refl _
    | cons z L =>
      have hl : (y :: z :: L).getLast? = some ((z :: L).getLast (by simp)) := by rw [List.getLast?_eq_some_getLast (by simp)]; rfl
      rw [hl]
      dsimp only
      rw [if_neg (by simp)]
      refine ((downL_perm lt _ _ _).cons y).trans ?_
      refine List.Perm.cons y ?_
      show (((y :: z :: L).dropLast).set 0 ((z :: L).getLast (by simp))).Perm (z :: L)
      rw [List.dropLast_cons_of_ne_nil (by simp), List.set_cons_zero]
      refine (List.perm_append_singleton _ _).symm.trans ?_
      rw [List.dropLast_concat_getLast (by simp)]
end DLR
namespace DL
open PySem PySem.Spec L2 DLR
/-! ### the search for ways -/
def sortF (rows : List Row) (w : List Nat) : Option Str := if w.headD 0 = w.getLastD 0 then some "row" else if useOneF rows (w.headD 0) (w.getLastD 0) = true then some "worth" else none
abbrev Fnd := List (Nat × BW)
def tosF (rows : List Row) (L : Left) (f : Fnd) (row : Nat) : List Nat := (nx (rows.getD row .stop)).filter fun to => decide (to ∉ f.map (·.1)) && decide (0 < (getE L [row, to]).getD 0)
def nextE (rows : List Row) (e : BW) (to : Nat) : BW := (e.1 + leastHalfF rows [e.2.getLastD 0, to] + leastHalfF rows [to], e.2 ++ [to])
def swStep (rows : List Row) (L : Left) (e : BW) (q1 : List BW) (f : Fnd) : List BW × Fnd :=
  if e.2.getLastD 0 ∈ f.map (·.1) then (q1, f) else
    ((tosF rows L (if 1 < e.2.length then f ++ [(e.2.getLastD 0, e)] else f) (e.2.getLastD 0)).foldl (fun q to => hpush entLt q (nextE rows e to)) q1, if 1 < e.2.length then f ++ [(e.2.getLastD 0, e)] else f)
def swGo (rows : List Row) (L : Left) : Nat → List BW → Fnd → Fnd
  | 0, _, f => f
  | n + 1, q, f => match q[0]? with
    | none => f
    | some e => swGo rows L n (swStep rows L e (hpop entLt q) f).1 (swStep rows L e (hpop entLt q) f).2
def swF (rows : List Row) (L : Left) (start : Nat) : Fnd := swGo rows L (4 + 3 * rows.length) [(0, [start])] []
structure WOk (N start : Nat) (L : Left) (f : Fnd) (e : BW) : Prop where
  ne : e.2 ≠ []
  lt : ∀ x ∈ e.2, x < N
  b0 : 0 ≤ e.1
  b1 : e.1 ≤ 10 * (e.2.length : Int)
  hd : e.2.headD 0 = start
  nd : ((e.2.drop 1).dropLast).Nodup
  sub : ∀ x ∈ (e.2.drop 1).dropLast, x ∈ f.map (·.1)
  pos : ∀ q ∈ pairsF e.2, 0 < (getE L [q.1, q.2]).getD 0
structure FOk (N start : Nat) (L : Left) (r : Nat) (e : BW) : Prop where
  two : 2 ≤ e.2.length
  last : e.2.getLastD 0 = r
  lt : ∀ x ∈ e.2, x < N
  b0 : 0 < e.1
  b1 : e.1 ≤ 10 * (e.2.length : Int)
  hd : e.2.headD 0 = start
  nd : (e.2.drop 1).Nodup
  pos : ∀ q ∈ pairsF e.2, 0 < (getE L [q.1, q.2]).getD 0
structure SOk (N start : Nat) (L : Left) (q : List BW) (f : Fnd) : Prop where
  ways : ∀ e ∈ q, WOk N start L f e
  one : ∀ e ∈ q, 2 ≤ e.2.length → 0 < e.1
  fnd : ∀ g ∈ f, FOk N start L g.1 g.2
  nd : (f.map (·.1)).Nodup
def wtE (e : BW) : Nat := if e.2.length ≤ 1 then 4 else 1
def mSW (N : Nat) (q : List BW) (f : Fnd) : Nat := (q.map wtE).sum + 3 * (N - f.length)
theorem lastD_snoc (w : List Nat) (x : Nat) : (w ++ [x]).getLastD 0 = x := by rw [List.getLastD_eq_getLast?]; simp
theorem pairs_snocE : ∀ {w : List Nat} (x : Nat), w ≠ [] → pairsF (w ++ [x]) = pairsF w ++ [(w.getLastD 0, x)]
  | [], _, h => absurd rfl h
  | [y], x, _ => rfl
  | y :: z :: w, x, _ => by
    have q := pairs_snocE (w := z :: w) x (by simp)
    unfold pairsF at q ⊢
    show (y, z) :: (z :: w ++ [x]).zip ((z :: w ++ [x]).drop 1) = (y, z) :: (z :: w).zip ((z :: w).drop 1) ++ [_]
    rw [q]
    rfl
theorem drop1_snoc {w : List Nat} (x : Nat) (h : w ≠ []) : (w ++ [x]).drop 1 = w.drop 1 ++ [x] := by
  cases w with
  | nil => exact absurd rfl h
  | cons y w => rfl
theorem drop1_last {w : List Nat} (h : 2 ≤ w.length) : w.drop 1 = (w.drop 1).dropLast ++ [w.getLastD 0] := by
  match w, h with
  | x :: y :: r, _ =>
    show y :: r = (y :: r).dropLast ++ [(x :: y :: r).getLastD 0]
    have e : (x :: y :: r).getLastD 0 = (y :: r).getLast (by simp) := by rw [List.getLastD_eq_getLast?, List.getLast?_eq_some_getLast (by simp)]; rfl
    rw [e, List.dropLast_concat_getLast]
theorem WOk.mono {N start : Nat} {L : Left} {f f' : Fnd} {e : BW} (h : WOk N start L f e) (m : ∀ x ∈ f.map (·.1), x ∈ f'.map (·.1)) : WOk N start L f' e :=
  ⟨h.ne, h.lt, h.b0, h.b1, h.hd, h.nd, fun x hx => m x (h.sub x hx), h.pos⟩
theorem WOk.nd2 {N start : Nat} {L : Left} {f : Fnd} {e : BW} (h : WOk N start L f e) (hr : e.2.getLastD 0 ∉ f.map (·.1)) : (e.2.drop 1).Nodup := by
  by_cases h2 : 2 ≤ e.2.length
  · rw [drop1_last h2]
    refine List.nodup_append.mpr ⟨h.nd, by simp, fun x hx y hy q => ?_⟩
    rw [List.mem_singleton.mp hy] at q
    subst q
    exact hr (h.sub _ hx)
  · rw [List.drop_eq_nil_of_le (by omega)]
    exact List.nodup_nil
theorem nx_ltE {rows : List Row} {W : Nat} (hok : ∀ r ∈ rows, r.ok W rows.length) {x to : Nat} (hx : x < rows.length) (h : to ∈ nx (rows.getD x .stop)) : to < rows.length := by
  have er : rows.getD x .stop = rows[x] := by rw [List.getD_eq_getElem?_getD, List.getElem?_eq_getElem hx]; rfl
  rw [er] at h
  have ho := hok _ (List.getElem_mem hx)
  cases hr : rows[x] with
  | test a b =>
    rw [hr] at h ho
    rcases List.mem_cons.mp h with q | q
    · rw [q]; exact ho.1
    · rw [List.mem_singleton.mp q]; exact ho.2
  | stop => rw [hr] at h; cases h
  | say n => rw [hr] at h ho; rw [List.mem_singleton.mp h]; exact ho
  | load w n => rw [hr] at h ho; rw [List.mem_singleton.mp h]; exact ho.2
  | add w n => rw [hr] at h ho; rw [List.mem_singleton.mp h]; exact ho.2
  | take w n => rw [hr] at h ho; rw [List.mem_singleton.mp h]; exact ho.2
  | store w n => rw [hr] at h ho; rw [List.mem_singleton.mp h]; exact ho.2
theorem nx_lenE (r : Row) : (nx r).length ≤ 2 := by cases r <;> simp [nx]
theorem WOk.next {N start : Nat} {L : Left} {f f' : Fnd} {e : BW} {rows : List Row} {to : Nat} (h : WOk N start L f e) (hr : e.2.getLastD 0 ∉ f.map (·.1)) (m : ∀ x ∈ f.map (·.1), x ∈ f'.map (·.1)) (hm : 2 ≤ e.2.length → e.2.getLastD 0 ∈ f'.map (·.1)) (ht : to < N) (hp : 0 < (getE L [e.2.getLastD 0, to]).getD 0) : WOk N start L f' (nextE rows e to) := by
  have l1 := leastHalf_bd rows [e.2.getLastD 0, to]
  have l2 := leastHalf_bd rows [to]
  have hb0 := h.b0
  have hb1 := h.b1
  refine ⟨by unfold nextE; simp, fun x hx => ?_, ?_, ?_, ?_, ?_, fun x hx => ?_, fun q hq => ?_⟩
  · rcases List.mem_append.mp hx with q | q
    · exact h.lt x q
    · rw [List.mem_singleton.mp q]; exact ht
  · show 0 ≤ e.1 + _ + _
    omega
  · show e.1 + _ + _ ≤ 10 * (((e.2 ++ [to]).length : Nat) : Int)
    rw [List.length_append]
    show e.1 + _ + _ ≤ 10 * ((e.2.length + 1 : Nat) : Int)
    omega
  · show (e.2 ++ [to]).headD 0 = start
    rw [← h.hd]
    cases he : e.2 with
    | nil => exact absurd he h.ne
    | cons y w => rfl
  · show (((e.2 ++ [to]).drop 1).dropLast).Nodup
    rw [drop1_snoc to h.ne, List.dropLast_concat]
    exact h.nd2 hr
  · have hx : x ∈ ((e.2 ++ [to]).drop 1).dropLast := hx
    rw [drop1_snoc to h.ne, List.dropLast_concat] at hx
    by_cases h2 : 2 ≤ e.2.length
    · rw [drop1_last h2] at hx
      rcases List.mem_append.mp hx with q | q
      · exact m x (h.sub x q)
      · rw [List.mem_singleton.mp q]; exact hm h2
    · rw [List.drop_eq_nil_of_le (by omega)] at hx
      cases hx
  · have hq : q ∈ pairsF (e.2 ++ [to]) := hq
    rw [pairs_snocE to h.ne] at hq
    rcases List.mem_append.mp hq with z | z
    · exact h.pos q z
    · rw [List.mem_singleton.mp z]; exact hp
theorem sum_perm' {l m : List Nat} (h : l.Perm m) : l.sum = m.sum := by
  induction h with
  | nil => rfl
  | cons x _ ih => rw [List.sum_cons, List.sum_cons, ih]
  | swap x y l => rw [List.sum_cons, List.sum_cons, List.sum_cons, List.sum_cons]; omega
  | trans _ _ a b => rw [a, b]
theorem nodupLenE : ∀ (l D : List Nat), l.Nodup → (∀ x ∈ l, x ∈ D) → l.length ≤ D.length
  | [], D, _, _ => Nat.zero_le _
  | x :: l, D, nd, h => by
    obtain ⟨h1, h2⟩ := List.nodup_cons.mp nd
    have hx := h x List.mem_cons_self
    have q := nodupLenE l (D.erase x) h2 fun y hy => by
      have hne : y ≠ x := fun z => h1 (z ▸ hy)
      exact (List.mem_erase_of_ne hne).mpr (h y (List.mem_cons_of_mem _ hy))
    rw [List.length_erase_of_mem hx] at q
    have := List.length_pos_of_mem hx
    rw [List.length_cons]
    omega
theorem keys_lt {N start : Nat} {L : Left} {q : List BW} {f : Fnd} (h : SOk N start L q f) : f.length ≤ N := by
  have sub : ∀ x ∈ f.map (·.1), x < N := fun x hx => by
    obtain ⟨g, hg, rfl⟩ := List.mem_map.mp hx
    have F := h.fnd g hg
    rw [← F.last]
    exact F.lt _ (lastD_mem (by intro z; have := F.two; rw [z] at this; simp at this))
  have l := nodupLenE _ (List.range N) h.nd fun x hx => List.mem_range.mpr (sub x hx)
  rwa [List.length_map, List.length_range] at l
theorem push_all {rows : List Row} (e : BW) : ∀ (T : List Nat) (q : List BW), (T.foldl (fun q to => hpush entLt q (nextE rows e to)) q).Perm (T.map (nextE rows e) ++ q)
  | [], q => List.Perm.refl _
  | t :: T, q => by
    rw [List.foldl_cons, List.map_cons]
    refine (push_all e T _).trans ?_
    refine ((hpush_perm entLt q (nextE rows e t)).append_left _).trans ?_
    exact List.perm_middle
theorem SOk.step {rows : List Row} {W start : Nat} {L : Left} {q : List BW} {f : Fnd} {e : BW} (hok : ∀ r ∈ rows, r.ok W rows.length) (h : SOk rows.length start L q f) (h0 : q[0]? = some e) :
    SOk rows.length start L (swStep rows L e (hpop entLt q) f).1 (swStep rows L e (hpop entLt q) f).2 ∧ mSW rows.length (swStep rows L e (hpop entLt q) f).1 (swStep rows L e (hpop entLt q) f).2 < mSW rows.length q f := by
  have pm := hpop_perm entLt h0
  have hws : (q.map wtE).sum = wtE e + ((hpop entLt q).map wtE).sum := by
    rw [← sum_perm' (pm.map wtE), List.map_cons, List.sum_cons]
  have hw1 : 1 ≤ wtE e := by unfold wtE; split <;> omega
  have he : e ∈ q := pm.mem_iff.mp List.mem_cons_self
  have hp : ∀ x ∈ hpop entLt q, x ∈ q := fun x hx => pm.mem_iff.mp (List.mem_cons_of_mem _ hx)
  have We := h.ways e he
  have fl := keys_lt h
  unfold swStep
  by_cases hr : e.2.getLastD 0 ∈ f.map (·.1)
  · rw [if_pos hr]
    refine ⟨⟨fun x hx => h.ways x (hp x hx), fun x hx => h.one x (hp x hx), h.fnd, h.nd⟩, ?_⟩
    unfold mSW
    dsimp only
    omega
  · rw [if_neg hr]
    dsimp only
    obtain ⟨f', hf'⟩ : ∃ f', f' = (if 1 < e.2.length then f ++ [(e.2.getLastD 0, e)] else f) := ⟨_, rfl⟩
    rw [← hf']
    have m : ∀ x ∈ f.map (·.1), x ∈ f'.map (·.1) := fun x hx => by
      rw [hf']
      split
      · rw [List.map_append]; exact List.mem_append_left _ hx
      · exact hx
    have hm : 2 ≤ e.2.length → e.2.getLastD 0 ∈ f'.map (·.1) := fun h2 => by
      rw [hf', if_pos (by omega), List.map_append]
      exact List.mem_append_right _ (List.mem_singleton.mpr rfl)
    have rlt : e.2.getLastD 0 < rows.length := We.lt _ (lastD_mem We.ne)
    have tq : ∀ to ∈ tosF rows L f' (e.2.getLastD 0), to < rows.length ∧ 0 < (getE L [e.2.getLastD 0, to]).getD 0 := fun to ht => by
      obtain ⟨t1, t2⟩ := List.mem_filter.mp ht
      obtain ⟨t3, t4⟩ := Bool.and_eq_true_iff.mp t2
      exact ⟨nx_ltE hok rlt t1, of_decide_eq_true t4⟩
    have pa := push_all (rows := rows) e (tosF rows L f' (e.2.getLastD 0)) (hpop entLt q)
    have tl : (tosF rows L f' (e.2.getLastD 0)).length ≤ 2 := Nat.le_trans (List.length_filter_le _ _) (nx_lenE _)
    refine ⟨⟨fun x hx => ?_, fun x hx h2 => ?_, fun g hg => ?_, ?_⟩, ?_⟩
    · rcases List.mem_append.mp (pa.mem_iff.mp hx) with z | z
      · obtain ⟨to, ht, rfl⟩ := List.mem_map.mp z
        obtain ⟨t1, t2⟩ := tq to ht
        exact We.next hr m hm t1 t2
      · exact (h.ways x (hp x z)).mono m
    · rcases List.mem_append.mp (pa.mem_iff.mp hx) with z | z
      · obtain ⟨to, ht, rfl⟩ := List.mem_map.mp z
        have l1 := leastHalf_bd rows [e.2.getLastD 0, to]
        have l2 : leastHalfF rows [to] = 1 := by unfold leastHalfF; rw [if_pos (by rfl)]
        have := We.b0
        show 0 < e.1 + _ + _
        omega
      · exact h.one x (hp x z) h2
    · rw [hf'] at hg
      by_cases h2 : 1 < e.2.length
      · rw [if_pos h2] at hg
        rcases List.mem_append.mp hg with z | z
        · exact h.fnd g z
        · rw [List.mem_singleton.mp z]
          exact ⟨h2, rfl, We.lt, h.one e he h2, We.b1, We.hd, We.nd2 hr, We.pos⟩
      · rw [if_neg h2] at hg
        exact h.fnd g hg
    · rw [hf']
      split
      · rw [List.map_append]
        refine List.nodup_append.mpr ⟨h.nd, by simp, fun x hx y hy z => ?_⟩
        rw [List.mem_singleton.mp hy] at z
        subst z
        exact hr hx
      · exact h.nd
    · have ws : (((tosF rows L f' (e.2.getLastD 0)).foldl (fun q to => hpush entLt q (nextE rows e to)) (hpop entLt q)).map wtE).sum = (((tosF rows L f' (e.2.getLastD 0)).map (nextE rows e)).map wtE).sum + ((hpop entLt q).map wtE).sum := by
        rw [sum_perm' (pa.map wtE), List.map_append, List.sum_append]
      have w1 : ∀ T : List Nat, ((T.map (nextE rows e)).map wtE).sum = T.length := fun T => by
        induction T with
        | nil => rfl
        | cons t T ih =>
          rw [List.map_cons, List.map_cons, List.sum_cons, ih, List.length_cons]
          have : wtE (nextE rows e t) = 1 := by
            unfold wtE nextE
            have : 1 ≤ e.2.length := List.length_pos_iff.mpr We.ne
            rw [if_neg (by rw [List.length_append]; show ¬ e.2.length + 1 ≤ 1; omega)]
          omega
      unfold mSW
      rw [ws, w1, hws]
      by_cases h2 : 1 < e.2.length
      · have fl' : f'.length = f.length + 1 := by rw [hf', if_pos h2, List.length_append]; rfl
        have hlt : f.length < rows.length := by
          have nd' : ((e.2.getLastD 0) :: f.map (·.1)).Nodup := List.nodup_cons.mpr ⟨hr, h.nd⟩
          have sub : ∀ x ∈ (e.2.getLastD 0) :: f.map (·.1), x < rows.length := fun x hx => by
            rcases List.mem_cons.mp hx with z | z
            · rw [z]; exact rlt
            · obtain ⟨g, hg, rfl⟩ := List.mem_map.mp z
              have F := h.fnd g hg
              rw [← F.last]
              exact F.lt _ (lastD_mem (by intro z; have := F.two; rw [z] at this; simp at this))
          have l := nodupLenE _ (List.range rows.length) nd' fun x hx => List.mem_range.mpr (sub x hx)
          rw [List.length_cons, List.length_map, List.length_range] at l
          omega
        rw [fl']
        omega
      · have : wtE e = 4 := by unfold wtE; rw [if_pos (by omega)]
        have fl' : f'.length = f.length := by rw [hf', if_neg h2]
        rw [fl']
        omega
theorem SOk.start {N start : Nat} {L : Left} (h : start < N) : SOk N start L [(0, [start])] [] := by
  refine ⟨fun e he => ?_, fun e he h2 => ?_, fun g hg => (by cases hg), List.nodup_nil⟩
  · rw [List.mem_singleton.mp he]
    exact ⟨by simp, fun x hx => by rw [List.mem_singleton.mp hx]; exact h, Int.le_refl _, by show (0 : Int) ≤ 10 * 1; decide, rfl, List.nodup_nil, fun x hx => (by cases hx), fun q hq => (by cases hq)⟩
  · rw [List.mem_singleton.mp he] at h2
    exact absurd h2 (by show ¬ 2 ≤ 1; decide)
theorem swGo_ok {rows : List Row} {W start : Nat} {L : Left} (hok : ∀ r ∈ rows, r.ok W rows.length) : ∀ (n : Nat) (q : List BW) (f : Fnd), SOk rows.length start L q f → (∀ g ∈ swGo rows L n q f, FOk rows.length start L g.1 g.2) ∧ ((swGo rows L n q f).map (·.1)).Nodup
  | 0, q, f, h => ⟨h.fnd, h.nd⟩
  | n + 1, q, f, h => by
    unfold swGo
    cases e : q[0]? with
    | none => exact ⟨h.fnd, h.nd⟩
    | some x => exact swGo_ok hok n _ _ (h.step hok e).1
theorem swF_ok {rows : List Row} {W start : Nat} {L : Left} (hok : ∀ r ∈ rows, r.ok W rows.length) (h : start < rows.length) : (∀ g ∈ swF rows L start, FOk rows.length start L g.1 g.2) ∧ ((swF rows L start).map (·.1)).Nodup := swGo_ok hok _ _ _ (SOk.start h)
end DL
namespace DL
open PySem PySem.Spec L2 DLR
/-! ### sort_of, shortest_ways -/
def tosJ (rows : List Row) (L : Left) (f : Fnd) (row j : Nat) : List Nat := ((nx (rows.getD row .stop)).take j).filter fun to => decide (to ∉ f.map (·.1)) && decide (0 < (getE L [row, to]).getD 0)
theorem tosJ_all (rows : List Row) (L : Left) (f : Fnd) (row : Nat) : tosJ rows L f row (nx (rows.getD row .stop)).length = tosF rows L f row := by
  unfold tosJ tosF
  rw [List.take_length]
theorem tosJ_yes {rows : List Row} {L : Left} {f : Fnd} {row j to : Nat} (h : (nx (rows.getD row .stop))[j]? = some to) (h1 : to ∉ f.map (·.1)) (h2 : 0 < (getE L [row, to]).getD 0) : tosJ rows L f row (j + 1) = tosJ rows L f row j ++ [to] := by
  unfold tosJ
  rw [take_snoc h, List.filter_append]
  rw [List.filter_cons_of_pos (by rw [decide_eq_true h1, decide_eq_true h2]; rfl), List.filter_nil]
theorem tosJ_no {rows : List Row} {L : Left} {f : Fnd} {row j to : Nat} (h : (nx (rows.getD row .stop))[j]? = some to) (h1 : ¬ (to ∉ f.map (·.1) ∧ 0 < (getE L [row, to]).getD 0)) : tosJ rows L f row (j + 1) = tosJ rows L f row j := by
  unfold tosJ
  rw [take_snoc h, List.filter_append]
  have e : ([to].filter fun to => decide (to ∉ f.map (·.1)) && decide (0 < (getE L [row, to]).getD 0)) = [] := by
    rw [List.filter_cons_of_neg, List.filter_nil]
    intro z
    obtain ⟨z1, z2⟩ := Bool.and_eq_true_iff.mp z
    exact h1 ⟨of_decide_eq_true z1, of_decide_eq_true z2⟩
  rw [e, List.append_nil]
theorem tosJ_len (rows : List Row) (L : Left) (f : Fnd) (row j : Nat) : (tosJ rows L f row j).length ≤ 2 := by
  unfold tosJ
  refine Nat.le_trans (List.length_filter_le _ _) ?_
  rw [List.length_take]
  have := nx_lenE (rows.getD row .stop)
  omega
theorem mSW_len (N : Nat) (q : List BW) (f : Fnd) : q.length ≤ mSW N q f := by
  have : ∀ l : List BW, l.length ≤ (l.map wtE).sum := fun l => by
    induction l with
    | nil => exact Nat.le_refl _
    | cons y l ih =>
      rw [List.map_cons, List.sum_cons, List.length_cons]
      have : 1 ≤ wtE y := by unfold wtE; split <;> omega
      omega
  have := this q
  unfold mSW
  omega
structure Hq (mg : Str → Option Value) : Prop where
  pop : mg "heappop" = some (.builtin "_heapq.heappop")
  push : mg "heappush" = some (.builtin "_heapq.heappush")
def FndAt (H : Hp) (fd : Addr) (f : Fnd) : Prop := ∃ cs : List Addr, H fd = some (.dK (emap kN V.ref ((f.map (·.1)).zip cs))) ∧ WaysAt H cs (f.map (·.2))
theorem FndAt.keep {H H' : Hp} {fd : Addr} {f : Fnd} (h : FndAt H fd f) (k : Kp H H') (e : H' fd = H fd) : FndAt H' fd f := by
  obtain ⟨ds, d1, d2⟩ := h
  exact ⟨ds, e.trans d1, WaysAt.kp d2 k⟩
theorem FndAt.same {H H' : Hp} {fd : Addr} {f : Fnd} (h : FndAt H fd f) (s : Same1 H H') : FndAt H' fd f := by
  obtain ⟨ds, d1, d2⟩ := h
  exact ⟨ds, s _ _ d1, WaysAt.kp d2 (Kp.same s)⟩
abbrev sSortOf : Stmt := top 59
abbrev sShortest : Stmt := top 60
abbrev nSortOf : List Str := ["program","way"]
abbrev nShortest : List Str := ["program","left","start","found","queue","beats","way","row","to","behind"]
abbrev FSortOf (K : Frg) (mg : Str → Option Value) := Fd K mg "sort_of" sSortOf ["program","way"]
abbrev FShortest (K : Frg) (mg : Str → Option Value) := Fd K mg "shortest_ways" sShortest ["program","left","start"]
def sortV : Option Str → V
  | some x => .str x
  | none => .non
def spSortOf : Sp := fun vs H Q _ => ∃ (a t : Addr) (p : Prog) (w : List Nat), vs = [.ref a, .ref t] ∧ ProgAt H a p ∧ Good p ∧ H t = some (.tup (w.map nI)) ∧ w ≠ [] ∧ (∀ x ∈ w, x < p.rows.length) ∧ ∀ H', Same1 H H' → Q (sortV (sortF p.rows w)) H'
def spShortest : Sp := fun vs H Q _ => ∃ (a d : Addr) (p : Prog) (L : Left) (start : Nat), vs = [.ref a, .ref d, nI start] ∧ ProgAt H a p ∧ Good p ∧ LeftAt H d L ∧ start < p.rows.length ∧
  ∀ l cs H', Same1 H H' → H l = none → H' l = some (.lst (cs.map V.ref)) → WaysAt H' cs ((swF p.rows L start).map (·.2)) → Q (.ref l) H'
theorem getE_zip {κ β : Type} [DecidableEq κ] : ∀ {ks : List κ} {cs : List β}, ks.length = cs.length → ∀ k, (getE (ks.zip cs) k).isSome = decide (k ∈ ks)
  | [], _, _, k => rfl
  | x :: ks, [], h, k => by cases h
  | x :: ks, c :: cs, h, k => by
    show (if x = k then some c else getE (ks.zip cs) k).isSome = _
    by_cases e : x = k
    · rw [if_pos e, decide_eq_true (by rw [e]; exact List.mem_cons_self)]; rfl
    · rw [if_neg e, getE_zip (Nat.succ.inj h)]
      by_cases q : k ∈ ks
      · rw [decide_eq_true q, decide_eq_true (List.mem_cons_of_mem _ q)]
      · rw [decide_eq_false q, decide_eq_false fun z => (List.mem_cons.mp z).elim (fun y => e y.symm) q]
theorem FndAt.in_ {H : Hp} {fd : Addr} {f : Fnd} (h : FndAt H fd f) (x : Nat) : ∃ o, DGet H fd (nI x) o ∧ o.isSome = decide (x ∈ f.map (·.1)) := by
  obtain ⟨cs, h1, h2⟩ := h
  have hl := Paired.length h2
  rw [List.length_map] at hl
  have q := DGet.k (k := kN x) h1
  rw [emap_val kN_inj'] at q
  refine ⟨_, q, ?_⟩
  rw [Option.isSome_map]
  exact getE_zip (by rw [List.length_map, hl]) x
theorem FndAt.put {H : Hp} {fd c : Addr} {f : Fnd} {x : Nat} {e : BW} (h : FndAt H fd f) (hx : x ∉ f.map (·.1)) (hc : WayAt H c e) (hl : f.length < 1000) : ∃ H', DPut H fd (nI x) (.ref c) H' ∧ FndAt H' fd (f ++ [(x, e)]) ∧ ∃ o, H' = upd H fd o := by
  obtain ⟨cs, h1, h2⟩ := h
  have hcl := Paired.length h2
  rw [List.length_map] at hcl
  have q := DPut.k (k := kN x) (v := V.ref c) h1 (by rw [emap_len, List.length_zip, List.length_map]; exact szl (by omega))
  rw [emap_put kN_inj'] at q
  have kp : Kp H (upd H fd (.dK (emap kN V.ref (setE ((f.map (·.1)).zip cs) x c)))) := fun b ts e => by
    rw [upd_ne (ne_of e h1 (by intro z; cases z))]
    exact e
  refine ⟨_, q, ⟨cs ++ [c], ?_, ?_⟩, _, rfl⟩
  · rw [upd_same]
    have e1 : setE ((f.map (·.1)).zip cs) x c = ((f ++ [(x, e)]).map (·.1)).zip (cs ++ [c]) := by
      unfold setE
      have : (getE ((f.map (·.1)).zip cs) x).isSome = false := by
        rw [getE_zip (by rw [List.length_map, hcl])]
        exact decide_eq_false hx
      rw [this, if_neg (by decide), List.map_append, List.zip_append (by rw [List.length_map, hcl])]
      rfl
    rw [e1]
  · rw [List.map_append]
    exact WaysAt.kp (Paired.app h2 (Paired.one hc)) kp
section
variable {P : Program} {w : World} {K : PySem.W.Frag} {mg : Str → Option Value} {base : Heap}
theorem scSortOf : FnScope nSortOf ["program","way"] (defScope sSortOf) := ⟨rfl, rfl, rfl, by decide +kernel, rfl, by decide +kernel, by decide +kernel⟩
theorem scShortest : FnScope nShortest ["program","left","start"] (defScope sShortest) := ⟨rfl, rfl, rfl, by decide +kernel, rfl, by decide +kernel, by decide +kernel⟩
theorem ok_sortOf (c : FSortOf K mg) (cUseOneWorth : FUsesOne K mg) (T : Bt mg) (GUseOneWorth : FnOk P w K mg base CX0 2 cUseOneWorth.f cUseOneWorth.fd ["program","row","other"] spUsesOne) : FnOk P w K mg base CX0 3 c.f c.fd ["program","way"] spSortOf := by
  refine c.F.ok scSortOf (fun vs H Q E h => ?_) (fun cdv A outer s H vs Q E hr h => ?_)
  · obtain ⟨a, t, p, w, rfl, _⟩ := h
    rfl
  · obtain ⟨a, t, p, w, rfl, hP, g, ht, hne, hw, k⟩ := h
    refine ⟨_, (pss_cons (ps_if (pt_cmpR op_eq (pe_ix ix_tup (pv 1) pe_int (fun _ _ => rfl)) (pe_ix ix_tup (pv 1) (pe_un un_neg pe_int) (fun _ _ => rfl)) (nomark _))
          (pss_one (ps_ret pe_str))
          pss_nil)
      (pss_cons (ps_if (pt_val (pe_call GUseOneWorth (hr.mono (by first | omega | decide)) (by rfl) cUseOneWorth.m cUseOneWorth.F.kp cUseOneWorth.b .nil pass0 (pa_cons (pv 0) (pa_cons (pe_ix ix_tup (pv 1) pe_int (fun _ _ => rfl)) (pa_cons (pe_ix ix_tup (pv 1) (pe_un un_neg pe_int) (fun _ _ => rfl)) pa_nil)))))
          (pss_one (ps_ret pe_str))
          pss_nil)
      (pss_one (ps_ret pe_non)))), ?_⟩
    have hd := headD_at hne
    have la := lastD_at hne
    refine ⟨_, rfl, t, _, _, _, rfl, rfl, SqT.of ht, hd, _, rfl, _, rfl, t, _, _, _, rfl, rfl, SqT.of ht, la, rfl, _, rfl, ite2 (fun c => ?_) (fun c => ?_)⟩
    · have c := V.int.inj (of_decide_eq_true c)
      have q := k H fun _ _ e => e
      unfold sortF at q
      rw [if_pos (by omega)] at q
      exact q
    · have c : ¬ w.headD 0 = w.getLastD 0 := fun z => c (decide_eq_true (by rw [z]))
      refine ⟨_, rfl, _, rfl, t, _, _, _, rfl, rfl, SqT.of ht, hd, _, rfl, _, rfl, t, _, _, _, rfl, rfl, SqT.of ht, la, a, p, _, _, rfl, hP, g, hw _ (headD_mem hne), hw _ (lastD_mem hne), fun H1 s1 => ⟨_, rfl, ?_⟩⟩
      have q := k H1 s1
      unfold sortF at q
      rw [if_neg c] at q
      cases hu : useOneF p.rows (w.headD 0) (w.getLastD 0) with
      | true =>
        rw [hu, if_pos rfl] at q
        exact iteT q
      | false =>
        rw [hu, if_neg (by decide)] at q
        exact iteF q
theorem ok_shortest (c : FShortest K mg) (cNexts : FNexts K mg) (cLeastHalf : FLeastHalf K mg) (T : Bt mg) (HQ : Hq mg) (GNexts : FnOk P w K mg base CX0 2 cNexts.f cNexts.fd ["row"] spNexts) (GLeastHalf : FnOk P w K mg base CX0 2 cLeastHalf.f cLeastHalf.fd ["program", "half"] spLeastHalf) : FnOk P w K mg base CX0 3 c.f c.fd ["program","left","start"] spShortest := by
  refine c.F.ok scShortest (fun vs H Q E h => ?_) (fun cdv A outer s H vs Q E hr h => ?_)
  · obtain ⟨a, d, p, L, start, rfl, _⟩ := h
    rfl
  · obtain ⟨a, d, p, L, start, rfl, hP, g, hL, hst, k⟩ := h
    refine ⟨_, (pss_cons (ps_set (i := 3) scShortest.nd rfl (Or.inl rfl) pe_dnewK)
      (pss_cons (ps_set (i := 4) scShortest.nd rfl (Or.inl rfl) (pe_lst (pa_cons (pe_tup (pa_cons pe_int (pa_cons (pe_tup (pa_cons (pv 2) pa_nil)) pa_nil))) pa_nil)))
      (pss_cons (ps_while PassesOwn.never (pt_truth (pv 4) (fun _ => rfl))
          (pss_cons (ps_asg (pe_callBfun (DLR.cr_hpop (in64P hr)) (by rfl) HQ.pop (pa_cons (pv 4) pa_nil)) (pg_tup rfl (pgs_cons (pg_name (i := 5) scShortest.nd rfl (Or.inl rfl)) (pgs_cons (pg_name (i := 6) scShortest.nd rfl (Or.inl rfl)) pgs_nil))))
          (pss_cons (ps_set (i := 7) scShortest.nd rfl (Or.inl rfl) (pe_ix ix_tup (pv 6) (pe_un un_neg pe_int) (fun _ _ => rfl)))
          (pss_cons (ps_if (pt_cmp (pc_din (hu_of hr) (pv 7) (pv 3)))
              (pss_one ps_continue)
              pss_nil)
          (pss_cons (ps_if (pt_cmpR op_gt (pe_callB call_len_seq (by rfl) T.len PySem.boot_len (pa_cons (pv 6) pa_nil)) pe_int (nomark _))
              (pss_one (ps_dput (hu_of hr) (pv 3) (pv 7) (pe_tup (pa_cons (pv 5) (pa_cons (pv 6) pa_nil))) rfl))
              pss_nil)
          (pss_one (ps_for PassesOwn.never rfl (pi_tup (pe_call GNexts (hr.mono (by first | omega | decide)) (by rfl) cNexts.m cNexts.F.kp cNexts.b .nil pass0 (pa_cons (pe_ix ix_tup (pe_ix ix_tup (pv 0) pe_int (fun _ _ => rfl)) (pv 7) (fun _ _ => rfl)) pa_nil))) (pg_name (i := 8) scShortest.nd rfl (Or.inl rfl))
              (pss_one (ps_if (PW.pt (pw_and (pt_cmp (pc_dnotin (hu_of hr) (pv 8) (pv 3))) (pw_and1 (pt_cmpR op_gt (pe_dget2 (hu_of hr) (pv 1) (pe_tup (pa_cons (pv 7) (pa_cons (pv 8) pa_nil))) pe_int ⟨rfl, rfl, rfl, rfl⟩) pe_int (nomark _)))))
                  (pss_cons (ps_set (i := 9) scShortest.nd rfl (Or.inl rfl) (pe_op op_add (pe_op op_add (pv 5) (pe_call GLeastHalf (hr.mono (by first | omega | decide)) (by rfl) cLeastHalf.m cLeastHalf.F.kp cLeastHalf.b .nil pass0 (pa_cons (pv 0) (pa_cons (pe_tup (pa_cons (pv 7) (pa_cons (pv 8) pa_nil))) pa_nil)))) (pe_call GLeastHalf (hr.mono (by first | omega | decide)) (by rfl) cLeastHalf.m cLeastHalf.F.kp cLeastHalf.b .nil pass0 (pa_cons (pv 0) (pa_cons (pe_tup (pa_cons (pv 8) pa_nil)) pa_nil)))))
                  (pss_one (ps_expr (pe_callBfun (DLR.cr_hpush (in64P hr)) (by rfl) HQ.push (pa_cons (pv 4) (pa_cons (pe_tup (pa_cons (pv 9) (pa_cons (pe_tup (StX.pa_star (pv 6) (pa_cons (pv 8) pa_nil))) pa_nil))) pa_nil))))))
                  pss_nil)))))))))
      (pss_one (ps_ret (pe_callTy (DLR.call_list_vals rfl) (by rfl) T.list (by decide +kernel) (pa_cons (pe_bm0 PySem.F.plainAttrs_dict PySem.F.slot_dict_values PySem.F.type_dict_values DLR.mt_valsK (pv 3)) pa_nil))))))), ?_⟩
    obtain ⟨wa, ra, rbs, hpa, hwa, hra, hR⟩ := id hP
    have hbr := Paired.length hR
    have r40 := g.r40
    have hok := g.ok
    refine fun fd hfd => ?_
    refine alloc hfd fun H1 s1 e1 => ?_
    dsimp only [gName]
    refine ⟨_, rfl, (by show 1 ≤ sizeLine; decide), fun t2 ht2 => ?_⟩
    refine alloc ht2 fun H2 s2 e2 => ?_
    refine ⟨(by show 2 ≤ sizeLine; decide), fun t3 ht3 => ?_⟩
    refine alloc ht3 fun H3 s3 e3 => ?_
    refine ⟨(by show 1 ≤ sizeLine; decide), fun ql hql => ?_⟩
    refine alloc hql fun H4 s4 e4 => ?_
    dsimp only [gName]
    have S3 := s1.trans (s2.trans s3)
    have S4 := S3.trans s4
    have nql : H ql = none := S3.free hql
    have e14 := (s2.trans (s3.trans s4)) _ _ e1
    have fne : fd ≠ ql := fun z => by rw [z, e4] at e14; cases e14
    obtain ⟨Rz, hRz⟩ : ∃ Rz, Rz = swF p.rows L start := ⟨_, rfl⟩
    rw [← hRz] at k
    refine whileP (fun m σ H' => ∃ (x5 x6 x7 x8 x9 : Option V) (q : List BW) (f : Fnd) (bs : List Addr), σ = [some (.ref a), some (.ref d), some (nI start), some (.ref fd), some (.ref ql), x5, x6, x7, x8, x9] ∧ Same1 H H' ∧ H' ql = some (.lst (bs.map V.ref)) ∧ WaysAt H' bs q ∧ FndAt H' fd f ∧ SOk p.rows.length start L q f ∧ mSW p.rows.length q f ≤ m ∧ m ≤ 200 ∧ swGo p.rows L m q f = Rz)
      (fun σ H' => ∃ (x5 x6 x7 x8 x9 : Option V), σ = [some (.ref a), some (.ref d), some (nI start), some (.ref fd), some (.ref ql), x5, x6, x7, x8, x9] ∧ Same1 H H' ∧ FndAt H' fd Rz)
      ⟨4 + 3 * p.rows.length, none, none, none, none, none, [(0, [start])], [], [t3], rfl, S4, e4, .cons ⟨t2, s4 _ _ e3, (s3.trans s4) _ _ e2⟩ .nil, ⟨[], e14, .nil⟩, SOk.start hst, by unfold mSW; exact Nat.le_refl _, by omega, hRz.symm⟩ ?_ ?_
    · rintro σ H5 ⟨x5, x6, x7, x8, x9, rfl, s5, cs, f5, w5⟩
      have hcl := Paired.length w5
      rw [List.length_map] at hcl
      refine ⟨_, rfl, .inr (.inr (.inl ⟨rfl, .inl ⟨_, f5⟩⟩)), fd, _, rfl, rfl, f5, fun vp hvp => ?_⟩
      refine alloc hvp fun H6 s6 e6 => ?_
      refine ⟨vp, fd, _, rfl, e6, s6 _ _ f5, fun l hl => ?_⟩
      refine alloc hl fun H7 s7 e7 => ?_
      have S7 := s5.trans (s6.trans s7)
      refine k l cs H7 S7 ((s5.trans s6).free hl) ?_ (WaysAt.kp w5 (Kp.same (s6.trans s7)))
      rw [e7]
      refine congrArg (fun z => some (HO.lst z)) ?_
      unfold emap
      rw [List.map_map]
      show ((Rz.map (·.1)).zip cs).map (fun q => V.ref q.2) = cs.map V.ref
      have : ((Rz.map (·.1)).zip cs).map (fun q => V.ref q.2) = (((Rz.map (·.1)).zip cs).map (·.2)).map V.ref := by rw [List.map_map]; rfl
      rw [this, List.map_snd_zip (by rw [List.length_map]; omega)]
    · intro Nx hNx
      rintro m σ H5 ⟨x5, x6, x7, x8, x9, q, f, bs, rfl, s5, q5, w5, f5, so, hm, m200, hgo⟩
      have hbq := Paired.length w5
      refine ⟨_, rfl, !(bs.map V.ref).isEmpty, .inl ⟨_, SqL.of q5, rfl⟩, ?_⟩
      cases h0 : q[0]? with
      | none =>
        have qe : q = [] := by cases q with
          | nil => rfl
          | cons _ _ => cases h0
        subst qe
        have be : bs = [] := List.eq_nil_of_length_eq_zero hbq
        subst be
        have : swGo p.rows L m [] f = f := by cases m <;> rfl
        rw [this] at hgo
        subst hgo
        exact hNx _ _ ⟨x5, x6, x7, x8, x9, rfl, s5, f5⟩
      | some e =>
        have qp : 0 < q.length := (List.getElem?_eq_some_iff.mp h0).1
        have hne : (!(bs.map V.ref).isEmpty) = true := by
          cases bs with
          | nil => simp at hbq; omega
          | cons _ _ => rfl
        rw [hne]
        obtain ⟨so', hm'⟩ := so.step hok h0
        cases m with
        | zero => omega
        | succ n =>
        have hgo : swGo p.rows L n (swStep p.rows L e (hpop entLt q) f).1 (swStep p.rows L e (hpop entLt q) f).2 = Rz := by
          rw [← hgo]
          show _ = (match q[0]? with | none => f | some e => _)
          rw [h0]
        have pm := hpop_perm entLt h0
        have We := so.ways e (pm.mem_iff.mp List.mem_cons_self)
        have fl := keys_lt so
        have rlt : e.2.getLastD 0 < p.rows.length := We.lt _ (lastD_mem We.ne)
        have elen : e.2.length ≤ 42 := by
          have h1 := nodupLenE _ (List.range p.rows.length) We.nd fun x hx => List.mem_range.mpr (We.lt x (List.mem_of_mem_drop ((List.dropLast_sublist _).subset hx)))
          rw [List.length_range, List.length_dropLast, List.length_drop] at h1
          omega
        refine ⟨_, fun σ' H' z => z, _, rfl, ql, bs, q, e, rfl, q5, w5, h0, fun b H6 cs eH hb hcs => ?_⟩
        have s6 : Same1 H H6 := by rw [eH]; exact Same.mut s5 nql
        have q6 : H6 ql = some (.lst (cs.map V.ref)) := by rw [eH]; exact upd_same
        have k6 : Kp H5 H6 := by rw [eH]; exact Kp.lst q5
        have f6 : FndAt H6 fd f := by
          obtain ⟨ds, d1, d2⟩ := f5
          exact ⟨ds, by rw [eH, upd_ne fne]; exact d1, WaysAt.kp d2 k6⟩
        clear eH
        obtain ⟨t, hb1, hb2⟩ := hb
        have la := lastD_at We.ne
        refine ⟨b, _, rfl, SqT.of hb1, rfl, _, _, rfl, _, _, rfl, rfl, ?_⟩
        refine ⟨_, rfl, _, rfl, t, _, _, _, rfl, rfl, SqT.of hb2, la, ?_⟩
        dsimp only [gName]
        obtain ⟨o6, dg, ho⟩ := f6.in_ (e.2.getLastD 0)
        refine ⟨_, rfl, _, rfl, fd, o6, rfl, dg, _, rfl, ?_⟩
        rw [ho]
        refine ite2 (fun c => ?_) (fun c => ?_)
        · have c := of_decide_eq_true c
          have es : swStep p.rows L e (hpop entLt q) f = (hpop entLt q, f) := by unfold swStep; rw [if_pos c]
          rw [es] at hgo so' hm'
          exact ⟨n, Nat.lt_succ_self _, _, _, _, _, _, _, f, cs, rfl, s6, q6, hcs, f6, so', by dsimp only at hm'; omega, by omega, hgo⟩
        · have c : e.2.getLastD 0 ∉ f.map (·.1) := fun z => c (decide_eq_true z)
          obtain ⟨f', hf'⟩ : ∃ f', f' = (if 1 < e.2.length then f ++ [(e.2.getLastD 0, e)] else f) := ⟨_, rfl⟩
          have es : swStep p.rows L e (hpop entLt q) f = ((tosF p.rows L f' (e.2.getLastD 0)).foldl (fun q to => hpush entLt q (nextE p.rows e to)) (hpop entLt q), f') := by unfold swStep; rw [if_neg c, ← hf']
          rw [es] at hgo so' hm'
          dsimp only [tNext]
          refine seq_elim (fun σ' H' => σ' = [some (.ref a), some (.ref d), some (nI start), some (.ref fd), some (.ref ql), some (.int e.1), some (.ref t), some (nI (e.2.getLastD 0)), x8, x9] ∧ Same1 H H' ∧ H' ql = some (.lst (cs.map V.ref)) ∧ WaysAt H' cs (hpop entLt q) ∧ FndAt H' fd f' ∧ H' t = some (.tup (e.2.map nI))) ?_ ?_
          · rintro σ' H7 ⟨rfl, s7, q7, w7, f7, t7⟩
            have rowV : (rbs.map V.ref)[e.2.getLastD 0]? = some (.ref (rbs.getD (e.2.getLastD 0) 0)) ∧ H7 (rbs.getD (e.2.getLastD 0) 0) = some (.tup (rowVs (p.rows.getD (e.2.getLastD 0) .stop))) := by
              have hlb : e.2.getLastD 0 < rbs.length := by omega
              obtain ⟨r, h1, h2⟩ := Paired.get (RowsAt.kp hR (Kp.same s7)) (List.getElem?_eq_getElem hlb)
              have er : p.rows.getD (e.2.getLastD 0) .stop = r := by rw [List.getD_eq_getElem?_getD, h1]; rfl
              have eb : rbs.getD (e.2.getLastD 0) 0 = rbs[e.2.getLastD 0] := by rw [List.getD_eq_getElem?_getD, List.getElem?_eq_getElem hlb]; rfl
              rw [eb, er]
              exact ⟨by rw [List.getElem?_map, List.getElem?_eq_getElem hlb]; rfl, h2⟩
            refine ⟨_, rfl, a, _, _, _, rfl, rfl, SqT.of (s7 _ _ hpa), at1, _, rfl, ra, _, _, _, rfl, rfl, SqT.of (s7 _ _ hra), atI_nat rowV.1, _, p.rows.getD (e.2.getLastD 0) .stop, rfl, rowV.2, fun nt H8 s8 e8 => ⟨nt, rfl, ⟨_, SqT.of e8⟩, ?_⟩⟩
            refine for_tup (K := K) (a := nt) (xs := (nx (p.rows.getD (e.2.getLastD 0) .stop)).map nI) (fun j σ H' => ∃ (y8 y9 : Option V) (ds : List Addr), σ = [some (.ref a), some (.ref d), some (nI start), some (.ref fd), some (.ref ql), some (.int e.1), some (.ref t), some (nI (e.2.getLastD 0)), y8, y9] ∧ Same1 H H' ∧ H' ql = some (.lst (ds.map V.ref)) ∧
                WaysAt H' ds ((tosJ p.rows L f' (e.2.getLastD 0) j).foldl (fun q to => hpush entLt q (nextE p.rows e to)) (hpop entLt q)) ∧ FndAt H' fd f' ∧ H' t = some (.tup (e.2.map nI)) ∧ H' nt = some (.tup ((nx (p.rows.getD (e.2.getLastD 0) .stop)).map nI)))
              ⟨x8, x9, cs, rfl, s7.trans s8, s8 _ _ q7, WaysAt.kp w7 (Kp.same s8), f7.same s8, s8 _ _ t7, e8⟩ (fun j σ H' _ ⟨_, _, _, _, _, _, _, _, _, z⟩ => SqT.of z) ?_ ?_
            · rintro j x σ H9 hj ⟨y8, y9, ds, rfl, s9, q9, w9, f9, t9, n9⟩
              rw [List.getElem?_map] at hj
              cases hz : (nx (p.rows.getD (e.2.getLastD 0) .stop))[j]? with
              | none => rw [hz] at hj; cases hj
              | some to =>
              rw [hz] at hj
              have ex : nI to = x := Option.some.inj hj
              subst ex
              have hto : to < p.rows.length := nx_ltE hok rlt (List.mem_of_getElem? hz)
              have q9l : ((tosJ p.rows L f' (e.2.getLastD 0) j).foldl (fun q to => hpush entLt q (nextE p.rows e to)) (hpop entLt q)).length < 100000 := by
                have pa := push_all (rows := p.rows) e (tosJ p.rows L f' (e.2.getLastD 0) j) (hpop entLt q)
                have l1 := pa.length_eq
                rw [List.length_append, List.length_map] at l1
                have l2 := tosJ_len p.rows L f' (e.2.getLastD 0) j
                have l4 := pm.length_eq
                rw [List.length_cons] at l4
                have l5 := mSW_len p.rows.length q f
                omega
              dsimp only [gName]
              obtain ⟨o9, dg9, ho9⟩ := f9.in_ to
              refine ⟨_, rfl, _, rfl, fd, o9, rfl, dg9, _, rfl, ?_⟩
              rw [ho9]
              by_cases c1 : to ∈ f'.map (·.1)
              · rw [decide_eq_true c1]
                refine iteF (iteF ⟨_, y9, ds, rfl, s9, q9, ?_, f9, t9, n9⟩)
                rw [tosJ_no hz fun z => z.1 c1]
                exact w9
              · rw [decide_eq_false c1]
                refine iteT ⟨_, rfl, d, rfl, .inr ⟨_, .inl (s9 _ _ hL)⟩, _, rfl, _, rfl, (by show 2 ≤ sizeLine; decide), fun c3 hc3 => ?_⟩
                refine alloc hc3 fun H10 s10 e10 => ?_
                have S10 := s9.trans s10
                refine ⟨(getE L [e.2.getLastD 0, to]).map V.int, LeftAt.get (S10 _ _ hL) e10, (getE L [e.2.getLastD 0, to]).getD 0, 0, by cases getE L [e.2.getLastD 0, to] <;> rfl, rfl, _, rfl, ite2 (fun c2 => ?_) (fun c2 => ?_)⟩
                · have c2 := of_decide_eq_true c2
                  refine ⟨_, rfl, _, rfl, _, rfl, _, rfl, (by show 2 ≤ sizeLine; decide), fun c4 hc4 => ?_⟩
                  refine alloc hc4 fun H11 s11 e11 => ?_
                  have S11 := S10.trans s11
                  refine ⟨a, c4, p, [e.2.getLastD 0, to], rfl, hP.kp (Kp.same S11), e11, fun _ => ⟨_, [to], rfl, rlt⟩, fun H12 s12 => ⟨_, _, rfl, rfl, ?_⟩⟩
                  refine ⟨_, rfl, _, rfl, (by show 1 ≤ sizeLine; decide), fun c5 hc5 => ?_⟩
                  refine alloc hc5 fun H13 s13 e13 => ?_
                  have S13 := S11.trans (s12.trans s13)
                  refine ⟨a, c5, p, [to], rfl, hP.kp (Kp.same S13), e13, fun z => absurd rfl z, fun H14 s14 => ⟨_, _, rfl, rfl, ?_⟩⟩
                  dsimp only [gName]
                  have S9 := s10.trans (s11.trans (s12.trans (s13.trans s14)))
                  refine ⟨_, rfl, _, rfl, _, rfl, t, _, rfl, .inl (SqT.of (S9 _ _ t9)), _, rfl, sz (by rw [List.length_append, List.length_map]; show e.2.length + 1 ≤ _; omega), fun w5 hw5 => ?_⟩
                  refine alloc hw5 fun H15 s15 e15 => ?_
                  have e15 : H15 w5 = some (.tup ((e.2 ++ [to]).map nI)) := by
                    rw [e15, List.map_append]
                    rfl
                  refine ⟨(by show 2 ≤ sizeLine; decide), fun c6 hc6 => ?_⟩
                  refine alloc hc6 fun H16 s16 e16 => ?_
                  have S16 := S9.trans (s15.trans s16)
                  refine ⟨ql, c6, ds, _, nextE p.rows e to, rfl, S16 _ _ q9, WaysAt.kp w9 (Kp.same S16), ⟨w5, e16, s16 _ _ e15⟩, szl q9l, fun H17 ds' eH17 w17 => ?_⟩
                  have q16 := S16 _ _ q9
                  have kp17 : Kp H16 H17 := by rw [eH17]; exact Kp.lst q16
                  refine ⟨_, _, ds', rfl, by rw [eH17]; exact Same.mut (s9.trans S16) nql, by rw [eH17]; exact upd_same, ?_, ?_, kp17 _ _ (S16 _ _ t9), kp17 _ _ (S16 _ _ n9)⟩
                  · rw [tosJ_yes hz c1 c2, List.foldl_append]
                    exact w17
                  · exact (f9.same S16).keep kp17 (by rw [eH17, upd_ne fne])
                · have c2 : ¬ 0 < (getE L [e.2.getLastD 0, to]).getD 0 := fun z => c2 (decide_eq_true z)
                  refine ⟨_, y9, ds, rfl, S10, s10 _ _ q9, ?_, f9.same s10, s10 _ _ t9, s10 _ _ n9⟩
                  rw [tosJ_no hz fun z => c2 z.2]
                  exact WaysAt.kp w9 (Kp.same s10)
            · rintro σ H9 ⟨y8, y9, ds, rfl, s9, q9, w9, f9, t9, n9⟩
              rw [List.length_map, tosJ_all] at w9
              exact ⟨n, Nat.lt_succ_self _, _, _, _, _, _, _, f', ds, rfl, s9, q9, w9, f9, so', by dsimp only at hm'; omega, by omega, hgo⟩
          · intro N' hN'
            have hlen : ((e.2.map nI).length : Int) = (e.2.length : Int) := by rw [List.length_map]
            refine ⟨_, rfl, t, _, rfl, .inr (SqT.of hb2), _, _, rfl, rfl, _, rfl, ite2 (fun c2 => ?_) (fun c2 => ?_)⟩
            · have c2 : (1 : Int) < ((e.2.map nI).length : Int) := of_decide_eq_true c2
              have c2 : 1 < e.2.length := by omega
              rw [if_pos c2] at hf'
              subst hf'
              refine ⟨_, rfl, _, rfl, (by show 2 ≤ sizeLine; decide), fun cc hcc => ?_⟩
              refine alloc hcc fun H7 s7 e7 => ?_
              have f7 := f6.same s7
              obtain ⟨H8, dp, f8, o8, eH8⟩ := f7.put (c := cc) (e := e) c ⟨t, e7, s7 _ _ hb2⟩ (by omega)
              have nfd : H fd = none := hfd
              obtain ⟨ds7, d7, _⟩ := f7
              have kp8 : Kp H7 H8 := fun b ts z => by
                rw [eH8, upd_ne (ne_of z d7 (by intro y; cases y))]
                exact z
              refine ⟨_, rfl, _, rfl, fd, H8, rfl, dp, hN' _ _ ⟨rfl, by rw [eH8]; exact Same.mut (s6.trans s7) nfd, by rw [eH8, upd_ne fne.symm]; exact s7 _ _ q6, WaysAt.kp hcs ((Kp.same s7).trans kp8), f8, kp8 _ _ (s7 _ _ hb2)⟩⟩
            · have c2 : ¬ 1 < e.2.length := fun z => c2 (decide_eq_true (show (1 : Int) < ((e.2.map nI).length : Int) by omega))
              rw [if_neg c2] at hf'
              subst hf'
              exact hN' _ _ ⟨rfl, s6, q6, hcs, f6, hb2⟩
end
end DL
namespace DL
open PySem PySem.Spec L2 DLR
/-! ### ways_to_take -/
structure Trip where
  rank : Int
  sort : Str
  way : List Nat
def TripAt (H : Hp) (b : Addr) (t : Trip) : Prop := ∃ c, H b = some (.tup [.int t.rank, .str t.sort, .ref c]) ∧ H c = some (.tup (t.way.map nI))
abbrev TripsAt (H : Hp) (bs : List Addr) (ts : List Trip) : Prop := Paired (TripAt H) bs ts
theorem TripAt.kp {H H' : Hp} {b : Addr} {t : Trip} (h : TripAt H b t) (k : Kp H H') : TripAt H' b t := by
  obtain ⟨c, h1, h2⟩ := h
  exact ⟨c, k _ _ h1, k _ _ h2⟩
theorem TripsAt.kp {H H' : Hp} {bs : List Addr} {ts : List Trip} (h : TripsAt H bs ts) (k : Kp H H') : TripsAt H' bs ts := Paired.mapP h fun _ _ r => r.kp k
def tripF (rows : List Row) (W : Nat) (e : BW) : Option Trip := match sortF rows e.2 with
  | none => none
  | some x => if e.1 < rndF e.1 W then some ⟨1000 * e.1 / rndF e.1 W, x, e.2⟩ else none
def waysS (rows : List Row) (W : Nat) (L : Left) (start : Nat) : List Trip := ((swF rows L start).map (·.2)).filterMap (tripF rows W)
def waysF (rows : List Row) (W : Nat) (L : Left) : List Trip := (List.range rows.length).flatMap (waysS rows W L)
abbrev sWaysToTake : Stmt := top 58
abbrev nWaysToTake : List Str := ["program","wide","left","found","start","beats","way","sort","whole"]
abbrev FWaysToTake (K : Frg) (mg : Str → Option Value) := Fd K mg "ways_to_take" sWaysToTake ["program","wide","left"]
def spWaysToTake : Sp := fun vs H Q _ => ∃ (a d : Addr) (p : Prog) (W : Nat) (L : Left), vs = [.ref a, nI W, .ref d] ∧ ProgAt H a p ∧ Good p ∧ 2 ≤ W ∧ W ≤ 24 ∧ LeftAt H d L ∧ ∀ l bs H', Same1 H H' → H l = none → H' l = some (.lst (bs.map V.ref)) → TripsAt H' bs (waysF p.rows W L) → Q (.ref l) H'
theorem waysS_len (rows : List Row) (W : Nat) (L : Left) (start : Nat) {N : Nat} (h : ((swF rows L start).map (·.1)).Nodup) (hl : ∀ g ∈ swF rows L start, g.1 < N) : (waysS rows W L start).length ≤ N := by
  have h1 : (waysS rows W L start).length ≤ (swF rows L start).length := by
    unfold waysS
    refine Nat.le_trans (List.length_filterMap_le _ _) ?_
    rw [List.length_map]
    exact Nat.le_refl _
  have h2 := nodupLenE _ (List.range N) h fun x hx => by
    obtain ⟨g, hg, rfl⟩ := List.mem_map.mp hx
    exact List.mem_range.mpr (hl g hg)
  rw [List.length_map, List.length_range] at h2
  omega
section
variable {P : Program} {w : World} {K : PySem.W.Frag} {mg : Str → Option Value} {base : Heap}
theorem scWaysToTake : FnScope nWaysToTake ["program","wide","left"] (defScope sWaysToTake) := ⟨rfl, rfl, rfl, by decide +kernel, rfl, by decide +kernel, by decide +kernel⟩
theorem ok_waysToTake (c : FWaysToTake K mg) (cShortestWays : FShortest K mg) (cSortOf : FSortOf K mg) (cInRounds : FInRounds K mg) (T : Bt mg) (GShortestWays : FnOk P w K mg base CX0 3 cShortestWays.f cShortestWays.fd ["program","left","start"] spShortest) (GSortOf : FnOk P w K mg base CX0 3 cSortOf.f cSortOf.fd ["program","way"] spSortOf)
    (GInRounds : FnOk P w K mg base CX0 1 cInRounds.f cInRounds.fd ["beats", "wide"] spInRounds) : FnOk P w K mg base CX0 4 c.f c.fd ["program","wide","left"] spWaysToTake := by
  refine c.F.ok scWaysToTake (fun vs H Q E h => ?_) (fun cdv A outer s H vs Q E hr h => ?_)
  · obtain ⟨a, d, p, W, L, rfl, _⟩ := h
    rfl
  · obtain ⟨a, d, p, W, L, rfl, hP, g, w2, w24, hL, k⟩ := h
    refine ⟨_, (pss_cons (ps_set (i := 3) scWaysToTake.nd rfl (Or.inl rfl) (pe_lst pa_nil))
      (pss_cons (ps_for PassesOwn.never rfl (pi_range1 rfl T.range (pa_cons (pe_callB call_len_seq (by rfl) T.len PySem.boot_len (pa_cons (pe_ix ix_tup (pv 0) pe_int (fun _ _ => rfl)) pa_nil)) pa_nil)) (pg_name (i := 4) scWaysToTake.nd rfl (Or.inl rfl))
          (pss_one (ps_for PassesOwn.never rfl (pi_list (pe_call GShortestWays (hr.mono (by first | omega | decide)) (by rfl) cShortestWays.m cShortestWays.F.kp cShortestWays.b .nil pass0 (pa_cons (pv 0) (pa_cons (pv 2) (pa_cons (pv 4) pa_nil))))) (pg_tup rfl (pgs_cons (pg_name (i := 5) scWaysToTake.nd rfl (Or.inl rfl)) (pgs_cons (pg_name (i := 6) scWaysToTake.nd rfl (Or.inl rfl)) pgs_nil)))
              (pss_cons (ps_set (i := 7) scWaysToTake.nd rfl (Or.inl rfl) (pe_call GSortOf (hr.mono (by first | omega | decide)) (by rfl) cSortOf.m cSortOf.F.kp cSortOf.b .nil pass0 (pa_cons (pv 0) (pa_cons (pv 6) pa_nil))))
              (pss_cons (ps_set (i := 8) scWaysToTake.nd rfl (Or.inl rfl) (pe_call GInRounds (hr.mono (by first | omega | decide)) (by rfl) cInRounds.m cInRounds.F.kp cInRounds.b .nil pass0 (pa_cons (pv 5) (pa_cons (pv 1) pa_nil))))
              (pss_one (ps_if (PW.pt (pw_and (pt_cmpR op_notN (pv 7) pe_non (nomark _)) (pw_and1 (pt_cmpR op_gt (pv 8) (pv 5) (nomark _)))))
                  (pss_one (ps_expr (pe_bm PySem.F.plainAttrs_list PySem.F.slot_list_append PySem.F.type_list_append mt_append (pv 3) (pa_cons (pe_tup (pa_cons (pe_op op_fdiv (pe_op op_mul pe_int (pv 5)) (pv 8)) (pa_cons (pv 7) (pa_cons (pv 6) pa_nil)))) pa_nil))))
                  pss_nil)))))))
      (pss_one (ps_ret (pv 3))))), ?_⟩
    obtain ⟨wa, ra, rbs, hpa, hwa, hra, hR⟩ := id hP
    have hbr := Paired.length hR
    have r40 := g.r40
    have hok := g.ok
    have w0 : 0 < W := by omega
    have swl : ∀ st, st < p.rows.length → (swF p.rows L st).length ≤ 40 := fun st hst => by
      obtain ⟨f1, f2⟩ := swF_ok (L := L) hok hst
      have h2 := nodupLenE _ (List.range p.rows.length) f2 fun x hx => by
        obtain ⟨g', hg, rfl⟩ := List.mem_map.mp hx
        have F := f1 g' hg
        rw [← F.last]
        exact List.mem_range.mpr (F.lt _ (lastD_mem (by intro z; have := F.two; rw [z] at this; simp at this)))
      rw [List.length_map, List.length_range] at h2
      omega
    have fml : ∀ i, i ≤ p.rows.length → ((List.range i).flatMap (waysS p.rows W L)).length ≤ 40 * i := fun i => by
      induction i with
      | zero => intro _; exact Nat.le_refl _
      | succ i ih =>
        intro hi
        rw [List.range_succ, List.flatMap_append, List.length_append]
        have h1 := ih (by omega)
        have h2 : ([i].flatMap (waysS p.rows W L)).length ≤ 40 := by
          rw [List.flatMap_singleton]
          refine Nat.le_trans (List.length_filterMap_le _ _) ?_
          rw [List.length_map]
          exact swl i (by omega)
        omega
    refine ⟨Nat.zero_le _, fun l hl => ?_⟩
    refine alloc hl fun H1 s1 e1 => ?_
    dsimp only [gName]
    refine ⟨_, rfl, a, _, _, _, rfl, rfl, SqT.of (s1 _ _ hpa), at1, ra, _, rfl, .inr (SqT.of (s1 _ _ hra)), _, rfl, by omega, by rw [List.length_map]; omega, ?_⟩
    rw [List.length_map, hbr]
    refine for_range (lo := 0) (n := ((p.rows.length : Nat) : Int).toNat) (fun i σ H' => ∃ (x4 x5 x6 x7 x8 : Option V) (bs : List Addr), σ = [some (.ref a), some (nI W), some (.ref d), some (.ref l), x4, x5, x6, x7, x8] ∧ Same1 H H' ∧ H' l = some (.lst (bs.map V.ref)) ∧ TripsAt H' bs ((List.range i).flatMap (waysS p.rows W L)))
      ⟨none, none, none, none, none, [], rfl, s1, e1, .nil⟩ ?_ ?_
    · rintro i σ H2 hi ⟨x4, x5, x6, x7, x8, bs, rfl, s2, e2, t2⟩
      rw [Int.toNat_natCast] at hi
      dsimp only [gName]
      rw [Int.zero_add]
      refine ⟨_, rfl, _, rfl, _, rfl, a, d, p, L, i, rfl, hP.kp (Kp.same s2), g, s2 _ _ hL, hi, fun sl cs H3 s3 nsl e3 w3 => ⟨sl, rfl, ⟨_, SqL.of e3⟩, ?_⟩⟩
      have hcl := Paired.length w3
      rw [List.length_map] at hcl
      have sl40 := swl i hi
      obtain ⟨f1, f2⟩ := swF_ok (L := L) hok hi
      refine for_list (K := K) (a := sl) (xs := cs.map V.ref) (fun j σ H' => ∃ (x5 x6 x7 x8 : Option V) (ds : List Addr), σ = [some (.ref a), some (nI W), some (.ref d), some (.ref l), some (nI i), x5, x6, x7, x8] ∧ Same1 H H' ∧ H' l = some (.lst (ds.map V.ref)) ∧ TripsAt H' ds ((List.range i).flatMap (waysS p.rows W L) ++ (((swF p.rows L i).map (·.2)).take j).filterMap (tripF p.rows W)) ∧ H' sl = some (.lst (cs.map V.ref)) ∧ WaysAt H' cs ((swF p.rows L i).map (·.2)))
        ⟨x5, x6, x7, x8, bs, rfl, s2.trans s3, s3 _ _ e2, by rw [List.take_zero, List.filterMap_nil, List.append_nil]; exact TripsAt.kp t2 (Kp.same s3), e3, w3⟩ (fun j σ H' _ ⟨_, _, _, _, _, _, _, _, _, q, _⟩ => SqL.of q) ?_ ?_
      · rintro j v σ H4 hj ⟨x5, x6, x7, x8, ds, rfl, s4, e4, t4, q4, w4⟩
        have hjc : j < cs.length := by
          have q := (List.getElem?_eq_some_iff.mp hj).1
          rwa [List.length_map] at q
        have ev : v = .ref cs[j] := by
          rw [List.getElem?_map, List.getElem?_eq_getElem hjc] at hj
          exact (Option.some.inj hj).symm
        subst ev
        obtain ⟨e, hq1, t, hb1, hb2⟩ := Paired.get w4 (List.getElem?_eq_getElem hjc)
        have hmem : e ∈ (swF p.rows L i).map (·.2) := List.mem_of_getElem? hq1
        obtain ⟨gg, hg, eg⟩ := List.mem_map.mp hmem
        have F := f1 gg hg
        rw [eg] at F
        have ene : e.2 ≠ [] := by intro z; have := F.two; rw [z] at this; simp at this
        have elen : e.2.length ≤ 42 := by
          have h1 := nodupLenE _ (List.range p.rows.length) F.nd fun x hx => List.mem_range.mpr (F.lt x (List.mem_of_mem_drop hx))
          rw [List.length_range, List.length_drop] at h1
          omega
        have tl := Paired.length t4
        have hfl := fml i (by omega)
        have dl : ds.length < 100000 := by
          rw [List.length_append] at tl
          have h1 := List.length_filterMap_le (tripF p.rows W) (((swF p.rows L i).map (·.2)).take j)
          rw [List.length_take, List.length_map] at h1
          omega
        have b0 := F.b0
        have b1 := F.b1
        have rb := rndF_bd e.1 w0
        refine ⟨cs[j], _, rfl, SqT.of hb1, rfl, _, _, rfl, _, _, rfl, rfl, ?_⟩
        refine ⟨_, rfl, _, rfl, a, t, p, e.2, rfl, hP.kp (Kp.same s4), g, hb2, ene, F.lt, fun H5 s5 => ?_⟩
        dsimp only [gName]
        refine ⟨_, rfl, _, rfl, e.1, W, rfl, w0, ?_⟩
        dsimp only [gName]
        have S5 := s4.trans s5
        have stp : (((swF p.rows L i).map (·.2)).take (j + 1)).filterMap (tripF p.rows W) = (((swF p.rows L i).map (·.2)).take j).filterMap (tripF p.rows W) ++ (match tripF p.rows W e with | none => [] | some y => [y]) := by
          rw [take_snoc hq1, List.filterMap_append]
          refine congrArg _ ?_
          cases hy : tripF p.rows W e with
          | none => rw [List.filterMap_cons_none hy, List.filterMap_nil]
          | some y => rw [List.filterMap_cons_some hy, List.filterMap_nil]
        have stay : tripF p.rows W e = none → ∀ y7 y8 : Option V, ∃ (x5 x6 x7 x8 : Option V) (ds : List Addr), [some (V.ref a), some (nI W), some (.ref d), some (.ref l), some (nI i), some (.int e.1), some (.ref t), y7, y8] = [some (.ref a), some (nI W), some (.ref d), some (.ref l), some (nI i), x5, x6, x7, x8] ∧ Same1 H H5 ∧ H5 l = some (.lst (ds.map V.ref)) ∧ TripsAt H5 ds ((List.range i).flatMap (waysS p.rows W L) ++ (((swF p.rows L i).map (·.2)).take (j + 1)).filterMap (tripF p.rows W)) ∧ H5 sl = some (.lst (cs.map V.ref)) ∧ WaysAt H5 cs ((swF p.rows L i).map (·.2)) := fun hn y7 y8 =>
          ⟨_, _, _, _, ds, rfl, S5, s5 _ _ e4, by rw [stp, hn]; show TripsAt H5 ds (_ ++ (_ ++ [])); rw [List.append_nil]; exact TripsAt.kp t4 (Kp.same s5), s5 _ _ q4, WaysAt.kp w4 (Kp.same s5)⟩
        cases hs : sortF p.rows e.2 with
        | none =>
          have hn : tripF p.rows W e = none := by unfold tripF; rw [hs]
          exact ⟨_, rfl, rfl, _, rfl, iteF (iteF (stay hn _ _))⟩
        | some x =>
          refine ⟨_, rfl, rfl, _, rfl, iteT ⟨_, rfl, _, rfl, _, _, rfl, rfl, _, rfl, ite2 (fun c2 => ?_) (fun c2 => ?_)⟩⟩
          · have c2 : e.1 < rndF e.1 W := of_decide_eq_true c2
            have hy : tripF p.rows W e = some ⟨1000 * e.1 / rndF e.1 W, x, e.2⟩ := by
              unfold tripF
              rw [hs]
              dsimp only
              rw [if_pos c2]
            have e5 := s5 _ _ e4
            refine ⟨_, rfl, .inl ⟨rfl, _, SqL.of e5⟩, _, rfl, _, _, rfl, rfl, .inl ⟨by decide, by decide⟩, _, rfl, _, _, rfl, rfl, ⟨show 0 < rndF e.1 W by omega, show rndF e.1 W < 1073741824 by omega⟩, _, rfl, _, rfl, (by show 3 ≤ sizeLine; decide), fun p6 hp6 => ?_⟩
            refine alloc hp6 fun H6 s6 e6 => ?_
            have e56 := s6 _ _ e5
            have kp : Kp H6 (upd H6 l (.lst (ds.map V.ref ++ [V.ref p6]))) := Kp.lst e56
            have nls : sl ≠ l := fun z => by
              have h1 := s3 _ _ e2
              rw [← z] at h1
              have h2 : H2 sl = some _ := z ▸ e2
              rw [nsl] at h2
              cases h2
            refine ⟨l, _, _, rfl, rfl, e56, szl (by rw [List.length_map]; exact dl), _, _, _, _, ds ++ [p6], rfl, Same.mut (S5.trans s6) hl, by rw [upd_same, List.map_append]; rfl, ?_, by rw [upd_ne nls]; exact s6 _ _ (s5 _ _ q4), WaysAt.kp w4 ((Kp.same (s5.trans s6)).trans kp)⟩
            rw [stp, hy, ← List.append_assoc]
            exact Paired.app (TripsAt.kp t4 ((Kp.same (s5.trans s6)).trans kp)) (Paired.one ⟨t, kp _ _ e6, kp _ _ (s6 _ _ (s5 _ _ hb2))⟩)
          · have c2 : ¬ e.1 < rndF e.1 W := fun z => c2 (decide_eq_true z)
            exact stay (by unfold tripF; rw [hs]; dsimp only; rw [if_neg c2]) _ _
      · rintro σ H4 ⟨x5, x6, x7, x8, ds, rfl, s4, e4, t4, q4, w4⟩
        refine ⟨_, _, _, _, _, ds, rfl, s4, e4, ?_⟩
        rw [List.length_map, hcl, ← List.length_map (f := (·.2)), List.take_length] at t4
        rw [List.range_succ, List.flatMap_append, List.flatMap_singleton]
        exact t4
    · rintro σ H2 ⟨x4, x5, x6, x7, x8, bs, rfl, s2, e2, t2⟩
      rw [Int.toNat_natCast] at t2
      exact ⟨_, rfl, k l bs H2 s2 hl e2 t2⟩
end
end DL
namespace DL
open PySem PySem.Spec L2 DLR
/-! ### what is left, in numbers -/
section
variable {κ : Type} [DecidableEq κ]
def wsumL (f : κ → Int) (L : List (κ × Int)) : Int := (L.map fun q => q.2 * f q.1).sum
theorem wsumL_map {f : κ → Int} {k : κ} {v : Int} : ∀ {L : List (κ × Int)}, (L.map (·.1)).Nodup → wsumL f (L.map fun q => if q.1 = k then (q.1, v) else q) = wsumL f L + (match getE L k with | some z => (v - z) * f k | none => 0)
  | [], _ => rfl
  | q :: L, nd => by
    obtain ⟨h1, h2⟩ := List.nodup_cons.mp (show (q.1 :: L.map (·.1)).Nodup from nd)
    have ih := wsumL_map (f := f) (k := k) (v := v) h2
    have e : getE (q :: L) k = if q.1 = k then some q.2 else getE L k := rfl
    unfold wsumL at ih ⊢
    rw [List.map_cons, List.map_cons, List.map_cons, List.sum_cons, List.sum_cons, ih, e]
    by_cases c : q.1 = k
    · have hn : getE L k = none := by
        cases hh : getE L k with
        | none => rfl
        | some z =>
          have := getE_some.mp (by rw [hh]; rfl : (getE L k).isSome = true)
          rw [← c] at this
          exact absurd this h1
      rw [if_pos c, if_pos c, hn]
      dsimp only
      rw [c, Int.sub_mul]
      omega
    · rw [if_neg c, if_neg c]
      omega
theorem wsumL_app (f : κ → Int) (L M : List (κ × Int)) : wsumL f (L ++ M) = wsumL f L + wsumL f M := by
  unfold wsumL
  rw [List.map_append, List.sum_append]
theorem wsumL_set (f : κ → Int) {L : List (κ × Int)} (nd : (L.map (·.1)).Nodup) (k : κ) (v : Int) : wsumL f (setE L k v) = wsumL f L + (v - (getE L k).getD 0) * f k := by
  unfold setE
  cases e : getE L k with
  | some z =>
    rw [if_pos (by rfl), wsumL_map nd, e]
    rfl
  | none =>
    rw [if_neg (by simp), wsumL_app]
    unfold wsumL
    rw [List.map_cons, List.map_nil, List.sum_cons, List.sum_nil]
    show _ + (v * f k + 0) = _ + (v - 0) * f k
    rw [Int.sub_zero]
    omega
theorem getE_mem {L : List (κ × Int)} {k : κ} {v : Int} (h : getE L k = some v) : (k, v) ∈ L := by
  induction L with
  | nil => cases h
  | cons q L ih =>
    have e : getE (q :: L) k = if q.1 = k then some q.2 else getE L k := rfl
    rw [e] at h
    by_cases c : q.1 = k
    · rw [if_pos c] at h
      have : q = (k, v) := Prod.ext c (Option.some.inj h)
      rw [this]
      exact List.mem_cons_self
    · rw [if_neg c] at h
      exact List.mem_cons_of_mem _ (ih h)
theorem mem_getE {L : List (κ × Int)} (nd : (L.map (·.1)).Nodup) {q : κ × Int} (h : q ∈ L) : getE L q.1 = some q.2 := by
  induction L with
  | nil => cases h
  | cons y L ih =>
    obtain ⟨h1, h2⟩ := List.nodup_cons.mp (show (y.1 :: L.map (·.1)).Nodup from nd)
    have e : getE (y :: L) q.1 = if y.1 = q.1 then some y.2 else getE L q.1 := rfl
    rw [e]
    rcases List.mem_cons.mp h with c | c
    · rw [c, if_pos rfl]
    · rw [if_neg fun (z : y.1 = q.1) => h1 (by rw [z]; exact List.mem_map.mpr ⟨q, c, rfl⟩)]
      exact ih h2 c
theorem setE_nn {L : List (κ × Int)} {k : κ} {v : Int} (h : ∀ q ∈ L, 0 ≤ q.2) (hv : 0 ≤ v) : ∀ q ∈ setE L k v, 0 ≤ q.2 := by
  intro q hq
  unfold setE at hq
  split at hq
  · obtain ⟨y, hy, rfl⟩ := List.mem_map.mp hq
    split
    · exact hv
    · exact h y hy
  · rcases List.mem_append.mp hq with z | z
    · exact h q z
    · rw [List.mem_singleton.mp z]; exact hv
theorem getD_nn {L : List (κ × Int)} (h : ∀ q ∈ L, 0 ≤ q.2) (k : κ) : 0 ≤ (getE L k).getD 0 := by
  cases e : getE L k with
  | none => exact Int.le_refl _
  | some v => exact h _ (getE_mem e)
theorem nn_of {L : List (κ × Int)} (nd : (L.map (·.1)).Nodup) (h : ∀ k, 0 ≤ (getE L k).getD 0) : ∀ q ∈ L, 0 ≤ q.2 := fun q hq => by
  have := h q.1
  rw [mem_getE nd hq] at this
  exact this
theorem take_wsum (f : κ → Int) (m : Int) : ∀ (M : List κ) (L : List (κ × Int)), (L.map (·.1)).Nodup → wsumL f (M.foldl (fun L h => setE L h ((getE L h).getD 0 - m)) L) = wsumL f L - m * (M.map f).sum
  | [], L, _ => by simp
  | x :: M, L, nd => by
    rw [List.foldl_cons, take_wsum f m M _ (setE_nd nd), wsumL_set f nd, List.map_cons, List.sum_cons, Int.mul_add]
    have : (getE L x).getD 0 - m - (getE L x).getD 0 = -m := by omega
    rw [this, Int.neg_mul]
    omega
end
theorem take_get {κ : Type} [B : BEq κ] [LawfulBEq κ] [DecidableEq κ] (m : Int) (k : κ) : ∀ (M : List κ) (L : List (κ × Int)), (getE (M.foldl (fun L h => setE L h ((getE L h).getD 0 - m)) L) k).getD 0 = (getE L k).getD 0 - m * (@List.count κ B k M : Int)
  | [], L => by simp
  | x :: M, L => by
    rw [List.foldl_cons, take_get m k M, getE_setE, List.count_cons]
    by_cases c : x = k
    · subst c
      rw [if_pos rfl, if_pos (by simp)]
      show (getE L x).getD 0 - m - m * _ = _
      have : ((@List.count κ B x M + 1 : Nat) : Int) = (@List.count κ B x M : Int) + 1 := rfl
      rw [this, Int.mul_add]
      omega
    · rw [if_neg c, if_neg (by simpa using c)]
      rfl
theorem times_get (x : Nat) : ∀ (G : GoL) (T : List (Nat × Int)), (getE (G.foldl (fun T e => setE T e.1.2 ((getE T e.1.2).getD 0 + e.2)) T) x).getD 0 = (getE T x).getD 0 + sumG (fun q => decide (q.2 = x)) G
  | [], T => by simp [sumG]
  | e :: G, T => by
    rw [List.foldl_cons, times_get x G, getE_setE]
    unfold sumG
    rw [List.map_cons, List.sum_cons]
    by_cases c : e.1.2 = x
    · subst c
      rw [if_pos rfl, if_pos (decide_eq_true rfl)]
      show (getE T e.1.2).getD 0 + e.2 + _ = _
      omega
    · rw [if_neg c, if_neg (by simpa using c)]
      omega
theorem times_wsum (f : Nat → Int) : ∀ (G : GoL) (T : List (Nat × Int)), (T.map (·.1)).Nodup → wsumL f (G.foldl (fun T e => setE T e.1.2 ((getE T e.1.2).getD 0 + e.2)) T) = wsumL f T + (G.map fun e => e.2 * f e.1.2).sum
  | [], T, _ => by simp
  | e :: G, T, nd => by
    rw [List.foldl_cons, times_wsum f G _ (setE_nd nd), wsumL_set f nd, List.map_cons, List.sum_cons]
    have : (getE T e.1.2).getD 0 + e.2 - (getE T e.1.2).getD 0 = e.2 := by omega
    rw [this]
    omega
theorem times_nn : ∀ (G : GoL) (T : List (Nat × Int)), (∀ e ∈ G, 0 ≤ e.2) → (∀ q ∈ T, 0 ≤ q.2) → ∀ q ∈ G.foldl (fun T e => setE T e.1.2 ((getE T e.1.2).getD 0 + e.2)) T, 0 ≤ q.2
  | [], T, _, h => h
  | e :: G, T, hG, h => times_nn G _ (fun x hx => hG x (List.mem_cons_of_mem _ hx)) (setE_nn h (by have := getD_nn h e.1.2; have := hG e List.mem_cons_self; omega))
theorem fold_get {α κ : Type} [DecidableEq κ] (kf : α → κ) (vf : α → Int) (k : κ) : ∀ (M : List α) (L : List (κ × Int)), (∀ e ∈ M, kf e ≠ k) → getE (M.foldl (fun L e => setE L (kf e) (vf e)) L) k = getE L k
  | [], L, _ => rfl
  | e :: M, L, h => by
    rw [List.foldl_cons, fold_get kf vf k M _ fun x hx => h x (List.mem_cons_of_mem _ hx), getE_setE, if_neg (h e List.mem_cons_self)]
theorem fold_get_mem {α κ : Type} [DecidableEq κ] (kf : α → κ) (vf : α → Int) : ∀ (M : List α) (L : List (κ × Int)), (M.map kf).Nodup → ∀ e ∈ M, getE (M.foldl (fun L e => setE L (kf e) (vf e)) L) (kf e) = some (vf e)
  | [], L, _, e, he => by cases he
  | y :: M, L, nd, e, he => by
    obtain ⟨h1, h2⟩ := List.nodup_cons.mp (show (kf y :: M.map kf).Nodup from nd)
    rw [List.foldl_cons]
    rcases List.mem_cons.mp he with c | c
    · rw [c, fold_get kf vf (kf y) M _ fun x hx z => h1 (z ▸ List.mem_map.mpr ⟨x, hx, rfl⟩), getE_setE, if_pos rfl]
    · exact fold_get_mem kf vf M _ h2 e c
theorem fold_wsum {α κ : Type} [DecidableEq κ] (f : κ → Int) (kf : α → κ) (vf : α → Int) : ∀ (M : List α) (L : List (κ × Int)), (L.map (·.1)).Nodup → (M.map kf).Nodup → (∀ e ∈ M, getE L (kf e) = none) → wsumL f (M.foldl (fun L e => setE L (kf e) (vf e)) L) = wsumL f L + (M.map fun e => vf e * f (kf e)).sum
  | [], L, _, _, _ => by simp
  | y :: M, L, nd, nm, h => by
    obtain ⟨h1, h2⟩ := List.nodup_cons.mp (show (kf y :: M.map kf).Nodup from nm)
    rw [List.foldl_cons, fold_wsum f kf vf M _ (setE_nd nd) h2 (fun e he => by rw [getE_setE, if_neg fun (z : kf y = kf e) => h1 (by rw [z]; exact List.mem_map.mpr ⟨e, he, rfl⟩)]; exact h e (List.mem_cons_of_mem _ he)), wsumL_set f nd, h y List.mem_cons_self, List.map_cons, List.sum_cons]
    show _ + (vf y - 0) * _ + _ = _
    rw [Int.sub_zero]
    omega
theorem fold_nn {α κ : Type} [DecidableEq κ] (kf : α → κ) (vf : α → Int) : ∀ (M : List α) (L : List (κ × Int)), (∀ e ∈ M, 0 ≤ vf e) → (∀ q ∈ L, 0 ≤ q.2) → ∀ q ∈ M.foldl (fun L e => setE L (kf e) (vf e)) L, 0 ≤ q.2
  | [], L, _, h => h
  | e :: M, L, hM, h => fold_nn kf vf M _ (fun x hx => hM x (List.mem_cons_of_mem _ hx)) (setE_nn h (hM e List.mem_cons_self))
theorem nodup_map_inj {α β : Type} {f : α → β} (inj : ∀ a b, f a = f b → a = b) : ∀ {l : List α}, l.Nodup → (l.map f).Nodup
  | [], _ => List.nodup_nil
  | x :: l, h => by
    obtain ⟨h1, h2⟩ := List.nodup_cons.mp h
    rw [List.map_cons]
    refine List.nodup_cons.mpr ⟨fun z => ?_, nodup_map_inj inj h2⟩
    obtain ⟨y, hy, e⟩ := List.mem_map.mp z
    exact h1 (inj _ _ e ▸ hy)
theorem pair_keys {G : GoL} (h : (G.map (·.1)).Nodup) : (G.map fun e => [e.1.1, e.1.2]).Nodup := by
  have := nodup_map_inj (f := fun q : Nat × Nat => [q.1, q.2]) (fun a b e => by
    obtain ⟨e1, e2⟩ := List.cons.inj e
    exact Prod.ext e1 (List.cons.inj e2).1) h
  rwa [List.map_map] at this
theorem single_keys {T : List (Nat × Int)} (h : (T.map (·.1)).Nodup) : (T.map fun q => [q.1]).Nodup := by
  have := nodup_map_inj (f := fun x : Nat => [x]) (fun a b e => (List.cons.inj e).1) h
  rwa [List.map_map] at this
theorem left_wsum (f : List Nat → Int) {G : GoL} (nd : (G.map (·.1)).Nodup) : wsumL f (leftF G) = f [0] + (G.map fun e => e.2 * (f [e.1.2] + f [e.1.1, e.1.2])).sum := by
  have h0 := times_nd G
  have h1 : wsumL f (firstsF (timesF G)) = (((timesF G)).map fun q => q.2 * f [q.1]).sum := by
    have q : wsumL f (firstsF (timesF G)) = _ := fold_wsum f (fun q : Nat × Int => [q.1]) (fun q => q.2) (timesF G) [] List.nodup_nil (single_keys h0) (fun _ _ => rfl)
    rw [q]
    show 0 + _ = _
    omega
  have h2 : ((timesF G).map fun q => q.2 * f [q.1]).sum = f [0] + (G.map fun e => e.2 * f [e.1.2]).sum := by
    have q : wsumL (fun x : Nat => f [x]) (timesF G) = _ := times_wsum (fun x : Nat => f [x]) G [(0, 1)] (by simp)
    have e : wsumL (fun x : Nat => f [x]) [((0 : Nat), (1 : Int))] = f [0] := by
      unfold wsumL
      simp
    rw [e] at q
    exact q
  have nf : ((firstsF (timesF G)).map (·.1)).Nodup := fold_nd (fun q : Nat × Int => [q.1]) (fun (_ : Left) q => q.2) (timesF G) [] (by simp)
  have h3 : wsumL f (leftF G) = wsumL f (firstsF (timesF G)) + (G.map fun e => e.2 * f [e.1.1, e.1.2]).sum := by
    refine fold_wsum f (fun e : (Nat × Nat) × Int => [e.1.1, e.1.2]) (fun e => e.2) G (firstsF (timesF G)) nf (pair_keys nd) fun e he => ?_
    cases hh : getE (firstsF (timesF G)) [e.1.1, e.1.2] with
    | none => rfl
    | some z =>
      obtain ⟨q, _, hq⟩ := (firsts_some (timesF G) [e.1.1, e.1.2]).mp (by rw [hh]; rfl)
      exact absurd (congrArg List.length hq) (by simp)
  rw [h3, h1, h2]
  have : ∀ G : GoL, (G.map fun e => e.2 * (f [e.1.2] + f [e.1.1, e.1.2])).sum = (G.map fun e => e.2 * f [e.1.2]).sum + (G.map fun e => e.2 * f [e.1.1, e.1.2]).sum := fun G => by
    induction G with
    | nil => rfl
    | cons e G ih => rw [List.map_cons, List.map_cons, List.map_cons, List.sum_cons, List.sum_cons, List.sum_cons, ih, Int.mul_add]; omega
  rw [this]
  omega
theorem left_nn {p : Prog} {G : GoL} (gk : Goes p G) : ∀ q ∈ leftF G, 0 ≤ q.2 := by
  have hG : ∀ e ∈ G, 0 ≤ e.2 := fun e he => by have := (gk.key e he).2.2.1; omega
  refine fold_nn (fun e : (Nat × Nat) × Int => [e.1.1, e.1.2]) (fun e => e.2) G (firstsF (timesF G)) hG ?_
  refine fold_nn (fun q : Nat × Int => [q.1]) (fun q => q.2) (timesF G) [] (fun q hq => ?_) (fun q hq => by cases hq)
  exact times_nn G [(0, 1)] hG (fun q hq => by rw [List.mem_singleton.mp hq]; show (0 : Int) ≤ 1; decide) q hq
theorem left_one {p : Prog} {G : GoL} (gk : Goes p G) (x : Nat) : (getE (leftF G) [x]).getD 0 = (if x = 0 then 1 else 0) + sumG (fun q => decide (q.2 = x)) G := by
  have h1 : getE (leftF G) [x] = getE (firstsF (timesF G)) [x] := fold_get (fun e : (Nat × Nat) × Int => [e.1.1, e.1.2]) (fun e => e.2) [x] G (firstsF (timesF G)) fun e _ z => by cases z
  have h2 : getE (firstsF (timesF G)) [x] = getE (timesF G) x := by
    cases hh : getE (timesF G) x with
    | some v => exact fold_get_mem (fun q : Nat × Int => [q.1]) (fun q => q.2) (timesF G) [] (single_keys (times_nd G)) (x, v) (getE_mem hh)
    | none =>
      cases h3 : getE (firstsF (timesF G)) [x] with
      | none => rfl
      | some z =>
        obtain ⟨q, hq, e⟩ := (firsts_some (timesF G) [x]).mp (by rw [h3]; rfl)
        have e : q.1 = x := (List.cons.inj e).1
        have := mem_getE (times_nd G) hq
        rw [e, hh] at this
        cases this
  have h3 : (getE (timesF G) x).getD 0 = (getE [((0 : Nat), (1 : Int))] x).getD 0 + sumG (fun q => decide (q.2 = x)) G := times_get x G [(0, 1)]
  rw [h1, h2, h3]
  have : (getE [((0 : Nat), (1 : Int))] x).getD 0 = if x = 0 then 1 else 0 := by
    unfold getE
    by_cases c : 0 = x
    · rw [if_pos c, if_pos c.symm]; rfl
    · rw [if_neg c, if_neg fun z => c z.symm]; rfl
  rw [this]
def toX (x : Nat) : List Nat → Int
  | [_, b] => if b = x then 1 else 0
  | _ => 0
structure LInv (N : Nat) (L : Left) : Prop where
  ok : LOk N L
  nn : ∀ q ∈ L, 0 ≤ q.2
  fl : ∀ x, wsumL (toX x) L ≤ (getE L [x]).getD 0
theorem left_inv {p : Prog} {G : GoL} (g : Good p) (gk : Goes p G) : LInv p.rows.length (leftF G) := by
  refine ⟨left_ok g gk, left_nn gk, fun x => ?_⟩
  rw [left_wsum (toX x) gk.nd, left_one gk x]
  have e : (G.map fun e => e.2 * (toX x [e.1.2] + toX x [e.1.1, e.1.2])).sum = sumG (fun q => decide (q.2 = x)) G := by
    unfold sumG
    refine congrArg List.sum (List.map_congr_left fun e _ => ?_)
    show e.2 * (0 + (if e.1.2 = x then 1 else 0)) = if decide (e.1.2 = x) = true then e.2 else 0
    by_cases c : e.1.2 = x
    · rw [if_pos c, if_pos (decide_eq_true c)]; omega
    · rw [if_neg c, if_neg (by simpa using c)]; omega
  rw [e]
  show 0 + _ ≤ _
  split <;> omega
theorem wsumL_ge {x : Nat} {L : Left} (nn : ∀ q ∈ L, 0 ≤ q.2) : ∀ {a : Nat} {v : Int}, ([a, x], v) ∈ L → v ≤ wsumL (toX x) L := by
  have pos : ∀ L : Left, (∀ q ∈ L, 0 ≤ q.2) → 0 ≤ wsumL (toX x) L := fun L => by
    induction L with
    | nil => intro _; exact Int.le_refl _
    | cons q L ih =>
      intro h
      have h1 := ih fun y hy => h y (List.mem_cons_of_mem _ hy)
      have h2 := h q List.mem_cons_self
      have h3 : 0 ≤ toX x q.1 := by unfold toX; split; split <;> omega; omega
      have h4 := Int.mul_nonneg h2 h3
      unfold wsumL at h1 ⊢
      rw [List.map_cons, List.sum_cons]
      omega
  induction L with
  | nil => intro a v h; cases h
  | cons q L ih =>
    intro a v h
    have h2 : ∀ y ∈ L, 0 ≤ y.2 := fun y hy => nn y (List.mem_cons_of_mem _ hy)
    have e : wsumL (toX x) (q :: L) = q.2 * toX x q.1 + wsumL (toX x) L := by unfold wsumL; rw [List.map_cons, List.sum_cons]
    rw [e]
    rcases List.mem_cons.mp h with c | c
    · rw [← c]
      have : toX x [a, x] = 1 := by show (if x = x then (1 : Int) else 0) = 1; rw [if_pos rfl]
      show v ≤ v * toX x [a, x] + _
      rw [this]
      have := pos L h2
      omega
    · have h1 := ih h2 c
      have h3 : 0 ≤ toX x q.1 := by unfold toX; split; split <;> omega; omega
      have h4 := Int.mul_nonneg (nn q List.mem_cons_self) h3
      omega
end DL
namespace DL
open PySem PySem.Spec L2 DLR
/-! ### papers, in numbers -/
theorem pairs_snd (w : List Nat) : (pairsF w).map (·.2) = w.drop 1 := by
  unfold pairsF
  exact List.map_snd_zip (by rw [List.length_drop]; omega)
theorem halves_toX (x : Nat) (w : List Nat) : ((halvesF w).map (toX x)).sum = ((w.drop 1).count x : Int) := by
  have h1 : ∀ l : List (Nat × Nat), ((l.map fun q => [q.1, q.2]).map (toX x)).sum = ((l.map (·.2)).count x : Int) := fun l => by
    induction l with
    | nil => rfl
    | cons q l ih =>
      rw [List.map_cons, List.map_cons, List.map_cons, List.sum_cons, ih, List.count_cons]
      show (if q.2 = x then (1 : Int) else 0) + _ = _
      by_cases c : q.2 = x
      · rw [if_pos c, if_pos (by simpa using c)]
        show (1 : Int) + _ = ((_ + 1 : Nat) : Int)
        omega
      · rw [if_neg c, if_neg (by simpa using c)]
        show (0 : Int) + _ = ((_ + 0 : Nat) : Int)
        omega
  have h2 : ∀ l : List Nat, ((l.map fun y => [y]).map (toX x)).sum = 0 := fun l => by
    induction l with
    | nil => rfl
    | cons q l ih =>
      rw [List.map_cons, List.map_cons, List.sum_cons, ih]
      rfl
  unfold halvesF
  rw [List.map_append, List.sum_append, h1, h2, pairs_snd]
  omega
theorem halves_count (x : Nat) (w : List Nat) : (halvesF w).count [x] = (w.drop 1).count x := by
  have h1 : ∀ l : List (Nat × Nat), (l.map fun q => [q.1, q.2]).count [x] = 0 := fun l => by
    induction l with
    | nil => rfl
    | cons q l ih =>
      rw [List.map_cons, List.count_cons, ih, if_neg (by simp)]
  have h2 : ∀ l : List Nat, (l.map fun y => [y]).count [x] = l.count x := fun l => by
    induction l with
    | nil => rfl
    | cons q l ih =>
      rw [List.map_cons, List.count_cons, List.count_cons, ih]
      by_cases c : q = x
      · rw [if_pos (by simp [c]), if_pos (by simp [c])]
      · rw [if_neg (by simp [c]), if_neg (by simp [c])]
  unfold halvesF
  rw [List.count_append, h1, h2]
  omega
theorem nodup_of_map' {α β : Type} (f : α → β) {l : List α} (h : (l.map f).Nodup) : l.Nodup := List.Pairwise.of_map f (fun _ _ hne e => hne (congrArg f e)) h
theorem halves_nd {w : List Nat} (h : (w.drop 1).Nodup) : (halvesF w).Nodup := by
  have h1 : (pairsF w).Nodup := nodup_of_map' (·.2) (by rw [pairs_snd]; exact h)
  unfold halvesF
  refine List.nodup_append.mpr ⟨nodup_map_inj (fun a b e => ?_) h1, nodup_map_inj (fun a b e => (List.cons.inj e).1) h, fun a ha b hb z => ?_⟩
  · obtain ⟨e1, e2⟩ := List.cons.inj e
    exact Prod.ext e1 (List.cons.inj e2).1
  · obtain ⟨q, _, rfl⟩ := List.mem_map.mp ha
    obtain ⟨y, _, rfl⟩ := List.mem_map.mp hb
    cases z
theorem takeH_get (L : Left) (w : List Nat) (m : Int) (h : List Nat) : (getE (takeH L w m) h).getD 0 = (getE L h).getD 0 - m * ((halvesF w).count h : Int) := take_get m h (halvesF w) L
theorem takeH_wsum (f : List Nat → Int) {N : Nat} {L : Left} (lo : LOk N L) (w : List Nat) (m : Int) : wsumL f (takeH L w m) = wsumL f L - m * ((halvesF w).map f).sum := take_wsum f m (halvesF w) L lo.nd
theorem LInv.take {N : Nat} {L : Left} {w : List Nat} {m : Int} (v : LInv N L) (hw : isWayF L w = true) (h : ∀ k, 0 ≤ (getE (takeH L w m) k).getD 0) : LInv N (takeH L w m) := by
  have lo := v.ok.of_keys (takeH_keys (m := m) v.ok hw)
  refine ⟨lo, nn_of lo.nd h, fun x => ?_⟩
  rw [takeH_wsum _ v.ok, takeH_get, halves_toX, halves_count]
  have := v.fl x
  omega
theorem halves_pos {N : Nat} {L : Left} {w : List Nat} (v : LInv N L) (hp : ∀ q ∈ pairsF w, 0 < (getE L [q.1, q.2]).getD 0) : ∀ h ∈ halvesF w, 0 < (getE L h).getD 0 := by
  intro h hh
  unfold halvesF at hh
  rcases List.mem_append.mp hh with c | c
  · obtain ⟨q, hq, rfl⟩ := List.mem_map.mp c
    exact hp q hq
  · obtain ⟨x, hx, rfl⟩ := List.mem_map.mp c
    rw [← pairs_snd] at hx
    obtain ⟨q, hq, rfl⟩ := List.mem_map.mp hx
    have h1 := hp q hq
    cases e : getE L [q.1, q.2] with
    | none => rw [e] at h1; exact absurd h1 (by decide)
    | some z =>
      rw [e] at h1
      have h1 : 0 < z := h1
      have h2 := wsumL_ge v.nn (getE_mem e)
      have h3 := v.fl q.2
      omega
theorem way_of_pos {L : Left} {w : List Nat} (h2 : 2 ≤ w.length) (hp : ∀ q ∈ pairsF w, 0 < (getE L [q.1, q.2]).getD 0) : isWayF L w = true := by
  unfold isWayF
  rw [decide_eq_true h2, Bool.true_and]
  refine List.all_eq_true.mpr fun q hq => ?_
  have h1 := hp q hq
  cases e : getE L [q.1, q.2] with
  | none => rw [e] at h1; exact absurd h1 (by decide)
  | some z => rfl
/-! the least of numbers, of trips -/
def leastI (l : List Int) : Int := l.getD (leastD (l.map PyData.int)) 0
def encT (t : Trip) : PyData := .tuple [.int t.rank, .str t.sort, encI t.way]
def leastT (F : List Trip) : Trip := F.getD (leastD (F.map encT)) ⟨0, "", []⟩
theorem leastI_ok {l : List Int} (h : l ≠ []) : leastI l ∈ l ∧ ∀ x ∈ l, leastI l ≤ x := by
  have hl : 0 < l.length := List.length_pos_iff.mpr h
  have at_ : ∀ i, i ≤ l.length - 1 → (l.map PyData.int).getD i .none = .int (l.getD i 0) := fun i hi => by
    have hi' : i < l.length := by omega
    rw [List.getD_eq_getElem?_getD, List.getElem?_map, List.getElem?_eq_getElem hi', List.getD_eq_getElem?_getD, List.getElem?_eq_getElem hi']
    rfl
  have hb := argBest_le (fun i j => PySem.W.dataLt ((l.map PyData.int).getD i .none) ((l.map PyData.int).getD j .none)) ((l.map PyData.int).length - 1)
  rw [List.length_map] at hb
  have hk := argBest_key (fun i j => PySem.W.dataLt ((l.map PyData.int).getD i .none) ((l.map PyData.int).getD j .none)) (fun i => l.getD i 0) (l.length - 1)
    (fun i j hi hj lt => by simp only [at_ i hi, at_ j hj, PySem.W.dataLt_int]; exact decide_eq_true lt)
    (fun i j hi hj b => by simp only [at_ i hi, at_ j hj, PySem.W.dataLt_int] at b; have := of_decide_eq_true b; omega) (l.length - 1) (Nat.le_refl _)
  have e : leastI l = l.getD (argBest (fun i j => PySem.W.dataLt ((l.map PyData.int).getD i .none) ((l.map PyData.int).getD j .none)) (l.length - 1)) 0 := by
    unfold leastI leastD
    rw [List.length_map]
  rw [e]
  refine ⟨?_, fun x hx => ?_⟩
  · have hlt : argBest (fun i j => PySem.W.dataLt ((l.map PyData.int).getD i .none) ((l.map PyData.int).getD j .none)) (l.length - 1) < l.length := by omega
    rw [List.getD_eq_getElem?_getD, List.getElem?_eq_getElem hlt]
    exact List.getElem_mem hlt
  · obtain ⟨j, hj, rfl⟩ := List.mem_iff_getElem.mp hx
    have := hk j (by omega)
    rw [List.getD_eq_getElem?_getD (l := l) (i := j), List.getElem?_eq_getElem hj] at this
    exact this
theorem leastT_mem {F : List Trip} (h : F ≠ []) : leastT F ∈ F ∧ F[leastD (F.map encT)]? = some (leastT F) := by
  have hl : 0 < F.length := List.length_pos_iff.mpr h
  have hb := argBest_le (fun i j => PySem.W.dataLt ((F.map encT).getD i .none) ((F.map encT).getD j .none)) ((F.map encT).length - 1)
  have hlt : leastD (F.map encT) < F.length := by
    show argBest _ _ < _
    rw [List.length_map] at hb ⊢
    omega
  unfold leastT
  rw [List.getD_eq_getElem?_getD, List.getElem?_eq_getElem hlt]
  exact ⟨List.getElem_mem hlt, rfl⟩
def manyF (L : Left) (w : List Nat) : Int := leastI ((halvesF w).map fun h => (getE L h).getD 0)
def paperGo (rows : List Row) (W : Nat) : Nat → Left → List Entry
  | 0, _ => []
  | n + 1, L => if waysF rows W L = [] then [] else ⟨(leastT (waysF rows W L)).sort, (leastT (waysF rows W L)).way, manyF L (leastT (waysF rows W L)).way⟩ :: paperGo rows W n (takeH L (leastT (waysF rows W L)).way (manyF L (leastT (waysF rows W L)).way))
def paperF (rows : List Row) (W : Nat) (G : GoL) : List Entry := paperGo rows W ((leftF G).length + 1) (leftF G)
def posN (L : Left) : Nat := ((L.map (·.1)).filter fun k => decide (0 < (getE L k).getD 0)).length
structure TOk (N : Nat) (rows : List Row) (L : Left) (t : Trip) : Prop where
  two : 2 ≤ t.way.length
  len : t.way.length ≤ 42
  lt : ∀ x ∈ t.way, x < N
  nd : (t.way.drop 1).Nodup
  pos : ∀ q ∈ pairsF t.way, 0 < (getE L [q.1, q.2]).getD 0
  sort : sortF rows t.way = some t.sort
theorem trips_ok {p : Prog} (g : Good p) {W : Nat} {L : Left} : ∀ t ∈ waysF p.rows W L, TOk p.rows.length p.rows L t := by
  intro t ht
  have r40 := g.r40
  obtain ⟨st, hst, h2⟩ := List.mem_flatMap.mp ht
  have hst := List.mem_range.mp hst
  obtain ⟨e, he, hte⟩ := List.mem_filterMap.mp h2
  obtain ⟨gg, hg, rfl⟩ := List.mem_map.mp he
  have F := (swF_ok (L := L) g.ok hst).1 gg hg
  have elen : gg.2.2.length ≤ 42 := by
    have h1 := nodupLenE _ (List.range p.rows.length) F.nd fun x hx => List.mem_range.mpr (F.lt x (List.mem_of_mem_drop hx))
    rw [List.length_range, List.length_drop] at h1
    omega
  unfold tripF at hte
  cases hs : sortF p.rows gg.2.2 with
  | none => rw [hs] at hte; cases hte
  | some x =>
    rw [hs] at hte
    dsimp only at hte
    by_cases c : gg.2.1 < rndF gg.2.1 W
    · rw [if_pos c] at hte
      have := Option.some.inj hte
      subst this
      exact ⟨F.two, elen, F.lt, F.nd, F.pos, hs⟩
    · rw [if_neg c] at hte
      cases hte
theorem filter_less {α : Type} {P P' : α → Bool} (imp : ∀ x, P' x = true → P x = true) : ∀ {l : List α}, (∃ x ∈ l, P x = true ∧ P' x = false) → (l.filter P').length < (l.filter P).length
  | [], h => by obtain ⟨x, hx, _⟩ := h; cases hx
  | y :: l, h => by
    have le : ∀ l : List α, (l.filter P').length ≤ (l.filter P).length := fun l => by
      induction l with
      | nil => exact Nat.le_refl _
      | cons z l ih =>
        by_cases c : P' z = true
        · rw [List.filter_cons_of_pos c, List.filter_cons_of_pos (imp z c), List.length_cons, List.length_cons]; omega
        · rw [List.filter_cons_of_neg c]
          by_cases d : P z = true
          · rw [List.filter_cons_of_pos d, List.length_cons]; omega
          · rw [List.filter_cons_of_neg d]; exact ih
    obtain ⟨x, hx, h1, h2⟩ := h
    rcases List.mem_cons.mp hx with c | c
    · subst c
      rw [List.filter_cons_of_pos h1, List.filter_cons_of_neg (by rw [h2]; decide), List.length_cons]
      have := le l
      omega
    · have ih := filter_less imp ⟨x, c, h1, h2⟩
      by_cases d : P' y = true
      · rw [List.filter_cons_of_pos d, List.filter_cons_of_pos (imp y d), List.length_cons, List.length_cons]; omega
      · rw [List.filter_cons_of_neg d]
        by_cases d2 : P y = true
        · rw [List.filter_cons_of_pos d2, List.length_cons]; omega
        · rw [List.filter_cons_of_neg d2]; exact ih
theorem take_trip {N : Nat} {rows : List Row} {L : Left} {t : Trip} (v : LInv N L) (h : TOk N rows L t) :
    isWayF L t.way = true ∧ 1 ≤ manyF L t.way ∧ (∀ k, 0 ≤ (getE (takeH L t.way (manyF L t.way)) k).getD 0) ∧ LInv N (takeH L t.way (manyF L t.way)) ∧ posN (takeH L t.way (manyF L t.way)) < posN L := by
  have hw := way_of_pos h.two h.pos
  have hp := halves_pos v h.pos
  have ne : (halvesF t.way).map (fun h => (getE L h).getD 0) ≠ [] := by
    intro z
    have h1 : (halvesF t.way) = [] := List.map_eq_nil_iff.mp z
    unfold halvesF at h1
    have h2 := (List.append_eq_nil_iff.mp h1).2
    have h3 := List.map_eq_nil_iff.mp h2
    have h4 := congrArg List.length h3
    rw [List.length_drop] at h4
    have := h.two
    simp at h4
    omega
  obtain ⟨l1, l2⟩ := leastI_ok ne
  obtain ⟨h0, hh0, e0⟩ := List.mem_map.mp l1
  have e0 : (getE L h0).getD 0 = manyF L t.way := e0
  have m1 : 1 ≤ manyF L t.way := by have := hp h0 hh0; omega
  have hle : ∀ k ∈ halvesF t.way, manyF L t.way ≤ (getE L k).getD 0 := fun k hk => l2 _ (List.mem_map.mpr ⟨k, hk, rfl⟩)
  have hnd := halves_nd h.nd
  have nn : ∀ k, 0 ≤ (getE (takeH L t.way (manyF L t.way)) k).getD 0 := fun k => by
    rw [takeH_get]
    by_cases c : k ∈ halvesF t.way
    · have e1 : (halvesF t.way).count k = 1 := by
        have h1 := List.count_pos_iff.mpr c
        have h2 := List.nodup_iff_count.mp hnd k
        omega
      rw [e1]
      have := hle k c
      show 0 ≤ _ - manyF L t.way * 1
      omega
    · rw [List.count_eq_zero.mpr c]
      have := getD_nn v.nn k
      show 0 ≤ _ - manyF L t.way * 0
      omega
  refine ⟨hw, m1, nn, v.take hw nn, ?_⟩
  unfold posN
  rw [takeH_keys v.ok hw]
  refine filter_less (fun k hk => ?_) ⟨h0, getE_some.mp (isWay_halves v.ok hw h0 hh0), decide_eq_true (by omega), ?_⟩
  · have hk := of_decide_eq_true hk
    rw [takeH_get] at hk
    have : 0 ≤ manyF L t.way * ((halvesF t.way).count k : Int) := Int.mul_nonneg (by omega) (by omega)
    exact decide_eq_true (by omega)
  · refine decide_eq_false ?_
    rw [takeH_get]
    have e1 : (halvesF t.way).count h0 = 1 := by
      have h1 := List.count_pos_iff.mpr hh0
      have h2 := List.nodup_iff_count.mp hnd h0
      omega
    rw [e1]
    show ¬ 0 < _ - manyF L t.way * 1
    omega
theorem sort_ent {rows : List Row} {w : List Nat} {x : Str} (h : sortF rows w = some x) : (if x = ("row" : Str) then decide (w.headD 0 = w.getLastD 0) else decide (x = ("worth" : Str)) && useOneF rows (w.headD 0) (w.getLastD 0)) = true := by
  unfold sortF at h
  by_cases c : w.headD 0 = w.getLastD 0
  · rw [if_pos c] at h
    rw [← Option.some.inj h, if_pos rfl, decide_eq_true c]
  · rw [if_neg c] at h
    by_cases d : useOneF rows (w.headD 0) (w.getLastD 0) = true
    · rw [if_pos d] at h
      rw [← Option.some.inj h, if_neg (by decide +kernel), d]
      decide +kernel
    · rw [if_neg d] at h
      cases h
theorem paper_bound {p : Prog} (g : Good p) {W : Nat} : ∀ (n : Nat) (L : Left), LInv p.rows.length L → (∀ (i : Nat) (s : Int), ∃ v, boundF p.rows W (paperGo p.rows W n L) i L s = .inr v) ∧ ∀ e ∈ paperGo p.rows W n L, e.way.length ≤ 42 ∧ ∀ x ∈ e.way, x < p.rows.length
  | 0, L, _ => ⟨fun i s => ⟨_, rfl⟩, fun e he => by cases he⟩
  | n + 1, L, v => by
    unfold paperGo
    by_cases c : waysF p.rows W L = []
    · rw [if_pos c]
      exact ⟨fun i s => ⟨_, rfl⟩, fun e he => by cases he⟩
    · rw [if_neg c]
      have T := trips_ok g _ (leastT_mem c).1
      obtain ⟨t1, t2, t3, t4, t5⟩ := take_trip v T
      obtain ⟨ih1, ih2⟩ := paper_bound g n _ t4
      refine ⟨fun i s => ?_, fun e he => ?_⟩
      · unfold boundF
        have hen : entB p.rows L ⟨(leastT (waysF p.rows W L)).sort, (leastT (waysF p.rows W L)).way, manyF L (leastT (waysF p.rows W L)).way⟩ = true := by
          unfold entB
          rw [t1, decide_eq_true t2, sort_ent T.sort]
          rfl
        have hov : overF (takeH L (leastT (waysF p.rows W L)).way (manyF L (leastT (waysF p.rows W L)).way)) (leastT (waysF p.rows W L)).way = false := by
          unfold overF
          rw [List.any_eq_false]
          intro h hh z
          have := t3 h
          have := of_decide_eq_true z
          omega
        rw [if_pos hen, if_neg (by rw [hov]; decide)]
        exact ih1 _ _
      · rcases List.mem_cons.mp he with z | z
        · rw [z]
          exact ⟨T.len, T.lt⟩
        · exact ih2 e z
theorem sumLeast_eq (rows : List Row) (L : Left) : sumLeast rows L = wsumL (leastHalfF rows) L := rfl
theorem bound_ge {rows : List Row} {N W : Nat} (w0 : 0 < W) : ∀ (M : List Entry) (i : Nat) (L : Left) (s v : Int), LOk N L → boundF rows W M i L s = .inr v → s + sumLeast rows L ≤ v
  | [], i, L, s, v, _, h => by
    unfold boundF at h
    have := Sum.inr.inj h
    omega
  | e :: M, i, L, s, v, lo, h => by
    unfold boundF at h
    by_cases c : entB rows L e = true
    · rw [if_pos c] at h
      by_cases d : overF (takeH L e.way e.many) e.way = true
      · rw [if_pos d] at h; cases h
      · rw [if_neg d] at h
        have hw := ent_way c
        have ih := bound_ge w0 M _ _ _ _ (lo.of_keys (takeH_keys lo hw)) h
        rw [sumLeast_eq, takeH_wsum _ lo] at ih
        rw [sumLeast_eq]
        have m1 : 1 ≤ e.many := of_decide_eq_true (Bool.and_eq_true_iff.mp (Bool.and_eq_true_iff.mp c).2).1
        have rb := (rndF_bd (leastF rows e.way) w0).1
        have : e.many * ((halvesF e.way).map (leastHalfF rows)).sum ≤ e.many * rndF (leastF rows e.way) W := Int.mul_le_mul_of_nonneg_left rb (by omega)
        omega
    · rw [if_neg c] at h; cases h
theorem rnd_le {b c : Int} {W : Nat} (w0 : 0 < W) (h : b ≤ c) (d : (W : Int) ∣ c) : rndF b W ≤ c := by
  obtain ⟨k, rfl⟩ := d
  have hW : (W : Int) ≠ 0 := by omega
  have h1 := Int.mul_ediv_add_emod (-b) (W : Int)
  have h3 := Int.emod_nonneg (-b) hW
  have h4 := Int.emod_lt_of_pos (-b) (show (0 : Int) < W by omega)
  unfold rndF
  -- b + (-b) % W = - W * ((-b) / W)
  have e : b + -b % (W : Int) = (W : Int) * (-(-b / (W : Int))) := by rw [Int.mul_neg]; omega
  rw [e]
  refine Int.mul_le_mul_of_nonneg_left ?_ (by omega)
  have : (W : Int) * (-(-b / (W : Int))) < (W : Int) * (k + 1) := by rw [← e, Int.mul_add, Int.mul_one]; omega
  have := Int.lt_of_mul_lt_mul_left this (by omega)
  omega
theorem bound_le {rows : List Row} {N W : Nat} (w0 : 0 < W) {act : List Nat → Int} (low : ∀ h, leastHalfF rows h ≤ act h ∨ ¬ ∀ x ∈ h, x < N) (div : ∀ e : Entry, ∀ L, entB rows L e = true → (∀ x ∈ e.way, x < N) → (W : Int) ∣ ((halvesF e.way).map act).sum) :
    ∀ (M : List Entry) (i : Nat) (L : Left) (s v : Int), LOk N L → (∀ q ∈ L, 0 ≤ q.2) → (∀ e ∈ M, ∀ x ∈ e.way, x < N) → boundF rows W M i L s = .inr v → v ≤ s + wsumL act L
  | [], i, L, s, v, lo, nn, _, h => by
    unfold boundF at h
    have h := Sum.inr.inj h
    have : ∀ L : Left, (∀ q ∈ L, 0 ≤ q.2) → (∀ q ∈ L, ∀ x ∈ q.1, x < N) → sumLeast rows L ≤ wsumL act L := fun L => by
      induction L with
      | nil => intro _ _; exact Int.le_refl _
      | cons q L ih =>
        intro h1 h2
        have ih := ih (fun y hy => h1 y (List.mem_cons_of_mem _ hy)) (fun y hy => h2 y (List.mem_cons_of_mem _ hy))
        have l1 : leastHalfF rows q.1 ≤ act q.1 := (low q.1).resolve_right fun z => z (h2 q List.mem_cons_self)
        have := Int.mul_le_mul_of_nonneg_left l1 (h1 q List.mem_cons_self)
        unfold sumLeast at ih ⊢
        unfold wsumL at ih ⊢
        rw [List.map_cons, List.map_cons, List.sum_cons, List.sum_cons]
        omega
    have := this L nn fun q hq x hx => by
      rcases lo.keys q hq with ⟨y, e, hy⟩ | ⟨a, y, e, ha, hy⟩
      · rw [e] at hx
        rw [List.mem_singleton.mp hx]; exact hy
      · rw [e] at hx
        rcases List.mem_cons.mp hx with z | z
        · rw [z]; exact ha
        · rw [List.mem_singleton.mp z]; exact hy
    omega
  | e :: M, i, L, s, v, lo, nn, hM, h => by
    unfold boundF at h
    by_cases c : entB rows L e = true
    · rw [if_pos c] at h
      by_cases d : overF (takeH L e.way e.many) e.way = true
      · rw [if_pos d] at h; cases h
      · rw [if_neg d] at h
        have hw := ent_way c
        have lo' := lo.of_keys (takeH_keys (m := e.many) lo hw)
        have m1 : 1 ≤ e.many := of_decide_eq_true (Bool.and_eq_true_iff.mp (Bool.and_eq_true_iff.mp c).2).1
        have nn' : ∀ q ∈ takeH L e.way e.many, 0 ≤ q.2 := nn_of lo'.nd fun k => by
          by_cases z : k ∈ halvesF e.way
          · have d := (Bool.not_eq_true _).mp d
            unfold overF at d
            have d := List.any_eq_false.mp d k z
            have : ¬ (getE (takeH L e.way e.many) k).getD 0 < 0 := fun y => d (decide_eq_true y)
            omega
          · rw [takeH_get, List.count_eq_zero.mpr z]
            have := getD_nn nn k
            show 0 ≤ _ - e.many * 0
            omega
        have ih := bound_le w0 low div M _ _ _ _ lo' nn' (fun x hx => hM x (List.mem_cons_of_mem _ hx)) h
        rw [takeH_wsum _ lo] at ih
        have he := hM e List.mem_cons_self
        have l1 : leastF rows e.way ≤ ((halvesF e.way).map act).sum := by
          have hx : ∀ h ∈ halvesF e.way, ∀ x ∈ h, x < N := fun h hh x hx => by
            unfold halvesF at hh
            rcases List.mem_append.mp hh with z | z
            · obtain ⟨q, hq, rfl⟩ := List.mem_map.mp z
              obtain ⟨q1, q2⟩ := List.of_mem_zip (show (q.1, q.2) ∈ e.way.zip (e.way.drop 1) from hq)
              rcases List.mem_cons.mp hx with y | y
              · rw [y]; exact he _ q1
              · rw [List.mem_singleton.mp y]; exact he _ (List.mem_of_mem_drop q2)
            · obtain ⟨y, hy, rfl⟩ := List.mem_map.mp z
              rw [List.mem_singleton.mp hx]
              exact he _ (List.mem_of_mem_drop hy)
          have : ∀ M : List (List Nat), (∀ h ∈ M, ∀ x ∈ h, x < N) → (M.map (leastHalfF rows)).sum ≤ (M.map act).sum := fun M => by
            induction M with
            | nil => intro _; exact Int.le_refl _
            | cons h M ih =>
              intro hm
              have := ih fun y hy => hm y (List.mem_cons_of_mem _ hy)
              have := (low h).resolve_right fun z => z (hm h List.mem_cons_self)
              rw [List.map_cons, List.map_cons, List.sum_cons, List.sum_cons]
              omega
          exact this _ hx
        have l2 := rnd_le w0 l1 (div e L c he)
        have := Int.mul_le_mul_of_nonneg_left l2 (show 0 ≤ e.many by omega)
        omega
    · rw [if_neg c] at h; cases h
end DL
namespace DL
open PySem PySem.Spec L2 DLR PySem.W
/-! ### paper -/
abbrev sPaper : Stmt := top 57
abbrev nPaper : List Str := ["program","wide","goes","left","told","found","_","sort","way","many","half"]
abbrev FPaper (K : Frg) (mg : Str → Option Value) := Fd K mg "paper" sPaper ["program","wide","goes"]
def spPaper : Sp := fun vs H Q _ => ∃ (a l : Addr) (bs : List Addr) (p : Prog) (W : Nat) (G : GoL), vs = [.ref a, nI W, .ref l] ∧ ProgAt H a p ∧ Good p ∧ 2 ≤ W ∧ W ≤ 24 ∧ H l = some (.lst (bs.map V.ref)) ∧ GoesAt H bs G ∧ Goes p G ∧ G.length < 60 ∧
  ∀ t es H', Same1 H H' → H t = none → H' t = some (.lst (es.map V.ref)) → EntsAt H' es (paperF p.rows W G) → Q (.ref t) H'
theorem trips_dp {K : Frg} {H : Hp} : ∀ {bs : List Addr} {ts : List Trip}, TripsAt H bs ts → DpAll K H (bs.map V.ref) (ts.map encT)
  | _, _, .nil => .nil
  | _, _, .cons ⟨c, h1, h2⟩ r => .cons (.tup (SqT.of h1) (.cons (.int _) (.cons (.str _) (.cons (encI_at h2) .nil)))) (trips_dp r)
theorem ints_dp {K : Frg} {H : Hp} : ∀ l : List Int, DpAll K H (l.map V.int) (l.map PyData.int)
  | [] => .nil
  | x :: l => .cons (.int x) (ints_dp l)
theorem encT_dep (t : Trip) : (encT t).depth ≤ 3 := by
  have := encI_dep t.way
  unfold encT
  simp only [PyData.depth, PyData.depthAll]
  omega
theorem encT_alike (t u : Trip) : PySem.W.alike (encT t) (encT u) = true := by
  unfold encT encI natsP
  simp only [PySem.W.alike, PySem.W.alikeAll, alike_ints, Bool.and_self]
theorem paired_at {α β : Type} {F : α → β → Prop} : ∀ {l₁ : List α} {l₂ : List β}, Paired F l₁ l₂ → ∀ {i : Nat} {b : β}, l₂[i]? = some b → ∃ a, l₁[i]? = some a ∧ F a b
  | _, _, .nil, i, b, h => by cases h
  | _, _, .cons (a := x) h t, 0, b, e => ⟨_, rfl, by cases e; exact h⟩
  | _, _, .cons h t, i + 1, b, e => paired_at t (i := i) e
theorem leastI_at {l : List Int} {x : V} (h : (l.map V.int)[leastD (l.map PyData.int)]? = some x) : x = V.int (leastI l) := by
  rw [List.getElem?_map] at h
  obtain ⟨z, hz, rfl⟩ := Option.map_eq_some_iff.mp h
  unfold leastI
  rw [List.getD_eq_getElem?_getD, hz]
  rfl
section
variable {P : Program} {w : World} {K : PySem.W.Frag} {mg : Str → Option Value} {base : Heap}
theorem scPaper : FnScope nPaper ["program","wide","goes"] (defScope sPaper) := ⟨rfl, rfl, rfl, by decide +kernel, rfl, by decide +kernel, by decide +kernel⟩
theorem ok_paper (c : FPaper K mg) (cCheckWG : FCheckWGE K mg) (cHalvesDone : FHalvesDone K mg) (cWaysToTake : FWaysToTake K mg) (cTakeHalves : FTakeHalves K mg) (cHalves : FHalves K mg) (T : Bt mg) (TM : Bm mg)
    (GCheckWG : FnOk P w K mg base CX0 6 cCheckWG.f cCheckWG.fd ["program","wide","goes"] spCheckWGE) (GHalvesDone : FnOk P w K mg base CX0 2 cHalvesDone.f cHalvesDone.fd ["goes"] spHalvesDone) (GWaysToTake : FnOk P w K mg base CX0 4 cWaysToTake.f cWaysToTake.fd ["program","wide","left"] spWaysToTake) (GTakeHalves : FnOk P w K mg base CX0 2 cTakeHalves.f cTakeHalves.fd ["left","way","many"] spTakeHalves) :
    FnOk P w K mg base CX0 7 c.f c.fd ["program","wide","goes"] spPaper := by
  have GHalves : FnOk P w K mg base CX0 1 cHalves.f cHalves.fd ["way"] spHalves := ok_halves cHalves T
  refine c.F.ok scPaper (fun vs H Q E h => ?_) (fun cdv A outer s H vs Q E hr h => ?_)
  · obtain ⟨a, l, bs, p, W, G, rfl, _⟩ := h
    rfl
  · obtain ⟨a, l, bs, p, W, G, rfl, hP, g, w2, w24, hl, hG, gk, g60, k⟩ := h
    refine ⟨_, (pss_cons (ps_expr (pe_call GCheckWG (hr.mono (by first | omega | decide)) (by rfl) cCheckWG.m cCheckWG.F.kp cCheckWG.b .nil pass0 (pa_cons (pv 0) (pa_cons (pv 1) (pa_cons (pv 2) pa_nil)))))
      (pss_cons (ps_set (i := 3) scPaper.nd rfl (Or.inr rfl) (pe_call GHalvesDone (hr.mono (by first | omega | decide)) (by rfl) cHalvesDone.m cHalvesDone.F.kp cHalvesDone.b .nil pass0 (pa_cons (pv 2) pa_nil)))
      (pss_cons (ps_set (i := 4) scPaper.nd rfl (Or.inl rfl) (pe_lst pa_nil))
      (pss_cons (ps_set (i := 5) scPaper.nd rfl (Or.inl rfl) (pe_call GWaysToTake (hr.mono (by first | omega | decide)) (by rfl) cWaysToTake.m cWaysToTake.F.kp cWaysToTake.b .nil pass0 (pa_cons (pv 0) (pa_cons (pv 1) (pa_cons (pv 3) pa_nil)))))
      (pss_cons (ps_while PassesOwn.never (pt_truth (pv 5) (fun _ => rfl))
          (pss_cons (ps_asg (pe_callB (DLR.cr_minD rfl (in64P hr)) (by rfl) TM.min (by decide +kernel) (pa_cons (pv 5) pa_nil)) (pg_tup rfl (pgs_cons (pg_name (i := 6) scPaper.nd rfl (Or.inl rfl)) (pgs_cons (pg_name (i := 7) scPaper.nd rfl (Or.inl rfl)) (pgs_cons (pg_name (i := 8) scPaper.nd rfl (Or.inl rfl)) pgs_nil)))))
          (pss_cons (ps_set (i := 9) scPaper.nd rfl (Or.inl rfl) (pe_callB (DLR.cr_minD rfl (in64P hr)) (by rfl) TM.min (by decide +kernel) (pa_cons (pe_lc (own := [("half", 10)]) (g := gName 10) (tt := tYes) rfl scPaper.nd (pi_list (pe_call GHalves (hr.mono (by first | omega | decide)) (by rfl) cHalves.m cHalves.F.kp cHalves.b .nil pass0 (pa_cons (pv 8) pa_nil))) (blkOk_by (N := nPaper) (sc := defScope sPaper) (by decide +kernel)) (fun _ _ _ _ _ => (pg_name (i := 10) scPaper.nd rfl (Or.inl rfl))) (fun _ _ _ _ _ => pts_nil) (fun _ _ _ _ _ => (pe_dget (hu_of hr) (pv 3) (pv 10) (fun _ _ => rfl)))) pa_nil)))
          (pss_cons (ps_expr (pe_bm PySem.F.plainAttrs_list PySem.F.slot_list_append PySem.F.type_list_append mt_append (pv 4) (pa_cons (pe_tup (pa_cons (pv 7) (pa_cons (pv 8) (pa_cons (pv 9) pa_nil)))) pa_nil)))
          (pss_cons (ps_expr (pe_call GTakeHalves (hr.mono (by first | omega | decide)) (by rfl) cTakeHalves.m cTakeHalves.F.kp cTakeHalves.b .nil pass0 (pa_cons (pv 3) (pa_cons (pv 8) (pa_cons (pv 9) pa_nil)))))
          (pss_one (ps_set (i := 5) scPaper.nd rfl (Or.inl rfl) (pe_call GWaysToTake (hr.mono (by first | omega | decide)) (by rfl) cWaysToTake.m cWaysToTake.F.kp cWaysToTake.b .nil pass0 (pa_cons (pv 0) (pa_cons (pv 1) (pa_cons (pv 3) pa_nil)))))))))))
      (pss_one (ps_ret (pv 4)))))))), ?_⟩
    have w0 : 0 < W := by omega
    have ll0 := leftF_len G
    refine ⟨_, rfl, _, rfl, _, rfl, a, l, bs, p, W, G, rfl, hP, g, w2, w24, hl, hG, gk, g60, fun H1 s1 => ?_⟩
    refine ⟨_, rfl, l, bs, G, rfl, s1 _ _ hl, hG.kp (Kp.same s1), by omega, fun d H2 s2 nd e2 => ?_⟩
    dsimp only [gName]
    have S2 := s1.trans s2
    have ndH : H d = none := s1.free nd
    refine ⟨Nat.zero_le _, fun tl htl => ?_⟩
    refine alloc htl fun H3 s3 e3 => ?_
    dsimp only [gName]
    have S3 := S2.trans s3
    have ntl : H tl = none := S2.free htl
    refine ⟨_, rfl, _, rfl, _, rfl, a, d, p, W, leftF G, rfl, hP.kp (Kp.same S3), g, w2, w24, s3 _ _ e2, fun fl bs0 H4 s4 nfl e4 t4 => ?_⟩
    dsimp only [gName]
    have S4 := S3.trans s4
    have ndt : d ≠ tl := fun z => by
      have e2' : H2 d = some _ := e2
      rw [z, htl] at e2'; cases e2'
    obtain ⟨Rz, hRz⟩ : ∃ Rz, Rz = paperF p.rows W G := ⟨_, rfl⟩
    rw [← hRz] at k
    refine whileP (fun m σ H' => ∃ (x6 x7 x8 x9 x10 : Option V) (L : Left) (fl : Addr) (bs es : List Addr) (M : List Entry), σ = [some (.ref a), some (nI W), some (.ref l), some (.ref d), some (.ref tl), some (.ref fl), x6, x7, x8, x9, x10] ∧ Same1 H H' ∧ LeftAt H' d L ∧ LInv p.rows.length L ∧ L.length = (leftF G).length ∧ H' fl = some (.lst (bs.map V.ref)) ∧ TripsAt H' bs (waysF p.rows W L) ∧ H' tl = some (.lst (es.map V.ref)) ∧ EntsAt H' es M ∧ posN L < m ∧ M.length + m ≤ 200 ∧ M ++ paperGo p.rows W m L = Rz)
      (fun σ H' => ∃ (fl : Addr) (x6 x7 x8 x9 x10 : Option V) (es : List Addr), σ = [some (.ref a), some (nI W), some (.ref l), some (.ref d), some (.ref tl), some (.ref fl), x6, x7, x8, x9, x10] ∧ Same1 H H' ∧ H' tl = some (.lst (es.map V.ref)) ∧ EntsAt H' es Rz)
      ⟨(leftF G).length + 1, none, none, none, none, none, leftF G, fl, bs0, [], [], rfl, S4, (s3.trans s4) _ _ e2, left_inv g gk, rfl, e4, t4, s4 _ _ e3, .nil, ?_, by show 0 + ((leftF G).length + 1) ≤ 200; omega, hRz.symm⟩ ?_ ?_
    · unfold posN
      have := List.length_filter_le (fun k => decide (0 < (getE (leftF G) k).getD 0)) ((leftF G).map (·.1))
      rw [List.length_map] at this
      omega
    · rintro σ H5 ⟨fl, x6, x7, x8, x9, x10, es, rfl, s5, q5, w5⟩
      exact ⟨_, rfl, k tl es H5 s5 ntl q5 w5⟩
    · intro Nx hNx
      rintro m σ H5 ⟨x6, x7, x8, x9, x10, L, fl, bs, es, M, rfl, s5, l5, v5, hll, f5, t5, q5, w5, hm, hM, hR⟩
      have hbt := Paired.length t5
      refine ⟨_, rfl, !(bs.map V.ref).isEmpty, .inl ⟨_, SqL.of f5, rfl⟩, ?_⟩
      obtain ⟨n, rfl⟩ : ∃ n, m = n + 1 := ⟨m - 1, by omega⟩
      unfold paperGo at hR
      by_cases c : waysF p.rows W L = []
      · rw [if_pos c, List.append_nil] at hR
        subst hR
        have be : bs = [] := List.eq_nil_of_length_eq_zero (by rw [hbt, c]; rfl)
        subst be
        exact hNx _ _ ⟨fl, x6, x7, x8, x9, x10, es, rfl, s5, q5, w5⟩
      · rw [if_neg c] at hR
        have hbne : bs ≠ [] := fun z => by
          rw [z] at hbt
          exact c (List.eq_nil_of_length_eq_zero hbt.symm)
        have hne : (!(bs.map V.ref).isEmpty) = true := by
          cases bs with
          | nil => exact absurd rfl hbne
          | cons _ _ => rfl
        rw [hne]
        obtain ⟨t, ht⟩ : ∃ t, t = leastT (waysF p.rows W L) := ⟨_, rfl⟩
        obtain ⟨tm1, tm2⟩ := leastT_mem c
        rw [← ht] at tm1 tm2 hR
        have TT := trips_ok g _ tm1
        obtain ⟨y1, y2, y3, y4, y5⟩ := take_trip v5 TT
        refine ⟨_, fun σ' H' z => z, ?_⟩
        obtain ⟨b, hb1, tw, hb2, hb3⟩ := paired_at t5 tm2
        have bn := v5.ok
        have w40 : t.way.length ≤ 42 := TT.len
        have tw0 : 0 < t.way.length := by have := TT.two; omega
        -- min(found)
        refine ⟨_, rfl, fl, _, _, rfl, SqL.of f5, trips_dp t5, by rw [List.length_map]; exact List.length_pos_iff.mpr hbne, fun y hy => ?_, fun y hy z hz => ?_, fun x hx => ?_⟩
        · obtain ⟨u, _, rfl⟩ := List.mem_map.mp hy
          exact ⟨(by unfold encT; intro z; cases z), Nat.le_trans (encT_dep u) (by decide)⟩
        · obtain ⟨u, _, rfl⟩ := List.mem_map.mp hy
          obtain ⟨u', _, rfl⟩ := List.mem_map.mp hz
          exact encT_alike u u'
        rw [List.getElem?_map, hb1] at hx
        have hx := (Option.some.inj hx).symm
        subst hx
        refine ⟨b, _, rfl, SqT.of hb2, rfl, _, _, rfl, _, _, rfl, _, _, rfl, rfl, ?_⟩
        dsimp only [gName]
        -- min([left[half] ..])
        refine ⟨_, rfl, tw, t.way, rfl, hb3, tw0, by omega, fun hl hs H6 s6 nhl e6 hT6 => ⟨hl, rfl, ⟨_, SqL.of e6⟩, fun D hD => ?_⟩⟩
        have hsl := tups_len hT6
        have l6 := s6 _ _ l5
        have hv := halvesF_len t.way
        have hsome : ∀ h ∈ halvesF t.way, (getE L h).isSome = true := isWay_halves v5.ok y1
        refine lc_list (K := K) (a := hl) (xs := hs.map V.ref) (fun j H' => Same1 H6 H' ∧ H' D = some (.lst ((((halvesF t.way).take j).map fun h => (getE L h).getD 0).map V.int))) ⟨Same.new hD, upd_same⟩ (fun j H' _ ⟨q, _⟩ => SqL.of (q _ _ e6)) ?_ ?_
        · rintro j y H8 hj ⟨s8, d8⟩
          have hjc : j < hs.length := by
            have q := (List.getElem?_eq_some_iff.mp hj).1
            rwa [List.length_map] at q
          have ey : y = .ref hs[j] := by
            rw [List.getElem?_map, List.getElem?_eq_getElem hjc] at hj
            exact (Option.some.inj hj).symm
          subst ey
          obtain ⟨h, h1, h2⟩ := Paired.get hT6 (List.getElem?_eq_getElem hjc)
          obtain ⟨z, hz⟩ := Option.isSome_iff_exists.mp (hsome h (List.mem_of_getElem? h1))
          have dg := LeftAt.get (s8 _ _ l6) (s8 _ _ h2)
          rw [hz] at dg
          refine ⟨rfl, ?_⟩
          dsimp only [tYes]
          rw [if_pos rfl]
          refine ⟨_, rfl, _, rfl, d, .int z, rfl, dg, _, d8, szl (by rw [List.length_map, List.length_map, List.length_take]; omega), Same.mut s8 hD, ?_⟩
          rw [upd_same, take_snoc h1, List.map_append, List.map_append]
          show _ = some (HO.lst (_ ++ [V.int ((getE L h).getD 0)]))
          rw [hz]
          rfl
        · rintro H8 ⟨s8, d8⟩
          rw [List.length_map, hsl, List.take_length] at d8
          have S8 := s6.trans s8
          have hvpos : 0 < ((halvesF t.way).map fun h => (getE L h).getD 0).length := by
            have h1 : halvesF t.way ≠ [] := fun z => by
              have h2 := (List.append_eq_nil_iff.mp z).2
              have h4 := congrArg List.length (List.map_eq_nil_iff.mp h2)
              rw [List.length_drop] at h4
              have := TT.two
              simp at h4
              omega
            rw [List.length_map]
            exact List.length_pos_iff.mpr h1
          refine ⟨D, _, _, rfl, SqL.of d8, ints_dp _, by rw [List.length_map]; exact hvpos, fun y hy => ?_, fun y hy z hz => ?_, fun x hx => ?_⟩
          · obtain ⟨u, _, rfl⟩ := List.mem_map.mp hy
            exact ⟨(by intro z; cases z), Nat.zero_le _⟩
          · obtain ⟨u, _, rfl⟩ := List.mem_map.mp hy
            obtain ⟨u', _, rfl⟩ := List.mem_map.mp hz
            rfl
          have ex := leastI_at hx
          subst ex
          have em : leastI ((halvesF t.way).map fun h => (getE L h).getD 0) = manyF L t.way := rfl
          rw [em]
          dsimp only [gName]
          -- told.append
          refine ⟨_, rfl, .inl ⟨rfl, _, SqL.of (S8 _ _ q5)⟩, _, rfl, _, rfl, _, rfl, (by show 3 ≤ sizeLine; decide), fun p9 hp9 => ?_⟩
          refine alloc hp9 fun H9 s9 e9 => ?_
          have et9 := (S8.trans s9) _ _ q5
          have kp : Kp H9 (upd H9 tl (.lst (es.map V.ref ++ [V.ref p9]))) := Kp.lst et9
          have wl := Paired.length w5
          have S9 := S8.trans s9
          refine ⟨tl, _, _, rfl, rfl, et9, szl (by rw [List.length_map]; omega), ?_⟩
          -- take_halves
          have ndtl : d ≠ tl := fun z => by
            have l5' : H5 d = some _ := l5
            rw [z, q5] at l5'; cases l5'
          have l9 := S9 _ _ l5
          have b9 := S9 _ _ hb3
          have ntt : tw ≠ tl := fun z => by rw [z, q5] at hb3; cases hb3
          refine ⟨_, rfl, _, rfl, _, rfl, d, tw, L, t.way, _, rfl, by show upd _ _ _ _ = _; rw [upd_ne ndtl]; exact l9, by omega, by rw [upd_ne ntt]; exact b9, tw0, by omega, hsome, fun H10 b10 l10 => ?_⟩
          -- ways_to_take
          have S10 : Same1 H H10 := fun q o e => b10 _ _ (by rw [upd_ne (fun z => by rw [z, ntl] at e; cases e)]; exact S9 _ _ (s5 _ _ e)) (fun z => by rw [z, ndH] at e; cases e)
          refine ⟨_, rfl, _, rfl, _, rfl, a, d, p, W, _, rfl, hP.kp (Kp.same S10), g, w2, w24, l10, fun fl' bs' H11 s11 nfl' e11 t11 => ?_⟩
          dsimp only [gName]
          have k10 : ∀ q o, H9 q = some o → q ≠ tl → q ≠ d → H11 q = some o := fun q o e n1 n2 => s11 _ _ (b10 _ _ (by rw [upd_ne n1]; exact e) n2)
          have hyl : (takeH L t.way (manyF L t.way)).length = L.length := by
            have := congrArg List.length (takeH_keys (m := manyF L t.way) v5.ok y1)
            rwa [List.length_map, List.length_map] at this
          refine ⟨n, Nat.lt_succ_self n, _, _, _, _, _, takeH L t.way (manyF L t.way), fl', bs', es ++ [p9], M ++ [⟨t.sort, t.way, manyF L t.way⟩], rfl, S10.trans s11, s11 _ _ l10, y4, by rw [hyl]; exact hll, e11, t11, ?_, ?_, by omega, by rw [List.length_append]; show M.length + 1 + n ≤ 200; omega, by rw [List.append_assoc]; exact hR⟩
          · rw [List.map_append]
            exact s11 _ _ (b10 _ _ upd_same ndtl.symm)
          · have kk : Kp H9 H11 := fun q xs e => ?_
            refine Paired.app (EntsAt.kp w5 ((Kp.same S9).trans kk)) (Paired.one ⟨tw, kk _ _ e9, kk _ _ b9⟩)
            refine k10 _ _ e (fun z => ?_) (fun z => ?_)
            · rw [z, et9] at e; cases e
            · have l9' : H9 d = some _ := l9
              rw [z, l9'] at e; cases e
end
end DL
namespace DL
open PySem PySem.Spec L2 DLR
/-! ### a paper bounds what each laying with one home for each worth takes -/
def actOne (y : Lay) (rows : List Row) (x : Nat) : Int := if (rows.getD x .stop).uses = true then useF y ((y.places.getD x 0 : Nat) : Int) (rows.getD x .stop) - ((y.places.getD x 0 : Nat) : Int) else 1
def actF (y : Lay) (rows : List Row) (h : List Nat) : Int := if h.length = 1 then actOne y rows (h.headD 0) else costF y rows (h.headD 0) (h.getD 1 0) - actOne y rows (h.headD 0)
def OneHome (y : Lay) (rows : List Row) : Prop := ∀ x, (rows.getD x .stop).uses = true → ∃ h, y.homes.getD (wNo (rows.getD x .stop)) [] = [h]
theorem use_one {y : Lay} {rows : List Row} (oh : OneHome y rows) {x : Nat} (hu : (rows.getD x .stop).uses = true) (read : Int) : ∃ h, y.homes.getD (wNo (rows.getD x .stop)) [] = [h] ∧ useF y read (rows.getD x .stop) = fb (read + 1) h y.wide := by
  obtain ⟨h, e⟩ := oh x hu
  refine ⟨h, e, ?_⟩
  generalize rows.getD x .stop = r at hu e ⊢
  cases r with
  | load v n =>
    have e' : y.homes.getD v [] = [h] := e
    show minL (comesL (y.homes.getD v []) read y.wide) = _
    rw [e']
    rfl
  | add v n =>
    have e' : y.homes.getD v [] = [h] := e
    show minL (comesL (y.homes.getD v []) read y.wide) = _
    rw [e']
    rfl
  | take v n =>
    have e' : y.homes.getD v [] = [h] := e
    show minL (comesL (y.homes.getD v []) read y.wide) = _
    rw [e']
    rfl
  | store v n =>
    have e' : y.homes.getD v [] = [h] := e
    show maxL (comesL (y.homes.getD v []) read y.wide) = _
    rw [e']
    rfl
  | _ => cases hu
theorem fb_dvd (now : Int) (pl W : Nat) : (W : Int) ∣ fb now pl W - (pl : Int) := by
  unfold fb
  have h := Int.mul_ediv_add_emod ((pl : Int) - now) (W : Int)
  refine ⟨-(((pl : Int) - now) / (W : Int)), ?_⟩
  rw [Int.mul_neg]
  omega
theorem act_low {y : Lay} {rows : List Row} (oh : OneHome y rows) (w0 : 0 < y.wide) (h : List Nat) : leastHalfF rows h ≤ actF y rows h := by
  have one : ∀ x, 1 ≤ actOne y rows x := fun x => by
    unfold actOne
    by_cases c : (rows.getD x .stop).uses = true
    · rw [if_pos c]
      obtain ⟨hm, _, e⟩ := use_one oh c ((y.places.getD x 0 : Nat) : Int)
      rw [e]
      have := (fb_ge (now := ((y.places.getD x 0 : Nat) : Int) + 1) (place := hm) w0).1
      omega
    · rw [if_neg c]; exact Int.le_refl _
  unfold leastHalfF actF
  by_cases c : h.length = 1
  · rw [if_pos c, if_pos c]; exact one _
  · rw [if_neg c, if_neg c]
    unfold costF
    have hb := (fb_ge (now := behindF y (rows.getD (h.headD 0) .stop) ((y.places.getD (h.headD 0) 0 : Nat) : Int)) (place := y.places.getD (h.getD 1 0) 0) w0).1
    unfold behindF at hb ⊢
    unfold actOne
    by_cases d : (rows.getD (h.headD 0) .stop).uses = true
    · rw [if_pos d, if_pos d]
      omega
    · rw [if_neg d, if_neg d]
      have : useF y ((y.places.getD (h.headD 0) 0 : Nat) : Int) (rows.getD (h.headD 0) .stop) = ((y.places.getD (h.headD 0) 0 : Nat) : Int) := by
        generalize rows.getD (h.headD 0) .stop = r at d
        cases r <;> first | rfl | exact absurd rfl d
      rw [this] at hb ⊢
      omega
def posF (y : Lay) (rows : List Row) (x : Nat) : Int := ((y.places.getD x 0 : Nat) : Int) + actOne y rows x
theorem step_dvd (y : Lay) (rows : List Row) (b t : Nat) : (y.wide : Int) ∣ actF y rows [b, t] + actF y rows [t] - (posF y rows t - posF y rows b) := by
  have e : actF y rows [b, t] + actF y rows [t] - (posF y rows t - posF y rows b) = fb (behindF y (rows.getD b .stop) ((y.places.getD b 0 : Nat) : Int)) (y.places.getD t 0) y.wide - ((y.places.getD t 0 : Nat) : Int) := by
    show (costF y rows b t - actOne y rows b) + actOne y rows t - _ = _
    unfold posF costF
    omega
  rw [e]
  exact fb_dvd _ _ _
theorem way_dvd (y : Lay) (rows : List Row) : ∀ (x : Nat) (w : List Nat), (y.wide : Int) ∣ ((halvesF (x :: w)).map (actF y rows)).sum - (posF y rows ((x :: w).getLastD 0) - posF y rows x)
  | x, [] => by
    show (y.wide : Int) ∣ 0 - (posF y rows x - posF y rows x)
    rw [Int.sub_self, Int.sub_self]
    exact Int.dvd_zero _
  | x, t :: w => by
    have ih := way_dvd y rows t w
    have s := step_dvd y rows x t
    have e : ((halvesF (x :: t :: w)).map (actF y rows)).sum = actF y rows [x, t] + actF y rows [t] + ((halvesF (t :: w)).map (actF y rows)).sum := by
      have e1 : pairsF (x :: t :: w) = (x, t) :: pairsF (t :: w) := rfl
      unfold halvesF
      rw [e1]
      show (List.map _ (([x, t] :: _) ++ ([t] :: _))).sum = _
      rw [List.map_append, List.map_append, List.sum_append, List.sum_append, List.map_cons, List.sum_cons, List.map_cons, List.sum_cons]
      show actF y rows [x, t] + _ + (actF y rows [t] + _) = _
      have : (t :: w).drop 1 = w := rfl
      rw [this]
      omega
    have el : (x :: t :: w).getLastD 0 = (t :: w).getLastD 0 := rfl
    rw [e, el]
    have := Int.dvd_add s ih
    have e2 : actF y rows [x, t] + actF y rows [t] - (posF y rows t - posF y rows x) + (((halvesF (t :: w)).map (actF y rows)).sum - (posF y rows ((t :: w).getLastD 0) - posF y rows t)) = actF y rows [x, t] + actF y rows [t] + ((halvesF (t :: w)).map (actF y rows)).sum - (posF y rows ((t :: w).getLastD 0) - posF y rows x) := by omega
    rw [← e2]
    exact this
theorem act_div {y : Lay} {rows : List Row} (oh : OneHome y rows) (e : Entry) (L : Left) (h : entB rows L e = true) : (y.wide : Int) ∣ ((halvesF e.way).map (actF y rows)).sum := by
  unfold entB at h
  obtain ⟨h1, h2⟩ := Bool.and_eq_true_iff.mp h
  obtain ⟨_, h3⟩ := Bool.and_eq_true_iff.mp h2
  have w2 : 2 ≤ e.way.length := of_decide_eq_true (Bool.and_eq_true_iff.mp h1).1
  obtain ⟨x, w, ew⟩ : ∃ x w, e.way = x :: w := by
    cases hw : e.way with
    | nil => rw [hw] at w2; exact absurd w2 (by simp)
    | cons x w => exact ⟨x, w, rfl⟩
  rw [ew] at h3 ⊢
  have d := way_dvd y rows x w
  have hx : (x :: w).headD 0 = x := rfl
  rw [hx] at h3
  suffices q : (y.wide : Int) ∣ posF y rows ((x :: w).getLastD 0) - posF y rows x by
    have := Int.dvd_add d q
    rwa [Int.sub_add_cancel] at this
  by_cases c : e.sort = "row"
  · rw [if_pos c] at h3
    rw [← of_decide_eq_true h3, Int.sub_self]
    exact Int.dvd_zero _
  · rw [if_neg c] at h3
    have h4 := (Bool.and_eq_true_iff.mp h3).2
    unfold useOneF at h4
    obtain ⟨h5, h6⟩ := Bool.and_eq_true_iff.mp h4
    have h7 := h5
    obtain ⟨h8, h6⟩ := Bool.and_eq_true_iff.mp h6
    have h6 : wNo (rows.getD x .stop) = wNo (rows.getD ((x :: w).getLastD 0) .stop) := of_decide_eq_true h6
    have one : ∀ z, (rows.getD z .stop).uses = true → ∃ hm, y.homes.getD (wNo (rows.getD z .stop)) [] = [hm] ∧ (y.wide : Int) ∣ posF y rows z - (hm : Int) := fun z hz => by
      obtain ⟨hm, e1, e2⟩ := use_one oh hz ((y.places.getD z 0 : Nat) : Int)
      refine ⟨hm, e1, ?_⟩
      have e3 : posF y rows z = fb (((y.places.getD z 0 : Nat) : Int) + 1) hm y.wide := by
        unfold posF actOne
        rw [if_pos hz, e2]
        omega
      rw [e3]
      exact fb_dvd _ _ _
    obtain ⟨m1, a1, d1⟩ := one x h7
    obtain ⟨m2, a2, d2⟩ := one _ h8
    rw [← h6, a1] at a2
    have em : m1 = m2 := (List.cons.inj a2).1
    subst em
    have := Int.dvd_sub d2 d1
    rwa [show posF y rows ((x :: w).getLastD 0) - (m1 : Int) - (posF y rows x - (m1 : Int)) = posF y rows ((x :: w).getLastD 0) - posF y rows x by omega] at this
theorem tgt_ltN {r : Row} {n N : Nat} (h : r.ok n N) : ∀ t ∈ tgt r, t < N := fun t ht => by
  have hm := (tgt_mem r t).mp ht
  cases r <;> simp_all [nx, Row.ok]
  all_goals first | omega | (rcases hm with e | e <;> omega)
theorem sum_swap (f : Nat → Int) (g : Nat × Nat → Nat) {N : Nat} : ∀ G : GoL, (∀ e ∈ G, g e.1 < N) → (G.map fun e => e.2 * f (g e.1)).sum = ((List.range N).map fun x => f x * sumG (fun q => decide (g q = x)) G).sum
  | [], _ => by
    have : ∀ l : List Nat, (l.map fun x => f x * sumG (fun q => decide (g q = x)) []).sum = 0 := fun l => by
      induction l with
      | nil => rfl
      | cons x l ih =>
        rw [List.map_cons, List.sum_cons, ih]
        show f x * 0 + 0 = 0
        omega
    rw [this]
    rfl
  | e :: G, h => by
    have ih := sum_swap f g G fun y hy => h y (List.mem_cons_of_mem _ hy)
    have he := h e List.mem_cons_self
    rw [List.map_cons, List.sum_cons, ih]
    have s1 : ∀ l : List Nat, (l.map fun x => f x * sumG (fun q => decide (g q = x)) (e :: G)).sum = (l.map fun x => if g e.1 = x then e.2 * f x else 0).sum + (l.map fun x => f x * sumG (fun q => decide (g q = x)) G).sum := fun l => by
      induction l with
      | nil => rfl
      | cons x l ih =>
        rw [List.map_cons, List.sum_cons, ih, List.map_cons, List.sum_cons, List.map_cons, List.sum_cons]
        have : f x * sumG (fun q => decide (g q = x)) (e :: G) = (if g e.1 = x then e.2 * f x else 0) + f x * sumG (fun q => decide (g q = x)) G := by
          unfold sumG
          rw [List.map_cons, List.sum_cons, Int.mul_add]
          refine congrArg (· + _) ?_
          by_cases c : g e.1 = x
          · rw [if_pos c, if_pos (decide_eq_true c), Int.mul_comm]
          · rw [if_neg c, if_neg (by simpa using c), Int.mul_zero]
        rw [this]
        omega
    have s2 : ∀ n, (((List.range n).map fun x => if g e.1 = x then e.2 * f x else 0)).sum = if g e.1 < n then e.2 * f (g e.1) else 0 := fun n => by
      induction n with
      | zero => rfl
      | succ n ih =>
        rw [List.range_succ, List.map_append, List.sum_append, ih]
        show _ + ((if g e.1 = n then e.2 * f n else 0) + 0) = _
        by_cases c : g e.1 = n
        · rw [if_pos c, if_neg (by omega), if_pos (by omega), c]; omega
        · rw [if_neg c]
          by_cases d : g e.1 < n
          · rw [if_pos d, if_pos (by omega)]; omega
          · rw [if_neg d, if_neg (by omega)]; omega
    rw [s1, s2, if_pos he]
theorem act_sum {p : Prog} {y : Lay} {G : GoL} (g : Good p) (gk : Goes p G) : wsumL (actF y p.rows) (leftF G) ≤ beatsF y p.rows G := by
  rw [left_wsum _ gk.nd]
  unfold beatsF
  obtain ⟨f', hf'⟩ : ∃ f' : Nat → Int, f' = fun x => actOne y p.rows x - 1 := ⟨_, rfl⟩
  have hto : ∀ e ∈ G, e.1.2 < p.rows.length := fun e he => by
    obtain ⟨k1, k2, _⟩ := gk.key e he
    rw [List.getD_eq_getElem?_getD, List.getElem?_eq_getElem k1] at k2
    exact tgt_ltN (g.ok _ (List.getElem_mem k1)) _ k2
  have w1 := sum_swap f' (·.2) (N := p.rows.length) G hto
  have w2 := sum_swap f' (·.1) (N := p.rows.length) G fun e he => (gk.key e he).1
  have r0 : 0 < p.rows.length := g.r1
  have fl : ∀ n, ((List.range n).map fun x => f' x * sumG (fun q => decide (q.2 = x)) G).sum - ((List.range n).map fun x => f' x * sumG (fun q => decide (q.1 = x)) G).sum = if 0 < n then - f' 0 else 0 := fun n => by
    induction n with
    | zero => rfl
    | succ n ih =>
      rw [List.range_succ, List.map_append, List.sum_append, List.map_append, List.sum_append, if_pos (Nat.succ_pos n)]
      have e1 : f' n * sumG (fun q => decide (q.2 = n)) G - f' n * sumG (fun q => decide (q.1 = n)) G = if n = 0 then - f' 0 else 0 := by
        rw [← Int.mul_sub]
        by_cases c : p.rows.getD n .stop = .stop
        · have : f' n = 0 := by
            rw [hf']
            show actOne y p.rows n - 1 = 0
            unfold actOne
            rw [c, if_neg (by decide)]
            rfl
          rw [this, Int.zero_mul]
          by_cases d : n = 0
          · subst d; rw [if_pos rfl, this]; rfl
          · rw [if_neg d]
        · have := gk.flow n c
          by_cases d : n = 0
          · rw [if_pos d] at this ⊢
            rw [show sumG (fun q => decide (q.2 = n)) G - sumG (fun q => decide (q.1 = n)) G = -1 by omega, d]
            omega
          · rw [if_neg d] at this ⊢
            rw [show sumG (fun q => decide (q.2 = n)) G - sumG (fun q => decide (q.1 = n)) G = 0 by omega, Int.mul_zero]
      show _ + (f' n * _ + 0) - (_ + (f' n * _ + 0)) = _
      by_cases d : n = 0
      · subst d
        rw [if_pos rfl] at e1
        rw [if_neg (by omega)] at ih
        omega
      · rw [if_neg d] at e1
        rw [if_pos (by omega)] at ih
        omega
  have fl := fl p.rows.length
  rw [if_pos r0, ← w1, ← w2] at fl
  have e3 : ∀ G : GoL, (G.map fun e => e.2 * (actF y p.rows [e.1.2] + actF y p.rows [e.1.1, e.1.2])).sum = (G.map fun e => e.2 * f' e.1.2).sum - (G.map fun e => e.2 * f' e.1.1).sum + (G.map fun e => e.2 * costF y p.rows e.1.1 e.1.2).sum := fun G => by
    induction G with
    | nil => rfl
    | cons e G ih =>
      rw [List.map_cons, List.sum_cons, ih, List.map_cons, List.sum_cons, List.map_cons, List.sum_cons, List.map_cons, List.sum_cons]
      have : e.2 * (actF y p.rows [e.1.2] + actF y p.rows [e.1.1, e.1.2]) = e.2 * f' e.1.2 - e.2 * f' e.1.1 + e.2 * costF y p.rows e.1.1 e.1.2 := by
        rw [← Int.mul_sub, ← Int.mul_add]
        refine congrArg _ ?_
        show actOne y p.rows e.1.2 + (costF y p.rows e.1.1 e.1.2 - actOne y p.rows e.1.1) = _
        rw [hf']
        show _ = actOne y p.rows e.1.2 - 1 - (actOne y p.rows e.1.1 - 1) + _
        omega
      rw [this]
      omega
  rw [e3]
  have e4 : (G.map fun e => e.2 * f' ((fun q : Nat × Nat => q.2) e.1)).sum = (G.map fun e => e.2 * f' e.1.2).sum := rfl
  have e5 : (G.map fun e => e.2 * f' ((fun q : Nat × Nat => q.1) e.1)).sum = (G.map fun e => e.2 * f' e.1.1).sum := rfl
  have e6 : actF y p.rows [0] = f' 0 + 1 := by
    rw [hf']
    show actOne y p.rows 0 = actOne y p.rows 0 - 1 + 1
    omega
  rw [e6]
  omega
theorem bound_beats {p : Prog} {y : Lay} {G : GoL} (g : Good p) (gk : Goes p G) (oh : OneHome y p.rows) (w0 : 0 < y.wide) {M : List Entry} (hM : ∀ e ∈ M, ∀ x ∈ e.way, x < p.rows.length) {v : Int} (h : boundF p.rows y.wide M 0 (leftF G) 0 = .inr v) : v ≤ beatsF y p.rows G := by
  have lo := left_inv g gk
  have h1 := bound_le (N := p.rows.length) w0 (fun h => .inl (act_low oh w0 h)) (fun e L he _ => act_div oh e L he) M 0 _ 0 v lo.ok lo.nn hM h
  have h2 := act_sum (y := y) g gk
  omega
end DL
namespace DL
open PySem PySem.Spec L2 DLR
/-! ### a way to the same row, or worth, again -/
abbrev sRound : Stmt := top 74
abbrev nRound : List Str := ["_law_d","_law_rows","_law_goes","_law_path","_law_uses","_law_turn","_law_some","_law_row","_law_other","_law_many"]
abbrev pRound : List Str := ["_law_d","_law_rows","_law_goes"]
abbrev FRound (K : Frg) (mg : Str → Option Value) := Fd K mg "_law_round" sRound pRound
def WayV (N : Nat) (H : Hp) (v : V) : Prop := v = .non ∨ ∃ (a t : Addr) (x : Str) (w : List Nat), v = .ref a ∧ H a = some (.tup [.str x, .ref t]) ∧ H t = some (.tup (w.map nI)) ∧ w.length ≤ 13 ∧ ∀ y ∈ w, y < N
def spRound (K : Frg) : Sp := fun vs H Q _ => ∃ (d sa : Addr) (ns : List Int) (ra l : Addr) (rbs bs : List Addr) (p : Prog) (G : GoL), vs = [.ref d, .ref ra, .ref l] ∧ Ent K H d sa ns ∧ H ra = some (.tup (rbs.map V.ref)) ∧ RowsAt H rbs p.rows ∧ Good p ∧
  H l = some (.lst (bs.map V.ref)) ∧ GoesAt H bs G ∧ Goes p G ∧ G ≠ [] ∧ G.length < 60 ∧ ∀ v H', Dc K H H' d sa ns → WayV p.rows.length H' v → Q v H'
theorem eq_nilN {K : Frg} {H : Hp} {l e : Addr} {w : List Nat} {Q : VK} (hl : H l = some (.lst (w.map nI))) (he : H e = some (.lst [])) (q : Q (.bl w.isEmpty) H) : rEqD K (.ref l) (.ref e) H Q := by
  have hl' : H l = some (.lst ((w.map fun n : Nat => (n : Int)).map V.int)) := by rw [hl, List.map_map]; rfl
  refine ⟨intsD (w.map fun n : Nat => (n : Int)), intsD [], .lst (SqL.of hl') (intsD_at _), .lst (SqL.of he) .nil, intsD_shaped _, intsD_shaped _, ?_⟩
  have e : PyData.eqv (intsD (w.map fun n : Nat => (n : Int))) (intsD []) = w.isEmpty := by cases w <;> rfl
  rw [e]; exact q
theorem dice_ne {H : Hp} {d sa l : Addr} {bs : List Addr} (h : DiceV H d sa) (hl : H l = some (.lst (bs.map V.ref))) : l ≠ d := fun z => by
  obtain ⟨i, m, r, e, _⟩ := h
  rw [z, e] at hl
  have q : ([.ref sa, .int i, .int m, .int r] : List V) = bs.map V.ref := by injection (Option.some.inj hl)
  cases bs with
  | nil => cases q
  | cons b bs =>
    have q2 := (List.cons.inj q).2
    cases bs with
    | nil => cases q2
    | cons c cs => cases (List.cons.inj q2).1
section
variable {P : Program} {w : World} {K : PySem.W.Frag} {mg : Str → Option Value} {base : Heap}
theorem scRound : FnScope nRound pRound (defScope sRound) := ⟨rfl, rfl, rfl, by decide +kernel, rfl, by decide +kernel, by decide +kernel⟩
theorem ok_round (c : FRound K mg) (cNext : FNext K mg) (T : Bt mg) : FnOk P w K mg base CX0 2 c.f c.fd pRound (spRound K) := by
  have GNext : FnOk P w K mg base CX0 1 cNext.f cNext.fd ["_law_dice_here", "_law_many"] (spNext K) := ok_next cNext.F T
  refine c.F.ok scRound (fun vs H Q E h => ?_) (fun cdv A outer s H vs Q E hr h => ?_)
  · obtain ⟨d, sa, ns, ra, l, rbs, bs, p, G, rfl, _⟩ := h
    rfl
  · obtain ⟨d, sa, ns, ra, l, rbs, bs, p, G, rfl, hE, hra, hR, g, hl, hG, gk, gne, g60, k⟩ := h
    refine ⟨_, (pss_cons (ps_set (i := 3) scRound.nd rfl (Or.inr rfl) (pe_lst (pa_cons (pe_ix ix_tup (pe_ix ix_list (pv 2) (pe_call GNext (hr.mono (by first | omega | decide)) (by rfl) cNext.m cNext.F.kp cNext.b .nil pass0 (pa_cons (pv 0) (pa_cons (pe_callB call_len_seq (by rfl) T.len PySem.boot_len (pa_cons (pv 2) pa_nil)) pa_nil))) (fun _ _ => rfl)) pe_int (fun _ _ => rfl)) pa_nil)))
      (pss_cons (ps_set (i := 4) scRound.nd rfl (Or.inl rfl) (pe_tup (pa_cons pe_str (pa_cons pe_str (pa_cons pe_str (pa_cons pe_str pa_nil))))))
      (pss_cons (ps_for PassesOwn.never rfl (pi_range1 rfl T.range (pa_cons pe_int pa_nil)) (pg_name (i := 5) scRound.nd rfl (Or.inl rfl))
          (pss_cons (ps_setLc (i := 6) (own := [("_law_row", 7), ("_law_other", 8), ("_law_many", 9)]) (g := gTup K 3 (gCons (gName 7) (gCons (gName 8) (gCons (gName 9) gNil)))) rfl scRound.nd rfl rfl (sw_true rfl rfl rfl (by decide +kernel)) (pi_list (pv 2)) (blkOk_by (N := nRound) (sc := defScope sRound) (by decide +kernel)) (fun _ _ _ _ _ => (pg_tupK K rfl rfl (pgs_cons (pg_name (i := 7) scRound.nd rfl (Or.inl rfl)) (pgs_cons (pg_name (i := 8) scRound.nd rfl (Or.inl rfl)) (pgs_cons (pg_name (i := 9) scRound.nd rfl (Or.inl rfl)) pgs_nil))))) (fun _ _ _ _ _ => (pts_one (pt_cmpR op_eq (pv 7) (pe_ix (ix_listK K rfl) (pv 3) (pe_un un_neg pe_int) (fun _ _ => rfl)) (nomark _)))) (fun _ _ _ _ _ => (pv 8)))
          (pss_cons (ps_if (pt_cmpR (op_eqD hr.units) (pv 6) (pe_lst pa_nil) (nomark _))
              (pss_one (ps_ret pe_non))
              pss_nil)
          (pss_cons (ps_expr (pe_bm PySem.F.plainAttrs_list PySem.F.slot_list_append PySem.F.type_list_append mt_append (pv 3) (pa_cons (pe_ix ix_list (pv 6) (pe_call GNext (hr.mono (by first | omega | decide)) (by rfl) cNext.m cNext.F.kp cNext.b .nil pass0 (pa_cons (pv 0) (pa_cons (pe_callB call_len_seq (by rfl) T.len PySem.boot_len (pa_cons (pv 6) pa_nil)) pa_nil))) (fun _ _ => rfl)) pa_nil)))
          (pss_cons (ps_if (PW.pt (pw_and (pt_cmpR op_eq (pe_ix ix_list (pv 3) (pe_un un_neg pe_int) (fun _ _ => rfl)) (pe_ix ix_list (pv 3) pe_int (fun _ _ => rfl)) (nomark _)) (pw_and1 (pt_cmpR op_eq (pe_call GNext (hr.mono (by first | omega | decide)) (by rfl) cNext.m cNext.F.kp cNext.b .nil pass0 (pa_cons (pv 0) (pa_cons pe_int pa_nil))) pe_int (nomark _)))))
              (pss_one (ps_ret (pe_tup (pa_cons pe_str (pa_cons (pe_callTy call_tuple_of (by rfl) T.tuple (by decide +kernel) (pa_cons (pv 3) pa_nil)) pa_nil)))))
              pss_nil)
          (pss_one (ps_if (PW.pt (pw_and (pt_cmpR op_in_seq (pe_ix ix_tup (pe_ix ix_tup (pv 1) (pe_ix ix_list (pv 3) pe_int (fun _ _ => rfl)) (fun _ _ => rfl)) pe_int (fun _ _ => rfl)) (pv 4) rfl) (pw_and (pt_cmpR op_in_seq (pe_ix ix_tup (pe_ix ix_tup (pv 1) (pe_ix ix_list (pv 3) (pe_un un_neg pe_int) (fun _ _ => rfl)) (fun _ _ => rfl)) pe_int (fun _ _ => rfl)) (pv 4) rfl) (pw_and1 (pt_cmpR op_eq (pe_ix ix_tup (pe_ix ix_tup (pv 1) (pe_ix ix_list (pv 3) pe_int (fun _ _ => rfl)) (fun _ _ => rfl)) pe_int (fun _ _ => rfl)) (pe_ix ix_tup (pe_ix ix_tup (pv 1) (pe_ix ix_list (pv 3) (pe_un un_neg pe_int) (fun _ _ => rfl)) (fun _ _ => rfl)) pe_int (fun _ _ => rfl)) (nomark _))))))
              (pss_one (ps_ret (pe_tup (pa_cons pe_str (pa_cons (pe_callTy call_tuple_of (by rfl) T.tuple (by decide +kernel) (pa_cons (pv 3) pa_nil)) pa_nil)))))
              pss_nil)))))))
      (pss_one (ps_ret pe_non))))), ?_⟩
    have hbl := Paired.length hG
    have hbr := Paired.length hR
    have hto : ∀ e ∈ G, e.1.2 < p.rows.length := fun e he => by
      obtain ⟨k1, k2, _⟩ := gk.key e he
      rw [List.getD_eq_getElem?_getD, List.getElem?_eq_getElem k1] at k2
      exact tgt_ltN (g.ok _ (List.getElem_mem k1)) _ k2
    have g0 : 0 < G.length := List.length_pos_iff.mpr gne
    have nld : l ≠ d := dice_ne hE.dice hl
    have atN : ∀ {w : List Nat} {n : Int}, 0 ≤ n → n < (w.length : Int) → atI (w.map nI) n = some (nI (w.getD n.toNat 0)) ∧ w.getD n.toNat 0 ∈ w := fun {w n} h0 h1 => by
      have hn : n.toNat < w.length := by omega
      have e : n = ((n.toNat : Nat) : Int) := by omega
      refine ⟨?_, ?_⟩
      · rw [e]
        refine atI_nat ?_
        rw [List.getElem?_map, Int.toNat_natCast, List.getElem?_eq_getElem hn, List.getD_eq_getElem?_getD, List.getElem?_eq_getElem hn]
        rfl
      · rw [List.getD_eq_getElem?_getD, List.getElem?_eq_getElem hn]
        exact List.getElem_mem hn
    -- path = [goes[..][0]]
    refine ⟨_, rfl, _, rfl, _, rfl, l, _, rfl, .inl (SqL.of hl), d, sa, ns, _, rfl, hE, by rw [List.length_map]; omega, by rw [List.length_map]; omega, fun n H1 n0 n1 C1 => ?_⟩
    rw [List.length_map] at n1
    obtain ⟨m, rfl⟩ : ∃ m : Nat, n = (m : Int) := ⟨n.toNat, by omega⟩
    have hn : m < bs.length := by omega
    have hl1 := C1.but _ _ nld hl
    obtain ⟨e, hq1, hq2⟩ := Paired.get (hG.kp C1.kp) (List.getElem?_eq_getElem hn)
    have hem : e ∈ G := List.mem_of_getElem? hq1
    have hat : atI (bs.map V.ref) (m : Int) = some (.ref bs[m]) := atI_nat (by rw [List.getElem?_map, List.getElem?_eq_getElem hn]; rfl)
    refine ⟨l, _, _, _, rfl, rfl, SqL.of hl1, hat, _, _, _, _, rfl, rfl, SqT.of hq2, at0, (by show 1 ≤ sizeLine; decide), fun pl hpl => ?_⟩
    have C2 := C1.new hpl (o := .lst [nI e.1.1])
    have npl := C1.here hpl
    dsimp only [gName]
    refine ⟨(by show 4 ≤ sizeLine; decide), fun ua hua => ?_⟩
    refine alloc hua fun H3 s3 e3 => ?_
    dsimp only [gName]
    have C3 := C2.same s3
    refine ⟨_, rfl, by decide, by decide, ?_⟩
    refine for_range (lo := 0) (n := (12 : Int).toNat) (fun i σ H' => ∃ (x5 x6 : Option V) (w : List Nat), σ = [some (.ref d), some (.ref ra), some (.ref l), some (.ref pl), some (.ref ua), x5, x6, none, none, none] ∧ Dc K H H' d sa ns ∧ H' pl = some (.lst (w.map nI)) ∧ w.length = i + 1 ∧ (∀ y ∈ w, y < p.rows.length) ∧ H' ua = some (.tup [.str "load", .str "add", .str "take", .str "store"]))
      ⟨none, none, [e.1.1], rfl, C3, s3 _ _ upd_same, rfl, fun y hy => by rw [List.mem_singleton.mp hy]; exact (gk.key e hem).1, e3⟩ ?_ ?_
    · rintro i σ H4 hi ⟨x5, x6, w, rfl, C4, hpw, hwl, hw, hua4⟩
      have hi : i < 12 := hi
      have hl4 := C4.but _ _ nld hl
      have wne : w ≠ [] := fun z => by rw [z] at hwl; cases hwl
      have hd := headD_at wne
      have la := lastD_at wne
      dsimp only [gName]
      refine ⟨_, rfl, l, rfl, ⟨_, SqL.of hl4⟩, fun D hD => ?_⟩
      refine lc_list (K := K) (a := l) (xs := bs.map V.ref) (fun j H' => ∃ ys : List Nat, Same1 H4 H' ∧ H' D = some (.lst (ys.map nI)) ∧ ys.length ≤ j ∧ ∀ y ∈ ys, y < p.rows.length) ⟨[], Same.new hD, upd_same, Nat.le_refl _, fun y hy => by cases hy⟩ (fun j H' _ ⟨_, q, _⟩ => SqL.of (q _ _ hl4)) ?_ ?_
      · rintro j y H5 hj ⟨ys, s5, d5, yl, ym⟩
        have hjc : j < bs.length := by
          have q := (List.getElem?_eq_some_iff.mp hj).1
          rwa [List.length_map] at q
        have ey : y = .ref bs[j] := by
          rw [List.getElem?_map, List.getElem?_eq_getElem hjc] at hj
          exact (Option.some.inj hj).symm
        subst ey
        obtain ⟨f, h1, h2⟩ := Paired.get (hG.kp (C4.kp.trans (Kp.same s5))) (List.getElem?_eq_getElem hjc)
        refine ⟨_, _, rfl, SqT.of h2, rfl, _, _, rfl, _, _, rfl, _, _, rfl, rfl, ?_⟩
        refine ⟨rfl, _, rfl, _, rfl, _, rfl, pl, _, _, _, rfl, rfl, SqL.of (s5 _ _ hpw), la, rfl, _, rfl, ite2 (fun c => ?_) (fun c => ?_)⟩
        · refine ⟨_, rfl, _, d5, szl (by rw [List.length_map]; omega), ys ++ [f.1.2], Same.mut s5 hD, by rw [upd_same, List.map_append]; rfl, by rw [List.length_append]; show ys.length + 1 ≤ j + 1; omega, all_snoc ym (hto f (List.mem_of_getElem? h1))⟩
        · exact ⟨ys, s5, d5, by omega, ym⟩
      · rintro H5 ⟨ys, s5, d5, yl, ym⟩
        rw [List.length_map, hbl] at yl
        have C5 := C4.same s5
        dsimp only [gName]
        refine ⟨_, rfl, Nat.zero_le _, fun e6 he6 => ?_⟩
        refine alloc he6 fun H6 s6 e6' => ?_
        have C6 := C5.same s6
        refine eq_nilN (s6 _ _ d5) e6' ⟨_, rfl, ?_⟩
        by_cases yn : ys = []
        · subst yn
          exact iteT (k _ H6 C6 (.inl rfl))
        have yie : ys.isEmpty = false := by
          cases ys with
          | nil => exact absurd rfl yn
          | cons y0 ys => rfl
        rw [yie]
        refine iteF ?_
        dsimp only [tNext]
        have y0 : 0 < ys.length := List.length_pos_iff.mpr yn
        have S46 := s5.trans s6
        have hDH : H D = none := C4.here hD
        have plH : H pl = none := npl
        have d6 := s6 _ _ d5
        refine ⟨_, rfl, .inl ⟨rfl, _, SqL.of (S46 _ _ hpw)⟩, _, rfl, _, rfl, _, rfl, D, _, rfl, .inl (SqL.of d6), d, sa, ns, _, rfl, C6.ent, by rw [List.length_map]; omega, by rw [List.length_map]; omega, fun m2 H7 m20 m21 C7 => ?_⟩
        rw [List.length_map] at m21
        obtain ⟨q1, q2⟩ := atN m20 m21
        have C47 := C6.trans C7
        have d7 := C7.but _ _ (C6.ned hDH) d6
        have p7 := C7.but _ _ (C6.ned plH) (S46 _ _ hpw)
        refine ⟨D, _, _, _, rfl, rfl, SqL.of d7, q1, pl, _, _, rfl, rfl, p7, szl (by rw [List.length_map]; omega), ?_⟩
        obtain ⟨y, hy⟩ : ∃ y, y = ys.getD m2.toNat 0 := ⟨_, rfl⟩
        rw [← hy] at q2 ⊢
        have hyN := ym y q2
        obtain ⟨w2, hw2⟩ : ∃ w2, w2 = w ++ [y] := ⟨_, rfl⟩
        have hup : upd H7 pl (.lst (w.map nI ++ [nI y])) = upd H7 pl (.lst (w2.map nI)) := by rw [hw2, List.map_append]; rfl
        rw [hup]
        have C8 : Dc K H (upd H7 pl (.lst (w2.map nI))) d sa ns := C47.mut plH
        have npl7 : ∀ {a : Addr} {xs : List V}, H7 a = some (.tup xs) → (upd H7 pl (.lst (w2.map nI))) a = some (.tup xs) := fun {a xs} e => by rw [upd_ne (fun z => by rw [z, p7] at e; cases e)]; exact e
        have u8 := npl7 (C7.kp _ _ (S46 _ _ hua4))
        have w2l : w2.length = i + 2 := by rw [hw2, List.length_append, hwl]; rfl
        have w2m : ∀ z ∈ w2, z < p.rows.length := by rw [hw2]; exact all_snoc hw hyN
        have w2ne : w2 ≠ [] := fun z => by rw [z] at w2l; cases w2l
        have p8 : (upd H7 pl (.lst (w2.map nI))) pl = some (.lst (w2.map nI)) := upd_same
        revert C8 u8 p8
        generalize upd H7 pl (.lst (w2.map nI)) = H8
        intro C8 u8 p8
        have hd2 := headD_at w2ne
        have la2 := lastD_at w2ne
        have way : ∀ (x : Str) (H9 : Hp) (t : Addr), Dc K H H9 d sa ns → H9 pl = some (.lst (w2.map nI)) → H9 t = none → ∀ t2, (upd H9 t (.tup (w2.map nI))) t2 = none → Q (.ref t2) (upd (upd H9 t (.tup (w2.map nI))) t2 (.tup [.str x, .ref t])) := fun x H9 t C9 p9 ht t2 ht2 => by
          refine k _ _ ((C9.new ht).new ht2) (.inr ⟨t2, t, x, w2, rfl, upd_same, ?_, by omega, w2m⟩)
          rw [upd_ne (fun z => by rw [z, upd_same] at ht2; cases ht2)]
          exact upd_same
        dsimp only
        refine if_elim (fun _ H9 => Dc K H8 H9 d sa ns) ?_ ?_
        · intro bb H9 C9
          have C89 := C8.trans C9
          have p9 := C9.but _ _ (C8.ned plH) p8
          cases bb with
          | true =>
            refine iteT ⟨_, rfl, pl, _, rfl, .inl ⟨SqL.of p9, fun t ht => ⟨(by show 2 ≤ sizeLine; decide), fun t2 ht2 => ?_⟩⟩⟩
            exact way _ H9 t C89 p9 ht t2 ht2
          | false =>
            refine iteF ?_
            dsimp only [tNext]
            have u9 := C9.kp _ _ u8
            refine if_elim (fun _ H10 => H10 = H9) ?_ ?_
            · rintro bb H10 rfl
              cases bb with
              | true =>
                refine iteT ⟨_, rfl, pl, _, rfl, .inl ⟨SqL.of p9, fun t ht => ⟨(by show 2 ≤ sizeLine; decide), fun t2 ht2 => ?_⟩⟩⟩
                exact way _ _ t C89 p9 ht t2 ht2
              | false =>
                refine iteF ?_
                exact ⟨_, _, w2, rfl, C89, p9, w2l, w2m, u9⟩
            · intro F' hF
              have hra9 := C89.kp _ _ hra
              have rowAt : ∀ x, x < p.rows.length → ∃ b, (rbs.map V.ref)[x]? = some (.ref b) ∧ H9 b = some (.tup (rowVs (p.rows.getD x .stop))) := fun x hx => by
                have hxb : x < rbs.length := by omega
                obtain ⟨r, h1, h2⟩ := Paired.get (hR.kp C89.kp) (List.getElem?_eq_getElem hxb)
                have er : p.rows.getD x .stop = r := by rw [List.getD_eq_getElem?_getD, h1]; rfl
                exact ⟨rbs[x], by rw [List.getElem?_map, List.getElem?_eq_getElem hxb]; rfl, by rw [er]; exact h2⟩
              obtain ⟨b1, z1, r1⟩ := rowAt _ (w2m _ (headD_mem w2ne))
              obtain ⟨b2, z2, r2⟩ := rowAt _ (w2m _ (lastD_mem w2ne))
              have i1 := Row.in4 (p.rows.getD (w2.headD 0) .stop)
              have i2 := Row.in4 (p.rows.getD (w2.getLastD 0) .stop)
              refine ⟨_, rfl, _, rfl, pl, _, _, _, rfl, rfl, SqL.of p9, hd2, ra, _, _, _, rfl, rfl, SqT.of hra9, atI_nat z1, b1, _, _, _, rfl, rfl, SqT.of r1, atI_nat (j := 0) (Row.w0 _), _, rfl, ua, _, rfl, .inr (SqT.of u9), rfl, rfl, _, rfl, ite2 (fun c1 => ?_) (fun _ => hF _ _ rfl)⟩
              refine ⟨_, rfl, _, rfl, _, rfl, pl, _, _, _, rfl, rfl, SqL.of p9, la2, ra, _, _, _, rfl, rfl, SqT.of hra9, atI_nat z2, b2, _, _, _, rfl, rfl, SqT.of r2, atI_nat (j := 0) (Row.w0 _), _, rfl, ua, _, rfl, .inr (SqT.of u9), rfl, rfl, _, rfl, ite2 (fun c2 => ?_) (fun _ => hF _ _ rfl)⟩
              have c1 : (p.rows.getD (w2.headD 0) .stop).uses = true := by rw [← i1]; exact c1
              have c2 : (p.rows.getD (w2.getLastD 0) .stop).uses = true := by rw [← i2]; exact c2
              refine ⟨_, rfl, _, rfl, pl, _, _, _, rfl, rfl, SqL.of p9, hd2, ra, _, _, _, rfl, rfl, SqT.of hra9, atI_nat z1, b1, _, _, _, rfl, rfl, SqT.of r1, atI_nat (j := 1) (worth_at c1), _, rfl, _, rfl, _, rfl, pl, _, _, _, rfl, rfl, SqL.of p9, la2, ra, _, _, _, rfl, rfl, SqT.of hra9, atI_nat z2, b2, _, _, _, rfl, rfl, SqT.of r2, atI_nat (j := 1) (worth_at c2), rfl, _, rfl, hF _ _ rfl⟩
        · intro F' hF
          refine ⟨_, rfl, _, rfl, pl, _, _, _, rfl, rfl, SqL.of p8, la2, _, rfl, pl, _, _, _, rfl, rfl, SqL.of p8, hd2, rfl, _, rfl, ite2 (fun _ => ?_) (fun _ => hF _ _ (Dc.refl C8.ent))⟩
          exact ⟨_, rfl, d, sa, ns, _, rfl, C8.ent, by decide, by decide, fun m3 H9 m30 m31 C9 => ⟨rfl, _, rfl, hF _ _ C9⟩⟩
    · rintro σ H4 ⟨x5, x6, w, rfl, C4, _⟩
      exact k _ H4 C4 (.inl rfl)
end
end DL
namespace DLR
open PySem PySem.Spec PyProof.Rows L2
/-! ### a call within a try: what it lets out comes with the frame as it stands -/
def tCallX (sp : Sp) (W : WX) (t : TA) : TE := fun σ H Q => t σ H fun vs H1 => sp vs H1 Q fun cls d H' => W cls d σ H'
section
variable {X : Cx} {k : Nat} {f : Addr} {fd : FuncData} {ps : List Str} {sp : Sp} {x : Str} {p pos : Pos} {e : Expr} {es : List Expr} {t : TA} {W : WX}
theorem pe_callX (tk : Takes X W) (F : FnOk X.prog X.w X.K X.mg X.base (L2.CX X.prog X.w) k f fd ps sp) (hr : Room k X.A) (hg : Gl X x) (hm : X.mg x = some (.ref f)) (hk : PySem.W.keepIn X.K (.ref f) = true) (hb : Binds X.K fd ps [])
    (ha : PA X (e :: es) t) (hdb : (x == ("__debug__" : Str)) = false := by decide) (he : starEach (e :: es) X.env = (false, eval e X.env) :: starEach es X.env := by rfl) (hpl : (backTo pos (starEach es X.env)).any (·.1) = false := by rfl) :
    PE X (.Call (.Name x p) (e :: es) [] pos) (tCallX sp W t) := by
  refine ⟨fun pins s σ H Q I h => ?_⟩
  refine wpAny_Call_Name_kw (ld_glob I hg hm ?_ hdb)
  refine PySem.W.callWith_K (h₀ := X.base) I.ok.mod.kin hk (thn (ha.run pos pins s σ H _ I h) fun us s1 ⟨vs, H1, I1, r, q⟩ => ⟨I1.kIn, ?_⟩) he hpl
  have r2 : Vals (vs ++ []) (us ++ []) := r.append .nil
  have q2 : sp (vs ++ []) H1 Q fun cls d H' => W cls d σ H' := by rw [List.append_nil]; exact q
  have hl : (us ++ ([] : List Value)).length = ps.length := by rw [← r2.length]; exact F.len _ _ _ _ q2
  refine wpAny_call (codeAny_mono (F.run X.A X.stack s1 H1 ⟨us, []⟩ (us ++ []) (vs ++ []) Q (fun cls d H' => W cls d σ H') hr I1.env0 (hb s1 us I1.kIn hl) r2 q2) fun r s' hq => ?_)
  cases r with
  | error e => exact tk e s' (XE.of_call I1 (fun _ _ _ h => h) hq)
  | ok fl =>
    cases fl with
    | ret u => exact I1.after hq
    | next => exact False.elim hq
    | brk => exact False.elim hq
    | cont => exact False.elim hq
end
def rListOf (K : PySem.W.Frag) : List V → Hp → VK → Prop := fun xs H Q => ∃ p ys, xs = [.ref p] ∧ (SqL K H p ys ∨ SqT K H p ys) ∧ ∀ l : Addr, H l = none → Q (.ref l) (upd H l (.lst ys))
theorem call_list_ofK {X : Cx} (K : PySem.W.Frag) (h : X.K = K) : CallR X (.type "list") (rListOf K) := by
  subst h
  exact call_list_of
end DLR
namespace DL
open PySem L2 DLR LamX
abbrev sLaw : Stmt := top 75
abbrev nLaw : List Str := ["_law_script","_law_d","_law_turn","_law_program","_law_goes","_law_done","_law_laying_here","_law_wide","_law_book","_law_none","_law_way","_law_told","_law_shown","_law_again","_law_other","_law_homes","_law_home","_law_place"]
def spLaw (K : Frg) : Sp := fun vs H Q _ => ∃ (sa : Addr) (ns : List Int), vs = [.ref sa] ∧ SqL K H sa (ns.map V.int) ∧ ns.length ≤ 63 ∧ ∀ H', Q (.bl true) H'
abbrev FDice (K : Frg) (mg : Str → Option Value) := Fd K mg "_law_dice" sDice ["_law_script"]
theorem one_home {p : Prog} {y : Lay} (g : Good p) (yk : LayOk p y) (y1 : ∀ h ∈ y.homes, (h.length : Int) ≤ 1) : OneHome y p.rows := fun x hu => by
  have hx : x < p.rows.length := by
    rcases Nat.lt_or_ge x p.rows.length with c | c
    · exact c
    · rw [List.getD_eq_getElem?_getD, List.getElem?_eq_none c] at hu
      cases hu
  have er : p.rows.getD x .stop = p.rows[x] := by rw [List.getD_eq_getElem?_getD, List.getElem?_eq_getElem hx]; rfl
  have ro := g.ok _ (List.getElem_mem hx)
  rw [er] at hu ⊢
  have hw : wNo p.rows[x] < p.ws.length := by
    generalize p.rows[x] = r at hu ro
    cases r with
    | load v n => exact ro.1
    | add v n => exact ro.1
    | take v n => exact ro.1
    | store v n => exact ro.1
    | _ => cases hu
  have hwl : wNo p.rows[x] < y.homes.length := by rw [yk.hl]; exact hw
  have hm := List.getElem_mem hwl
  have h1 := (yk.hok _ hm).l1
  have h2 := y1 _ hm
  rw [List.getD_eq_getElem?_getD, List.getElem?_eq_getElem hwl]
  show ∃ h, y.homes[wNo p.rows[x]] = [h]
  generalize y.homes[wNo p.rows[x]] = l at h1 h2
  cases l with
  | nil => exact absurd h1 (by decide)
  | cons a l =>
    cases l with
    | nil => exact ⟨a, rfl⟩
    | cons b l => rw [List.length_cons, List.length_cons] at h2; omega
def modLay (W : Nat) (y : Lay) : Lay := ⟨W, y.places.map (· % W), y.homes.map fun h => [h.headD 0 % W]⟩
theorem mod_ok {p : Prog} {y : Lay} {W : Nat} (w2 : 2 ≤ W) (w24 : W ≤ 24) (yk : LayOk p y) : LayOk p (modLay W y) := by
  refine ⟨w2, w24, by show (y.places.map _).length = _; rw [List.length_map]; exact yk.pl, fun x hx => ?_, by show (y.homes.map _).length = _; rw [List.length_map]; exact yk.hl, fun h hh => ?_⟩
  · obtain ⟨z, _, rfl⟩ := List.mem_map.mp hx
    exact Nat.mod_lt _ (by omega)
  · obtain ⟨z, _, rfl⟩ := List.mem_map.mp hh
    refine ⟨Nat.le_refl _, by show 1 ≤ 3; decide, List.pairwise_singleton _ _, fun x hx => ?_⟩
    rw [List.mem_singleton.mp hx]
    exact Nat.mod_lt _ (by omega)
theorem mod_one {y : Lay} {W : Nat} : ∀ h ∈ (modLay W y).homes, (h.length : Int) ≤ 1 := fun h hh => by
  obtain ⟨z, _, rfl⟩ := List.mem_map.mp hh
  exact Int.le_refl _
theorem paperGo_len (rows : List Row) (W : Nat) : ∀ (n : Nat) (L : Left), (paperGo rows W n L).length ≤ n
  | 0, _ => Nat.le_refl _
  | n + 1, L => by
    unfold paperGo
    by_cases c : waysF rows W L = []
    · rw [if_pos c]; exact Nat.zero_le _
    · rw [if_neg c, List.length_cons]
      have := paperGo_len rows W n (takeH L (leastT (waysF rows W L)).way (manyF L (leastT (waysF rows W L)).way))
      omega
theorem goes_ne {p : Prog} {G : GoL} (f : Few p) (gk : Goes p G) : G ≠ [] := fun z => by
  have := gk.flow 0 f.2
  rw [z] at this
  exact absurd this (by decide)
section
variable {P : Program} {w : World} {K : PySem.W.Frag} {mg : Str → Option Value} {base : Heap}
theorem scLaw : FnScope nLaw ["_law_script"] (defScope sLaw) := ⟨rfl, rfl, rfl, by decide +kernel, rfl, by decide +kernel, by decide +kernel⟩
theorem ok_law {f : Addr} {fd : FuncData} (F : Fun K "law" "law" sLaw f fd)
    (cDice : FDice K mg) (cNext : FNext K mg) (cLaying : FLaying K mg) (cEnded : FEnded K mg) (cRound : FRound K mg) (cBeats : FBeats K mg) (cBound : FBound K mg) (cPaper : FPaper K mg) (T : Bt mg) {BEA : Addr} (mBE : mg "BadPaper" = some (.ref BEA)) (xBE : PySem.W.exmOne K (.ref BEA) (.ref BEA) = some true)
    (GLaying : FnOk P w K mg base CX0 2 cLaying.f cLaying.fd pLaying (spLaying K)) (GEnded : FnOk P w K mg base CX0 8 cEnded.f cEnded.fd ["_law_d"] (spEnded K)) (GBeats : FnOk P w K mg base CX0 7 cBeats.f cBeats.fd ["program", "laying", "goes"] spBeats)
    (GBound : FnOk P w K mg base (L2.CX P w) 7 cBound.f cBound.fd ["program","wide","goes","told"] (spBound BEA)) (GPaper : FnOk P w K mg base CX0 7 cPaper.f cPaper.fd ["program","wide","goes"] spPaper) :
    FnOk P w K mg base CX0 10 f fd ["_law_script"] (spLaw K) := by
  have GDice : FnOk P w K mg base CX0 1 cDice.f cDice.fd ["_law_script"] (spDice K) := ok_dice cDice.F T
  have GNext : FnOk P w K mg base CX0 1 cNext.f cNext.fd ["_law_dice_here", "_law_many"] (spNext K) := ok_next cNext.F T
  have GRound : FnOk P w K mg base CX0 2 cRound.f cRound.fd pRound (spRound K) := ok_round cRound cNext T
  refine F.ok scLaw (fun vs H Q E h => ?_) (fun cdv A outer s H vs Q E' hr h => ?_)
  · obtain ⟨sa, ns, rfl, _⟩ := h
    rfl
  · obtain ⟨sa, ns, rfl, hS, hlen, kq⟩ := h
    refine ⟨_, (pss_cons (ps_set (i := 1) scLaw.nd rfl (Or.inl rfl) (pe_call GDice (hr.mono (by first | omega | decide)) (by rfl) cDice.m cDice.F.kp cDice.b .nil pass0 (pa_cons (pv 0) pa_nil)))
      (pss_cons (ps_for PassesOwn.never rfl (pi_range1 rfl T.range (pa_cons pe_int pa_nil)) (pg_name (i := 2) scLaw.nd rfl (Or.inl rfl))
          (pss_cons (ps_asg (pe_call GEnded (hr.mono (by first | omega | decide)) (by rfl) cEnded.m cEnded.F.kp cEnded.b .nil pass0 (pa_cons (pv 1) pa_nil)) (pg_tup rfl (pgs_cons (pg_name (i := 3) scLaw.nd rfl (Or.inl rfl)) (pgs_cons (pg_name (i := 4) scLaw.nd rfl (Or.inl rfl)) (pgs_cons (pg_name (i := 5) scLaw.nd rfl (Or.inl rfl)) pgs_nil)))))
          (pss_cons (ps_set (i := 6) scLaw.nd rfl (Or.inl rfl) (pe_call GLaying (hr.mono (by first | omega | decide)) (by rfl) cLaying.m cLaying.F.kp cLaying.b .nil pass0 (pa_cons (pv 1) (pa_cons (pv 3) (pa_cons pe_int pa_nil)))))
          (pss_cons (ps_set (i := 7) scLaw.nd rfl (Or.inr rfl) (pe_ix ix_tup (pv 6) pe_int (fun _ _ => rfl)))
          (pss_cons (ps_set (i := 8) scLaw.nd rfl (Or.inl rfl) (pe_lst pa_nil))
          (pss_cons (ps_set (i := 9) scLaw.nd rfl (Or.inl rfl) (pe_call GBound (hr.mono (by first | omega | decide)) (by rfl) cBound.m cBound.F.kp cBound.b .nil (L2.passes_call (E := fun _ _ _ => False) LamX.takes0 (fun _ _ _ _ h => h)) (pa_cons (pv 3) (pa_cons (pv 7) (pa_cons (pv 4) (pa_cons (pe_lst pa_nil) pa_nil))))))
          (pss_cons (ps_for PassesOwn.never rfl (pi_range1 rfl T.range (pa_cons pe_int pa_nil)) (pg_name (i := 10) scLaw.nd rfl (Or.inl rfl))
              (pss_cons (ps_set (i := 11) scLaw.nd rfl (Or.inl rfl) (pe_call GRound (hr.mono (by first | omega | decide)) (by rfl) cRound.m cRound.F.kp cRound.b .nil pass0 (pa_cons (pv 1) (pa_cons (pe_ix ix_tup (pv 3) pe_int (fun _ _ => rfl)) (pa_cons (pv 4) pa_nil)))))
              (pss_one (ps_if (pt_cmpR op_notN (pv 11) pe_non (nomark _))
                  (pss_one (ps_try_only (c := .ref BEA) (tb := (fun W => tSeq (tDrop (DLR.tCallX (spBound BEA) W (tCons (tVar 3) (tCons (tVar 7) (tCons (tVar 4) (tCons (tOp rCat (tVar 8) (tLst (tCons (tOp rCatS (tVar 11) (tTup (tCons (tC (.int 1)) tNil))) tNil))) tNil)))))) (tDrop (tBM K "list" rAppend (tVar 8) (tCons (tOp rCatS (tVar 11) (tTup (tCons (tC (.int 1)) tNil))) tNil))))) (ts := fun _ _ _ => tAsg (tCB (DLR.rListOf K) (tCons (tVar 8) tNil)) (gName 8)) rfl rfl ⟨by rfl, by decide, .inl mBE⟩ LamX.takes0 (fun W pn xe tk _ => (pss_cons (ps_expr (DLR.pe_callX tk GBound (hr.mono (by first | omega | decide)) (by rfl) cBound.m cBound.F.kp cBound.b (pa_cons (pv 3) (pa_cons (pv 7) (pa_cons (pv 4) (pa_cons (pe_op op_cat (pv 8) (pe_lst (pa_cons (pe_op op_catS (pv 11) (pe_tup (pa_cons pe_int pa_nil))) pa_nil))) pa_nil)))))) (pss_one (ps_expr (pe_bmK K rfl PySem.F.plainAttrs_list PySem.F.slot_list_append PySem.F.type_list_append mt_append (pv 8) (pa_cons (pe_op op_catS (pv 11) (pe_tup (pa_cons pe_int pa_nil))) pa_nil)))))) (fun a oe cls d pn hz hf => (pss_one (ps_set (i := 8) scLaw.nd rfl (Or.inl rfl) (pe_callTy (DLR.call_list_ofK K rfl) (by rfl) T.list (by decide +kernel) (pa_cons (pv 8) pa_nil)))))))
                  pss_nil))))
          (pss_cons (ps_set (i := 12) scLaw.nd rfl (Or.inl rfl) (pe_call GBound (hr.mono (by first | omega | decide)) (by rfl) cBound.m cBound.F.kp cBound.b .nil (L2.passes_call (E := fun _ _ _ => False) LamX.takes0 (fun _ _ _ _ h => h)) (pa_cons (pv 3) (pa_cons (pv 7) (pa_cons (pv 4) (pa_cons (pe_call GPaper (hr.mono (by first | omega | decide)) (by rfl) cPaper.m cPaper.F.kp cPaper.b .nil pass0 (pa_cons (pv 3) (pa_cons (pv 7) (pa_cons (pv 4) pa_nil)))) pa_nil))))))
          (pss_cons (ps_for PassesOwn.never rfl (pi_range1 rfl T.range (pa_cons pe_int pa_nil)) (pg_name (i := 13) scLaw.nd rfl (Or.inl rfl))
              (pss_cons (ps_if (pt_cmpR op_lt (pe_call GBeats (hr.mono (by first | omega | decide)) (by rfl) cBeats.m cBeats.F.kp cBeats.b .nil pass0 (pa_cons (pv 3) (pa_cons (pv 6) (pa_cons (pv 4) pa_nil)))) (pe_callB (call_max2 rfl) (by rfl) T.max (by decide +kernel) (pa_cons (pv 12) (pa_cons (pe_call GBound (hr.mono (by first | omega | decide)) (by rfl) cBound.m cBound.F.kp cBound.b .nil (L2.passes_call (E := fun _ _ _ => False) LamX.takes0 (fun _ _ _ _ h => h)) (pa_cons (pv 3) (pa_cons (pv 7) (pa_cons (pv 4) (pa_cons (pv 8) pa_nil))))) pa_nil))) (nomark _))
                  (pss_one (ps_ret pe_bl))
                  pss_nil)
              (pss_cons (ps_set (i := 14) scLaw.nd rfl (Or.inl rfl) (pe_call GLaying (hr.mono (by first | omega | decide)) (by rfl) cLaying.m cLaying.F.kp cLaying.b .nil pass0 (pa_cons (pv 1) (pa_cons (pv 3) (pa_cons pe_int pa_nil)))))
              (pss_cons (ps_set (i := 15) scLaw.nd rfl (Or.inl rfl) (pe_callTy call_tuple_of (by rfl) T.tuple (by decide +kernel) (pa_cons (pe_lc (own := [("_law_home", 16)]) (g := gName 16) (tt := tYes) rfl scLaw.nd (pi_tup (pe_ix ix_tup (pv 14) pe_int (fun _ _ => rfl))) (blkOk_by (N := nLaw) (sc := defScope sLaw) (by decide +kernel)) (fun _ _ _ _ _ => (pg_name (i := 16) scLaw.nd rfl (Or.inl rfl))) (fun _ _ _ _ _ => pts_nil) (fun _ _ _ _ _ => (pe_tup (pa_cons (pe_op op_mod (pe_ix (ix_tupK K rfl) (pv 16) pe_int (fun _ _ => rfl)) (pv 7)) pa_nil)))) pa_nil)))
              (pss_one (ps_set (i := 6) scLaw.nd rfl (Or.inl rfl) (pe_tup (pa_cons (pv 7) (pa_cons (pe_callTy call_tuple_of (by rfl) T.tuple (by decide +kernel) (pa_cons (pe_lc (own := [("_law_place", 17)]) (g := gName 17) (tt := tYes) rfl scLaw.nd (pi_tup (pe_ix ix_tup (pv 14) pe_int (fun _ _ => rfl))) (blkOk_by (N := nLaw) (sc := defScope sLaw) (by decide +kernel)) (fun _ _ _ _ _ => (pg_name (i := 17) scLaw.nd rfl (Or.inl rfl))) (fun _ _ _ _ _ => pts_nil) (fun _ _ _ _ _ => (pe_op op_mod (pv 17) (pv 7)))) pa_nil)) (pa_cons (pv 15) pa_nil))))))))))
          (pss_one (ps_if (PW.pt (pw_or (pt_not (pt_cmpR op_le (pv 9) (pv 12) (nomark _))) (pw_or1 (pt_not (pt_cmpR op_le (pv 9) (pe_call GBound (hr.mono (by first | omega | decide)) (by rfl) cBound.m cBound.F.kp cBound.b .nil (L2.passes_call (E := fun _ _ _ => False) LamX.takes0 (fun _ _ _ _ h => h)) (pa_cons (pv 3) (pa_cons (pv 7) (pa_cons (pv 4) (pa_cons (pv 8) pa_nil))))) (nomark _))))))
              (pss_one (ps_ret pe_bl))
              pss_nil)))))))))))
      (pss_one (ps_ret pe_bl)))), ?_⟩
    refine ⟨_, rfl, sa, ns, rfl, hS, hlen, fun d H1 s1 hd hE => ?_⟩
    refine ⟨_, rfl, by decide, by decide, ?_⟩
    refine for_range (lo := 0) (n := (3 : Int).toNat) (fun i σ H' => ∃ (x2 x3 x4 x5 x6 x7 x8 x9 x10 x11 x12 x13 x14 x15 : Option V), σ = [some (.ref sa), some (.ref d), x2, x3, x4, x5, x6, x7, x8, x9, x10, x11, x12, x13, x14, x15, none, none] ∧ Dc K H1 H' d sa ns)
      ⟨none, none, none, none, none, none, none, none, none, none, none, none, none, none, rfl, Dc.refl hE⟩ ?_ ?_
    · rintro i σ H2 hi ⟨x2, x3, x4, x5, x6, x7, x8, x9, x10, x11, x12, x13, x14, x15, rfl, C2⟩
      dsimp only [gName]
      refine ⟨_, rfl, d, sa, ns, rfl, C2.ent, fun a pa la da p G bs H3 C3 e3 hp g hf hla hG gk cs hcs hcl hcm hrun => ⟨a, _, rfl, SqT.of e3, rfl, _, _, rfl, _, _, rfl, _, _, rfl, rfl, ?_⟩⟩
      have g60 : G.length < 60 := gk.few g hf
      have gne := goes_ne hf gk
      have C23 := C2.trans C3
      refine ⟨_, rfl, _, rfl, d, sa, ns, pa, p, 1, rfl, C23.ent, hp, g, by decide, by decide, fun ya y H4 C4 hY yk y1 => ?_⟩
      dsimp only [gName]
      have C24 := C23.trans C4
      have nld : la ≠ d := dice_ne C3.dice hla
      have hla4 := C4.but _ _ nld hla
      have hG4 := hG.kp C4.kp
      have hp4 := hp.kp C4.kp
      obtain ⟨W, hW⟩ : ∃ W, W = y.wide := ⟨_, rfl⟩
      have w2 : 2 ≤ W := by rw [hW]; exact yk.w2
      have w24 : W ≤ 24 := by rw [hW]; exact yk.w24
      have w0 : 0 < W := by omega
      obtain ⟨ypa, yha, ybs, hy1, hy2, hy3, hy4⟩ := id hY
      refine ⟨_, rfl, ya, _, _, _, rfl, rfl, SqT.of hy1, at0, ?_⟩
      dsimp only [gName]
      rw [← hW]
      refine ⟨Nat.zero_le _, fun bl hbl => ?_⟩
      refine alloc hbl fun H5 s5 e5 => ?_
      dsimp only [gName]
      obtain ⟨v0, hv0⟩ : ∃ v0 : Int, v0 = 0 + sumLeast p.rows (leftF G) := ⟨_, rfl⟩
      have b0 : ∀ i (s : Int), boundF p.rows W [] i (leftF G) s = .inr (s + sumLeast p.rows (leftF G)) := fun i s => rfl
      -- bound(.., [])
      refine ⟨_, rfl, _, rfl, _, rfl, Nat.zero_le _, fun e he => ?_⟩
      refine alloc he fun H6 s6 e6 => ?_
      have S46 := s5.trans s6
      refine ⟨pa, la, e, bs, [], p, W, G, [], rfl, hp4.kp (Kp.same S46), g, w2, w24, S46 _ _ hla4, hG4.kp (Kp.same S46), gk, g60, e6, .nil, Nat.zero_le _, fun _ h => (by cases h), fun i h => (by cases h), fun v hv H7 s7 => ?_⟩
      have hv : v = v0 := by rw [hv0]; exact (Sum.inr.inj hv).symm
      subst hv
      dsimp only [gName]
      have S47 := S46.trans s7
      have C47 : Dc K H4 H7 d sa ns := (Dc.refl C24.ent).same S47
      refine ⟨_, rfl, by decide, by decide, ?_⟩
      refine for_range (lo := 0) (n := (6 : Int).toNat) (fun j σ H' => ∃ (x10 x11 : Option V) (bl : Addr) (es : List Addr) (M : List Entry) (vb : Int), σ = [some (.ref sa), some (.ref d), some (.int (0 + (i : Int))), some (.ref pa), some (.ref la), some (.ref da), some (.ref ya), some (nI W), some (.ref bl), some (.int v), x10, x11, x12, x13, x14, x15, none, none] ∧ Dc K H4 H' d sa ns ∧ H4 bl = none ∧ H' bl = some (.lst (es.map V.ref)) ∧ EntsAt H' es M ∧ M.length ≤ j ∧ (∀ e ∈ M, e.way.length ≤ 100 ∧ ∀ x ∈ e.way, x < p.rows.length) ∧ boundF p.rows W M 0 (leftF G) 0 = .inr vb)
        ⟨x10, x11, bl, [], [], v, rfl, C47, hbl, (s6.trans s7) _ _ e5, .nil, Nat.le_refl _, fun _ h => (by cases h), by rw [hv0]; rfl⟩ ?_ ?_
      · rintro j σ H8 hj ⟨x10, x11, bl, es, M, vb, rfl, C8, nbl, e8, hM, hMl, hMw, hMb⟩
        have hj : j < 6 := hj
        have hel := Paired.length hM
        dsimp only [gName]
        have la8 := C8.but _ _ nld hla4
        have G8 := hG4.kp C8.kp
        have p8 := hp4.kp C8.kp
        obtain ⟨wa, ra, rbs, hpa, hwa, hra, hR⟩ := id p8
        refine ⟨_, rfl, _, rfl, pa, _, _, _, rfl, rfl, SqT.of hpa, at1, _, rfl, d, sa, ns, ra, la, rbs, bs, p, G, rfl, C8.ent, hra, hR, g, la8, G8, gk, gne, g60, fun v1 H9 C9 hv1 => ?_⟩
        dsimp only [gName]
        have C49 := C8.trans C9
        have e9 := C9.but _ _ (C8.ned nbl) e8
        have M9 : EntsAt H9 es M := EntsAt.kp hM C9.kp
        rcases hv1 with rfl | ⟨ta, tt, x, wy, rfl, t1, t2, wl, wm⟩
        · refine ⟨_, rfl, rfl, _, rfl, ?_⟩
          refine iteF ?_
          exact ⟨_, _, bl, es, M, vb, rfl, C49, nbl, e9, M9, by omega, hMw, hMb⟩
        · refine ⟨_, rfl, rfl, _, rfl, ?_⟩
          refine iteT ?_
          dsimp only
          have la9 := C49.but _ _ nld hla4
          have G9 := hG4.kp C49.kp
          have p9 := hp4.kp C49.kp
          obtain ⟨en, hen⟩ : ∃ en : Entry, en = ⟨x, wy, 1⟩ := ⟨_, rfl⟩
          -- book + [told + (1,)]
          refine ⟨_, rfl, _, rfl, _, rfl, _, rfl, _, rfl, (by show 1 ≤ sizeLine; decide), fun o1 ho1 => ?_⟩
          refine alloc ho1 fun H10 s10 e10 => ?_
          refine ⟨ta, o1, _, _, rfl, rfl, s10 _ _ t1, e10, (by show 2 + 1 ≤ sizeLine; decide), fun o2 H11 s11 e11 => ?_⟩
          refine ⟨(by show 1 ≤ sizeLine; decide), fun o3 ho3 => ?_⟩
          refine alloc ho3 fun H12 s12 e12 => ?_
          have S912 := (s10.trans s11).trans s12
          refine ⟨bl, o3, _, _, rfl, rfl, S912 _ _ e9, e12, sz (by rw [List.length_map]; show _ + 1 ≤ _; omega), fun o4 ho4 => ?_⟩
          refine alloc ho4 fun H13 s13 e13 => ?_
          have S913 := S912.trans s13
          have hEn : EntAt H13 o2 en := by
            rw [hen]
            exact ⟨tt, (s12.trans s13) _ _ e11, S913 _ _ t2⟩
          have M13 : EntsAt H13 (es ++ [o2]) (M ++ [en]) := Paired.app (EntsAt.kp M9 (Kp.same S913)) (Paired.one hEn)
          have e13' : H13 o4 = some (.lst ((es ++ [o2]).map V.ref)) := by rw [e13, List.map_append]; rfl
          have mw : ∀ e ∈ M ++ [en], e.way.length ≤ 100 ∧ ∀ x ∈ e.way, x < p.rows.length := fun e he => by
            rcases List.mem_append.mp he with q | q
            · exact hMw e q
            · rw [List.mem_singleton.mp q, hen]
              exact ⟨by show wy.length ≤ 100; omega, wm⟩
          refine ⟨pa, la, o4, bs, es ++ [o2], p, W, G, M ++ [en], rfl, p9.kp (Kp.same S913), g, w2, w24, S913 _ _ la9, G9.kp (Kp.same S913), gk, g60, e13', M13, by rw [List.length_append]; show M.length + 1 ≤ 1000; omega, mw, fun ix hix => ?_, fun v2 hv2 H14 s14 => ?_⟩
          · intro dd H14 hdd s14 e14
            refine ⟨true, xBE, fun _ a0 ha0 => ?_, fun z => by cases z⟩
            have S14 := S913.trans s14
            refine ⟨_, rfl, bl, _, rfl, .inl (SqL.of (S14 _ _ e9)), fun nb hnb => ?_⟩
            dsimp only [gName]
            have C14 := C49.same S14
            exact ⟨_, _, nb, es, M, vb, rfl, C14.new hnb, C14.here hnb, upd_same, EntsAt.kp M9 ((Kp.same S14).trans (Kp.new hnb)), by omega, hMw, hMb⟩
          · have S14 := S913.trans s14
            have C14 := C49.same S14
            refine ⟨_, rfl, .inl ⟨rfl, _, SqL.of (S14 _ _ e9)⟩, _, rfl, (by show 1 ≤ sizeLine; decide), fun o5 ho5 => ?_⟩
            refine alloc ho5 fun H15 s15 e15 => ?_
            refine ⟨ta, o5, _, _, rfl, rfl, (S14.trans s15) _ _ t1, e15, (by show 2 + 1 ≤ sizeLine; decide), fun o6 H16 s16 e16 => ?_⟩
            have S16 := (S14.trans s15).trans s16
            have C16 := C49.same S16
            have e16' := S16 _ _ e9
            refine ⟨bl, _, _, rfl, rfl, e16', szl (by rw [List.length_map]; omega), ?_⟩
            have hEn : EntAt H16 o6 en := by
              rw [hen]
              exact ⟨tt, e16, S16 _ _ t2⟩
            refine ⟨_, _, bl, es ++ [o6], M ++ [en], v2, rfl, C16.mut nbl, nbl, by rw [upd_same, List.map_append]; rfl, ?_, by rw [List.length_append]; show M.length + 1 ≤ j + 1; omega, mw, hv2⟩
            exact EntsAt.kp (Paired.app (EntsAt.kp M9 (Kp.same S16)) (Paired.one hEn)) (Kp.lst e16')
      · rintro σ H8 ⟨x10, x11, bl, es, M, vb, rfl, C8, nbl, e8, hM, hMl, hMw, hMb⟩
        have la8 := C8.but _ _ nld hla4
        have G8 := hG4.kp C8.kp
        have p8 := hp4.kp C8.kp
        have M8 := hM
        -- shown
        refine ⟨_, rfl, _, rfl, _, rfl, _, rfl, _, rfl, _, rfl, pa, la, bs, p, W, G, rfl, p8, g, w2, w24, la8, G8, gk, g60, fun tp pes H9 s9 ntp hpe hPE => ?_⟩
        obtain ⟨pb1, pb2⟩ := paper_bound (W := W) g ((leftF G).length + 1) (leftF G) (left_inv g gk)
        obtain ⟨vs, hvs⟩ := pb1 0 0
        have pl1 := paperGo_len p.rows W ((leftF G).length + 1) (leftF G)
        have ll0 := leftF_len G
        refine ⟨pa, la, tp, bs, pes, p, W, G, _, rfl, p8.kp (Kp.same s9), g, w2, w24, s9 _ _ la8, G8.kp (Kp.same s9), gk, g60, hpe, hPE, by show (paperGo _ _ _ _).length ≤ 1000; omega, fun e he => ⟨Nat.le_trans (pb2 e he).1 (by decide), (pb2 e he).2⟩, fun ix hix => ?_, fun vs' hvs' H10 s10 => ?_⟩
        · have z : boundF p.rows W (paperGo p.rows W ((leftF G).length + 1) (leftF G)) 0 (leftF G) 0 = .inl ix := hix
          rw [hvs] at z
          cases z
        have evs : vs' = vs := by
          have z : boundF p.rows W (paperGo p.rows W ((leftF G).length + 1) (leftF G)) 0 (leftF G) 0 = .inr vs' := hvs'
          rw [hvs] at z
          exact (Sum.inr.inj z).symm
        subst evs
        dsimp only [gName]
        have S10 := s9.trans s10
        have C10 := C8.same S10
        have lo := left_ok g gk
        have ge1 := bound_ge (N := p.rows.length) w0 _ 0 (leftF G) 0 vs' lo hvs
        have ge2 := bound_ge (N := p.rows.length) w0 M 0 (leftF G) 0 vb lo hMb
        -- bound(.., book), once more
        have again : ∀ (H' : Hp) (R : V → Hp → Prop), Dc K H4 H' d sa ns → H' bl = some (.lst (es.map V.ref)) → EntsAt H' es M → (∀ H'', Same1 H' H'' → R (.int vb) H'') → spBound BEA [.ref pa, nI W, .ref la, .ref bl] H' R (fun _ _ _ => False) := fun H' R C' e' M' hR =>
          ⟨pa, la, bl, bs, es, p, W, G, M, rfl, hp4.kp C'.kp, g, w2, w24, C'.but _ _ nld hla4, hG4.kp C'.kp, gk, g60, e', M', by omega, hMw, fun ix hix => (by rw [hMb] at hix; cases hix), fun v2 hv2 H'' s'' => by
            rw [hMb] at hv2
            rw [← Sum.inr.inj hv2]
            exact hR H'' s''⟩
        refine ⟨_, rfl, by decide, by decide, ?_⟩
        refine for_range (lo := 0) (n := (3 : Int).toNat) (fun k σ H' => ∃ (x13 x14 x15 : Option V) (yl : Addr) (z : Lay), σ = [some (.ref sa), some (.ref d), some (.int (0 + (i : Int))), some (.ref pa), some (.ref la), some (.ref da), some (.ref yl), some (nI W), some (.ref bl), some (.int v), x10, x11, some (.int vs'), x13, x14, x15, none, none] ∧ Dc K H4 H' d sa ns ∧ H' bl = some (.lst (es.map V.ref)) ∧ EntsAt H' es M ∧ LayAt H' yl z ∧ LayOk p z ∧ z.wide = W ∧ ∀ h ∈ z.homes, (h.length : Int) ≤ 1)
          ⟨x13, x14, x15, ya, y, rfl, C10, S10 _ _ e8, EntsAt.kp hM (Kp.same S10), hY.kp C10.kp, yk, hW.symm, y1⟩ ?_ ?_
        · rintro k σ H11 hk ⟨x13, x14, x15, yl, z, rfl, C11, e11, M11, hZ, zk, zw, z1⟩
          dsimp only [gName]
          have oh := one_home g zk z1
          have la11 := C11.but _ _ nld hla4
          have G11 := hG4.kp C11.kp
          have p11 := hp4.kp C11.kp
          have le1 : vs' ≤ beatsF z p.rows G := bound_beats (M := paperGo p.rows W ((leftF G).length + 1) (leftF G)) g gk oh (by rw [zw]; exact w0) (fun e he => (pb2 e he).2) (by rw [zw]; exact hvs)
          have le2 : vb ≤ beatsF z p.rows G := bound_beats (M := M) g gk oh (by rw [zw]; exact w0) (fun e he => (hMw e he).2) (by rw [zw]; exact hMb)
          refine ⟨_, rfl, _, rfl, _, rfl, pa, yl, la, bs, p, z, G, rfl, p11, g, hZ, zk, la11, G11, gk, g60, fun H12 s12 => ?_⟩
          refine ⟨_, rfl, _, rfl, _, rfl, _, rfl, _, rfl, ?_⟩
          dsimp only [tNil]
          change spBound BEA [.ref pa, nI W, .ref la, .ref bl] H12 _ _
          refine again H12 _ (C11.same s12) (s12 _ _ e11) (EntsAt.kp M11 (Kp.same s12)) fun H13 s13 => ?_
          have S13 := s12.trans s13
          have C13 := C11.same S13
          refine ⟨_, _, rfl, _, _, rfl, rfl, _, rfl, ?_⟩
          have hlt : ¬ beatsF z p.rows G < (if vb > vs' then vb else vs') := by
            by_cases c : vb > vs'
            · rw [if_pos c]; omega
            · rw [if_neg c]; omega
          rw [decide_eq_false hlt]
          refine iteF ?_
          dsimp only [tNext]
          refine ⟨_, rfl, _, rfl, d, sa, ns, pa, p, 1, rfl, C13.ent, p11.kp (Kp.same S13), g, by decide, by decide, fun yo u H14 C14 hU uk u1 => ?_⟩
          dsimp only [gName]
          have C14' := C13.trans C14
          obtain ⟨upa, uha, ubs, hu1, hu2, hu3, hu4⟩ := id hU
          have hub := Paired.length hu4
          have hhm : ∀ h ∈ u.homes, h ≠ [] := fun h hh z => by
            have := (uk.hok h hh).l1
            rw [z] at this
            exact absurd this (by decide)
          refine ⟨_, rfl, yo, _, _, _, rfl, rfl, SqT.of hu1, atI_nat (j := 2) rfl, uha, rfl, ⟨_, SqT.of hu3⟩, fun D hD => ?_⟩
          refine lc_tup (K := K) (a := uha) (xs := ubs.map V.ref) (fun j H' => ∃ ks : List Addr, Same1 H14 H' ∧ H' D = some (.lst (ks.map V.ref)) ∧ HomesAt H' ks ((u.homes.take j).map fun h => [h.headD 0 % W])) ⟨[], Same.new hD, upd_same, .nil⟩ (fun j H' _ ⟨_, q, _⟩ => SqT.of (q _ _ hu3)) ?_ ?_
          · rintro j x H15 hj ⟨ks, s15, d15, k15⟩
            have hjc : j < ubs.length := by
              have q := (List.getElem?_eq_some_iff.mp hj).1
              rwa [List.length_map] at q
            have ex : x = .ref ubs[j] := by
              rw [List.getElem?_map, List.getElem?_eq_getElem hjc] at hj
              exact (Option.some.inj hj).symm
            subst ex
            obtain ⟨h, h1, h2⟩ := Paired.get hu4 (List.getElem?_eq_getElem hjc)
            have hne := hhm h (List.mem_of_getElem? h1)
            have kl := Paired.length k15
            rw [List.length_map, List.length_take] at kl
            have w8 := g.w8
            have hul := uk.hl
            refine ⟨rfl, ?_⟩
            dsimp only [tYes]
            rw [if_pos rfl]
            refine ⟨_, rfl, ubs[j], _, _, _, rfl, rfl, SqT.of (s15 _ _ h2), headD_at hne, _, rfl, _, _, rfl, rfl, (show (0 : Int) < (W : Int) by omega), (by show 1 ≤ sizeLine; decide), fun q hq => ?_⟩
            refine alloc hq fun H16 s16 e16 => ?_
            have d16 := s16 _ _ d15
            refine ⟨_, d16, szl (by rw [List.length_map]; omega), ks ++ [q], Same.mut (s15.trans s16) hD, by rw [upd_same, List.map_append]; rfl, ?_⟩
            rw [take_snoc h1, List.map_append]
            exact HomesAt.kp (Paired.app (HomesAt.kp k15 (Kp.same s16)) (Paired.one e16)) (Kp.lst d16)
          · rintro H15 ⟨ks, s15, d15, k15⟩
            rw [List.length_map, hub, List.take_length] at k15
            refine ⟨D, _, rfl, .inl ⟨SqL.of d15, fun ht hht => ?_⟩⟩
            refine alloc hht fun H16 s16 e16 => ?_
            dsimp only [gName]
            have S16 := s15.trans s16
            refine ⟨_, rfl, _, rfl, yo, _, _, _, rfl, rfl, SqT.of (S16 _ _ hu1), at1, upa, rfl, ⟨_, SqT.of (S16 _ _ hu2)⟩, fun D2 hD2 => ?_⟩
            refine lc_tup (K := K) (a := upa) (xs := u.places.map nI) (fun j H' => Same1 H16 H' ∧ H' D2 = some (.lst (((u.places.take j).map (· % W)).map nI))) ⟨Same.new hD2, upd_same⟩ (fun j H' _ ⟨q, _⟩ => SqT.of (q _ _ (S16 _ _ hu2))) ?_ ?_
            · rintro j x H17 hj ⟨s17, d17⟩
              have hjc : j < u.places.length := by
                have q := (List.getElem?_eq_some_iff.mp hj).1
                rwa [List.length_map] at q
              have h1 : u.places[j]? = some u.places[j] := List.getElem?_eq_getElem hjc
              have ex : x = nI u.places[j] := by
                rw [List.getElem?_map, h1] at hj
                exact (Option.some.inj hj).symm
              subst ex
              have r40 := g.r40
              have upl := uk.pl
              refine ⟨rfl, ?_⟩
              dsimp only [tYes]
              rw [if_pos rfl]
              refine ⟨_, rfl, _, rfl, _, _, rfl, rfl, (show (0 : Int) < (W : Int) by omega), _, d17, szl (by rw [List.length_map, List.length_map, List.length_take]; omega), Same.mut s17 hD2, ?_⟩
              rw [upd_same, take_snoc h1, List.map_append, List.map_append]
              rfl
            · rintro H17 ⟨s17, d17⟩
              rw [List.length_map, List.take_length] at d17
              refine ⟨D2, _, rfl, .inl ⟨SqL.of d17, fun pt hpt => ?_⟩⟩
              refine alloc hpt fun H18 s18 e18 => ?_
              refine ⟨_, rfl, (by show 3 ≤ sizeLine; decide), fun lt hlt => ?_⟩
              refine alloc hlt fun H19 s19 e19 => ?_
              dsimp only [gName]
              have S1 := (s17.trans s18).trans s19
              have S2 := S16.trans S1
              have e11' := C14.but _ _ (C13.ned nbl) (S13 _ _ e11)
              exact ⟨_, _, _, lt, modLay W u, rfl, C14'.same S2, S2 _ _ e11', EntsAt.kp M11 (((Kp.same S13).trans C14.kp).trans (Kp.same S2)), ⟨pt, ht, ks, e19, s19 _ _ e18, S1 _ _ e16, HomesAt.kp k15 (Kp.same (s16.trans S1))⟩, mod_ok w2 w24 uk, rfl, mod_one⟩
        · rintro σ H11 ⟨x13, x14, x15, yl, z, rfl, C11, e11, M11, hZ, zk, zw, z1⟩
          refine ⟨_, rfl, _, rfl, _, _, rfl, rfl, _, rfl, ?_⟩
          rw [decide_eq_true (show v ≤ vs' by omega)]
          refine iteF ?_
          refine ⟨_, rfl, _, rfl, _, rfl, _, rfl, _, rfl, ?_⟩
          dsimp only [tNil]
          change spBound BEA [.ref pa, nI W, .ref la, .ref bl] H11 _ _
          refine again H11 _ C11 e11 M11 fun H12 s12 => ?_
          refine ⟨_, _, rfl, rfl, _, rfl, ?_⟩
          rw [decide_eq_true (show v ≤ vb by omega)]
          refine iteF ?_
          exact ⟨_, _, _, _, _, _, _, _, _, _, _, _, _, _, rfl, C24.trans (C11.same s12)⟩
    · rintro σ H2 ⟨x2, x3, x4, x5, x6, x7, x8, x9, x10, x11, x12, x13, x14, x15, rfl, C2⟩
      exact kq H2
end
end DL
namespace DL
open PySem L2 DLR
theorem tup_lit {K : Frg} {H : Hp} {t : Addr} {dd : Option Addr} {its : Array Value} {n : Nat} {sl : Array (Option Value)} {l : List Str} (h : K.lookup t = some ⟨.type "tuple", dd, .seq its n, sl⟩) (e : Vals (l.map V.str) its.toList) (hl : l.length ≤ 1000) : SqT K H t (l.map V.str) := by
  refine .inr ⟨_, its, n, h, rfl, rfl, ?_, e⟩
  have q : its.size = l.length := by
    have z := e.length
    rw [List.length_map] at z
    exact z.symm
  rw [q]
  exact sz (by omega)
theorem kit_cls' {K : Frg} {t : Value} {C : Addr} {b : Bool} (i : PySem.W.isClsIn K C = true) (ty : PySem.W.typeIn K (.ref C) = some (.type "type")) (s : PySem.W.subIn K t (.ref C) = some b) : PySem.W.kitCls K t (.ref C) = some b := by
  unfold PySem.W.kitCls
  have h : ((PySem.W.clsIn K C).isSome && PySem.W.typeIn K (.ref C) == some (.type "type")) = true := by
    rw [ty, show (PySem.W.clsIn K C).isSome = true from i]
    rfl
  dsimp only
  rw [if_pos h]
  exact s
theorem kit_no {K : Frg} {D C : Addr} {b : Bool} (n : (D == C) = false) (i : PySem.W.isClsIn K C = true) (ty : PySem.W.typeIn K (.ref C) = some (.type "type")) (s : PySem.W.subIn K (.ref D) (.ref C) = some b) : PySem.W.kitOne K (.ref D) (.ref C) = some b := by
  unfold PySem.W.kitOne
  have ne : ¬ (Value.ref D == Value.ref C) = true := fun z => by
    have e : Value.ref D = Value.ref C := by simpa using z
    injection e with e
    exact ne_of_beq_false n e
  rw [if_neg ne]
  exact kit_cls' i ty s
theorem kit_self {K : Frg} {D : Addr} : PySem.W.kitOne K (.ref D) (.ref D) = some true := by
  unfold PySem.W.kitOne
  rw [if_pos (by simp)]
theorem kit_type {K : Frg} {D : Addr} {T : String} {b : Bool} (m : PySem.W.kitMeta T = true) (s : PySem.W.subIn K (.ref D) (.type T) = some b) : PySem.W.kitOne K (.ref D) (.type T) = some b := by
  unfold PySem.W.kitOne
  have ne : ¬ (Value.ref D == Value.type T) = true := fun z => by
    have e : Value.ref D = Value.type T := by simpa using z
    cases e
  rw [if_neg ne]
  unfold PySem.W.kitCls
  dsimp only
  rw [if_pos m]
  exact s
theorem exm_sub {K : Frg} {D C : Addr} {b : Bool} (bb : PySem.W.subIn K (.ref C) (.type "BaseException") = some true) (i : PySem.W.isClsIn K C = true) (ty : PySem.W.typeIn K (.ref C) = some (.type "type")) (s : PySem.W.subIn K (.ref D) (.ref C) = some b) : PySem.W.exmOne K (.ref D) (.ref C) = some b := by
  unfold PySem.W.exmOne
  rw [bb, if_pos (by rfl)]
  exact kit_cls' i ty s
theorem all_mk {P : Program} {w : World} {K : PySem.W.Frag} {h : Heap} {mg : Str → Option Value} {fa : Addr} (X : K.In h) (G : h.Ns mainGlobals mg) (hfa : mg "law" = some (.ref fa))
    {af0 af1 af2 af3 af4 af5 af6 af7 af8 af9 af10 af11 af12 af13 af14 af15 af16 af17 af18 af19 af20 af21 af22 af23 af24 af25 af26 af27 af28 af29 af30 af31 af32 af33 af34 af35 af36 af37 af38 af39 af40 af41 af42 af43 af44 af45 af46 af47 af48 af49 af50 af51 af52 af53 af54 af55 af56 eBP eBL eBG eBE eDE axBE d p_load p_add p_take p_store p_say p_test p_stop e : Addr} {odf0 anf0 odf1 anf1 odf2 anf2 odf3 anf3 odf4 anf4 odf5 anf5 odf6 anf6 odf7 anf7 odf8 anf8 odf9 anf9 odf10 anf10 odf11 anf11 odf12 anf12 odf13 anf13 odf14 anf14 odf15 anf15 odf16 anf16 odf17 anf17 odf18 anf18 odf19 anf19 odf20 anf20 odf21 anf21 odf22 anf22 odf23 anf23 odf24 anf24 odf25 anf25 odf26 anf26 odf27 anf27 odf28 anf28 odf29 anf29 odf30 anf30 odf31 anf31 odf32 anf32 odf33 anf33 odf34 anf34 odf35 anf35 odf36 anf36 odf37 anf37 odf38 anf38 odf39 anf39 odf40 anf40 odf41 anf41 odf42 anf42 odf43 anf43 odf44 anf44 odf45 anf45 odf46 anf46 odf47 anf47 odf48 anf48 odf49 anf49 odf50 anf50 odf51 anf51 odf52 anf52 odf53 anf53 odf54 anf54 odf55 anf55 odf56 anf56 odxBE anxBE pd_load pd_add pd_take pd_store pd_say pd_test pd_stop : Option Addr} {slf0 slf1 slf2 slf3 slf4 slf5 slf6 slf7 slf8 slf9 slf10 slf11 slf12 slf13 slf14 slf15 slf16 slf17 slf18 slf19 slf20 slf21 slf22 slf23 slf24 slf25 slf26 slf27 slf28 slf29 slf30 slf31 slf32 slf33 slf34 slf35 slf36 slf37 slf38 slf39 slf40 slf41 slf42 slf43 slf44 slf45 slf46 slf47 slf48 slf49 slf50 slf51 slf52 slf53 slf54 slf55 slf56 slxBE ps_load ps_add ps_take ps_store ps_say ps_test ps_stop : Array (Option Value)} {its_load its_add its_take its_store its_say its_test its_stop : Array Value} {ocf0 kVf0 dcf0 pmf0 cdf0 ctf0 ocf1 kVf1 dcf1 pmf1 cdf1 ctf1 ocf2 kVf2 dcf2 pmf2 cdf2 ctf2 ocf3 kVf3 dcf3 pmf3 cdf3 ctf3 ocf4 kVf4 dcf4 pmf4 cdf4 ctf4 ocf5 kVf5 dcf5 pmf5 cdf5 ctf5 ocf6 kVf6 dcf6 pmf6 cdf6 ctf6 ocf7 kVf7 dcf7 pmf7 cdf7 ctf7 ocf8 kVf8 dcf8 pmf8 cdf8 ctf8 ocf9 kVf9 dcf9 pmf9 cdf9 ctf9 ocf10 kVf10 dcf10 pmf10 cdf10 ctf10 ocf11 kVf11 dcf11 pmf11 cdf11 ctf11 ocf12 kVf12 dcf12 pmf12 cdf12 ctf12 ocf13 kVf13 dcf13 pmf13 cdf13 ctf13 ocf14 kVf14 dcf14 pmf14 cdf14 ctf14 ocf15 kVf15 dcf15 pmf15 cdf15 ctf15 ocf16 kVf16 dcf16 pmf16 cdf16 ctf16 ocf17 kVf17 dcf17 pmf17 cdf17 ctf17 ocf18 kVf18 dcf18 pmf18 cdf18 ctf18 ocf19 kVf19 dcf19 pmf19 cdf19 ctf19 ocf20 kVf20 dcf20 pmf20 cdf20 ctf20 ocf21 kVf21 dcf21 pmf21 cdf21 ctf21 ocf22 kVf22 dcf22 pmf22 cdf22 ctf22 ocf23 kVf23 dcf23 pmf23 cdf23 ctf23 ocf24 kVf24 dcf24 pmf24 cdf24 ctf24 ocf25 kVf25 dcf25 pmf25 cdf25 ctf25 ocf26 kVf26 dcf26 pmf26 cdf26 ctf26 ocf27 kVf27 dcf27 pmf27 cdf27 ctf27 ocf28 kVf28 dcf28 pmf28 cdf28 ctf28 ocf29 kVf29 dcf29 pmf29 cdf29 ctf29 ocf30 kVf30 dcf30 pmf30 cdf30 ctf30 ocf31 kVf31 dcf31 pmf31 cdf31 ctf31 ocf32 kVf32 dcf32 pmf32 cdf32 ctf32 ocf33 kVf33 dcf33 pmf33 cdf33 ctf33 ocf34 kVf34 dcf34 pmf34 cdf34 ctf34 ocf35 kVf35 dcf35 pmf35 cdf35 ctf35 ocf36 kVf36 dcf36 pmf36 cdf36 ctf36 ocf37 kVf37 dcf37 pmf37 cdf37 ctf37 ocf38 kVf38 dcf38 pmf38 cdf38 ctf38 ocf39 kVf39 dcf39 pmf39 cdf39 ctf39 ocf40 kVf40 dcf40 pmf40 cdf40 ctf40 ocf41 kVf41 dcf41 pmf41 cdf41 ctf41 ocf42 kVf42 dcf42 pmf42 cdf42 ctf42 ocf43 kVf43 dcf43 pmf43 cdf43 ctf43 ocf44 kVf44 dcf44 pmf44 cdf44 ctf44 ocf45 kVf45 dcf45 pmf45 cdf45 ctf45 ocf46 kVf46 dcf46 pmf46 cdf46 ctf46 ocf47 kVf47 dcf47 pmf47 cdf47 ctf47 ocf48 kVf48 dcf48 pmf48 cdf48 ctf48 ocf49 kVf49 dcf49 pmf49 cdf49 ctf49 ocf50 kVf50 dcf50 pmf50 cdf50 ctf50 ocf51 kVf51 dcf51 pmf51 cdf51 ctf51 ocf52 kVf52 dcf52 pmf52 cdf52 ctf52 ocf53 kVf53 dcf53 pmf53 cdf53 ctf53 ocf54 kVf54 dcf54 pmf54 cdf54 ctf54 ocf55 kVf55 dcf55 pmf55 cdf55 ctf55 ocf56 kVf56 dcf56 pmf56 cdf56 ctf56 ocxBE kVxBE dcxBE pmxBE cdxBE ctxBE : Value} {es es2 : Array DictEntry} {n pn_load pn_add pn_take pn_store pn_say pn_test pn_stop n2 : Nat} {tW tR tN t2 t24 t3 zz1 zz2 zz3 zz4 zz5 zz6 zz7 tx_load tx_add tx_take tx_store tx_say tx_test tx_stop : Tok}
    (nf0 : PySem.W.nsIn K mainGlobals "_law_next" = some (some (.ref af0)))
    (lf0 : K.lookup af0 = some ⟨ocf0, odf0, .func (PySem.W.fnOf "_law_next" "_law_next" (defArgs sNext) (defBody sNext) (defScope sNext) .none kVf0 dcf0 pmf0 anf0 cdf0 ctf0), slf0⟩)
    (cf0 : PySem.W.codeIn K cdf0 "_law_next" = true)
    (kf0 : PySem.W.keepIn K (.ref af0) = true)
    (nf1 : PySem.W.nsIn K mainGlobals "_law_straight" = some (some (.ref af1)))
    (lf1 : K.lookup af1 = some ⟨ocf1, odf1, .func (PySem.W.fnOf "_law_straight" "_law_straight" (defArgs sStraight) (defBody sStraight) (defScope sStraight) .none kVf1 dcf1 pmf1 anf1 cdf1 ctf1), slf1⟩)
    (cf1 : PySem.W.codeIn K cdf1 "_law_straight" = true)
    (kf1 : PySem.W.keepIn K (.ref af1) = true)
    (nf2 : PySem.W.nsIn K mainGlobals "_law_fork" = some (some (.ref af2)))
    (lf2 : K.lookup af2 = some ⟨ocf2, odf2, .func (PySem.W.fnOf "_law_fork" "_law_fork" (defArgs sFork) (defBody sFork) (defScope sFork) .none kVf2 dcf2 pmf2 anf2 cdf2 ctf2), slf2⟩)
    (cf2 : PySem.W.codeIn K cdf2 "_law_fork" = true)
    (kf2 : PySem.W.keepIn K (.ref af2) = true)
    (nf3 : PySem.W.nsIn K mainGlobals "_law_body" = some (some (.ref af3)))
    (lf3 : K.lookup af3 = some ⟨ocf3, odf3, .func (PySem.W.fnOf "_law_body" "_law_body" (defArgs sBody) (defBody sBody) (defScope sBody) .none kVf3 dcf3 pmf3 anf3 cdf3 ctf3), slf3⟩)
    (cf3 : PySem.W.codeIn K cdf3 "_law_body" = true)
    (kf3 : PySem.W.keepIn K (.ref af3) = true)
    (nf4 : PySem.W.nsIn K mainGlobals "_law_mixed" = some (some (.ref af4)))
    (lf4 : K.lookup af4 = some ⟨ocf4, odf4, .func (PySem.W.fnOf "_law_mixed" "_law_mixed" (defArgs sMixed) (defBody sMixed) (defScope sMixed) .none kVf4 dcf4 pmf4 anf4 cdf4 ctf4), slf4⟩)
    (cf4 : PySem.W.codeIn K cdf4 "_law_mixed" = true)
    (kf4 : PySem.W.keepIn K (.ref af4) = true)
    (nf5 : PySem.W.nsIn K mainGlobals "_law_stopping" = some (some (.ref af5)))
    (lf5 : K.lookup af5 = some ⟨ocf5, odf5, .func (PySem.W.fnOf "_law_stopping" "_law_stopping" (defArgs sStopping) (defBody sStopping) (defScope sStopping) .none kVf5 dcf5 pmf5 anf5 cdf5 ctf5), slf5⟩)
    (cf5 : PySem.W.codeIn K cdf5 "_law_stopping" = true)
    (kf5 : PySem.W.keepIn K (.ref af5) = true)
    (nf6 : PySem.W.nsIn K mainGlobals "_law_ring" = some (some (.ref af6)))
    (lf6 : K.lookup af6 = some ⟨ocf6, odf6, .func (PySem.W.fnOf "_law_ring" "_law_ring" (defArgs sRing) (defBody sRing) (defScope sRing) .none kVf6 dcf6 pmf6 anf6 cdf6 ctf6), slf6⟩)
    (cf6 : PySem.W.codeIn K cdf6 "_law_ring" = true)
    (kf6 : PySem.W.keepIn K (.ref af6) = true)
    (nf7 : PySem.W.nsIn K mainGlobals "_law_step" = some (some (.ref af7)))
    (lf7 : K.lookup af7 = some ⟨ocf7, odf7, .func (PySem.W.fnOf "_law_step" "_law_step" (defArgs sStep) (defBody sStep) (defScope sStep) .none kVf7 dcf7 pmf7 anf7 cdf7 ctf7), slf7⟩)
    (cf7 : PySem.W.codeIn K cdf7 "_law_step" = true)
    (kf7 : PySem.W.keepIn K (.ref af7) = true)
    (nf8 : PySem.W.nsIn K mainGlobals "_law_run" = some (some (.ref af8)))
    (lf8 : K.lookup af8 = some ⟨ocf8, odf8, .func (PySem.W.fnOf "_law_run" "_law_run" (defArgs sLRun) (defBody sLRun) (defScope sLRun) .none kVf8 dcf8 pmf8 anf8 cdf8 ctf8), slf8⟩)
    (cf8 : PySem.W.codeIn K cdf8 "_law_run" = true)
    (kf8 : PySem.W.keepIn K (.ref af8) = true)
    (nf9 : PySem.W.nsIn K mainGlobals "is_number" = some (some (.ref af9)))
    (lf9 : K.lookup af9 = some ⟨ocf9, odf9, .func (PySem.W.fnOf "is_number" "is_number" (defArgs sIsNumber) (defBody sIsNumber) (defScope sIsNumber) .none kVf9 dcf9 pmf9 anf9 cdf9 ctf9), slf9⟩)
    (cf9 : PySem.W.codeIn K cdf9 "is_number" = true)
    (kf9 : PySem.W.keepIn K (.ref af9) = true)
    (nf10 : PySem.W.nsIn K mainGlobals "is_between" = some (some (.ref af10)))
    (lf10 : K.lookup af10 = some ⟨ocf10, odf10, .func (PySem.W.fnOf "is_between" "is_between" (defArgs sIsBetween) (defBody sIsBetween) (defScope sIsBetween) .none kVf10 dcf10 pmf10 anf10 cdf10 ctf10), slf10⟩)
    (cf10 : PySem.W.codeIn K cdf10 "is_between" = true)
    (kf10 : PySem.W.keepIn K (.ref af10) = true)
    (nf11 : PySem.W.nsIn K mainGlobals "part" = some (some (.ref af11)))
    (lf11 : K.lookup af11 = some ⟨ocf11, odf11, .func (PySem.W.fnOf "part" "part" (defArgs sPart) (defBody sPart) (defScope sPart) .none kVf11 dcf11 pmf11 anf11 cdf11 ctf11), slf11⟩)
    (cf11 : PySem.W.codeIn K cdf11 "part" = true)
    (kf11 : PySem.W.keepIn K (.ref af11) = true)
    (nf12 : PySem.W.nsIn K mainGlobals "check_worths" = some (some (.ref af12)))
    (lf12 : K.lookup af12 = some ⟨ocf12, odf12, .func (PySem.W.fnOf "check_worths" "check_worths" (defArgs sCheckWorths) (defBody sCheckWorths) (defScope sCheckWorths) .none kVf12 dcf12 pmf12 anf12 cdf12 ctf12), slf12⟩)
    (cf12 : PySem.W.codeIn K cdf12 "check_worths" = true)
    (kf12 : PySem.W.keepIn K (.ref af12) = true)
    (nf13 : PySem.W.nsIn K mainGlobals "has_shape" = some (some (.ref af13)))
    (lf13 : K.lookup af13 = some ⟨ocf13, odf13, .func (PySem.W.fnOf "has_shape" "has_shape" (defArgs sHasShape) (defBody sHasShape) (defScope sHasShape) .none kVf13 dcf13 pmf13 anf13 cdf13 ctf13), slf13⟩)
    (cf13 : PySem.W.codeIn K cdf13 "has_shape" = true)
    (kf13 : PySem.W.keepIn K (.ref af13) = true)
    (nf14 : PySem.W.nsIn K mainGlobals "check_row" = some (some (.ref af14)))
    (lf14 : K.lookup af14 = some ⟨ocf14, odf14, .func (PySem.W.fnOf "check_row" "check_row" (defArgs sCheckRow) (defBody sCheckRow) (defScope sCheckRow) .none kVf14 dcf14 pmf14 anf14 cdf14 ctf14), slf14⟩)
    (cf14 : PySem.W.codeIn K cdf14 "check_row" = true)
    (kf14 : PySem.W.keepIn K (.ref af14) = true)
    (nf15 : PySem.W.nsIn K mainGlobals "check_program" = some (some (.ref af15)))
    (lf15 : K.lookup af15 = some ⟨ocf15, odf15, .func (PySem.W.fnOf "check_program" "check_program" (defArgs sCheckProgram) (defBody sCheckProgram) (defScope sCheckProgram) .none kVf15 dcf15 pmf15 anf15 cdf15 ctf15), slf15⟩)
    (cf15 : PySem.W.codeIn K cdf15 "check_program" = true)
    (kf15 : PySem.W.keepIn K (.ref af15) = true)
    (nf16 : PySem.W.nsIn K mainGlobals "uses_worth" = some (some (.ref af16)))
    (lf16 : K.lookup af16 = some ⟨ocf16, odf16, .func (PySem.W.fnOf "uses_worth" "uses_worth" (defArgs sUsesWorth) (defBody sUsesWorth) (defScope sUsesWorth) .none kVf16 dcf16 pmf16 anf16 cdf16 ctf16), slf16⟩)
    (cf16 : PySem.W.codeIn K cdf16 "uses_worth" = true)
    (kf16 : PySem.W.keepIn K (.ref af16) = true)
    (nf17 : PySem.W.nsIn K mainGlobals "_law_laying" = some (some (.ref af17)))
    (lf17 : K.lookup af17 = some ⟨ocf17, odf17, .func (PySem.W.fnOf "_law_laying" "_law_laying" (defArgs sLaying) (defBody sLaying) (defScope sLaying) .none kVf17 dcf17 pmf17 anf17 cdf17 ctf17), slf17⟩)
    (cf17 : PySem.W.codeIn K cdf17 "_law_laying" = true)
    (kf17 : PySem.W.keepIn K (.ref af17) = true)
    (nf18 : PySem.W.nsIn K mainGlobals "check_wide" = some (some (.ref af18)))
    (lf18 : K.lookup af18 = some ⟨ocf18, odf18, .func (PySem.W.fnOf "check_wide" "check_wide" (defArgs sCheckWide) (defBody sCheckWide) (defScope sCheckWide) .none kVf18 dcf18 pmf18 anf18 cdf18 ctf18), slf18⟩)
    (cf18 : PySem.W.codeIn K cdf18 "check_wide" = true)
    (kf18 : PySem.W.keepIn K (.ref af18) = true)
    (nf19 : PySem.W.nsIn K mainGlobals "check_places" = some (some (.ref af19)))
    (lf19 : K.lookup af19 = some ⟨ocf19, odf19, .func (PySem.W.fnOf "check_places" "check_places" (defArgs sCheckPlaces) (defBody sCheckPlaces) (defScope sCheckPlaces) .none kVf19 dcf19 pmf19 anf19 cdf19 ctf19), slf19⟩)
    (cf19 : PySem.W.codeIn K cdf19 "check_places" = true)
    (kf19 : PySem.W.keepIn K (.ref af19) = true)
    (nf20 : PySem.W.nsIn K mainGlobals "check_homes" = some (some (.ref af20)))
    (lf20 : K.lookup af20 = some ⟨ocf20, odf20, .func (PySem.W.fnOf "check_homes" "check_homes" (defArgs sCheckHomes) (defBody sCheckHomes) (defScope sCheckHomes) .none kVf20 dcf20 pmf20 anf20 cdf20 ctf20), slf20⟩)
    (cf20 : PySem.W.codeIn K cdf20 "check_homes" = true)
    (kf20 : PySem.W.keepIn K (.ref af20) = true)
    (nf21 : PySem.W.nsIn K mainGlobals "are_homes" = some (some (.ref af21)))
    (lf21 : K.lookup af21 = some ⟨ocf21, odf21, .func (PySem.W.fnOf "are_homes" "are_homes" (defArgs sAreHomes) (defBody sAreHomes) (defScope sAreHomes) .none kVf21 dcf21 pmf21 anf21 cdf21 ctf21), slf21⟩)
    (cf21 : PySem.W.codeIn K cdf21 "are_homes" = true)
    (kf21 : PySem.W.keepIn K (.ref af21) = true)
    (nf22 : PySem.W.nsIn K mainGlobals "check_laying" = some (some (.ref af22)))
    (lf22 : K.lookup af22 = some ⟨ocf22, odf22, .func (PySem.W.fnOf "check_laying" "check_laying" (defArgs sCheckLaying) (defBody sCheckLaying) (defScope sCheckLaying) .none kVf22 dcf22 pmf22 anf22 cdf22 ctf22), slf22⟩)
    (cf22 : PySem.W.codeIn K cdf22 "check_laying" = true)
    (kf22 : PySem.W.keepIn K (.ref af22) = true)
    (nf23 : PySem.W.nsIn K mainGlobals "nexts" = some (some (.ref af23)))
    (lf23 : K.lookup af23 = some ⟨ocf23, odf23, .func (PySem.W.fnOf "nexts" "nexts" (defArgs sNexts) (defBody sNexts) (defScope sNexts) .none kVf23 dcf23 pmf23 anf23 cdf23 ctf23), slf23⟩)
    (cf23 : PySem.W.codeIn K cdf23 "nexts" = true)
    (kf23 : PySem.W.keepIn K (.ref af23) = true)
    (nf24 : PySem.W.nsIn K mainGlobals "rows_ahead" = some (some (.ref af24)))
    (lf24 : K.lookup af24 = some ⟨ocf24, odf24, .func (PySem.W.fnOf "rows_ahead" "rows_ahead" (defArgs sAhead) (defBody sAhead) (defScope sAhead) .none kVf24 dcf24 pmf24 anf24 cdf24 ctf24), slf24⟩)
    (cf24 : PySem.W.codeIn K cdf24 "rows_ahead" = true)
    (kf24 : PySem.W.keepIn K (.ref af24) = true)
    (nf25 : PySem.W.nsIn K mainGlobals "goes_that_may_be" = some (some (.ref af25)))
    (lf25 : K.lookup af25 = some ⟨ocf25, odf25, .func (PySem.W.fnOf "goes_that_may_be" "goes_that_may_be" (defArgs sGoesMay) (defBody sGoesMay) (defScope sGoesMay) .none kVf25 dcf25 pmf25 anf25 cdf25 ctf25), slf25⟩)
    (cf25 : PySem.W.codeIn K cdf25 "goes_that_may_be" = true)
    (kf25 : PySem.W.keepIn K (.ref af25) = true)
    (nf26 : PySem.W.nsIn K mainGlobals "first_beat" = some (some (.ref af26)))
    (lf26 : K.lookup af26 = some ⟨ocf26, odf26, .func (PySem.W.fnOf "first_beat" "first_beat" (defArgs sFirstBeat) (defBody sFirstBeat) (defScope sFirstBeat) .none kVf26 dcf26 pmf26 anf26 cdf26 ctf26), slf26⟩)
    (cf26 : PySem.W.codeIn K cdf26 "first_beat" = true)
    (kf26 : PySem.W.keepIn K (.ref af26) = true)
    (nf27 : PySem.W.nsIn K mainGlobals "beats_of_use" = some (some (.ref af27)))
    (lf27 : K.lookup af27 = some ⟨ocf27, odf27, .func (PySem.W.fnOf "beats_of_use" "beats_of_use" (defArgs sBeatsOfUse) (defBody sBeatsOfUse) (defScope sBeatsOfUse) .none kVf27 dcf27 pmf27 anf27 cdf27 ctf27), slf27⟩)
    (cf27 : PySem.W.codeIn K cdf27 "beats_of_use" = true)
    (kf27 : PySem.W.keepIn K (.ref af27) = true)
    (nf28 : PySem.W.nsIn K mainGlobals "beat_of_use" = some (some (.ref af28)))
    (lf28 : K.lookup af28 = some ⟨ocf28, odf28, .func (PySem.W.fnOf "beat_of_use" "beat_of_use" (defArgs sBeatOfUse) (defBody sBeatOfUse) (defScope sBeatOfUse) .none kVf28 dcf28 pmf28 anf28 cdf28 ctf28), slf28⟩)
    (cf28 : PySem.W.codeIn K cdf28 "beat_of_use" = true)
    (kf28 : PySem.W.keepIn K (.ref af28) = true)
    (nf29 : PySem.W.nsIn K mainGlobals "beat_behind" = some (some (.ref af29)))
    (lf29 : K.lookup af29 = some ⟨ocf29, odf29, .func (PySem.W.fnOf "beat_behind" "beat_behind" (defArgs sBeatBehind) (defBody sBeatBehind) (defScope sBeatBehind) .none kVf29 dcf29 pmf29 anf29 cdf29 ctf29), slf29⟩)
    (cf29 : PySem.W.codeIn K cdf29 "beat_behind" = true)
    (kf29 : PySem.W.keepIn K (.ref af29) = true)
    (nf30 : PySem.W.nsIn K mainGlobals "cost" = some (some (.ref af30)))
    (lf30 : K.lookup af30 = some ⟨ocf30, odf30, .func (PySem.W.fnOf "cost" "cost" (defArgs sCost) (defBody sCost) (defScope sCost) .none kVf30 dcf30 pmf30 anf30 cdf30 ctf30), slf30⟩)
    (cf30 : PySem.W.codeIn K cdf30 "cost" = true)
    (kf30 : PySem.W.keepIn K (.ref af30) = true)
    (nf31 : PySem.W.nsIn K mainGlobals "_law_ended" = some (some (.ref af31)))
    (lf31 : K.lookup af31 = some ⟨ocf31, odf31, .func (PySem.W.fnOf "_law_ended" "_law_ended" (defArgs sEnded) (defBody sEnded) (defScope sEnded) .none kVf31 dcf31 pmf31 anf31 cdf31 ctf31), slf31⟩)
    (cf31 : PySem.W.codeIn K cdf31 "_law_ended" = true)
    (kf31 : PySem.W.keepIn K (.ref af31) = true)
    (nf32 : PySem.W.nsIn K mainGlobals "is_go" = some (some (.ref af32)))
    (lf32 : K.lookup af32 = some ⟨ocf32, odf32, .func (PySem.W.fnOf "is_go" "is_go" (defArgs sIsGo) (defBody sIsGo) (defScope sIsGo) .none kVf32 dcf32 pmf32 anf32 cdf32 ctf32), slf32⟩)
    (cf32 : PySem.W.codeIn K cdf32 "is_go" = true)
    (kf32 : PySem.W.keepIn K (.ref af32) = true)
    (nf33 : PySem.W.nsIn K mainGlobals "rows_found" = some (some (.ref af33)))
    (lf33 : K.lookup af33 = some ⟨ocf33, odf33, .func (PySem.W.fnOf "rows_found" "rows_found" (defArgs sRowsFound) (defBody sRowsFound) (defScope sRowsFound) .none kVf33 dcf33 pmf33 anf33 cdf33 ctf33), slf33⟩)
    (cf33 : PySem.W.codeIn K cdf33 "rows_found" = true)
    (kf33 : PySem.W.keepIn K (.ref af33) = true)
    (nf34 : PySem.W.nsIn K mainGlobals "goes_agree" = some (some (.ref af34)))
    (lf34 : K.lookup af34 = some ⟨ocf34, odf34, .func (PySem.W.fnOf "goes_agree" "goes_agree" (defArgs sGoesAgree) (defBody sGoesAgree) (defScope sGoesAgree) .none kVf34 dcf34 pmf34 anf34 cdf34 ctf34), slf34⟩)
    (cf34 : PySem.W.codeIn K cdf34 "goes_agree" = true)
    (kf34 : PySem.W.keepIn K (.ref af34) = true)
    (nf35 : PySem.W.nsIn K mainGlobals "check_goes" = some (some (.ref af35)))
    (lf35 : K.lookup af35 = some ⟨ocf35, odf35, .func (PySem.W.fnOf "check_goes" "check_goes" (defArgs sCheckGoes) (defBody sCheckGoes) (defScope sCheckGoes) .none kVf35 dcf35 pmf35 anf35 cdf35 ctf35), slf35⟩)
    (cf35 : PySem.W.codeIn K cdf35 "check_goes" = true)
    (kf35 : PySem.W.keepIn K (.ref af35) = true)
    (nf36 : PySem.W.nsIn K mainGlobals "beats_by" = some (some (.ref af36)))
    (lf36 : K.lookup af36 = some ⟨ocf36, odf36, .func (PySem.W.fnOf "beats_by" "beats_by" (defArgs sBeatsBy) (defBody sBeatsBy) (defScope sBeatsBy) .none kVf36 dcf36 pmf36 anf36 cdf36 ctf36), slf36⟩)
    (cf36 : PySem.W.codeIn K cdf36 "beats_by" = true)
    (kf36 : PySem.W.keepIn K (.ref af36) = true)
    (nf37 : PySem.W.nsIn K mainGlobals "beats" = some (some (.ref af37)))
    (lf37 : K.lookup af37 = some ⟨ocf37, odf37, .func (PySem.W.fnOf "beats" "beats" (defArgs sBeats) (defBody sBeats) (defScope sBeats) .none kVf37 dcf37 pmf37 anf37 cdf37 ctf37), slf37⟩)
    (cf37 : PySem.W.codeIn K cdf37 "beats" = true)
    (kf37 : PySem.W.keepIn K (.ref af37) = true)
    (nf38 : PySem.W.nsIn K mainGlobals "halves" = some (some (.ref af38)))
    (lf38 : K.lookup af38 = some ⟨ocf38, odf38, .func (PySem.W.fnOf "halves" "halves" (defArgs sHalves) (defBody sHalves) (defScope sHalves) .none kVf38 dcf38 pmf38 anf38 cdf38 ctf38), slf38⟩)
    (cf38 : PySem.W.codeIn K cdf38 "halves" = true)
    (kf38 : PySem.W.keepIn K (.ref af38) = true)
    (nf39 : PySem.W.nsIn K mainGlobals "least_half" = some (some (.ref af39)))
    (lf39 : K.lookup af39 = some ⟨ocf39, odf39, .func (PySem.W.fnOf "least_half" "least_half" (defArgs sLeastHalf) (defBody sLeastHalf) (defScope sLeastHalf) .none kVf39 dcf39 pmf39 anf39 cdf39 ctf39), slf39⟩)
    (cf39 : PySem.W.codeIn K cdf39 "least_half" = true)
    (kf39 : PySem.W.keepIn K (.ref af39) = true)
    (nf40 : PySem.W.nsIn K mainGlobals "least_beats" = some (some (.ref af40)))
    (lf40 : K.lookup af40 = some ⟨ocf40, odf40, .func (PySem.W.fnOf "least_beats" "least_beats" (defArgs sLeastBeats) (defBody sLeastBeats) (defScope sLeastBeats) .none kVf40 dcf40 pmf40 anf40 cdf40 ctf40), slf40⟩)
    (cf40 : PySem.W.codeIn K cdf40 "least_beats" = true)
    (kf40 : PySem.W.keepIn K (.ref af40) = true)
    (nf41 : PySem.W.nsIn K mainGlobals "in_rounds" = some (some (.ref af41)))
    (lf41 : K.lookup af41 = some ⟨ocf41, odf41, .func (PySem.W.fnOf "in_rounds" "in_rounds" (defArgs sInRounds) (defBody sInRounds) (defScope sInRounds) .none kVf41 dcf41 pmf41 anf41 cdf41 ctf41), slf41⟩)
    (cf41 : PySem.W.codeIn K cdf41 "in_rounds" = true)
    (kf41 : PySem.W.keepIn K (.ref af41) = true)
    (nf42 : PySem.W.nsIn K mainGlobals "times_done" = some (some (.ref af42)))
    (lf42 : K.lookup af42 = some ⟨ocf42, odf42, .func (PySem.W.fnOf "times_done" "times_done" (defArgs sTimesE) (defBody sTimesE) (defScope sTimesE) .none kVf42 dcf42 pmf42 anf42 cdf42 ctf42), slf42⟩)
    (cf42 : PySem.W.codeIn K cdf42 "times_done" = true)
    (kf42 : PySem.W.keepIn K (.ref af42) = true)
    (nf43 : PySem.W.nsIn K mainGlobals "halves_done" = some (some (.ref af43)))
    (lf43 : K.lookup af43 = some ⟨ocf43, odf43, .func (PySem.W.fnOf "halves_done" "halves_done" (defArgs sHalvesDone) (defBody sHalvesDone) (defScope sHalvesDone) .none kVf43 dcf43 pmf43 anf43 cdf43 ctf43), slf43⟩)
    (cf43 : PySem.W.codeIn K cdf43 "halves_done" = true)
    (kf43 : PySem.W.keepIn K (.ref af43) = true)
    (nf44 : PySem.W.nsIn K mainGlobals "use_one_worth" = some (some (.ref af44)))
    (lf44 : K.lookup af44 = some ⟨ocf44, odf44, .func (PySem.W.fnOf "use_one_worth" "use_one_worth" (defArgs sUsesOne) (defBody sUsesOne) (defScope sUsesOne) .none kVf44 dcf44 pmf44 anf44 cdf44 ctf44), slf44⟩)
    (cf44 : PySem.W.codeIn K cdf44 "use_one_worth" = true)
    (kf44 : PySem.W.keepIn K (.ref af44) = true)
    (nf45 : PySem.W.nsIn K mainGlobals "is_way" = some (some (.ref af45)))
    (lf45 : K.lookup af45 = some ⟨ocf45, odf45, .func (PySem.W.fnOf "is_way" "is_way" (defArgs sIsWay) (defBody sIsWay) (defScope sIsWay) .none kVf45 dcf45 pmf45 anf45 cdf45 ctf45), slf45⟩)
    (cf45 : PySem.W.codeIn K cdf45 "is_way" = true)
    (kf45 : PySem.W.keepIn K (.ref af45) = true)
    (nf46 : PySem.W.nsIn K mainGlobals "is_entry" = some (some (.ref af46)))
    (lf46 : K.lookup af46 = some ⟨ocf46, odf46, .func (PySem.W.fnOf "is_entry" "is_entry" (defArgs sIsEntry) (defBody sIsEntry) (defScope sIsEntry) .none kVf46 dcf46 pmf46 anf46 cdf46 ctf46), slf46⟩)
    (cf46 : PySem.W.codeIn K cdf46 "is_entry" = true)
    (kf46 : PySem.W.keepIn K (.ref af46) = true)
    (nf47 : PySem.W.nsIn K mainGlobals "take_halves" = some (some (.ref af47)))
    (lf47 : K.lookup af47 = some ⟨ocf47, odf47, .func (PySem.W.fnOf "take_halves" "take_halves" (defArgs sTakeHalves) (defBody sTakeHalves) (defScope sTakeHalves) .none kVf47 dcf47 pmf47 anf47 cdf47 ctf47), slf47⟩)
    (cf47 : PySem.W.codeIn K cdf47 "take_halves" = true)
    (kf47 : PySem.W.keepIn K (.ref af47) = true)
    (nf48 : PySem.W.nsIn K mainGlobals "check_wide_and_goes" = some (some (.ref af48)))
    (lf48 : K.lookup af48 = some ⟨ocf48, odf48, .func (PySem.W.fnOf "check_wide_and_goes" "check_wide_and_goes" (defArgs sCheckWGE) (defBody sCheckWGE) (defScope sCheckWGE) .none kVf48 dcf48 pmf48 anf48 cdf48 ctf48), slf48⟩)
    (cf48 : PySem.W.codeIn K cdf48 "check_wide_and_goes" = true)
    (kf48 : PySem.W.keepIn K (.ref af48) = true)
    (nf49 : PySem.W.nsIn K mainGlobals "bound" = some (some (.ref af49)))
    (lf49 : K.lookup af49 = some ⟨ocf49, odf49, .func (PySem.W.fnOf "bound" "bound" (defArgs sBound) (defBody sBound) (defScope sBound) .none kVf49 dcf49 pmf49 anf49 cdf49 ctf49), slf49⟩)
    (cf49 : PySem.W.codeIn K cdf49 "bound" = true)
    (kf49 : PySem.W.keepIn K (.ref af49) = true)
    (nf50 : PySem.W.nsIn K mainGlobals "sort_of" = some (some (.ref af50)))
    (lf50 : K.lookup af50 = some ⟨ocf50, odf50, .func (PySem.W.fnOf "sort_of" "sort_of" (defArgs sSortOf) (defBody sSortOf) (defScope sSortOf) .none kVf50 dcf50 pmf50 anf50 cdf50 ctf50), slf50⟩)
    (cf50 : PySem.W.codeIn K cdf50 "sort_of" = true)
    (kf50 : PySem.W.keepIn K (.ref af50) = true)
    (nf51 : PySem.W.nsIn K mainGlobals "shortest_ways" = some (some (.ref af51)))
    (lf51 : K.lookup af51 = some ⟨ocf51, odf51, .func (PySem.W.fnOf "shortest_ways" "shortest_ways" (defArgs sShortest) (defBody sShortest) (defScope sShortest) .none kVf51 dcf51 pmf51 anf51 cdf51 ctf51), slf51⟩)
    (cf51 : PySem.W.codeIn K cdf51 "shortest_ways" = true)
    (kf51 : PySem.W.keepIn K (.ref af51) = true)
    (nf52 : PySem.W.nsIn K mainGlobals "ways_to_take" = some (some (.ref af52)))
    (lf52 : K.lookup af52 = some ⟨ocf52, odf52, .func (PySem.W.fnOf "ways_to_take" "ways_to_take" (defArgs sWaysToTake) (defBody sWaysToTake) (defScope sWaysToTake) .none kVf52 dcf52 pmf52 anf52 cdf52 ctf52), slf52⟩)
    (cf52 : PySem.W.codeIn K cdf52 "ways_to_take" = true)
    (kf52 : PySem.W.keepIn K (.ref af52) = true)
    (nf53 : PySem.W.nsIn K mainGlobals "paper" = some (some (.ref af53)))
    (lf53 : K.lookup af53 = some ⟨ocf53, odf53, .func (PySem.W.fnOf "paper" "paper" (defArgs sPaper) (defBody sPaper) (defScope sPaper) .none kVf53 dcf53 pmf53 anf53 cdf53 ctf53), slf53⟩)
    (cf53 : PySem.W.codeIn K cdf53 "paper" = true)
    (kf53 : PySem.W.keepIn K (.ref af53) = true)
    (nf54 : PySem.W.nsIn K mainGlobals "_law_round" = some (some (.ref af54)))
    (lf54 : K.lookup af54 = some ⟨ocf54, odf54, .func (PySem.W.fnOf "_law_round" "_law_round" (defArgs sRound) (defBody sRound) (defScope sRound) .none kVf54 dcf54 pmf54 anf54 cdf54 ctf54), slf54⟩)
    (cf54 : PySem.W.codeIn K cdf54 "_law_round" = true)
    (kf54 : PySem.W.keepIn K (.ref af54) = true)
    (nf55 : PySem.W.nsIn K mainGlobals "_law_dice" = some (some (.ref af55)))
    (lf55 : K.lookup af55 = some ⟨ocf55, odf55, .func (PySem.W.fnOf "_law_dice" "_law_dice" (defArgs sDice) (defBody sDice) (defScope sDice) .none kVf55 dcf55 pmf55 anf55 cdf55 ctf55), slf55⟩)
    (cf55 : PySem.W.codeIn K cdf55 "_law_dice" = true)
    (kf55 : PySem.W.keepIn K (.ref af55) = true)
    (nf56 : PySem.W.nsIn K mainGlobals "law" = some (some (.ref af56)))
    (lf56 : K.lookup af56 = some ⟨ocf56, odf56, .func (PySem.W.fnOf "law" "law" (defArgs sLaw) (defBody sLaw) (defScope sLaw) .none kVf56 dcf56 pmf56 anf56 cdf56 ctf56), slf56⟩)
    (cf56 : PySem.W.codeIn K cdf56 "law" = true)
    (kf56 : PySem.W.keepIn K (.ref af56) = true)
    (mBP : PySem.W.nsIn K mainGlobals "BadProgram" = some (some (.ref eBP)))
    (mBL : PySem.W.nsIn K mainGlobals "BadLaying" = some (some (.ref eBL)))
    (mBG : PySem.W.nsIn K mainGlobals "BadGoes" = some (some (.ref eBG)))
    (mBE : PySem.W.nsIn K mainGlobals "BadPaper" = some (some (.ref eBE)))
    (mDE : PySem.W.nsIn K mainGlobals "DrumError" = some (some (.ref eDE)))
    (b_ValueError : PySem.W.nsIn K mainGlobals "ValueError" = some none)
    (iBP : PySem.W.isClsIn K eBP = true)
    (tBP : PySem.W.typeIn K (.ref eBP) = some (.type "type"))
    (iBL : PySem.W.isClsIn K eBL = true)
    (tBL : PySem.W.typeIn K (.ref eBL) = some (.type "type"))
    (iBG : PySem.W.isClsIn K eBG = true)
    (tBG : PySem.W.typeIn K (.ref eBG) = some (.type "type"))
    (iBE : PySem.W.isClsIn K eBE = true)
    (tBE : PySem.W.typeIn K (.ref eBE) = some (.type "type"))
    (iDE : PySem.W.isClsIn K eDE = true)
    (tDE : PySem.W.typeIn K (.ref eDE) = some (.type "type"))
    (bDE : PySem.W.subIn K (.ref eDE) (.type "BaseException") = some true)
    (de_sp : PySem.W.specialIn K (.ref eDE) "__getattribute__" = some (some (.builtin "type.__getattribute__")))
    (de_rd : PySem.W.readsIn K eDE (.type "type") = true)
    (de_fi : PySem.W.findCls K (.ref eDE) (.type "type") "__init__" = some (.val (.builtin "ValueError.__init__")))
    (BE_hg : PySem.W.findIn K (.ref eBE) "__getattribute__" = some (some (.builtin "BaseException.__getattribute__")))
    (BE_hk : PySem.W.findIn K (.ref eBE) "__getattr__" = some none)
    (BE_hs : PySem.W.subIn K (.ref eBE) (.type "BaseException") = some true)
    (BE_hd : PySem.W.hasDictIn K eBE = true)
    (BE_ha : PySem.W.findIn K (.ref eBE) "__class__" = some (some (.builtin "object.__class__")))
    (BE_hn : PySem.W.specialIn K (.builtin "object.__class__") "__get__" = some (some (.builtin "getset_descriptor.__get__")))
    (BE_ht : PySem.W.takesIn K (.builtin "object.__class__") = some true)
    (BE_hm : PySem.W.mroIn K eBE (.type "object") = some true)
    (BE_sDE : PySem.W.subIn K (.ref eBE) (.ref eDE) = some true)
    (BE_sVE : PySem.W.subIn K (.ref eBE) (.type "ValueError") = some true)
    (BE_s0 : PySem.W.subIn K (.ref eBE) (.ref eBP) = some false)
    (BE_s1 : PySem.W.subIn K (.ref eBE) (.ref eBL) = some false)
    (BE_s3 : PySem.W.subIn K (.ref eBE) (.ref eBG) = some false)
    (BE_n0 : (eBE == eBP) = false)
    (BE_n1 : (eBE == eBL) = false)
    (BE_n3 : (eBE == eBG) = false)
    (BE_sa : PySem.W.findIn K (.ref eBE) "__setattr__" = some (some (.builtin "object.__setattr__")))
    (BE_rk : PySem.W.keepIn K (.ref eBE) = true)
    (BE_rt : PySem.W.typeIn K (.ref eBE) = some (.type "type"))
    (BE_wrow : PySem.W.findIn K (.ref eBE) "row" = some none)
    (BE_wwhy : PySem.W.findIn K (.ref eBE) "why" = some none)
    (BE_wat : PySem.W.findIn K (.ref eBE) "at" = some none)
    (BE_wline : PySem.W.findIn K (.ref eBE) "line" = some none)
    (BE_ss : PySem.W.subIn K (.ref eBE) (.ref eBE) = some true)
    (BE_cl : ∃ nm q N bs bm sn sub ab col dd k0 k1 k2 k3 k5, K.lookup eBE = some (excClassObj nm q eBE N bs bm true sn sub ab col dd k0 k1 k2 k3 k5 "ValueError.__new__") ∧ PySem.HandSPX.refsVE bm = true)
    (nxBE : PySem.W.findIn K (.ref eBE) "__init__" = some (some (.ref axBE)))
    (tyxBE : PySem.W.typeIn K (.ref axBE) = some (.type "function"))
    (lxBE : K.lookup axBE = some ⟨ocxBE, odxBE, .func (PySem.W.fnOf "__init__" "BadPaper.__init__" (defArgs sBEInit) (defBody sBEInit) (defScope sBEInit) .none kVxBE dcxBE pmxBE anxBE cdxBE ctxBE), slxBE⟩)
    (cxBE : PySem.W.codeIn K cdxBE "BadPaper.__init__" = true)
    (kxBE : PySem.W.keepIn K (.ref axBE) = true)
    (b_len : PySem.W.nsIn K mainGlobals "len" = some none)
    (b_int : PySem.W.nsIn K mainGlobals "int" = some none)
    (b_range : PySem.W.nsIn K mainGlobals "range" = some none)
    (b_isinstance : PySem.W.nsIn K mainGlobals "isinstance" = some none)
    (b_tuple : PySem.W.nsIn K mainGlobals "tuple" = some none)
    (b_list : PySem.W.nsIn K mainGlobals "list" = some none)
    (b_sorted : PySem.W.nsIn K mainGlobals "sorted" = some none)
    (b_sum : PySem.W.nsIn K mainGlobals "sum" = some none)
    (b_max : PySem.W.nsIn K mainGlobals "max" = some none)
    (b_enumerate : PySem.W.nsIn K mainGlobals "enumerate" = some none)
    (b_zip : PySem.W.nsIn K mainGlobals "zip" = some none)
    (b_all : PySem.W.nsIn K mainGlobals "all" = some none)
    (b_bool : PySem.W.nsIn K mainGlobals "bool" = some none)
    (b_str : PySem.W.nsIn K mainGlobals "str" = some none)
    (b_set : PySem.W.nsIn K mainGlobals "set" = some none)
    (b_min : PySem.W.nsIn K mainGlobals "min" = some none)
    (b_any : PySem.W.nsIn K mainGlobals "any" = some none)
    (qW : PySem.W.nsIn K mainGlobals "MOST_WORTHS" = some (some (.int 8 tW)))
    (qR : PySem.W.nsIn K mainGlobals "MOST_ROWS" = some (some (.int 40 tR)))
    (qN : PySem.W.nsIn K mainGlobals "MOST_NUMBER" = some (some (.int 1000000 tN)))
    (q2 : PySem.W.nsIn K mainGlobals "LEAST_WIDE" = some (some (.int 2 t2)))
    (q24 : PySem.W.nsIn K mainGlobals "MOST_WIDE" = some (some (.int 24 t24)))
    (q3 : PySem.W.nsIn K mainGlobals "MOST_HOMES" = some (some (.int 3 t3)))
    (pD : PySem.W.nsIn K mainGlobals "PARTS" = some (some (.ref d)))
    (pL : K.lookup d = some ⟨.type "dict", none, .dict es n, #[]⟩)
    (pK : PySem.W.KeysLit w.params es.toList)
    (pE : es.toList.map (·.key) = [.str "load" zz1, .str "add" zz2, .str "take" zz3, .str "store" zz4, .str "say" zz5, .str "test" zz6, .str "stop" zz7])
    (w_load : PySem.W.nsIn K d "load" = some (some (.ref p_load)))
    (u_load : K.lookup p_load = some ⟨.type "tuple", pd_load, .seq its_load pn_load, ps_load⟩)
    (v_load : Vals ((["worth", "next"] : List Str).map V.str) its_load.toList)
    (w_add : PySem.W.nsIn K d "add" = some (some (.ref p_add)))
    (u_add : K.lookup p_add = some ⟨.type "tuple", pd_add, .seq its_add pn_add, ps_add⟩)
    (v_add : Vals ((["worth", "next"] : List Str).map V.str) its_add.toList)
    (w_take : PySem.W.nsIn K d "take" = some (some (.ref p_take)))
    (u_take : K.lookup p_take = some ⟨.type "tuple", pd_take, .seq its_take pn_take, ps_take⟩)
    (v_take : Vals ((["worth", "next"] : List Str).map V.str) its_take.toList)
    (w_store : PySem.W.nsIn K d "store" = some (some (.ref p_store)))
    (u_store : K.lookup p_store = some ⟨.type "tuple", pd_store, .seq its_store pn_store, ps_store⟩)
    (v_store : Vals ((["worth", "next"] : List Str).map V.str) its_store.toList)
    (w_say : PySem.W.nsIn K d "say" = some (some (.ref p_say)))
    (u_say : K.lookup p_say = some ⟨.type "tuple", pd_say, .seq its_say pn_say, ps_say⟩)
    (v_say : Vals ((["next"] : List Str).map V.str) its_say.toList)
    (w_test : PySem.W.nsIn K d "test" = some (some (.ref p_test)))
    (u_test : K.lookup p_test = some ⟨.type "tuple", pd_test, .seq its_test pn_test, ps_test⟩)
    (v_test : Vals ((["next", "next"] : List Str).map V.str) its_test.toList)
    (w_stop : PySem.W.nsIn K d "stop" = some (some (.ref p_stop)))
    (u_stop : K.lookup p_stop = some ⟨.type "tuple", pd_stop, .seq its_stop pn_stop, ps_stop⟩)
    (v_stop : Vals (([] : List Str).map V.str) its_stop.toList)
    (lo : (d == sysModules) = false)
    (hq_heappop : PySem.W.nsIn K mainGlobals "heappop" = some (some (.builtin "_heapq.heappop")))
    (hq_heappush : PySem.W.nsIn K mainGlobals "heappush" = some (some (.builtin "_heapq.heappush")))
    (pW : PySem.W.nsIn K mainGlobals "WORK" = some (some (.ref e)))
    (pWL : K.lookup e = some ⟨.type "dict", none, .dict es2 n2, #[]⟩)
    (pWK : PySem.W.KeysLit w.params es2.toList)
    (x_load : PySem.W.nsIn K e "load" = some (some (.int 1 tx_load)))
    (x_add : PySem.W.nsIn K e "add" = some (some (.int 2 tx_add)))
    (x_take : PySem.W.nsIn K e "take" = some (some (.int 2 tx_take)))
    (x_store : PySem.W.nsIn K e "store" = some (some (.int 1 tx_store)))
    (x_say : PySem.W.nsIn K e "say" = some (some (.int 3 tx_say)))
    (x_test : PySem.W.nsIn K e "test" = some (some (.int 1 tx_test)))
    (x_stop : PySem.W.nsIn K e "stop" = some (some (.int 0 tx_stop)))
    (lo2 : (e == sysModules) = false)
    :
    ∃ fd : FuncData, (∀ (s : Shared) (v : Value), BindsTo s fd ⟨[v], []⟩ [("_law_script", v)]) ∧ ∀ base : Heap, K.In base → base.Ns mainGlobals mg → FnOk P w K mg base CX0 10 fa fd ["_law_script"] (spLaw K) := by
  have e := hfa.symm.trans (PySem.W.mg_of X G nf56)
  cases e
  have Ff0 := fun_mk (st := sNext) lf0 cf0 kf0
  have bf0 := Ff0.binds (ps := ["_law_dice_here", "_law_many"]) fun _ _ _ _ _ _ us hl => match us, hl with | [_, _], _ => rfl
  let cNext : Fd K mg "_law_next" sNext ["_law_dice_here", "_law_many"] := ⟨_, _, Ff0, bf0, PySem.W.mg_of X G nf0⟩
  have Ff1 := fun_mk (st := sStraight) lf1 cf1 kf1
  have bf1 := Ff1.binds (ps := ["_law_d", "_law_at"]) fun _ _ _ _ _ _ us hl => match us, hl with | [_, _], _ => rfl
  let cStraight : Fd K mg "_law_straight" sStraight ["_law_d", "_law_at"] := ⟨_, _, Ff1, bf1, PySem.W.mg_of X G nf1⟩
  have Ff2 := fun_mk (st := sFork) lf2 cf2 kf2
  have bf2 := Ff2.binds (ps := ["_law_d", "_law_at"]) fun _ _ _ _ _ _ us hl => match us, hl with | [_, _], _ => rfl
  let cFork : Fd K mg "_law_fork" sFork ["_law_d", "_law_at"] := ⟨_, _, Ff2, bf2, PySem.W.mg_of X G nf2⟩
  have Ff3 := fun_mk (st := sBody) lf3 cf3 kf3
  have bf3 := Ff3.binds (ps := ["_law_d", "_law_at", "_law_deep"]) fun _ _ _ _ _ _ us hl => match us, hl with | [_, _, _], _ => rfl
  let cBody : Fd K mg "_law_body" sBody ["_law_d", "_law_at", "_law_deep"] := ⟨_, _, Ff3, bf3, PySem.W.mg_of X G nf3⟩
  have Ff4 := fun_mk (st := sMixed) lf4 cf4 kf4
  have bf4 := Ff4.binds (ps := ["_law_d", "_law_program"]) fun _ _ _ _ _ _ us hl => match us, hl with | [_, _], _ => rfl
  let cMixed : Fd K mg "_law_mixed" sMixed ["_law_d", "_law_program"] := ⟨_, _, Ff4, bf4, PySem.W.mg_of X G nf4⟩
  have Ff5 := fun_mk (st := sStopping) lf5 cf5 kf5
  have bf5 := Ff5.binds (ps := ["_law_d", "_law_deep"]) fun _ _ _ _ _ _ us hl => match us, hl with | [_, _], _ => rfl
  let cStopping : Fd K mg "_law_stopping" sStopping ["_law_d", "_law_deep"] := ⟨_, _, Ff5, bf5, PySem.W.mg_of X G nf5⟩
  have Ff6 := fun_mk (st := sRing) lf6 cf6 kf6
  have bf6 := Ff6.binds (ps := ["_law_number"]) fun _ _ _ _ _ _ us hl => match us, hl with | [_], _ => rfl
  let cRing : Fd K mg "_law_ring" sRing ["_law_number"] := ⟨_, _, Ff6, bf6, PySem.W.mg_of X G nf6⟩
  have Ff7 := fun_mk (st := sStep) lf7 cf7 kf7
  have bf7 := Ff7.binds (ps := ["_law_s", "_law_row"]) fun _ _ _ _ _ _ us hl => match us, hl with | [_, _], _ => rfl
  let cStep : Fd K mg "_law_step" sStep ["_law_s", "_law_row"] := ⟨_, _, Ff7, bf7, PySem.W.mg_of X G nf7⟩
  have Ff8 := fun_mk (st := sLRun) lf8 cf8 kf8
  have bf8 := Ff8.binds (ps := ["_law_program", "_law_fuel"]) fun _ _ _ _ _ _ us hl => match us, hl with | [_, _], _ => rfl
  let cLRun : Fd K mg "_law_run" sLRun ["_law_program", "_law_fuel"] := ⟨_, _, Ff8, bf8, PySem.W.mg_of X G nf8⟩
  have Ff9 := fun_mk (st := sIsNumber) lf9 cf9 kf9
  have bf9 := Ff9.binds (ps := ["thing"]) fun _ _ _ _ _ _ us hl => match us, hl with | [_], _ => rfl
  let cIsNumber : Fd K mg "is_number" sIsNumber ["thing"] := ⟨_, _, Ff9, bf9, PySem.W.mg_of X G nf9⟩
  have Ff10 := fun_mk (st := sIsBetween) lf10 cf10 kf10
  have bf10 := Ff10.binds (ps := ["thing", "low", "high"]) fun _ _ _ _ _ _ us hl => match us, hl with | [_, _, _], _ => rfl
  let cIsBetween : Fd K mg "is_between" sIsBetween ["thing", "low", "high"] := ⟨_, _, Ff10, bf10, PySem.W.mg_of X G nf10⟩
  have Ff11 := fun_mk (st := sPart) lf11 cf11 kf11
  have bf11 := Ff11.binds (ps := ["whole", "at"]) fun _ _ _ _ _ _ us hl => match us, hl with | [_, _], _ => rfl
  let cPart : Fd K mg "part" sPart ["whole", "at"] := ⟨_, _, Ff11, bf11, PySem.W.mg_of X G nf11⟩
  have Ff12 := fun_mk (st := sCheckWorths) lf12 cf12 kf12
  have bf12 := Ff12.binds (ps := ["worths"]) fun _ _ _ _ _ _ us hl => match us, hl with | [_], _ => rfl
  let cCheckWorths : Fd K mg "check_worths" sCheckWorths ["worths"] := ⟨_, _, Ff12, bf12, PySem.W.mg_of X G nf12⟩
  have Ff13 := fun_mk (st := sHasShape) lf13 cf13 kf13
  have bf13 := Ff13.binds (ps := ["row"]) fun _ _ _ _ _ _ us hl => match us, hl with | [_], _ => rfl
  let cHasShape : Fd K mg "has_shape" sHasShape ["row"] := ⟨_, _, Ff13, bf13, PySem.W.mg_of X G nf13⟩
  have Ff14 := fun_mk (st := sCheckRow) lf14 cf14 kf14
  have bf14 := Ff14.binds (ps := ["row", "number", "counts"]) fun _ _ _ _ _ _ us hl => match us, hl with | [_, _, _], _ => rfl
  let cCheckRow : Fd K mg "check_row" sCheckRow ["row", "number", "counts"] := ⟨_, _, Ff14, bf14, PySem.W.mg_of X G nf14⟩
  have Ff15 := fun_mk (st := sCheckProgram) lf15 cf15 kf15
  have bf15 := Ff15.binds (ps := ["program"]) fun _ _ _ _ _ _ us hl => match us, hl with | [_], _ => rfl
  let cCheckProgram : Fd K mg "check_program" sCheckProgram ["program"] := ⟨_, _, Ff15, bf15, PySem.W.mg_of X G nf15⟩
  have Ff16 := fun_mk (st := sUsesWorth) lf16 cf16 kf16
  have bf16 := Ff16.binds (ps := ["row"]) fun _ _ _ _ _ _ us hl => match us, hl with | [_], _ => rfl
  let cUsesWorth : Fd K mg "uses_worth" sUsesWorth ["row"] := ⟨_, _, Ff16, bf16, PySem.W.mg_of X G nf16⟩
  have Ff17 := fun_mk (st := sLaying) lf17 cf17 kf17
  have bf17 := Ff17.binds (ps := ["_law_d", "_law_program", "_law_most"]) fun _ _ _ _ _ _ us hl => match us, hl with | [_, _, _], _ => rfl
  let cLaying : Fd K mg "_law_laying" sLaying ["_law_d", "_law_program", "_law_most"] := ⟨_, _, Ff17, bf17, PySem.W.mg_of X G nf17⟩
  have Ff18 := fun_mk (st := sCheckWide) lf18 cf18 kf18
  have bf18 := Ff18.binds (ps := ["wide"]) fun _ _ _ _ _ _ us hl => match us, hl with | [_], _ => rfl
  let cCheckWide : Fd K mg "check_wide" sCheckWide ["wide"] := ⟨_, _, Ff18, bf18, PySem.W.mg_of X G nf18⟩
  have Ff19 := fun_mk (st := sCheckPlaces) lf19 cf19 kf19
  have bf19 := Ff19.binds (ps := ["places", "count", "wide"]) fun _ _ _ _ _ _ us hl => match us, hl with | [_, _, _], _ => rfl
  let cCheckPlaces : Fd K mg "check_places" sCheckPlaces ["places", "count", "wide"] := ⟨_, _, Ff19, bf19, PySem.W.mg_of X G nf19⟩
  have Ff20 := fun_mk (st := sCheckHomes) lf20 cf20 kf20
  have bf20 := Ff20.binds (ps := ["homes", "count", "wide"]) fun _ _ _ _ _ _ us hl => match us, hl with | [_, _, _], _ => rfl
  let cCheckHomes : Fd K mg "check_homes" sCheckHomes ["homes", "count", "wide"] := ⟨_, _, Ff20, bf20, PySem.W.mg_of X G nf20⟩
  have Ff21 := fun_mk (st := sAreHomes) lf21 cf21 kf21
  have bf21 := Ff21.binds (ps := ["places", "wide"]) fun _ _ _ _ _ _ us hl => match us, hl with | [_, _], _ => rfl
  let cAreHomes : Fd K mg "are_homes" sAreHomes ["places", "wide"] := ⟨_, _, Ff21, bf21, PySem.W.mg_of X G nf21⟩
  have Ff22 := fun_mk (st := sCheckLaying) lf22 cf22 kf22
  have bf22 := Ff22.binds (ps := ["program", "laying"]) fun _ _ _ _ _ _ us hl => match us, hl with | [_, _], _ => rfl
  let cCheckLaying : Fd K mg "check_laying" sCheckLaying ["program", "laying"] := ⟨_, _, Ff22, bf22, PySem.W.mg_of X G nf22⟩
  have Ff23 := fun_mk (st := sNexts) lf23 cf23 kf23
  have bf23 := Ff23.binds (ps := ["row"]) fun _ _ _ _ _ _ us hl => match us, hl with | [_], _ => rfl
  let cNexts : Fd K mg "nexts" sNexts ["row"] := ⟨_, _, Ff23, bf23, PySem.W.mg_of X G nf23⟩
  have Ff24 := fun_mk (st := sAhead) lf24 cf24 kf24
  have bf24 := Ff24.binds (ps := ["row"]) fun _ _ _ _ _ _ us hl => match us, hl with | [_], _ => rfl
  let cAhead : Fd K mg "rows_ahead" sAhead ["row"] := ⟨_, _, Ff24, bf24, PySem.W.mg_of X G nf24⟩
  have Ff25 := fun_mk (st := sGoesMay) lf25 cf25 kf25
  have bf25 := Ff25.binds (ps := ["program"]) fun _ _ _ _ _ _ us hl => match us, hl with | [_], _ => rfl
  let cGoesMay : Fd K mg "goes_that_may_be" sGoesMay ["program"] := ⟨_, _, Ff25, bf25, PySem.W.mg_of X G nf25⟩
  have Ff26 := fun_mk (st := sFirstBeat) lf26 cf26 kf26
  have bf26 := Ff26.binds (ps := ["now", "place", "wide"]) fun _ _ _ _ _ _ us hl => match us, hl with | [_, _, _], _ => rfl
  let cFirstBeat : Fd K mg "first_beat" sFirstBeat ["now", "place", "wide"] := ⟨_, _, Ff26, bf26, PySem.W.mg_of X G nf26⟩
  have Ff27 := fun_mk (st := sBeatsOfUse) lf27 cf27 kf27
  have bf27 := Ff27.binds (ps := ["word", "places", "read", "wide"]) fun _ _ _ _ _ _ us hl => match us, hl with | [_, _, _, _], _ => rfl
  let cBeatsOfUse : Fd K mg "beats_of_use" sBeatsOfUse ["word", "places", "read", "wide"] := ⟨_, _, Ff27, bf27, PySem.W.mg_of X G nf27⟩
  have Ff28 := fun_mk (st := sBeatOfUse) lf28 cf28 kf28
  have bf28 := Ff28.binds (ps := ["row", "read", "laying"]) fun _ _ _ _ _ _ us hl => match us, hl with | [_, _, _], _ => rfl
  let cBeatOfUse : Fd K mg "beat_of_use" sBeatOfUse ["row", "read", "laying"] := ⟨_, _, Ff28, bf28, PySem.W.mg_of X G nf28⟩
  have Ff29 := fun_mk (st := sBeatBehind) lf29 cf29 kf29
  have bf29 := Ff29.binds (ps := ["row", "read", "laying"]) fun _ _ _ _ _ _ us hl => match us, hl with | [_, _, _], _ => rfl
  let cBeatBehind : Fd K mg "beat_behind" sBeatBehind ["row", "read", "laying"] := ⟨_, _, Ff29, bf29, PySem.W.mg_of X G nf29⟩
  have Ff30 := fun_mk (st := sCost) lf30 cf30 kf30
  have bf30 := Ff30.binds (ps := ["program", "laying", "begin", "to"]) fun _ _ _ _ _ _ us hl => match us, hl with | [_, _, _, _], _ => rfl
  let cCost : Fd K mg "cost" sCost ["program", "laying", "begin", "to"] := ⟨_, _, Ff30, bf30, PySem.W.mg_of X G nf30⟩
  have Ff31 := fun_mk (st := sEnded) lf31 cf31 kf31
  have bf31 := Ff31.binds (ps := ["_law_d"]) fun _ _ _ _ _ _ us hl => match us, hl with | [_], _ => rfl
  let cEnded : Fd K mg "_law_ended" sEnded ["_law_d"] := ⟨_, _, Ff31, bf31, PySem.W.mg_of X G nf31⟩
  have Ff32 := fun_mk (st := sIsGo) lf32 cf32 kf32
  have bf32 := Ff32.binds (ps := ["go", "may_be"]) fun _ _ _ _ _ _ us hl => match us, hl with | [_, _], _ => rfl
  let cIsGo : Fd K mg "is_go" sIsGo ["go", "may_be"] := ⟨_, _, Ff32, bf32, PySem.W.mg_of X G nf32⟩
  have Ff33 := fun_mk (st := sRowsFound) lf33 cf33 kf33
  have bf33 := Ff33.binds (ps := ["pairs"]) fun _ _ _ _ _ _ us hl => match us, hl with | [_], _ => rfl
  let cRowsFound : Fd K mg "rows_found" sRowsFound ["pairs"] := ⟨_, _, Ff33, bf33, PySem.W.mg_of X G nf33⟩
  have Ff34 := fun_mk (st := sGoesAgree) lf34 cf34 kf34
  have bf34 := Ff34.binds (ps := ["program", "goes"]) fun _ _ _ _ _ _ us hl => match us, hl with | [_, _], _ => rfl
  let cGoesAgree : Fd K mg "goes_agree" sGoesAgree ["program", "goes"] := ⟨_, _, Ff34, bf34, PySem.W.mg_of X G nf34⟩
  have Ff35 := fun_mk (st := sCheckGoes) lf35 cf35 kf35
  have bf35 := Ff35.binds (ps := ["program", "goes"]) fun _ _ _ _ _ _ us hl => match us, hl with | [_, _], _ => rfl
  let cCheckGoes : Fd K mg "check_goes" sCheckGoes ["program", "goes"] := ⟨_, _, Ff35, bf35, PySem.W.mg_of X G nf35⟩
  have Ff36 := fun_mk (st := sBeatsBy) lf36 cf36 kf36
  have bf36 := Ff36.binds (ps := ["program", "laying", "goes"]) fun _ _ _ _ _ _ us hl => match us, hl with | [_, _, _], _ => rfl
  let cBeatsBy : Fd K mg "beats_by" sBeatsBy ["program", "laying", "goes"] := ⟨_, _, Ff36, bf36, PySem.W.mg_of X G nf36⟩
  have Ff37 := fun_mk (st := sBeats) lf37 cf37 kf37
  have bf37 := Ff37.binds (ps := ["program", "laying", "goes"]) fun _ _ _ _ _ _ us hl => match us, hl with | [_, _, _], _ => rfl
  let cBeats : Fd K mg "beats" sBeats ["program", "laying", "goes"] := ⟨_, _, Ff37, bf37, PySem.W.mg_of X G nf37⟩
  have Ff38 := fun_mk (st := sHalves) lf38 cf38 kf38
  have bf38 := Ff38.binds (ps := ["way"]) fun _ _ _ _ _ _ us hl => match us, hl with | [_], _ => rfl
  let cHalves : Fd K mg "halves" sHalves ["way"] := ⟨_, _, Ff38, bf38, PySem.W.mg_of X G nf38⟩
  have Ff39 := fun_mk (st := sLeastHalf) lf39 cf39 kf39
  have bf39 := Ff39.binds (ps := ["program", "half"]) fun _ _ _ _ _ _ us hl => match us, hl with | [_, _], _ => rfl
  let cLeastHalf : Fd K mg "least_half" sLeastHalf ["program", "half"] := ⟨_, _, Ff39, bf39, PySem.W.mg_of X G nf39⟩
  have Ff40 := fun_mk (st := sLeastBeats) lf40 cf40 kf40
  have bf40 := Ff40.binds (ps := ["program", "way"]) fun _ _ _ _ _ _ us hl => match us, hl with | [_, _], _ => rfl
  let cLeastBeats : Fd K mg "least_beats" sLeastBeats ["program", "way"] := ⟨_, _, Ff40, bf40, PySem.W.mg_of X G nf40⟩
  have Ff41 := fun_mk (st := sInRounds) lf41 cf41 kf41
  have bf41 := Ff41.binds (ps := ["beats", "wide"]) fun _ _ _ _ _ _ us hl => match us, hl with | [_, _], _ => rfl
  let cInRounds : Fd K mg "in_rounds" sInRounds ["beats", "wide"] := ⟨_, _, Ff41, bf41, PySem.W.mg_of X G nf41⟩
  have Ff42 := fun_mk (st := sTimesE) lf42 cf42 kf42
  have bf42 := Ff42.binds (ps := ["goes"]) fun _ _ _ _ _ _ us hl => match us, hl with | [_], _ => rfl
  let cTimesE : Fd K mg "times_done" sTimesE ["goes"] := ⟨_, _, Ff42, bf42, PySem.W.mg_of X G nf42⟩
  have Ff43 := fun_mk (st := sHalvesDone) lf43 cf43 kf43
  have bf43 := Ff43.binds (ps := ["goes"]) fun _ _ _ _ _ _ us hl => match us, hl with | [_], _ => rfl
  let cHalvesDone : Fd K mg "halves_done" sHalvesDone ["goes"] := ⟨_, _, Ff43, bf43, PySem.W.mg_of X G nf43⟩
  have Ff44 := fun_mk (st := sUsesOne) lf44 cf44 kf44
  have bf44 := Ff44.binds (ps := ["program", "row", "other"]) fun _ _ _ _ _ _ us hl => match us, hl with | [_, _, _], _ => rfl
  let cUsesOne : Fd K mg "use_one_worth" sUsesOne ["program", "row", "other"] := ⟨_, _, Ff44, bf44, PySem.W.mg_of X G nf44⟩
  have Ff45 := fun_mk (st := sIsWay) lf45 cf45 kf45
  have bf45 := Ff45.binds (ps := ["done", "way"]) fun _ _ _ _ _ _ us hl => match us, hl with | [_, _], _ => rfl
  let cIsWay : Fd K mg "is_way" sIsWay ["done", "way"] := ⟨_, _, Ff45, bf45, PySem.W.mg_of X G nf45⟩
  have Ff46 := fun_mk (st := sIsEntry) lf46 cf46 kf46
  have bf46 := Ff46.binds (ps := ["program", "done", "entry"]) fun _ _ _ _ _ _ us hl => match us, hl with | [_, _, _], _ => rfl
  let cIsEntry : Fd K mg "is_entry" sIsEntry ["program", "done", "entry"] := ⟨_, _, Ff46, bf46, PySem.W.mg_of X G nf46⟩
  have Ff47 := fun_mk (st := sTakeHalves) lf47 cf47 kf47
  have bf47 := Ff47.binds (ps := ["left", "way", "many"]) fun _ _ _ _ _ _ us hl => match us, hl with | [_, _, _], _ => rfl
  let cTakeHalves : Fd K mg "take_halves" sTakeHalves ["left", "way", "many"] := ⟨_, _, Ff47, bf47, PySem.W.mg_of X G nf47⟩
  have Ff48 := fun_mk (st := sCheckWGE) lf48 cf48 kf48
  have bf48 := Ff48.binds (ps := ["program", "wide", "goes"]) fun _ _ _ _ _ _ us hl => match us, hl with | [_, _, _], _ => rfl
  let cCheckWGE : Fd K mg "check_wide_and_goes" sCheckWGE ["program", "wide", "goes"] := ⟨_, _, Ff48, bf48, PySem.W.mg_of X G nf48⟩
  have Ff49 := fun_mk (st := sBound) lf49 cf49 kf49
  have bf49 := Ff49.binds (ps := ["program", "wide", "goes", "told"]) fun _ _ _ _ _ _ us hl => match us, hl with | [_, _, _, _], _ => rfl
  let cBound : Fd K mg "bound" sBound ["program", "wide", "goes", "told"] := ⟨_, _, Ff49, bf49, PySem.W.mg_of X G nf49⟩
  have Ff50 := fun_mk (st := sSortOf) lf50 cf50 kf50
  have bf50 := Ff50.binds (ps := ["program", "way"]) fun _ _ _ _ _ _ us hl => match us, hl with | [_, _], _ => rfl
  let cSortOf : Fd K mg "sort_of" sSortOf ["program", "way"] := ⟨_, _, Ff50, bf50, PySem.W.mg_of X G nf50⟩
  have Ff51 := fun_mk (st := sShortest) lf51 cf51 kf51
  have bf51 := Ff51.binds (ps := ["program", "left", "start"]) fun _ _ _ _ _ _ us hl => match us, hl with | [_, _, _], _ => rfl
  let cShortest : Fd K mg "shortest_ways" sShortest ["program", "left", "start"] := ⟨_, _, Ff51, bf51, PySem.W.mg_of X G nf51⟩
  have Ff52 := fun_mk (st := sWaysToTake) lf52 cf52 kf52
  have bf52 := Ff52.binds (ps := ["program", "wide", "left"]) fun _ _ _ _ _ _ us hl => match us, hl with | [_, _, _], _ => rfl
  let cWaysToTake : Fd K mg "ways_to_take" sWaysToTake ["program", "wide", "left"] := ⟨_, _, Ff52, bf52, PySem.W.mg_of X G nf52⟩
  have Ff53 := fun_mk (st := sPaper) lf53 cf53 kf53
  have bf53 := Ff53.binds (ps := ["program", "wide", "goes"]) fun _ _ _ _ _ _ us hl => match us, hl with | [_, _, _], _ => rfl
  let cPaper : Fd K mg "paper" sPaper ["program", "wide", "goes"] := ⟨_, _, Ff53, bf53, PySem.W.mg_of X G nf53⟩
  have Ff54 := fun_mk (st := sRound) lf54 cf54 kf54
  have bf54 := Ff54.binds (ps := ["_law_d", "_law_rows", "_law_goes"]) fun _ _ _ _ _ _ us hl => match us, hl with | [_, _, _], _ => rfl
  let cRound : Fd K mg "_law_round" sRound ["_law_d", "_law_rows", "_law_goes"] := ⟨_, _, Ff54, bf54, PySem.W.mg_of X G nf54⟩
  have Ff55 := fun_mk (st := sDice) lf55 cf55 kf55
  have bf55 := Ff55.binds (ps := ["_law_script"]) fun _ _ _ _ _ _ us hl => match us, hl with | [_], _ => rfl
  let cDice : Fd K mg "_law_dice" sDice ["_law_script"] := ⟨_, _, Ff55, bf55, PySem.W.mg_of X G nf55⟩
  have Ff56 := fun_mk (st := sLaw) lf56 cf56 kf56
  have bf56 := Ff56.binds (ps := ["_law_script"]) fun _ _ _ _ _ _ us hl => match us, hl with | [_], _ => rfl
  have T : Bt mg := ⟨PySem.W.mg_none_of X G b_len, PySem.W.mg_none_of X G b_int, PySem.W.mg_none_of X G b_range, PySem.W.mg_none_of X G b_isinstance, PySem.W.mg_none_of X G b_tuple, PySem.W.mg_none_of X G b_list, PySem.W.mg_none_of X G b_sorted, PySem.W.mg_none_of X G b_sum, PySem.W.mg_none_of X G b_max, PySem.W.mg_none_of X G b_enumerate, PySem.W.mg_none_of X G b_zip, PySem.W.mg_none_of X G b_all, PySem.W.mg_none_of X G b_bool, PySem.W.mg_none_of X G b_str⟩
  have TS : Bs mg := ⟨PySem.W.mg_none_of X G b_set⟩
  have TM : Bm mg := ⟨PySem.W.mg_none_of X G b_min⟩
  have TN : Bn mg := ⟨PySem.W.mg_none_of X G b_any⟩
  have HQ : Hq mg := ⟨PySem.W.mg_of X G hq_heappop, PySem.W.mg_of X G hq_heappush⟩
  let Cc : Cn mg := ⟨_, _, _, PySem.W.mg_of X G qW, PySem.W.mg_of X G qR, PySem.W.mg_of X G qN⟩
  let CL : Cl mg := ⟨_, _, PySem.W.mg_of X G q2, PySem.W.mg_of X G q24⟩
  let LH : Ch mg := ⟨_, PySem.W.mg_of X G q3⟩
  have DEK : DeK K mg eDE := ⟨PySem.W.mg_of X G mDE, de_sp, tDE, de_rd, de_fi⟩
  have FxBE := fun_mk (st := sBEInit) lxBE cxBE kxBE
  have bxBE := FxBE.binds (ps := ["self", "at"]) fun _ _ _ _ _ _ us hl => match us, hl with | [_, _], _ => rfl
  have JBE : ErI K mg "BadPaper" "BadPaper.__init__" eBE sBEInit ["self", "at"] := ⟨_, _, FxBE, bxBE, nxBE, tyxBE, ⟨BE_cl, BE_sa, BE_hs, BE_rt, BE_rk⟩, PySem.W.mg_of X G mBE⟩
  have XXBE := exm_sub BE_hs iBE tBE BE_ss
  let Z : Pt K w mg := ⟨d, es, n, PySem.W.mg_of X G pD, ⟨pL, pK, lo⟩, fun r => by
    cases r with
    | load _ _ => exact ⟨p_load, w_load, fun H => tup_lit u_load v_load (by show 2 ≤ 1000; decide)⟩
    | add _ _ => exact ⟨p_add, w_add, fun H => tup_lit u_add v_add (by show 2 ≤ 1000; decide)⟩
    | take _ _ => exact ⟨p_take, w_take, fun H => tup_lit u_take v_take (by show 2 ≤ 1000; decide)⟩
    | store _ _ => exact ⟨p_store, w_store, fun H => tup_lit u_store v_store (by show 2 ≤ 1000; decide)⟩
    | say _ => exact ⟨p_say, w_say, fun H => tup_lit u_say v_say (by show 1 ≤ 1000; decide)⟩
    | test _ _ => exact ⟨p_test, w_test, fun H => tup_lit u_test v_test (by show 2 ≤ 1000; decide)⟩
    | stop  => exact ⟨p_stop, w_stop, fun H => tup_lit u_stop v_stop (by show 0 ≤ 1000; decide)⟩⟩
  let ZW : Pw K w mg := ⟨e, es2, n2, PySem.W.mg_of X G pW, ⟨pWL, pWK, lo2⟩, fun r => by
    cases r with
    | load _ _ => exact ⟨_, x_load⟩
    | add _ _ => exact ⟨_, x_add⟩
    | take _ _ => exact ⟨_, x_take⟩
    | store _ _ => exact ⟨_, x_store⟩
    | say _ => exact ⟨_, x_say⟩
    | test _ _ => exact ⟨_, x_test⟩
    | stop  => exact ⟨_, x_stop⟩⟩
  have hS := fun base : Heap => ok_stopping (P := P) (w := w) (base := base) cStopping cMixed cBody cFork cStraight cNext T
  have hR := fun base : Heap => ok_lrun (P := P) (w := w) (base := base) cLRun cStep cRing T
  have hE := fun base : Heap => ok_ended (P := P) (w := w) (base := base) cEnded cStopping cNext cLRun T (hS base) (hR base)
  have hL := fun base : Heap => ok_laying (P := P) (w := w) (base := base) cLaying cNext T TS
  have hCP := fun base : Heap => ok_checkProgram (P := P) (w := w) (base := base) cCheckProgram cCheckRow cCheckWorths cHasShape cPart cIsBetween cIsNumber T Cc Z
  have hCW := fun base : Heap => ok_checkWide (P := P) (w := w) (base := base) cCheckWide cIsBetween cIsNumber T CL
  have hGM := fun base : Heap => ok_goesMay (P := P) (w := w) (base := base) cGoesMay cAhead cNexts cUsesWorth T TS Z
  have hPC := fun base : Heap => ok_cost (P := P) (w := w) (base := base) cCost cBeatBehind cBeatOfUse cBeatsOfUse cFirstBeat cUsesWorth T Z ZW
  have hIG := fun base : Heap => ok_isGo (P := P) (w := w) (base := base) cIsGo cIsNumber T
  have hCG := fun base : Heap => ok_checkGoes (P := P) (w := w) (base := base) cCheckGoes cGoesMay cIsGo cGoesAgree cRowsFound T TS (hGM base) (hIG base)
  have hBB := fun base : Heap => ok_beatsBy (P := P) (w := w) (base := base) cBeatsBy cCost T (hPC base)
  have hCL := fun base : Heap => ok_checkLaying (P := P) (w := w) (base := base) cCheckLaying cCheckWide cCheckPlaces cCheckHomes cAreHomes cPart cIsBetween cIsNumber T TS CL LH
  have hPB := fun base : Heap => ok_beats (P := P) (w := w) (base := base) cBeats cCheckProgram cCheckLaying cCheckGoes cBeatsBy (hCP base) (hCL base) (hCG base) (hBB base)
  have hHv := fun base : Heap => ok_halves (P := P) (w := w) (base := base) cHalves T
  have hLh := fun base : Heap => ok_leastHalf (P := P) (w := w) (base := base) cLeastHalf cUsesWorth T Z ZW
  have hLe := fun base : Heap => ok_leastBeats (P := P) (w := w) (base := base) cLeastBeats cHalves cLeastHalf T (hHv base) (hLh base)
  have hIR := fun base : Heap => ok_inRounds (P := P) (w := w) (base := base) cInRounds
  have hHD := fun base : Heap => ok_halvesDone (P := P) (w := w) (base := base) cHalvesDone cTimesE
  have hUO := fun base : Heap => ok_usesOne (P := P) (w := w) (base := base) cUsesOne cUsesWorth Z
  have hTH := fun base : Heap => ok_takeHalves (P := P) (w := w) (base := base) cTakeHalves cHalves T
  have hIW := fun base : Heap => ok_isWay (P := P) (w := w) (base := base) cIsWay cIsNumber T
  have hIE := fun base : Heap => ok_isEntry (P := P) (w := w) (base := base) cIsEntry cPart cIsWay cIsNumber cUsesOne T (hIW base) (hUO base)
  have hGE := fun base : Heap => ok_checkWGE (P := P) (w := w) (base := base) cCheckWGE cCheckProgram cCheckWide cCheckGoes (hCP base) (hCW base) (hCG base)
  have hBEi := fun base : Heap => ok_BEInit (P := P) (w := w) (base := base) JBE DEK BE_wat
  have hBd := fun base : Heap => ok_bound (P := P) (w := w) (base := base) JBE (hBEi base) cBound cCheckWGE cHalvesDone cIsEntry cTakeHalves cHalves cInRounds cLeastBeats cLeastHalf T TN (hGE base) (hHD base) (hIE base) (hTH base) (hIR base) (hLe base) (hLh base)
  have hNx := fun base : Heap => ok_nexts (P := P) (w := w) (base := base) cNexts cUsesWorth Z
  have hSW := fun base : Heap => ok_shortest (P := P) (w := w) (base := base) cShortest cNexts cLeastHalf T HQ (hNx base) (hLh base)
  have hSoF := fun base : Heap => ok_sortOf (P := P) (w := w) (base := base) cSortOf cUsesOne T (hUO base)
  have hWT := fun base : Heap => ok_waysToTake (P := P) (w := w) (base := base) cWaysToTake cShortest cSortOf cInRounds T (hSW base) (hSoF base) (hIR base)
  have hPp := fun base : Heap => ok_paper (P := P) (w := w) (base := base) cPaper cCheckWGE cHalvesDone cWaysToTake cTakeHalves cHalves T TM (hGE base) (hHD base) (hWT base) (hTH base)
  exact ⟨_, fun s v => .of_eq rfl, fun base _ _ => ok_law Ff56 cDice cNext cLaying cEnded cRound cBeats cBound cPaper T (PySem.W.mg_of X G mBE) XXBE (hL base) (hE base) (hPB base) (hBd base) (hPp base)⟩
end DL
open PySem PySem.W PyProof.Rows in
set_option maxRecDepth 100000 in
set_option maxHeartbeats 0 in
theorem PySem.Challenge.cw_drumlay_k12_whole_papers_bound_all_holds : PySem.Challenge.rw_drumlay_k12_whole_papers_bound_all.Holds := by
  w_on; o_law; k_head; (case hw => w_witness2)
  k_fill
  refine L2.walk_of (l := PySem.Challenge.rw_drumlay_k12_whole_papers_bound_all) (n := 63) (k := 10) (x := "_law_script") (CX := fun _ => L2.CX0) (sp := fun w => DL.spLaw _) rfl (by decide) rfl ⟨rfl, by decide, by decide⟩ (fun w h Y => PySem.W.kIn_of Y) ?F (fun _ _ a ns hl _ hS => ⟨a, ns, rfl, hS, hl, fun _ => rfl⟩) fun _ _ _ _ _ z => z
  case F =>
    intro w mg fa h KX G hmg
    refine' DL.all_mk KX G hmg ?nf0 ?lf0 ?cf0 ?kf0 ?nf1 ?lf1 ?cf1 ?kf1 ?nf2 ?lf2 ?cf2 ?kf2 ?nf3 ?lf3 ?cf3 ?kf3 ?nf4 ?lf4 ?cf4 ?kf4 ?nf5 ?lf5 ?cf5 ?kf5 ?nf6 ?lf6 ?cf6 ?kf6 ?nf7 ?lf7 ?cf7 ?kf7 ?nf8 ?lf8 ?cf8 ?kf8 ?nf9 ?lf9 ?cf9 ?kf9 ?nf10 ?lf10 ?cf10 ?kf10 ?nf11 ?lf11 ?cf11 ?kf11 ?nf12 ?lf12 ?cf12 ?kf12 ?nf13 ?lf13 ?cf13 ?kf13 ?nf14 ?lf14 ?cf14 ?kf14 ?nf15 ?lf15 ?cf15 ?kf15 ?nf16 ?lf16 ?cf16 ?kf16 ?nf17 ?lf17 ?cf17 ?kf17 ?nf18 ?lf18 ?cf18 ?kf18 ?nf19 ?lf19 ?cf19 ?kf19 ?nf20 ?lf20 ?cf20 ?kf20 ?nf21 ?lf21 ?cf21 ?kf21 ?nf22 ?lf22 ?cf22 ?kf22 ?nf23 ?lf23 ?cf23 ?kf23 ?nf24 ?lf24 ?cf24 ?kf24 ?nf25 ?lf25 ?cf25 ?kf25 ?nf26 ?lf26 ?cf26 ?kf26 ?nf27 ?lf27 ?cf27 ?kf27 ?nf28 ?lf28 ?cf28 ?kf28 ?nf29 ?lf29 ?cf29 ?kf29 ?nf30 ?lf30 ?cf30 ?kf30 ?nf31 ?lf31 ?cf31 ?kf31 ?nf32 ?lf32 ?cf32 ?kf32 ?nf33 ?lf33 ?cf33 ?kf33 ?nf34 ?lf34 ?cf34 ?kf34 ?nf35 ?lf35 ?cf35 ?kf35 ?nf36 ?lf36 ?cf36 ?kf36 ?nf37 ?lf37 ?cf37 ?kf37 ?nf38 ?lf38 ?cf38 ?kf38 ?nf39 ?lf39 ?cf39 ?kf39 ?nf40 ?lf40 ?cf40 ?kf40 ?nf41 ?lf41 ?cf41 ?kf41 ?nf42 ?lf42 ?cf42 ?kf42 ?nf43 ?lf43 ?cf43 ?kf43 ?nf44 ?lf44 ?cf44 ?kf44 ?nf45 ?lf45 ?cf45 ?kf45 ?nf46 ?lf46 ?cf46 ?kf46 ?nf47 ?lf47 ?cf47 ?kf47 ?nf48 ?lf48 ?cf48 ?kf48 ?nf49 ?lf49 ?cf49 ?kf49 ?nf50 ?lf50 ?cf50 ?kf50 ?nf51 ?lf51 ?cf51 ?kf51 ?nf52 ?lf52 ?cf52 ?kf52 ?nf53 ?lf53 ?cf53 ?kf53 ?nf54 ?lf54 ?cf54 ?kf54 ?nf55 ?lf55 ?cf55 ?kf55 ?nf56 ?lf56 ?cf56 ?kf56 ?mBP ?mBL ?mBG ?mBE ?mDE ?b_ValueError ?iBP ?tBP ?iBL ?tBL ?iBG ?tBG ?iBE ?tBE ?iDE ?tDE ?bDE ?de_sp ?de_rd ?de_fi ?BE_hg ?BE_hk ?BE_hs ?BE_hd ?BE_ha ?BE_hn ?BE_ht ?BE_hm ?BE_sDE ?BE_sVE ?BE_s0 ?BE_s1 ?BE_s3 ?BE_n0 ?BE_n1 ?BE_n3 ?BE_sa ?BE_rk ?BE_rt ?BE_wrow ?BE_wwhy ?BE_wat ?BE_wline ?BE_ss ?BE_cl ?nxBE ?tyxBE ?lxBE ?cxBE ?kxBE ?b_len ?b_int ?b_range ?b_isinstance ?b_tuple ?b_list ?b_sorted ?b_sum ?b_max ?b_enumerate ?b_zip ?b_all ?b_bool ?b_str ?b_set ?b_min ?b_any ?qW ?qR ?qN ?q2 ?q24 ?q3 ?pD ?pL ?pK ?pE ?w_load ?u_load ?v_load ?w_add ?u_add ?v_add ?w_take ?u_take ?v_take ?w_store ?u_store ?v_store ?w_say ?u_say ?v_say ?w_test ?u_test ?v_test ?w_stop ?u_stop ?v_stop ?lo ?hq_heappop ?hq_heappush ?pW ?pWL ?pWK ?x_load ?x_add ?x_take ?x_store ?x_say ?x_test ?x_stop ?lo2
    (case nf0 => k_is)
    (case lf0 => k_is)
    (case cf0 => k_is)
    (case kf0 => k_is)
    (case nf1 => k_is)
    (case lf1 => k_is)
    (case cf1 => k_is)
    (case kf1 => k_is)
    (case nf2 => k_is)
    (case lf2 => k_is)
    (case cf2 => k_is)
    (case kf2 => k_is)
    (case nf3 => k_is)
    (case lf3 => k_is)
    (case cf3 => k_is)
    (case kf3 => k_is)
    (case nf4 => k_is)
    (case lf4 => k_is)
    (case cf4 => k_is)
    (case kf4 => k_is)
    (case nf5 => k_is)
    (case lf5 => k_is)
    (case cf5 => k_is)
    (case kf5 => k_is)
    (case nf6 => k_is)
    (case lf6 => k_is)
    (case cf6 => k_is)
    (case kf6 => k_is)
    (case nf7 => k_is)
    (case lf7 => k_is)
    (case cf7 => k_is)
    (case kf7 => k_is)
    (case nf8 => k_is)
    (case lf8 => k_is)
    (case cf8 => k_is)
    (case kf8 => k_is)
    (case nf9 => k_is)
    (case lf9 => k_is)
    (case cf9 => k_is)
    (case kf9 => k_is)
    (case nf10 => k_is)
    (case lf10 => k_is)
    (case cf10 => k_is)
    (case kf10 => k_is)
    (case nf11 => k_is)
    (case lf11 => k_is)
    (case cf11 => k_is)
    (case kf11 => k_is)
    (case nf12 => k_is)
    (case lf12 => k_is)
    (case cf12 => k_is)
    (case kf12 => k_is)
    (case nf13 => k_is)
    (case lf13 => k_is)
    (case cf13 => k_is)
    (case kf13 => k_is)
    (case nf14 => k_is)
    (case lf14 => k_is)
    (case cf14 => k_is)
    (case kf14 => k_is)
    (case nf15 => k_is)
    (case lf15 => k_is)
    (case cf15 => k_is)
    (case kf15 => k_is)
    (case nf16 => k_is)
    (case lf16 => k_is)
    (case cf16 => k_is)
    (case kf16 => k_is)
    (case nf17 => k_is)
    (case lf17 => k_is)
    (case cf17 => k_is)
    (case kf17 => k_is)
    (case nf18 => k_is)
    (case lf18 => k_is)
    (case cf18 => k_is)
    (case kf18 => k_is)
    (case nf19 => k_is)
    (case lf19 => k_is)
    (case cf19 => k_is)
    (case kf19 => k_is)
    (case nf20 => k_is)
    (case lf20 => k_is)
    (case cf20 => k_is)
    (case kf20 => k_is)
    (case nf21 => k_is)
    (case lf21 => k_is)
    (case cf21 => k_is)
    (case kf21 => k_is)
    (case nf22 => k_is)
    (case lf22 => k_is)
    (case cf22 => k_is)
    (case kf22 => k_is)
    (case nf23 => k_is)
    (case lf23 => k_is)
    (case cf23 => k_is)
    (case kf23 => k_is)
    (case nf24 => k_is)
    (case lf24 => k_is)
    (case cf24 => k_is)
    (case kf24 => k_is)
    (case nf25 => k_is)
    (case lf25 => k_is)
    (case cf25 => k_is)
    (case kf25 => k_is)
    (case nf26 => k_is)
    (case lf26 => k_is)
    (case cf26 => k_is)
    (case kf26 => k_is)
    (case nf27 => k_is)
    (case lf27 => k_is)
    (case cf27 => k_is)
    (case kf27 => k_is)
    (case nf28 => k_is)
    (case lf28 => k_is)
    (case cf28 => k_is)
    (case kf28 => k_is)
    (case nf29 => k_is)
    (case lf29 => k_is)
    (case cf29 => k_is)
    (case kf29 => k_is)
    (case nf30 => k_is)
    (case lf30 => k_is)
    (case cf30 => k_is)
    (case kf30 => k_is)
    (case nf31 => k_is)
    (case lf31 => k_is)
    (case cf31 => k_is)
    (case kf31 => k_is)
    (case nf32 => k_is)
    (case lf32 => k_is)
    (case cf32 => k_is)
    (case kf32 => k_is)
    (case nf33 => k_is)
    (case lf33 => k_is)
    (case cf33 => k_is)
    (case kf33 => k_is)
    (case nf34 => k_is)
    (case lf34 => k_is)
    (case cf34 => k_is)
    (case kf34 => k_is)
    (case nf35 => k_is)
    (case lf35 => k_is)
    (case cf35 => k_is)
    (case kf35 => k_is)
    (case nf36 => k_is)
    (case lf36 => k_is)
    (case cf36 => k_is)
    (case kf36 => k_is)
    (case nf37 => k_is)
    (case lf37 => k_is)
    (case cf37 => k_is)
    (case kf37 => k_is)
    (case nf38 => k_is)
    (case lf38 => k_is)
    (case cf38 => k_is)
    (case kf38 => k_is)
    (case nf39 => k_is)
    (case lf39 => k_is)
    (case cf39 => k_is)
    (case kf39 => k_is)
    (case nf40 => k_is)
    (case lf40 => k_is)
    (case cf40 => k_is)
    (case kf40 => k_is)
    (case nf41 => k_is)
    (case lf41 => k_is)
    (case cf41 => k_is)
    (case kf41 => k_is)
    (case nf42 => k_is)
    (case lf42 => k_is)
    (case cf42 => k_is)
    (case kf42 => k_is)
    (case nf43 => k_is)
    (case lf43 => k_is)
    (case cf43 => k_is)
    (case kf43 => k_is)
    (case nf44 => k_is)
    (case lf44 => k_is)
    (case cf44 => k_is)
    (case kf44 => k_is)
    (case nf45 => k_is)
    (case lf45 => k_is)
    (case cf45 => k_is)
    (case kf45 => k_is)
    (case nf46 => k_is)
    (case lf46 => k_is)
    (case cf46 => k_is)
    (case kf46 => k_is)
    (case nf47 => k_is)
    (case lf47 => k_is)
    (case cf47 => k_is)
    (case kf47 => k_is)
    (case nf48 => k_is)
    (case lf48 => k_is)
    (case cf48 => k_is)
    (case kf48 => k_is)
    (case nf49 => k_is)
    (case lf49 => k_is)
    (case cf49 => k_is)
    (case kf49 => k_is)
    (case nf50 => k_is)
    (case lf50 => k_is)
    (case cf50 => k_is)
    (case kf50 => k_is)
    (case nf51 => k_is)
    (case lf51 => k_is)
    (case cf51 => k_is)
    (case kf51 => k_is)
    (case nf52 => k_is)
    (case lf52 => k_is)
    (case cf52 => k_is)
    (case kf52 => k_is)
    (case nf53 => k_is)
    (case lf53 => k_is)
    (case cf53 => k_is)
    (case kf53 => k_is)
    (case nf54 => k_is)
    (case lf54 => k_is)
    (case cf54 => k_is)
    (case kf54 => k_is)
    (case nf55 => k_is)
    (case lf55 => k_is)
    (case cf55 => k_is)
    (case kf55 => k_is)
    (case nf56 => k_is)
    (case lf56 => k_is)
    (case cf56 => k_is)
    (case kf56 => k_is)
    (case mBP => k_is)
    (case mBL => k_is)
    (case mBG => k_is)
    (case mBE => k_is)
    (case mDE => k_is)
    (case b_ValueError => k_is)
    (case iBP => k_is)
    (case tBP => k_is)
    (case iBL => k_is)
    (case tBL => k_is)
    (case iBG => k_is)
    (case tBG => k_is)
    (case iBE => k_is)
    (case tBE => k_is)
    (case iDE => k_is)
    (case tDE => k_is)
    (case bDE => k_is)
    (case de_sp => k_is)
    (case de_rd => k_is)
    (case de_fi => k_is)
    (case BE_hg => k_is)
    (case BE_hk => k_is)
    (case BE_hs => k_is)
    (case BE_hd => k_is)
    (case BE_ha => k_is)
    (case BE_hn => k_is)
    (case BE_ht => k_is)
    (case BE_hm => k_is)
    (case BE_sDE => k_is)
    (case BE_sVE => k_is)
    (case BE_s0 => k_is)
    (case BE_s1 => k_is)
    (case BE_s3 => k_is)
    (case BE_n0 => decide)
    (case BE_n1 => decide)
    (case BE_n3 => decide)
    (case BE_sa => k_is)
    (case BE_rk => k_is)
    (case BE_rt => k_is)
    (case BE_wrow => k_is)
    (case BE_wwhy => k_is)
    (case BE_wat => k_is)
    (case BE_wline => k_is)
    (case BE_ss => k_is)
    (case BE_cl => exact ⟨_, _, _, _, _, _, _, _, _, _, _, _, _, _, _, rfl, rfl⟩)
    (case nxBE => k_is)
    (case tyxBE => k_is)
    (case lxBE => k_is)
    (case cxBE => k_is)
    (case kxBE => k_is)
    (case b_len => k_is)
    (case b_int => k_is)
    (case b_range => k_is)
    (case b_isinstance => k_is)
    (case b_tuple => k_is)
    (case b_list => k_is)
    (case b_sorted => k_is)
    (case b_sum => k_is)
    (case b_max => k_is)
    (case b_enumerate => k_is)
    (case b_zip => k_is)
    (case b_all => k_is)
    (case b_bool => k_is)
    (case b_str => k_is)
    (case b_set => k_is)
    (case b_min => k_is)
    (case b_any => k_is)
    (case qW => k_is)
    (case qR => k_is)
    (case qN => k_is)
    (case q2 => k_is)
    (case q24 => k_is)
    (case q3 => k_is)
    (case pD => k_is)
    (case pL => k_is)
    (case pK => k_keys)
    (case pE => exact rfl)
    (case w_load => k_is)
    (case u_load => k_is)
    (case v_load => exact (.cons ⟨_, rfl⟩ (.cons ⟨_, rfl⟩ .nil)))
    (case w_add => k_is)
    (case u_add => k_is)
    (case v_add => exact (.cons ⟨_, rfl⟩ (.cons ⟨_, rfl⟩ .nil)))
    (case w_take => k_is)
    (case u_take => k_is)
    (case v_take => exact (.cons ⟨_, rfl⟩ (.cons ⟨_, rfl⟩ .nil)))
    (case w_store => k_is)
    (case u_store => k_is)
    (case v_store => exact (.cons ⟨_, rfl⟩ (.cons ⟨_, rfl⟩ .nil)))
    (case w_say => k_is)
    (case u_say => k_is)
    (case v_say => exact (.cons ⟨_, rfl⟩ .nil))
    (case w_test => k_is)
    (case u_test => k_is)
    (case v_test => exact (.cons ⟨_, rfl⟩ (.cons ⟨_, rfl⟩ .nil)))
    (case w_stop => k_is)
    (case u_stop => k_is)
    (case v_stop => exact .nil)
    (case lo => decide)
    (case hq_heappop => k_is)
    (case hq_heappush => k_is)
    (case pW => k_is)
    (case pWL => k_is)
    (case pWK => k_keys)
    (case x_load => k_is)
    (case x_add => k_is)
    (case x_take => k_is)
    (case x_store => k_is)
    (case x_say => k_is)
    (case x_test => k_is)
    (case x_stop => k_is)
    (case lo2 => decide)
