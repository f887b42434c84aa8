import PyProof.Rows.All
import Wide.All
import OpenK.AllK
import Wide.FinOn
import HandS.ForMost
import HandS.ForExc
import HandS.Wide
import HandS.IsInst
import HandS.Style
import HandS.Evl
import KE.GoesEnum
import HandS.SortRule
import HandS.SortInts
import HandS.Defaults
import HandS.WordsDict
import HandS.Conv
import HandS.ExcInit
import HandS.WordsExc
import HandS.ExcField
import HandS.ExcOwn
import HandS.TupAny
import HandS.WideBits
import HandS.Iter
import KE.SortKeyHeap
import KE.KSortKey
import HandS.Lambda
import HandS.Nested
import HandS.SortKw
import HandS.More
import HandS.SetFor
import HandS.Small
import HandS.Codes
import KE.KNestM
import HandS.EndTab
import PySem.Challenge.RW_askedorder_k07_lengths_of_runs
set_option Elab.async false
set_option linter.all false
set_option maxRecDepth 100000
set_option maxHeartbeats 8000000
namespace L2
open PySem PySem.Spec PyProof.Rows
/-! ### own rules: list + list of lists that are only read, powers, repr of a bool, calls by keywords alone -/
def rCatS (K : PySem.W.Frag) : R2 := fun x y H Q => ∃ l b xs zs, x = .ref l ∧ y = .ref b ∧ SqL K H l xs ∧ SqL K H b zs ∧ xs.length + zs.length ≤ sizeLine ∧ ∀ p, H p = none → Q (.ref p) (upd H p (.lst (xs ++ zs)))
theorem op_catS {X : Cx} : OpR X (binaryOp .Add) (rCatS X.K) := by
  intro pins s σ H x y v u Q I rx ry h
  obtain ⟨l, b, xs, zs, rfl, rfl, hH, hB, hz, q⟩ := h
  cases rx
  cases ry
  obtain ⟨its, r, pl, hl⟩ := I.list hH
  obtain ⟨its2, r2, pl2, hl2⟩ := I.list hB
  have e1 := r.length
  have e2 := r2.length
  obtain ⟨⟨cls, dd, data, sl⟩, n, ho, hc, hdd, hd⟩ := pl
  obtain ⟨⟨cls2, dd2, data2, sl2⟩, n2, ho2, hc2, hdd2, hd2⟩ := pl2
  simp only at hc hd hc2 hd2
  subst hc hd hc2 hd2
  have e : its.toArray ++ its2.toArray = (its ++ its2).toArray := by simp
  refine concat_meets ⟨_, ho, rfl⟩ ⟨_, ho2, rfl⟩ noFill_list_add seq_list_add PySem.F.slot_list_add PySem.F.entry_list_add (PySem.F.args_list_add_2 _ _) (list_addW l b its.toArray its2.toArray n n2 dd dd2 sl sl2 (by simp only [List.size_toArray]; omega)) ⟨ho, ho2, ?_⟩
  rw [e]
  exact ⟨.ref _, _, I.lnew (t' := s.toks) (r.append r2) (by rw [List.length_append]; omega), rfl, q _ I.fresh⟩
def CPowW (i j : Int) : Prop := 0 ≤ j ∧ (Builtin.Int.intBits i : Int) * j ≤ 2 ^ 27
theorem op_powW {X : Cx} : OpR X (binaryOp .Pow) (rI CPowW fun i j => .int (i ^ j.toNat)) := opI fun _ _ _ _ _ _ _ hc q => pow_int hc.1 hc.2 q
theorem call_repr_bool {X : Cx} : CallR X (.builtin "repr") (fun xs H Q => ∃ b, xs = [.bl b] ∧ Q (.str (if b then "True" else "False")) H) := by
  intro pins s σ H xs us Q I r h
  obtain ⟨b, rfl, q⟩ := h
  obtain ⟨u, rfl, r1⟩ := vals1 r
  cases r1
  exact PySem.P.repr_of_bool ⟨.str _, H, I.tok _, ⟨_, rfl⟩, q⟩
/-- f(k = v, ..), keywords alone -/
def tCallK0 (sp : Sp) (gV : List V → List V → List V) (E : XK) (tk : TA) : TE := fun σ H Q => tk σ H fun zs H2 => sp (gV [] zs) H2 Q E
theorem pe_callK0 {X : Cx} {CX : CXT} {k : Nat} {f : Addr} {fd : FuncData} {ps ks : List Str} {sp : Sp} {E : XK} {x : Str} {p pos : Pos} {kws : List Keyword} {tk : TA} {g : List Value → List Value → List Value} {gV : List V → List V → List V}
    (F : FnOk X.prog X.w X.K X.mg X.base CX k f fd ps sp) (hr : Room k X.A) (hg : Gl X x) (hm : X.mg x = some (.ref f)) (hk : PySem.W.keepIn X.K (.ref f) = true) (hb : KBinds X.K fd ps ks g gV) (hx : Passes CX X E)
    (hkw : PK X kws tk) (hall : (backToKw pos (keywordEach kws X.env)).all (·.1.isSome) = true := by rfl) (hks : (backToKw pos (keywordEach kws X.env)).filterMap (·.1) = ks := by rfl)
    (hdb : (x == ("__debug__" : Str)) = false := by decide)
    (hpl : ((backTo pos (starEach [] X.env)).any (·.1) || (backToKw pos (keywordEach kws X.env)).any (·.1.isNone)) = false := by rfl) :
    PE X (.Call (.Name x p) [] kws pos) (tCallK0 sp gV E tk) := by
  refine ⟨fun pins s σ H Q I h => ?_⟩
  refine wpAny_Call_Name_kw (ld_glob I hg hm ?_ hdb)
  refine PySem.W.callWith_KW0 (h₀ := X.base) I.ok.mod.kin hk hall ?_ hpl
  refine thn (hkw.run pos pins s σ H _ I h) fun ws s2 ⟨zs, H2, I2, rz, q2⟩ => ⟨I2.kIn, ?_⟩
  rw [hks]
  exact run_fnk F hr hb hx I2 .nil rz q2
/-! ### heaps: all but one address -/
/-- all that was tracked, but at p, is as it was -/
def SB (p : Addr) (H H' : Hp) : Prop := ∀ b o, b ≠ p → H b = some o → H' b = some o
theorem SB.refl (p : Addr) (H : Hp) : SB p H H := fun _ _ _ h => h
theorem SB.trans {p : Addr} {H H1 H2 : Hp} (a : SB p H H1) (b : SB p H1 H2) : SB p H H2 := fun c o n h => b c o n (a c o n h)
theorem SB.new {p q : Addr} {H : Hp} {o : HO} (h : H q = none) : SB p H (upd H q o) := fun b u n e => by
  rw [upd_ne (ne_of_none e h)]
  exact e
theorem SB.put {p : Addr} {H : Hp} {o : HO} : SB p H (upd H p o) := fun b u n e => by
  rw [upd_ne n]
  exact e
theorem SB.of {p : Addr} {H H' : Hp} (a : Same H H') : SB p H H' := fun c o _ h => a c o h
theorem SB.seq {p : Addr} {K : PySem.W.Frag} {H H' : Hp} {a : Addr} {xs : List V} (e : SB p H H') (n : a ≠ p) (h : SqL K H a xs) : SqL K H' a xs := by
  rcases h with (h | ⟨o, h⟩) | h
  · exact .inl (.inl (e _ _ n h))
  · exact .inl (.inr ⟨o, e _ _ n h⟩)
  · exact .inr h
theorem SB.tup {p : Addr} {K : PySem.W.Frag} {H H' : Hp} {a : Addr} {xs : List V} (e : SB p H H') (n : a ≠ p) (h : SqT K H a xs) : SqT K H' a xs := by
  rcases h with (h | ⟨o, h⟩) | h
  · exact .inl (.inl (e _ _ n h))
  · exact .inl (.inr ⟨o, e _ _ n h⟩)
  · exact .inr h
/-- what is free behind was free before, but at p -/
theorem SB.free {p : Addr} {H H' : Hp} (e : SB p H H') {l : Addr} (n : l ≠ p) (h : H' l = Option.none) : H l = Option.none := by
  cases q : H l with
  | none => rfl
  | some o =>
    rw [e l o n q] at h
    cases h
theorem same_upd {H : Hp} {p : Addr} {o : HO} (h : H p = none) : Same H (upd H p o) := fun b x e => by
  rw [upd_ne (ne_of_none e h)]
  exact e
theorem Same.tupS {K : PySem.W.Frag} {H H' : Hp} {a : Addr} {xs : List V} (e : Same H H') (h : SqT K H a xs) : SqT K H' a xs := by
  rcases h with (h | ⟨o, h⟩) | h
  · exact .inl (.inl (e _ _ h))
  · exact .inl (.inr ⟨o, e _ _ h⟩)
  · exact .inr h
theorem sq_of {K : PySem.W.Frag} {H : Hp} {a : Addr} {xs : List V} (h : H a = some (.lst xs)) : SqL K H a xs := .inl (.inl h)
theorem st_of {K : PySem.W.Frag} {H : Hp} {a : Addr} {xs : List V} (h : H a = some (.tup xs)) : SqT K H a xs := .inl (.inl h)
end L2
namespace L2
open PySem PySem.Spec PyProof.Rows
theorem for_iteL {K : PySem.W.Frag} {a : Addr} {xs : List V} {g : TG} {tb : TS} {D : Ends} {σ : St} {H : Hp} (Pv : Nat → St → Hp → Prop) (h0 : Pv 0 σ H) (hl : ∀ i σ H, i ≤ xs.length → Pv i σ H → SqL K H a xs)
    (hs : ∀ i x σ H T, xs[i]? = some x → Pv i σ H → H T = none → g (.ref T) σ (upd H T (.tup [.int (i : Nat), x])) fun σ2 H2 => tb { D with nx := Pv (i + 1), ct := Pv (i + 1), bk := D.nx } σ2 H2) (hd : ∀ σ H, Pv xs.length σ H → D.nx σ H) :
    ∃ W : Nat → Nat → St → Hp → Prop, (∃ m, W 0 m σ H) ∧ ∀ i m σ H, W i m σ H →
      ((Ite K a).stop i H ∧ D.nx σ H) ∨ ((Ite K a).go i H ∧ ∃ N : St → Hp → Prop, (∀ σ' H', N σ' H' → ∃ m', m' < m ∧ W (i + 1) m' σ' H') ∧ ∀ x H', (Ite K a).yld i H x H' → g x σ H' fun σ2 H2 => tb { D with nx := N, ct := N, bk := D.nx } σ2 H2) := by
  refine ⟨fun i m σ H => m = xs.length - i ∧ i ≤ xs.length ∧ Pv i σ H, ⟨xs.length, by simp, Nat.zero_le _, h0⟩, ?_⟩
  rintro i m σ H ⟨rfl, hi, p⟩
  have q := hl i σ H hi p
  by_cases hlt : i < xs.length
  · refine .inr ⟨⟨xs, xs[i], q, by simp [hlt]⟩, Pv (i + 1), fun σ' H' p' => ⟨xs.length - (i + 1), by omega, rfl, hlt, p'⟩, fun x H' y => ?_⟩
    obtain ⟨T, z, e, nT, eH, f⟩ := y
    subst e eH
    exact hs i z σ _ T (f xs q) p nT
  · have e : i = xs.length := by omega
    subst e
    exact .inl ⟨⟨xs, q, Nat.le_refl _⟩, hd σ H p⟩
end L2

namespace PySem
open Sem (wp)
theorem meets_enumerate_new0 {v : Value} {o : Obj} {H : Heap → Prop} (B : Begins v o H) :
    Meets (Builtin.«enumerate.__new__» ⟨[.type "enumerate", v], []⟩) (fun _ R s => H s.heap ∧
      R (.ok (.ret (.ref (s.heap.push o).objs.size))) { s with heap := (s.heap.push o).push { cls := .type "enumerate", data := .fields #[.none, .bool false, .ref s.heap.objs.size, rawInt 0, .none, .none] } }) :=
  .of_wp fun prog w A R s h => by
    obtain ⟨hp, g, d, tk, os⟩ := s; obtain ⟨h1, h⟩ := h
    have hsub := sub_enumerate
    have q1 : ∀ {A' : Around} {E : Value → Shared → Prop} {Q : Value → Shared → Prop}, Q (.ref hp.objs.size) ⟨hp.push o, g, d, tk, os⟩ → wpAny (model prog w) A' (pyIter v) Q E ⟨hp, g, d, tk, os⟩ :=
      fun q => B.iter prog w _ _ ⟨hp, g, d, tk, os⟩ _ h1 q
    wp_walk using q1
    refine wpAny_stack_any fun st => wpAny_pure ?_
    split
    · rename_i c _ _ _ _ _
      cases (c == Value.type "enumerate")
      · wp_walk using q1
        exact ⟨_, rfl, h⟩
      · wp_walk using q1
        exact ⟨_, rfl, h⟩
    · wp_walk using q1
      exact ⟨_, rfl, h⟩
theorem enum_begins0 {prog : Program} {w : World} {A : Around} {E : Value → Shared → Prop} {s : Shared} {v : Value} {o : Obj} {H : Heap → Prop} {Q : Value → Shared → Prop} (B : Begins v o H) (h1 : H s.heap)
    (h : ∀ h', IsEnum h' (s.heap.objs.size + 1) s.heap.objs.size 0 .none → h'.get? s.heap.objs.size = some o → h'.objs.size = s.heap.objs.size + 2 →
      (∀ b o, s.heap.get? b = some o → h'.get? b = some o) → Q (.ref (s.heap.objs.size + 1)) { s with heap := h' }) :
    wpAny (model prog w) A (call (.type "enumerate") [v]) Q E s := by
  refine callType_new F.called_enumerate (by decide) (F.typeCall_enumerate_1 _) (F.newCall_enumerate_1 _) (fun obj => F.args_object_init_2 obj _) F.entry_enumerate_new
    (meets_enumerate_new0 B) ⟨h1, ?_⟩
  have hz : (s.heap.push o).objs.size = s.heap.objs.size + 1 := Heap.size_push ..
  show _ ∧ _
  rw [hz]
  have he : IsEnum ((s.heap.push o).push { cls := .type "enumerate", data := .fields #[.none, .bool false, .ref s.heap.objs.size, rawInt 0, .none, .none] }) (s.heap.objs.size + 1) s.heap.objs.size 0 .none := by
    have := Heap.get?_push_size (s.heap.push o) (o := { cls := .type "enumerate", data := .fields #[.none, .bool false, .ref s.heap.objs.size, rawInt 0, .none, .none] }) rfl
    rw [hz] at this; exact this
  refine ⟨⟨_, he, rfl⟩, h _ he (Heap.get?_push_of_some _ (Heap.get?_push_size _ B.free)) (by rw [Heap.size_push, hz]) fun b o x => Heap.get?_push_of_some _ (Heap.get?_push_of_some _ x)⟩
end PySem
namespace L2
open PySem PySem.Spec PyProof.Rows
/-- the tuple at a, each item in a new pair -/
def IteT (K : PySem.W.Frag) (a : Addr) : It :=
  ⟨fun i H => ∃ (xs : List V) (x : V), SqT K H a xs ∧ xs[i]? = some x, fun i H v H' => ∃ T x, v = .ref T ∧ H T = none ∧ H' = upd H T (.tup [.int (i : Nat), x]) ∧ ∀ xs, SqT K H a xs → xs[i]? = some x, fun i H => ∃ xs : List V, SqT K H a xs ∧ xs.length ≤ i⟩
theorem turn_enumT {P : Program} {w : World} {K : PySem.W.Frag} {elts : List Expr} {kk : Nat} {tpos : Pos} (a e it : Addr) (hae : e ≠ a) (hai : a ≠ it) :
    Turn P w K (.Tuple elts kk tpos) (IteT K a) [e, it] e (fun i h => (∃ old, IsEnum h e it ((i : Nat) : Int) old) ∧ h.IsTupleIter it a i ∧ e ≠ it) where
  mem := by simp
  obj := fun i h st b hb => by
    obtain ⟨⟨old, he⟩, ⟨o, ho, hc, hd⟩, _⟩ := st
    have e' : b = e ∨ b = it := by simpa using hb
    rcases e' with z | z
    · rw [z]; exact ⟨_, he, fun v q => nomatch q⟩
    · rw [z]; exact ⟨o, ho, fun v q => by rw [hd] at q; cases q⟩
  keep := fun i h h' st k => let ⟨⟨old, he⟩, hi, hne⟩ := st; ⟨⟨old, k e (by simp) _ he⟩, hi.at fun o q => k it (by simp) o q, hne⟩
  item := by
    intro X hP hw hK hc i pins s σ H E I hf st hg
    subst hP hw hK
    obtain ⟨⟨old, he⟩, hit, hne⟩ := st
    obtain ⟨xs, x, hq, hx⟩ := hg
    obtain ⟨its, rv, p, hz⟩ := I.tuple hq
    obtain ⟨u, hu, ru⟩ := rv.get hx
    have hel : e < s.heap.objs.size := Heap.lt_size he
    have hil : it < s.heap.objs.size := by obtain ⟨_, q, _⟩ := hit; exact Heap.lt_size q
    have hlt : i < its.toArray.size := by
      have z := (List.getElem?_eq_some_iff.mp hu).1
      simpa using z
    refine wpAny_pyNext_enum_itemD (Draws.tuple (A := X.A.in1) (I.ok.hd hc) it a hai its.toArray) he ⟨hit, p⟩ hlt hne (by simp [hne, hae]) fun x' h' tk hP' ho hit' hT hsz hk => ?_
    have ex : x' = u := by
      have q : its.toArray[i]? = some u := by simpa using hu
      rw [q] at hP'
      exact (Option.some.inj hP').symm
    subst ex
    refine ⟨_, rfl, wpAny_letOwnedTupleGo_enum (s := { s with heap := h', toks := tk + 1 }) ho fun h'' he' sb => ?_⟩
    have hT2 : h''.get? s.heap.objs.size = some { cls := .type "tuple", data := .seq #[.int i tk, x'] } := (sb.2 _ (Nat.ne_of_gt hel)).trans hT
    have new : ObjOk X.prog X.w (upd H s.heap.objs.size (.tup [.int (i : Nat), x])) h'' s.heap.objs.size (.tup [.int (i : Nat), x]) :=
      ⟨by show 2 ≤ sizeLine; decide, [.int i tk, x'], .cons ⟨_, rfl⟩ (.cons ru .nil), ⟨_, hT2, rfl, _, rfl⟩⟩
    have I1 : Inv X pins σ (upd H s.heap.objs.size (.tup [.int (i : Nat), x])) { s with heap := h'', toks := tk + 1 } :=
      I.turnedNew (ch := [e, it]) (fun b ob hb q => (sb.2 b (fun z => hb (by simp [z]))).trans (hk b ob (fun z => hb (by simp [z])) (fun z => hb (by simp [z])) q)) hf (Nat.le_refl _) new
    refine ⟨.ref s.heap.objs.size, _, I1, rfl, ⟨_, x, rfl, I.hok.fresh (Nat.le_refl _), rfl, fun ys hy => by rw [I.tuple_inj hy hq]; exact hx⟩, ⟨⟨x', ?_⟩, hit'.1.at fun o q => (sb.2 it (Ne.symm hne)).trans q, hne⟩, fun b hb => ?_⟩
    · have e1 : ((i + 1 : Nat) : Int) = (i : Int) + 1 := by omega
      rw [e1]; exact he'
    · have hb' : b < s.heap.objs.size := by
        have e' : b = e ∨ b = it := by simpa using hb
        rcases e' with z | z
        · rw [z]; exact hel
        · rw [z]; exact hil
      rw [upd_ne (Nat.ne_of_lt hb')]
      exact (hf b hb).1
  done := by
    intro X hP hw hK hc i pins s σ H E I hf st hg
    subst hP hw hK
    obtain ⟨⟨old, he⟩, hit, hne⟩ := st
    obtain ⟨xs, hq, hx⟩ := hg
    obtain ⟨its, rv, p, hz⟩ := I.tuple hq
    obtain ⟨f0, f1, f2, f3, f4, f5⟩ := hf it (by simp)
    have hl := rv.length
    have hT : s.TypeIs (.ref e) "enumerate" := ⟨_, he, rfl⟩
    have hN : its.toArray[i]? = none := by simp; omega
    unfold pyNext
    refine wpAny_bind (wpAny_attempt (wpAny_callSpecial?_slot (name := Str.ofString "__next__") hT F.slot_enumerate_next
      (wpAny_call_entry F.slot_enumerate_next hT F.entry_enumerate_next ?_ (F.args_enumerate_next_1 _))))
    show wpAny _ _ (field (.ref e) 2 >>= _) _ _ _
    refine wpAny_bind (wpAny_field he rfl (x := .ref it) rfl ?_)
    refine wpAny_bind (wpAny_nextOf_tuple_end (I.ok.hd hc) hit p hN fun h' x he' hx' => ?_)
    obtain ⟨o, ho, hcc⟩ := hx'
    refine wpAny_bind (wpAny_isInstance (T := "StopIteration") (b := true) ⟨o, ho, hcc⟩ isSubtype_stop ?_)
    exact wpAny_pure ⟨rfl, I.turned (t' := s.toks) (fun b o hb q => he' b o hb q) f0 f1 f3 f4 f5⟩
  self := fun A i s Q E st h => let ⟨⟨_, he⟩, _⟩ := st; wpAny_pyIter_enum he h
/-- enumerate of a list or a tuple -/
def iEnumA (K : PySem.W.Frag) (ta : TA) : TI := fun σ H R => ta σ H fun vs H1 => ∃ a xs, vs = [.ref a] ∧ ((SqL K H1 a xs ∧ R (Ite K a) H1) ∨ (SqT K H1 a xs ∧ R (IteT K a) H1))
theorem pi_enumA {X : Cx} {e : Expr} {ta : TA} {p pos tpos : Pos} {elts : List Expr} {kk : Nat} (hg : Gl X "enumerate") (hm : X.mg "enumerate" = none) (ha : PA X [e] ta) (hs : starEach [e] X.env = [(false, eval e X.env)] := by rfl) :
    PI X (.Tuple elts kk tpos) (.Call (.Name "enumerate" p) [e] [] pos) (iEnumA X.K ta) := by
  refine ⟨fun pins s σ H R I h => ?_⟩
  refine Call_ (ld_blt I hg hm boot_enumerate (PyProof.Rows.callWith_type1 (thn (ha.run pos pins s σ H _ I h) fun us s1 ⟨vs, H1, I1, r1, q1⟩ => ?_) hs rfl))
  obtain ⟨a, xs, ex, q1⟩ := q1
  subst ex
  cases r1 with
  | cons r rr =>
    cases rr
    cases r
    have fp : ∀ b, b ∈ [s1.heap.objs.size + 1, s1.heap.objs.size] → s1.heap.objs.size ≤ b := fun b hb => by
      have e' : b = s1.heap.objs.size + 1 ∨ b = s1.heap.objs.size := by simpa using hb
      rcases e' with z | z
      · rw [z]; exact Nat.le_add_right _ _
      · rw [z]; exact Nat.le_refl _
    rcases q1 with ⟨hq, q⟩ | ⟨hq, q⟩
    · obtain ⟨its, rv, p', hz⟩ := I1.list hq
      refine call_enumerate_list p'.isList fun h' he hit hsz hk => wpAny_pyIter_enum he ?_
      have I2 : Inv X pins σ H1 { s1 with heap := h' } := I1.kept (t' := s1.toks) hk
      exact ⟨s1.heap.objs.size + 1, [s1.heap.objs.size + 1, s1.heap.objs.size], _, _, H1, rfl, I2, turn_enum a (s1.heap.objs.size + 1) s1.heap.objs.size, ⟨⟨.none, he⟩, hit, Nat.succ_ne_self _⟩, fun b hb => I1.fpOk (fp b hb) (I1.hok.fresh (fp b hb)), q⟩
    · obtain ⟨its, rv, p', hz⟩ := I1.tuple hq
      have hlt : a < s1.heap.objs.size := by
        obtain ⟨o, ho, _⟩ := id p'
        exact Heap.lt_size ho
      refine enum_begins0 (begins_tuple a its.toArray) p' fun h' he hit hsz hk => wpAny_pyIter_enum he ?_
      have I2 : Inv X pins σ H1 { s1 with heap := h' } := I1.kept (t' := s1.toks) hk
      exact ⟨s1.heap.objs.size + 1, [s1.heap.objs.size + 1, s1.heap.objs.size], _, _, H1, rfl, I2, turn_enumT a (s1.heap.objs.size + 1) s1.heap.objs.size (Nat.ne_of_gt (Nat.lt_succ_of_lt hlt)) (Nat.ne_of_lt hlt), ⟨⟨.none, he⟩, ⟨_, hit, rfl, rfl⟩, Nat.succ_ne_self _⟩, fun b hb => I1.fpOk (fp b hb) (I1.hok.fresh (fp b hb)), q⟩
end L2
namespace L2
open PySem PySem.Spec PyProof.Rows
theorem for_iteT {K : PySem.W.Frag} {a : Addr} {xs : List V} {g : TG} {tb : TS} {D : Ends} {σ : St} {H : Hp} (Pv : Nat → St → Hp → Prop) (h0 : Pv 0 σ H) (hl : ∀ i σ H, i ≤ xs.length → Pv i σ H → SqT K H a xs)
    (hs : ∀ i x σ H T, xs[i]? = some x → Pv i σ H → H T = none → g (.ref T) σ (upd H T (.tup [.int (i : Nat), x])) fun σ2 H2 => tb { D with nx := Pv (i + 1), ct := Pv (i + 1), bk := D.nx } σ2 H2) (hd : ∀ σ H, Pv xs.length σ H → D.nx σ H) :
    ∃ W : Nat → Nat → St → Hp → Prop, (∃ m, W 0 m σ H) ∧ ∀ i m σ H, W i m σ H →
      ((IteT K a).stop i H ∧ D.nx σ H) ∨ ((IteT K a).go i H ∧ ∃ N : St → Hp → Prop, (∀ σ' H', N σ' H' → ∃ m', m' < m ∧ W (i + 1) m' σ' H') ∧ ∀ x H', (IteT K a).yld i H x H' → g x σ H' fun σ2 H2 => tb { D with nx := N, ct := N, bk := D.nx } σ2 H2) := by
  refine ⟨fun i m σ H => m = xs.length - i ∧ i ≤ xs.length ∧ Pv i σ H, ⟨xs.length, by simp, Nat.zero_le _, h0⟩, ?_⟩
  rintro i m σ H ⟨rfl, hi, p⟩
  have q := hl i σ H hi p
  by_cases hlt : i < xs.length
  · refine .inr ⟨⟨xs, xs[i], q, by simp [hlt]⟩, Pv (i + 1), fun σ' H' p' => ⟨xs.length - (i + 1), by omega, rfl, hlt, p'⟩, fun x H' y => ?_⟩
    obtain ⟨T, z, e, nT, eH, f⟩ := y
    subst e eH
    exact hs i z σ _ T (f xs q) p nT
  · have e : i = xs.length := by omega
    subst e
    exact .inl ⟨⟨xs, q, Nat.le_refl _⟩, hd σ H p⟩
end L2

namespace L2
open PySem PySem.Spec PyProof.Rows
/-! ### sources of draws: a list of three ints, the first one from 0 on -/
def Src (H : Hp) (p : Addr) : Prop := ∃ x y z : Int, 0 ≤ x ∧ H p = some (.lst [.int x, .int y, .int z])
theorem Src.put {H : Hp} {p : Addr} {x y z : Int} (h : 0 ≤ x) : Src (upd H p (.lst [.int x, .int y, .int z])) p := ⟨x, y, z, h, upd_same⟩
theorem Src.ne {H : Hp} {p q : Addr} (h : Src H p) (n : H q = none) : q ≠ p := fun e => by
  obtain ⟨x, y, z, _, hp⟩ := h
  rw [← e, n] at hp
  cases hp
theorem Src.at {H H' : Hp} {p : Addr} (h : Src H p) (e : H' p = H p) : Src H' p := by
  obtain ⟨x, y, z, x0, hp⟩ := h
  exact ⟨x, y, z, x0, e.trans hp⟩
theorem Src.upd {H : Hp} {p q : Addr} {o : HO} (h : Src H p) (n : q ≠ p) : Src (L2.upd H q o) p := h.at (upd_ne (Ne.symm n))
theorem Src.new {H : Hp} {p q : Addr} {o : HO} (h : Src H p) (n : H q = none) : Src (L2.upd H q o) p := h.upd (h.ne n)
theorem Src.same {H H' : Hp} {p : Addr} (h : Src H p) (e : Same H H') : Src H' p := by
  obtain ⟨x, y, z, x0, hp⟩ := h
  exact ⟨x, y, z, x0, e _ _ hp⟩
/-- what a draw leaves: all but the source stands, the source is one -/
def Dn (p : Addr) (H H' : Hp) : Prop := SB p H H' ∧ Src H' p
theorem Dn.put {p : Addr} {H : Hp} {x y z : Int} (h : 0 ≤ x) : Dn p H (L2.upd H p (.lst [.int x, .int y, .int z])) := ⟨SB.put, .put h⟩
theorem Dn.trans {p : Addr} {H H1 H2 : Hp} (a : Dn p H H1) (b : Dn p H1 H2) : Dn p H H2 := ⟨a.1.trans b.1, b.2⟩
theorem Dn.new {p q : Addr} {H H' : Hp} {o : HO} (a : Dn p H H') (n : H' q = none) : Dn p H (L2.upd H' q o) := ⟨a.1.trans (SB.new n), a.2.new n⟩
theorem Dn.same {p : Addr} {H H' H2 : Hp} (a : Dn p H H') (e : Same H' H2) : Dn p H H2 := ⟨a.1.trans (SB.of e), a.2.same e⟩
theorem Dn.refl {p : Addr} {H : Hp} (h : Src H p) : Dn p H H := ⟨SB.refl p H, h⟩
/-- an address that is new behind a draw was new before -/
theorem Dn.free {p q : Addr} {H H' : Hp} (a : Dn p H H') (n : H' q = none) : H q = none := a.1.free (a.2.ne n) n
theorem map_snoc (ms : List Int) (v : Int) : ms.map V.int ++ [V.int v] = (ms ++ [v]).map V.int := by simp
theorem rep_flat (b : Int) : ∀ n : Nat, (List.replicate n [V.int b]).flatten = (List.replicate n b).map V.int
  | 0 => rfl
  | n + 1 => by
    rw [List.replicate_succ, List.replicate_succ, List.flatten_cons, rep_flat b n]
    rfl
theorem lt64 {c : Int} {x : Int} (h0 : 0 ≤ x) (h1 : x < c) (hc : c ≤ 2 ^ 63) : -(2 ^ 64) < x ∧ x < 2 ^ 64 := by omega
theorem mb (x : Int) {c : Int} (h : 0 < c) : 0 ≤ x % c ∧ x % c < c := ⟨Int.emod_nonneg _ (by omega), Int.emod_lt_of_pos _ h⟩
theorem mbw (x : Int) {c : Int} (h : 0 < c) (hc : c ≤ 2 ^ 63) : -(2 ^ 64) < x % c ∧ x % c < 2 ^ 64 := lt64 (mb x h).1 (mb x h).2 hc
/-- a comprehension over range(n) each of whose items is an int, reckoned by draws -/
theorem lc_ints {te : TE} {σ : L2.St} {H1 : Hp} {D p : Addr} {n j : Nat} {vs : List Nat} {Qd : Hp → Prop} (hn : n ≤ 1000000) (hs : Src H1 p) (hD : H1 D = none)
    (hw : ∀ v, wipe ((wipe σ vs).set j v) vs = wipe σ vs)
    (he : ∀ (k : Nat) (H3 : Hp) (R : VK), k < n → Dn p H1 H3 → (∀ (v : Int) (H4 : Hp), Dn p H3 H4 → R (.int v) H4) → te ((wipe σ vs).set j (some (.int (0 + (k : Nat))))) H3 R)
    (hd : ∀ (ms : List Int) (H' : Hp), ms.length = n → Dn p H1 H' → H' D = some (.lst (ms.map V.int)) → Qd H') :
    ∃ W : Nat → Nat → Hp → Prop, (∃ m, W 0 m (L2.upd H1 D (.lst []))) ∧ ∀ i m H, W i m H →
      ((Itr 0 n).stop i H ∧ Qd H) ∨ ((Itr 0 n).go i H ∧ ∃ Nx : Hp → Prop, (∀ H', Nx H' → ∃ m', m' < m ∧ W (i + 1) m' H') ∧ ∀ x H', (Itr 0 n).yld i H x H' → gName j x (wipe σ vs) H' fun σ2 H2 => wipe σ2 vs = wipe σ vs ∧ tYes σ2 H2 fun b H3 =>
        if b = true then te σ2 H3 fun y H4 => ∃ acc, H4 D = some (.lst acc) ∧ acc.length < sizeLine ∧ Nx (L2.upd H4 D (.lst (acc ++ [y]))) else Nx H3) := by
  have nD : D ≠ p := hs.ne hD
  refine lc_range (lo := 0) (n := n) (fun i H => ∃ ms : List Int, ms.length = i ∧ Dn p H1 H ∧ H D = some (.lst (ms.map V.int))) ⟨[], rfl, (Dn.refl hs).new hD, upd_same⟩ ?_ ?_
  · rintro i H hi ⟨ms, hl, dr, hh⟩
    refine ⟨hw _, ?_⟩
    refine he i H _ hi dr fun v H4 d4 => ?_
    have h4 := d4.1 _ _ nD hh
    refine ⟨_, h4, ?_, ms ++ [v], by simp [hl], ?_, ?_⟩
    · rw [List.length_map, hl]
      exact Nat.lt_of_le_of_lt (Nat.le_trans (Nat.le_of_lt hi) hn) (by decide)
    · have dd := dr.trans d4
      refine ⟨fun b o nb e => ?_, dd.2.upd nD⟩
      rw [upd_ne (ne_of_none e hD)]
      exact dd.1 b o nb e
    · rw [map_snoc]
      exact upd_same
  · rintro H ⟨ms, hl, dr, hh⟩
    exact hd ms H hl dr hh
end L2
namespace L2
open PySem PySem.Spec PyProof.Rows
theorem canLay_ints : ∀ ns : List Int, PyData.canLayAll0 (ns.map PyData.int) = true
  | [] => rfl
  | n :: r => by
    show (PyData.canLay0 (.int n) && PyData.canLayAll0 (r.map PyData.int)) = true
    rw [canLay_ints r]
    rfl
theorem depth_ints : ∀ ns : List Int, PyData.depthAll (ns.map PyData.int) = 0
  | [] => rfl
  | n :: r => by
    show max (PyData.depth (.int n)) (PyData.depthAll (r.map PyData.int)) = 0
    rw [depth_ints r]
    rfl
theorem shaped_ints (ns : List Int) : SeqAt.shaped (.list (ns.map PyData.int)) = true := by
  unfold SeqAt.shaped
  rw [Bool.and_eq_true]
  refine ⟨canLay_ints ns, decide_eq_true ?_⟩
  show PyData.depthAll (ns.map PyData.int) + 1 ≤ 64
  rw [depth_ints]
  decide
theorem eqv_ints (ns : List Int) : PyData.eqv (.list (ns.map PyData.int)) (.list (ns.map PyData.int)) = true := SeqAt.eqv_refl _ (SeqAt.canLay_of_shaped (shaped_ints ns))
theorem dpAll_ints {K : PySem.W.Frag} {H : Hp} : ∀ ns : List Int, DpAll K H (ns.map V.int) (ns.map PyData.int)
  | [] => .nil
  | n :: r => .cons (.int n) (dpAll_ints r)
theorem dp_ints {K : PySem.W.Frag} {H : Hp} {p : Addr} {ns : List Int} (h : SqL K H p (ns.map V.int)) : Dp K H (.ref p) (.list (ns.map PyData.int)) := .lst h (dpAll_ints ns)
theorem cut_mem {xs : List V} {lo hi : Option Int} {x : V} (h : x ∈ cutV xs lo hi) : x ∈ xs := List.mem_of_mem_drop (List.mem_of_mem_take h)
end L2

namespace L2
open PySem PySem.Spec PyProof.Rows
/-! ### stable orders: the items of 0 .. n - 1, by a number each, then by themselves -/
def Lx (f : Nat → Int) (i j : Nat) : Prop := f i < f j ∨ (f i = f j ∧ i < j)
theorem Lx.irr {f : Nat → Int} {i : Nat} : ¬ Lx f i i := fun h => by unfold Lx at h; omega
theorem Lx.asymm {f : Nat → Int} {i j : Nat} (h : Lx f i j) : ¬ Lx f j i := fun h' => by unfold Lx at h h'; omega
theorem Lx.trans {f : Nat → Int} {i j k : Nat} (h : Lx f i j) (h' : Lx f j k) : Lx f i k := by unfold Lx at *; omega
theorem Lx.tri (f : Nat → Int) (i j : Nat) : Lx f i j ∨ i = j ∨ Lx f j i := by unfold Lx; omega
structure Stab (f : Nat → Int) (n : Nat) (os : List Nat) : Prop where
  perm : os.Perm (List.range n)
  sort : os.Pairwise (Lx f)
/-- two rows of the same items that are sorted strictly are one -/
theorem sorted_uniq {α : Type} {R : α → α → Prop} (as : ∀ a b, R a b → ¬ R b a) : ∀ {xs ys : List α}, xs.Perm ys → xs.Pairwise R → ys.Pairwise R → xs = ys
  | [], ys, p, _, _ => (List.Perm.nil_eq p)
  | x :: xs, [], p, _, _ => absurd p.length_eq (by simp)
  | x :: xs, y :: ys, p, hx, hy => by
    have e : x = y := by
      have m1 : x ∈ y :: ys := p.mem_iff.mp (List.mem_cons_self ..)
      have m2 : y ∈ x :: xs := p.mem_iff.mpr (List.mem_cons_self ..)
      rcases List.mem_cons.mp m1 with e | m1
      · exact e
      · rcases List.mem_cons.mp m2 with e | m2
        · exact e.symm
        · exact absurd ((List.pairwise_cons.mp hx).1 y m2) (as _ _ ((List.pairwise_cons.mp hy).1 x m1))
    subst e
    rw [sorted_uniq as p.cons_inv (List.pairwise_cons.mp hx).2 (List.pairwise_cons.mp hy).2]
theorem Stab.uniq {f : Nat → Int} {n : Nat} {as bs : List Nat} (a : Stab f n as) (b : Stab f n bs) : as = bs := sorted_uniq (fun _ _ => Lx.asymm) (a.perm.trans b.perm.symm) a.sort b.sort
theorem Stab.len {f : Nat → Int} {n : Nat} {os : List Nat} (a : Stab f n os) : os.length = n := by
  rw [a.perm.length_eq, List.length_range]
theorem Stab.nodup {f : Nat → Int} {n : Nat} {os : List Nat} (a : Stab f n os) : os.Nodup := a.perm.nodup_iff.mpr List.nodup_range
theorem Stab.lt {f : Nat → Int} {n : Nat} {os : List Nat} (a : Stab f n os) {i : Nat} (h : i ∈ os) : i < n := List.mem_range.mp (a.perm.mem_iff.mp h)
/-- the order hangs on how the numbers stand to one another alone -/
theorem Stab.like {f g : Nat → Int} {n : Nat} {os : List Nat} (a : Stab f n os) (h : ∀ i j, i < n → j < n → (f i < f j ↔ g i < g j)) : Stab g n os := by
  refine ⟨a.perm, ?_⟩
  refine List.Pairwise.imp_of_mem ?_ a.sort
  intro i j hi hj l
  have h1 := h i j (a.lt hi) (a.lt hj)
  have h2 := h j i (a.lt hj) (a.lt hi)
  unfold Lx at *
  omega
/-- what an item counts: its key, with reverse its negative -/
def keyf (ks : List Int) (rev : Bool) (i : Nat) : Int := if rev then -(ks.getD i 0) else ks.getD i 0
/-- the row of items as values -/
abbrev nV (os : List Nat) : List V := os.map fun (i : Nat) => V.int (i : Int)
/-- pairs of the keys' numbers and the items, sorted, give the order -/
theorem stab_of_pairs {f : Nat → Int} {n : Nat} {ps : List (Int × Int)} (p : ps.Perm ((List.range n).map fun (i : Nat) => (f i, (i : Int)))) (s : ps.Pairwise fun x y => ¬ (y.1 < x.1 ∨ (y.1 = x.1 ∧ y.2 < x.2))) :
    ∃ os, Stab f n os ∧ ps = os.map fun (i : Nat) => (f i, (i : Int)) := by
  have hm : ∀ q ∈ ps, q = (f q.2.toNat, (q.2.toNat : Int)) := fun q hq => by
    obtain ⟨i, _, e⟩ := List.mem_map.mp (p.mem_iff.mp hq)
    subst e
    simp
  have e1 : ps = (ps.map fun q => q.2.toNat).map fun (i : Nat) => (f i, (i : Int)) := by
    rw [List.map_map]
    calc ps = ps.map id := (List.map_id ps).symm
      _ = _ := List.map_congr_left fun q hq => hm q hq
  have pm : (ps.map fun q => q.2.toNat).Perm (List.range n) := by
    have q := p.map fun q => q.2.toNat
    rw [List.map_map] at q
    have e : (List.range n).map ((fun q : Int × Int => q.2.toNat) ∘ fun (i : Nat) => (f i, (i : Int))) = List.range n := by
      calc _ = (List.range n).map id := List.map_congr_left fun i _ => by simp
        _ = _ := List.map_id _
    rw [e] at q
    exact q
  refine ⟨ps.map fun q => q.2.toNat, ⟨pm, ?_⟩, e1⟩
  have nd : (ps.map fun q => q.2.toNat).Nodup := pm.nodup_iff.mpr List.nodup_range
  have s2 : (ps.map fun q => q.2.toNat).Pairwise fun i j => ¬ (f j < f i ∨ (f j = f i ∧ j < i)) := by
    rw [e1, List.pairwise_map] at s
    refine s.imp ?_
    intro i j h
    omega
  exact (List.pairwise_and_iff.mpr ⟨s2, nd⟩).imp fun {i j} h => by
    obtain ⟨h1, h2⟩ := h
    unfold Lx
    omega
end L2
namespace L2
open PySem PySem.Spec PyProof.Rows
theorem pe_callN0 {X : Cx} {CX : CXT} {k : Nat} {f : Addr} {fd : FuncData} {ps ks : List Str} {sp : Sp} {E : XK} {x : Str} {p pos : Pos} {kws : List Keyword} {tk : TA} {g : List Value → List Value → List Value} {gV : List V → List V → List V}
    (F : FnOk X.prog X.w X.K X.mg X.base CX k f fd ps sp) (hr : Room k X.A) (hg : Gl X x) (hm : X.mg x = some (.ref f)) (hk : PySem.W.keepIn X.K (.ref f) = true) (hb : KBn X.K fd ps 0 ks g gV) (hx : Passes CX X E)
    (hkw : PK X kws tk) (hall : (backToKw pos (keywordEach kws X.env)).all (·.1.isSome) = true := by rfl) (hks : (backToKw pos (keywordEach kws X.env)).filterMap (·.1) = ks := by rfl)
    (hdb : (x == ("__debug__" : Str)) = false := by decide)
    (hpl : ((backTo pos (starEach [] X.env)).any (·.1) || (backToKw pos (keywordEach kws X.env)).any (·.1.isNone)) = false := by rfl) :
    PE X (.Call (.Name x p) [] kws pos) (fun σ H Q => tk σ H fun zs H2 => zs.length = ks.length ∧ sp (gV [] zs) H2 Q E) := by
  refine ⟨fun pins s σ H Q I h => ?_⟩
  refine wpAny_Call_Name_kw (ld_glob I hg hm ?_ hdb)
  refine PySem.W.callWith_KW0 (h₀ := X.base) I.ok.mod.kin hk hall ?_ hpl
  refine thn (hkw.run pos pins s σ H _ I h) fun ws s2 ⟨zs, H2, I2, rz, l2, q2⟩ => ⟨I2.kIn, ?_⟩
  rw [hks]
  exact run_fnN F hr hb hx I2 .nil rz rfl l2 q2
theorem lc_iteL {K : PySem.W.Frag} {a : Addr} {xs : List V} {g : TG} {tt : TT} {te : TE} {vs : List Nat} {σ : L2.St} {H1 : Hp} {D : Addr} {Qd : Hp → Prop} (Pv : Nat → Hp → Prop) (h0 : Pv 0 (upd H1 D (.lst []))) (hl : ∀ i H, i ≤ xs.length → Pv i H → SqL K H a xs)
    (hs : ∀ i x H T, xs[i]? = some x → Pv i H → H T = none → g (.ref T) (wipe σ vs) (upd H T (.tup [.int (i : Nat), x])) fun σ2 H2 => wipe σ2 vs = wipe σ vs ∧ tt σ2 H2 fun b H3 =>
      if b = true then te σ2 H3 fun y H4 => ∃ acc, H4 D = some (.lst acc) ∧ acc.length < sizeLine ∧ Pv (i + 1) (upd H4 D (.lst (acc ++ [y]))) else Pv (i + 1) H3) (hd : ∀ H, Pv xs.length H → Qd H) :
    ∃ W : Nat → Nat → Hp → Prop, (∃ m, W 0 m (upd H1 D (.lst []))) ∧ ∀ i m H, W i m H →
      ((Ite K a).stop i H ∧ Qd H) ∨ ((Ite K a).go i H ∧ ∃ Nx : Hp → Prop, (∀ H', Nx H' → ∃ m', m' < m ∧ W (i + 1) m' H') ∧ ∀ x H', (Ite K a).yld i H x H' → g x (wipe σ vs) H' fun σ2 H2 => wipe σ2 vs = wipe σ vs ∧ tt σ2 H2 fun b H3 =>
        if b = true then te σ2 H3 fun y H4 => ∃ acc, H4 D = some (.lst acc) ∧ acc.length < sizeLine ∧ Nx (upd H4 D (.lst (acc ++ [y]))) else Nx H3) := by
  refine ⟨fun i m H => m = xs.length - i ∧ i ≤ xs.length ∧ Pv i H, ⟨xs.length, by simp, Nat.zero_le _, h0⟩, ?_⟩
  rintro i m H ⟨rfl, hi, p⟩
  have q := hl i H hi p
  by_cases hlt : i < xs.length
  · refine .inr ⟨⟨xs, xs[i], q, by simp [hlt]⟩, Pv (i + 1), fun H' p' => ⟨xs.length - (i + 1), by omega, rfl, hlt, p'⟩, fun x H' y => ?_⟩
    obtain ⟨T, z, e, nT, eH, f⟩ := y
    subst e eH
    exact hs i z _ T (f xs q) p nT
  · have e : i = xs.length := by omega
    subst e
    exact .inl ⟨⟨xs, q, Nat.le_refl _⟩, hd H p⟩
theorem lc_iteT {K : PySem.W.Frag} {a : Addr} {xs : List V} {g : TG} {tt : TT} {te : TE} {vs : List Nat} {σ : L2.St} {H1 : Hp} {D : Addr} {Qd : Hp → Prop} (Pv : Nat → Hp → Prop) (h0 : Pv 0 (upd H1 D (.lst []))) (hl : ∀ i H, i ≤ xs.length → Pv i H → SqT K H a xs)
    (hs : ∀ i x H T, xs[i]? = some x → Pv i H → H T = none → g (.ref T) (wipe σ vs) (upd H T (.tup [.int (i : Nat), x])) fun σ2 H2 => wipe σ2 vs = wipe σ vs ∧ tt σ2 H2 fun b H3 =>
      if b = true then te σ2 H3 fun y H4 => ∃ acc, H4 D = some (.lst acc) ∧ acc.length < sizeLine ∧ Pv (i + 1) (upd H4 D (.lst (acc ++ [y]))) else Pv (i + 1) H3) (hd : ∀ H, Pv xs.length H → Qd H) :
    ∃ W : Nat → Nat → Hp → Prop, (∃ m, W 0 m (upd H1 D (.lst []))) ∧ ∀ i m H, W i m H →
      ((IteT K a).stop i H ∧ Qd H) ∨ ((IteT K a).go i H ∧ ∃ Nx : Hp → Prop, (∀ H', Nx H' → ∃ m', m' < m ∧ W (i + 1) m' H') ∧ ∀ x H', (IteT K a).yld i H x H' → g x (wipe σ vs) H' fun σ2 H2 => wipe σ2 vs = wipe σ vs ∧ tt σ2 H2 fun b H3 =>
        if b = true then te σ2 H3 fun y H4 => ∃ acc, H4 D = some (.lst acc) ∧ acc.length < sizeLine ∧ Nx (upd H4 D (.lst (acc ++ [y]))) else Nx H3) := by
  refine ⟨fun i m H => m = xs.length - i ∧ i ≤ xs.length ∧ Pv i H, ⟨xs.length, by simp, Nat.zero_le _, h0⟩, ?_⟩
  rintro i m H ⟨rfl, hi, p⟩
  have q := hl i H hi p
  by_cases hlt : i < xs.length
  · refine .inr ⟨⟨xs, xs[i], q, by simp [hlt]⟩, Pv (i + 1), fun H' p' => ⟨xs.length - (i + 1), by omega, rfl, hlt, p'⟩, fun x H' y => ?_⟩
    obtain ⟨T, z, e, nT, eH, f⟩ := y
    subst e eH
    exact hs i z _ T (f xs q) p nT
  · have e : i = xs.length := by omega
    subst e
    exact .inl ⟨⟨xs, q, Nat.le_refl _⟩, hd H p⟩
/-- rows of ints compared -/
theorem eqvAll_ints : ∀ xs ys : List Int, PyData.eqvAll (xs.map PyData.int) (ys.map PyData.int) = decide (xs = ys)
  | [], [] => rfl
  | [], _ :: _ => rfl
  | _ :: _, [] => rfl
  | x :: xs, y :: ys => by
    show (PyData.eqv (.int x) (.int y) && PyData.eqvAll (xs.map PyData.int) (ys.map PyData.int)) = _
    rw [eqvAll_ints xs ys]
    show (x == y && decide (xs = ys)) = _
    by_cases h1 : x = y
    · subst h1
      by_cases h2 : xs = ys
      · subst h2
        simp
      · simp [h2]
    · simp [h1]
theorem eqv_lists (xs ys : List Int) : PyData.eqv (.list (xs.map PyData.int)) (.list (ys.map PyData.int)) = decide (xs = ys) := eqvAll_ints xs ys
theorem nV_map (os : List Nat) : nV os = (os.map fun (i : Nat) => (i : Int)).map V.int := by
  unfold nV
  rw [List.map_map]
  rfl
theorem cast_inj {xs ys : List Nat} : (xs.map fun (i : Nat) => (i : Int)) = (ys.map fun (i : Nat) => (i : Int)) ↔ xs = ys := by
  constructor
  · intro h
    have h2 := congrArg (List.map Int.toNat) h
    rw [List.map_map, List.map_map] at h2
    have e : ∀ l : List Nat, l.map (Int.toNat ∘ fun (i : Nat) => (i : Int)) = l := fun l => by
      calc _ = l.map id := List.map_congr_left fun i _ => by simp
        _ = l := List.map_id l
    rw [e, e] at h2
    exact h2
  · intro h
    rw [h]
end L2
namespace L2
open PySem PySem.Spec PyProof.Rows
theorem cut_take (xs : List V) (k : Nat) : cutV xs none (some (k : Int)) = xs.take k := by
  unfold cutV
  rw [HT.sIx_none, HT.sIx_nat, List.drop_zero, Nat.sub_zero]
  by_cases h : k ≤ xs.length
  · rw [Nat.min_eq_left h]
  · rw [Nat.min_eq_right (by omega), List.take_of_length_le (Nat.le_refl _), List.take_of_length_le (by omega)]
theorem cut_drop (xs : List V) (k : Nat) : cutV xs (some (k : Int)) none = xs.drop k := by
  unfold cutV
  rw [HT.sIx_none, HT.sIx_nat]
  by_cases h : k ≤ xs.length
  · rw [Nat.min_eq_left h]
    exact List.take_of_length_le (by rw [List.length_drop]; exact Nat.le_refl _)
  · rw [Nat.min_eq_right (by omega), List.drop_of_length_le (Nat.le_refl _), List.drop_of_length_le (by omega), List.take_nil]
/-- an item is put in where all ahead are ahead of it and all behind behind it -/
theorem put_stab {f : Nat → Int} {i pl : Nat} {os : List Nat} (s : Stab f i os) (h1 : ∀ x ∈ os.take pl, Lx f x i) (h2 : ∀ x ∈ os.drop pl, Lx f i x) : Stab f (i + 1) (os.take pl ++ [i] ++ os.drop pl) := by
  have e : os.take pl ++ os.drop pl = os := List.take_append_drop pl os
  constructor
  · have p1 : (os.take pl ++ [i] ++ os.drop pl).Perm ((os.take pl ++ os.drop pl) ++ [i]) := by
      rw [List.append_assoc, List.append_assoc]
      exact List.Perm.append_left _ List.perm_append_comm
    rw [e] at p1
    refine p1.trans ?_
    rw [List.range_succ]
    exact s.perm.append_right [i]
  · have so := s.sort
    rw [← e, List.pairwise_append] at so
    rw [List.append_assoc, List.pairwise_append]
    refine ⟨so.1, List.pairwise_cons.mpr ⟨h2, so.2.1⟩, fun x hx y hy => ?_⟩
    rcases List.mem_cons.mp hy with rfl | hy
    · exact h1 x hx
    · exact so.2.2 x hx y hy
end L2

namespace L2
open PySem PySem.Spec PyProof.Rows
/-! ### o[lo:hi] = another list -/
def gSlice (to : TE) (tl th : TO) : TG := fun v σ H Q => to σ H fun o H1 => tl σ H1 fun lo H2 => th σ H2 fun hi H3 =>
  ∃ (l b : Addr) (xs ys : List V) (a c : Int), o = .ref l ∧ v = .ref b ∧ lo = some a ∧ hi = some c ∧ H3 l = some (.lst xs) ∧ H3 b = some (.lst ys) ∧ l ≠ b ∧ 0 ≤ a ∧ a ≤ c ∧ c ≤ xs.length ∧ xs.length + ys.length ≤ sizeLine ∧
    Q σ (upd H3 l (.lst (xs.take a.toNat ++ ys ++ xs.drop c.toNat)))
theorem part_int {u : Value} {i : Int} (h : IsPart u (some i)) : RelV (.int i) u := by
  cases h
  exact ⟨_, rfl⟩
theorem pg_slice {X : Cx} {o : Expr} {lo hi : Option Expr} {to : TE} {tl th : TO} {p2 pos : Pos} (ho : PE X o to) (hl : PO X lo tl) (hu : PO X hi th)
    (ha : ∀ v, assign (.Subscript o (.Slice lo hi none p2) pos) X.env v = (do
      let ov ← holding [v] (eval o X.env)
      let iv ← holding [v, ov] (eval (.Slice lo hi none p2) X.env)
      standAt pos
      holding [v, ov, iv] (setItem ov iv v)
      release [iv, v, ov] []) := by intro _; rfl) : PG X (.Subscript o (.Slice lo hi none p2) pos) (gSlice to tl th) := by
  refine ⟨fun pins s σ H v u Q I r h => ?_⟩
  rw [ha]
  refine wpAny_bind (wpAny_holding (thn (ho.run pins s σ H _ I h) fun ov s1 ⟨x, H1, I1, r1, q1⟩ => ?_))
  refine wpAny_bind (wpAny_holding (wpAny_Slice (thn (hl.run pins s1 σ H1 _ I1 q1) fun vl s2 ⟨l, H2, I2, pl, q2⟩ => thn (hu.run pins s2 σ H2 _ I2 q2) fun vu s3 ⟨w', H3, I3, pu, q3⟩ => ?_)))
  rw [evalPart_none]
  refine wpAny_pure ?_
  have I4 : Inv X pins σ H3 { s3 with heap := s3.heap.push { cls := .type "slice", data := .fields #[vl, vu, .none] } } := I3.kept (t' := s3.toks) fun b ob q => Heap.get?_push_of_some _ q
  obtain ⟨li, b, xs, ys, a, c, rfl, rfl, rfl, rfl, hX, hB, ne, h0, hac, hc, hz, q⟩ := q3
  cases r1
  cases r
  refine wpAny_bind (wpAny_standAt (wpAny_bind (wpAny_holding ?_)))
  refine set_slice I4 hX hB ne (Heap.IsSliceOf.new ..) (part_int pl) (part_int pu) h0 hac hc hz fun s5 I5 => ?_
  exact wpAny_release ⟨σ, _, I5, q⟩
end L2
namespace L2
open PySem PySem.Spec PyProof.Rows
/-! ### how a run is found: the state, step by step -/
structure RF where
  row : List Nat
  pl : Nat
  eq : Nat
  st : Nat
  wt : Option (Nat × Nat)
  ln : Option Nat
namespace RF
def turned (row : List Nat) (lo hi : Nat) : List Nat := row.take lo ++ ((row.drop lo).take (hi - lo)).reverse ++ row.drop hi
def turn (f : RF) (lo : Nat) : RF := { f with row := turned f.row lo f.pl }
def finish (s : Nat) (f : RF) : RF := { f with ln := some (f.pl - s), wt := none }
def turnEq (f : RF) : RF := if 0 < f.eq then { f.turn (f.pl - f.eq - 1) with eq := 0 } else f
def askUp (s e : Nat) (f : RF) : RF := if f.pl < e then { f with wt := some (f.row.getD f.pl 0, f.row.getD (f.pl - 1) 0) } else finish s f
def rise (s e : Nat) (f : RF) : RF := askUp s e { (turnEq f).turn s with st := 5 }
def ask (s e : Nat) (f : RF) : RF := if f.pl < e then { f with wt := some (f.row.getD f.pl 0, f.row.getD (f.pl - 1) 0) } else if f.st = 3 then rise s e f else finish s f
def goOn (s e : Nat) (f : RF) : RF := ask s e { f with pl := f.pl + 1 }
def fall (s e : Nat) (f : RF) : RF := goOn s e { f with st := 3 }
def take1 (s e : Nat) (b : Bool) (f : RF) : RF := if b = false then goOn s e f else if f.pl = s + 1 then fall s e f else { f with st := 2, wt := some (f.row.getD s 0, f.row.getD (f.pl - 1) 0) }
def take2 (s e : Nat) (b : Bool) (f : RF) : RF := if b = true then finish s f else fall s e (f.turn s)
def take3 (s e : Nat) (b : Bool) (f : RF) : RF := if b = true then goOn s e (turnEq f) else { f with st := 4, wt := some (f.row.getD (f.pl - 1) 0, f.row.getD f.pl 0) }
def take4 (s e : Nat) (b : Bool) (f : RF) : RF := if b = true then rise s e f else goOn s e { f with eq := f.eq + 1, st := 3 }
def take5 (s e : Nat) (b : Bool) (f : RF) : RF := if b = true then finish s f else goOn s e f
def take (s e : Nat) (b : Bool) (f : RF) : RF := if f.st = 1 then take1 s e b f else if f.st = 2 then take2 s e b f else if f.st = 3 then take3 s e b f else if f.st = 4 then take4 s e b f else take5 s e b f
def init (row : List Nat) (s e : Nat) : RF := ask s e { row := row, pl := s + 1, eq := 0, st := 1, wt := none, ln := none }
/-- what holds between the steps -/
structure WF (s e : Nat) (f : RF) : Prop where
  sp : s < f.pl
  pe : f.pl ≤ e
  er : e ≤ f.row.length
  eq : f.eq + s < f.pl
  rl : f.row.length ≤ 2000
theorem turned_len {row : List Nat} {lo hi : Nat} (h : lo ≤ hi) (h2 : hi ≤ row.length) : (turned row lo hi).length = row.length := by
  unfold turned
  rw [List.length_append, List.length_append, List.length_take, List.length_reverse, List.length_take, List.length_drop, List.length_drop]
  omega
variable {s e : Nat} {f : RF}
theorem WF.turn (w : WF s e f) {lo : Nat} (h : lo ≤ f.pl) : WF s e (f.turn lo) := by
  obtain ⟨a, b, c, d, g⟩ := w
  have l : (f.turn lo).row.length = f.row.length := turned_len h (by omega)
  exact ⟨a, b, by rw [l]; exact c, d, by rw [l]; exact g⟩
theorem WF.turnEq (w : WF s e f) : WF s e f.turnEq := by
  unfold RF.turnEq
  split
  · have w2 := w.turn (lo := f.pl - f.eq - 1) (by omega)
    exact ⟨w2.sp, w2.pe, w2.er, by show 0 + s < f.pl; have := w.sp; omega, w2.rl⟩
  · exact w
theorem turnEq_pl (f : RF) : f.turnEq.pl = f.pl := by
  unfold RF.turnEq
  split <;> rfl
theorem turnEq_st (f : RF) : f.turnEq.st = f.st := by
  unfold RF.turnEq
  split <;> rfl
end RF
def lenV : Option Nat → V
  | none => .non
  | some n => .int (n : Int)
def flds (r : Addr) (s e : Nat) (f : RF) (wv : V) : List (Str × V) :=
  [("row", .ref r), ("start", .int (s : Int)), ("end", .int (e : Int)), ("place", .int (f.pl : Int)), ("equal", .int (f.eq : Int)), ("step", .int (f.st : Int)), ("waiting", wv), ("length", lenV f.ln)]
def WaitAt (H : Hp) (wv : V) : Option (Nat × Nat) → Prop
  | none => wv = .non
  | some (i, j) => ∃ t, wv = .ref t ∧ H t = some (.tup [.int (i : Int), .int (j : Int)])
theorem WaitAt.keep {H H' : Hp} {wv : V} {o : Option (Nat × Nat)} (h : WaitAt H wv o) (k : ∀ t i j, H t = some (.tup [.int i, .int j]) → H' t = some (.tup [.int i, .int j])) : WaitAt H' wv o := by
  cases o with
  | none => exact h
  | some p =>
    obtain ⟨t, e, ht⟩ := h
    exact ⟨t, e, k _ _ _ ht⟩
theorem WaitAt.upd {H : Hp} {wv : V} {o : Option (Nat × Nat)} {x : Addr} {u v : HO} (h : WaitAt H wv o) (hx : H x = some u) (hn : ∀ i j, u ≠ .tup [.int i, .int j]) : WaitAt (L2.upd H x v) wv o :=
  h.keep fun t i j ht => by
    rw [upd_ne (ne_of ht hx (fun e => hn i j e.symm))]
    exact ht
/-- the finder at x, its row at r -/
def FAt (C : Addr) (H : Hp) (x r : Addr) (s e : Nat) (f : RF) : Prop := x ≠ r ∧ ∃ dx wv, H x = some (.ins C dx (flds r s e f wv)) ∧ WaitAt H wv f.wt ∧ H r = some (.lst (nV f.row))
/-- all but x and r stands -/
def Fr2 (x r : Addr) (H H' : Hp) : Prop := ∀ b o, b ≠ x → b ≠ r → H b = some o → H' b = some o
theorem Fr2.refl (x r : Addr) (H : Hp) : Fr2 x r H H := fun _ _ _ _ h => h
theorem Fr2.trans {x r : Addr} {H H1 H2 : Hp} (a : Fr2 x r H H1) (b : Fr2 x r H1 H2) : Fr2 x r H H2 := fun c o n m h => b c o n m (a c o n m h)
theorem Fr2.of {x r : Addr} {H H' : Hp} (a : Same H H') : Fr2 x r H H' := fun c o _ _ h => a c o h
theorem Fr2.putx {x r : Addr} {H : Hp} {u : HO} : Fr2 x r H (L2.upd H x u) := fun c o n _ h => by rw [upd_ne n]; exact h
theorem Fr2.putr {x r : Addr} {H : Hp} {u : HO} : Fr2 x r H (L2.upd H r u) := fun c o _ m h => by rw [upd_ne m]; exact h
theorem FAt.same {C : Addr} {H H' : Hp} {x r : Addr} {s e : Nat} {f : RF} (h : FAt C H x r s e f) (k : Same H H') : FAt C H' x r s e f := by
  obtain ⟨n, dx, wv, hx, hw, hr⟩ := h
  exact ⟨n, dx, wv, k _ _ hx, hw.keep (fun _ _ _ => k _ _), k _ _ hr⟩
end L2

namespace L2
open PySem PySem.Spec PyProof.Rows
theorem cut_mid (xs : List V) (a b : Nat) (h : a ≤ b) (hb : b ≤ xs.length) : cutV xs (some (a : Int)) (some (b : Int)) = (xs.drop a).take (b - a) := by
  unfold cutV
  rw [HT.sIx_nat, HT.sIx_nat, Nat.min_eq_left hb, Nat.min_eq_left (Nat.le_trans h hb)]
theorem nV_turned (row : List Nat) (lo hi : Nat) : (nV row).take lo ++ (((nV row).drop lo).take (hi - lo)).reverse ++ (nV row).drop hi = nV (RF.turned row lo hi) := by
  unfold RF.turned
  simp only [List.map_append, List.map_take, List.map_drop, List.map_reverse]
theorem nV_get {row : List Nat} {i : Nat} (h : i < row.length) : atI (nV row) (i : Int) = some (.int ((row.getD i 0 : Nat) : Int)) := by
  refine atI_nat ?_
  rw [List.getElem?_map, List.getElem?_eq_getElem h]
  simp [List.getD_eq_getElem?_getD, List.getElem?_eq_getElem h]
theorem FAt.put {C x r : Addr} {H : Hp} {s e : Nat} {f f' : RF} {dx : Addr} {wv wv' : V} (h : FAt C H x r s e f) (hx : H x = some (.ins C dx (flds r s e f wv))) (er : f'.row = f.row) (hw : WaitAt H wv' f'.wt) {w : List (Str × V)} (ew : w = flds r s e f' wv') :
    FAt C (upd H x (.ins C dx w)) x r s e f' := by
  obtain ⟨n, _, _, _, _, hr⟩ := h
  subst ew
  refine ⟨n, dx, wv', upd_same, hw.upd hx (fun i j e => by cases e), ?_⟩
  rw [upd_ne n.symm, er]
  exact hr
/-- an attribute is set -/
theorem FAt.set {C x r : Addr} {H : Hp} {s e : Nat} {f : RF} {dx : Addr} {wv : V} (h : FAt C H x r s e f) (hx : H x = some (.ins C dx (flds r s e f wv))) (f' : RF) (wv' : V) (er : f'.row = f.row) (hw : WaitAt H wv' f'.wt) {w : List (Str × V)} (ew : w = flds r s e f' wv') :
    FAt C (upd H x (.ins C dx w)) x r s e f' ∧ upd H x (.ins C dx w) x = some (.ins C dx (flds r s e f' wv')) ∧ Fr2 x r H (upd H x (.ins C dx w)) := by
  subst ew
  exact ⟨h.put hx er hw rfl, upd_same, Fr2.putx⟩
theorem FAt.wait {C x r : Addr} {H : Hp} {s e : Nat} {f : RF} {dx : Addr} {wv : V} (h : FAt C H x r s e f) (hx : H x = some (.ins C dx (flds r s e f wv))) : WaitAt H wv f.wt := by
  obtain ⟨_, dx2, wv2, hx2, hw, _⟩ := h
  rw [hx] at hx2
  have e1 : flds r s e f wv = flds r s e f wv2 := (HO.ins.inj (Option.some.inj hx2)).2.2
  have e3 : some wv = some wv2 := congrArg (fun l : List (Str × V) => l.lookup ("waiting" : Str)) e1
  rw [Option.some.inj e3]
  exact hw
theorem FAt.putRow {C x r : Addr} {H : Hp} {s e : Nat} {f : RF} (h : FAt C H x r s e f) {row : List Nat} {w : List V} (ew : w = nV row) :
    FAt C (upd H r (.lst w)) x r s e { f with row := row } := by
  obtain ⟨n, dx, wv, hx, hw, hr⟩ := h
  subst ew
  refine ⟨n, dx, wv, ?_, hw.upd hr (fun i j e => by cases e), upd_same⟩
  rw [upd_ne n]
  exact hx
def spF0 (C : Addr) (pre : Nat → Nat → RF → Prop) (fn : Nat → Nat → RF → RF) : Sp := fun vs H Q _ => ∃ (x r : Addr) (s e : Nat) (f : RF), vs = [.ref x] ∧ FAt C H x r s e f ∧ RF.WF s e f ∧ pre s e f ∧ ∀ H', FAt C H' x r s e (fn s e f) → Fr2 x r H H' → Q .non H'
def spG (C : Addr) (fn : Nat → Nat → RF → RF) : Sp := fun vs H Q _ => ∃ (x r : Addr) (s e : Nat) (f : RF), vs = [.ref x] ∧ FAt C H x r s e f ∧ RF.WF s e { f with pl := f.pl + 1 } ∧ ∀ H', FAt C H' x r s e (fn s e f) → Fr2 x r H H' → Q .non H'
def spInit (C : Addr) : Sp := fun vs H Q _ => ∃ (x dx r : Addr) (s e : Nat) (row : List Nat), vs = [.ref x, .ref r, .int (s : Int), .int (e : Int)] ∧ H x = some (.ins C dx []) ∧ H r = some (.lst (nV row)) ∧ x ≠ r ∧ s < e ∧ e ≤ row.length ∧ row.length ≤ 2000 ∧ ∀ H', FAt C H' x r s e (RF.init row s e) → Fr2 x r H H' → Q .non H'
def spF1 (C : Addr) (pre : Nat → Nat → RF → Prop) (fn : Nat → Nat → Bool → RF → RF) : Sp := fun vs H Q _ => ∃ (x r : Addr) (s e : Nat) (f : RF) (b : Bool), vs = [.ref x, .bl b] ∧ FAt C H x r s e f ∧ RF.WF s e f ∧ pre s e f ∧ ∀ H', FAt C H' x r s e (fn s e b f) → Fr2 x r H H' → Q .non H'
def spTurn (C : Addr) : Sp := fun vs H Q _ => ∃ (x r : Addr) (s e lo : Nat) (f : RF), vs = [.ref x, .int (lo : Int)] ∧ FAt C H x r s e f ∧ RF.WF s e f ∧ lo ≤ f.pl ∧ ∀ H', FAt C H' x r s e (f.turn lo) → Fr2 x r H H' → Q .non H'
theorem dnF {n m : Nat} (h : n ≠ m) : V.bl (decide (V.int (n : Int) = V.int (m : Int))) = .bl false := by
  refine congrArg V.bl (decide_eq_false fun e => h ?_)
  have := V.int.inj e
  omega
theorem dnT {n m : Nat} (h : n = m) : V.bl (decide (V.int (n : Int) = V.int (m : Int))) = .bl true := congrArg V.bl (decide_eq_true (by rw [h]))
def noP (_ _ : Nat) (_ : RF) : Prop := True
namespace RF
variable {s e : Nat} {f : RF}
theorem WF.rowSame (w : WF s e f) {f' : RF} (h1 : f'.row = f.row) (h2 : f'.pl = f.pl) (h3 : f'.eq = f.eq) : WF s e f' := by
  obtain ⟨a, b, c, d, g⟩ := w
  exact ⟨by rw [h2]; exact a, by rw [h2]; exact b, by rw [h1]; exact c, by rw [h2, h3]; exact d, by rw [h1]; exact g⟩
theorem WF.finish (w : WF s e f) : WF s e (f.finish s) := w.rowSame rfl rfl rfl
theorem WF.askUp (w : WF s e f) : WF s e (f.askUp s e) := by
  unfold RF.askUp
  split
  · exact w.rowSame rfl rfl rfl
  · exact w.finish
theorem WF.pre5 (w : WF s e f) : WF s e { ((RF.turnEq f).turn s : RF) with st := 5 } := by
  have w1 := w.turnEq
  exact (w1.turn (Nat.le_of_lt w1.sp)).rowSame rfl rfl rfl
theorem WF.rise (w : WF s e f) : WF s e (f.rise s e) := w.pre5.askUp
theorem WF.ask (w : WF s e f) : WF s e (f.ask s e) := by
  unfold RF.ask
  split
  · exact w.rowSame rfl rfl rfl
  · split
    · exact w.rise
    · exact w.finish
theorem WF.next (w : WF s e f) (h : f.pl < e) : WF s e { f with pl := f.pl + 1 } := by
  obtain ⟨a, b, c, d, g⟩ := w
  exact ⟨by show s < f.pl + 1; omega, h, c, by show f.eq + s < f.pl + 1; omega, g⟩
theorem WF.goOn (w : WF s e f) (h : f.pl < e) : WF s e (f.goOn s e) := (w.next h).ask
theorem WF.st (w : WF s e f) (k : Nat) : WF s e { f with st := k } := w.rowSame rfl rfl rfl
theorem WF.fall (w : WF s e f) (h : f.pl < e) : WF s e (f.fall s e) := (w.st 3).goOn h
theorem WF.eq1 (w : WF s e f) (h : f.pl < e) : WF s e { f with eq := f.eq + 1, pl := f.pl + 1, st := 3 } := by
  obtain ⟨a, b, c, d, g⟩ := w
  exact ⟨by show s < f.pl + 1; omega, h, c, by show f.eq + 1 + s < f.pl + 1; omega, g⟩
theorem WF.take (w : WF s e f) (h : f.pl < e) (b : Bool) : WF s e (f.take s e b) := by
  unfold RF.take
  split
  · unfold RF.take1
    split
    · exact w.goOn h
    · split
      · exact w.fall h
      · exact w.rowSame rfl rfl rfl
  · split
    · unfold RF.take2
      split
      · exact w.finish
      · exact (w.turn (Nat.le_of_lt w.sp)).fall h
    · split
      · unfold RF.take3
        split
        · exact w.turnEq.goOn (by rw [turnEq_pl]; exact h)
        · exact w.rowSame rfl rfl rfl
      · split
        · unfold RF.take4
          split
          · exact w.rise
          · exact (w.eq1 h).ask
        · unfold RF.take5
          split
          · exact w.finish
          · exact w.goOn h
/-- what waits is asked ahead of the end -/
def Ahead (e : Nat) (f : RF) : Prop := f.wt ≠ none → f.pl < e
theorem ahead_fin : Ahead e (f.finish s) := fun h => absurd rfl h
theorem ahead_askUp : Ahead e (f.askUp s e) := by
  unfold RF.askUp
  split
  · rename_i h
    exact fun _ => h
  · exact ahead_fin
theorem ahead_ask : Ahead e (f.ask s e) := by
  unfold RF.ask
  split
  · rename_i h
    exact fun _ => h
  · split
    · exact ahead_askUp
    · exact ahead_fin
theorem ahead_take (h : f.pl < e) (b : Bool) : Ahead e (f.take s e b) := by
  unfold RF.take
  split
  · unfold RF.take1
    split
    · exact ahead_ask
    · split
      · exact ahead_ask
      · exact fun _ => h
  · split
    · unfold RF.take2
      split
      · exact ahead_fin
      · exact ahead_ask
    · split
      · unfold RF.take3
        split
        · exact ahead_ask
        · exact fun _ => h
      · split
        · unfold RF.take4
          split
          · exact ahead_askUp
          · exact ahead_ask
        · unfold RF.take5
          split
          · exact ahead_fin
          · exact ahead_ask
end RF
end L2

namespace L2
open PySem PySem.Spec PyProof.Rows
namespace RF
variable {s e : Nat} {f : RF}
/-! rows stay rows of the same items -/
theorem turned_perm {row : List Nat} {lo hi : Nat} (h : lo ≤ hi) : (turned row lo hi).Perm row := by
  unfold turned
  have e1 : row = row.take lo ++ (row.drop lo).take (hi - lo) ++ row.drop hi := by
    have a1 : row.drop hi = (row.drop lo).drop (hi - lo) := by
      rw [List.drop_drop]
      congr 1
      omega
    rw [a1, List.append_assoc, List.take_append_drop, List.take_append_drop]
  have e2 : (row.take lo ++ ((row.drop lo).take (hi - lo)).reverse ++ row.drop hi).Perm (row.take lo ++ (row.drop lo).take (hi - lo) ++ row.drop hi) :=
    List.Perm.append_right _ (List.Perm.append_left _ (List.reverse_perm _))
  exact e2.trans (by rw [← e1])
theorem turn_perm (lo : Nat) (h : lo ≤ f.pl) : (f.turn lo).row.Perm f.row := turned_perm h
theorem turnEq_perm : f.turnEq.row.Perm f.row := by
  unfold RF.turnEq
  split
  · exact turned_perm (by omega)
  · exact List.Perm.refl _
theorem askUp_row : (f.askUp s e).row = f.row := by
  unfold RF.askUp
  split <;> rfl
theorem rise_perm (w : WF s e f) : (f.rise s e).row.Perm f.row := by
  unfold RF.rise
  rw [askUp_row]
  have w1 := w.turnEq
  exact (turn_perm s (Nat.le_of_lt w1.sp)).trans turnEq_perm
theorem ask_perm (w : WF s e f) : (f.ask s e).row.Perm f.row := by
  unfold RF.ask
  split
  · exact List.Perm.refl _
  · split
    · exact rise_perm w
    · exact List.Perm.refl _
theorem take_perm (w : WF s e f) (h : f.pl < e) (b : Bool) : (f.take s e b).row.Perm f.row := by
  unfold RF.take
  split
  · unfold RF.take1
    split
    · exact ask_perm (w.next h)
    · split
      · exact ask_perm ((w.st 3).next h)
      · exact List.Perm.refl _
  · split
    · unfold RF.take2
      split
      · exact List.Perm.refl _
      · exact (ask_perm (((w.turn (Nat.le_of_lt w.sp)).st 3).next h)).trans (turn_perm s (Nat.le_of_lt w.sp))
    · split
      · unfold RF.take3
        split
        · exact (ask_perm (w.turnEq.next (by rw [turnEq_pl]; exact h))).trans turnEq_perm
        · exact List.Perm.refl _
      · split
        · unfold RF.take4
          split
          · exact rise_perm w
          · exact ask_perm (w.eq1 h)
        · unfold RF.take5
          split
          · exact List.Perm.refl _
          · exact ask_perm (w.next h)
/-! a measure: how many questions may still come -/
def stw (k : Nat) : Nat := if k = 1 then 1 else if k = 3 then 2 else if k = 4 then 1 else 0
theorem stw_le (k : Nat) : stw k ≤ 2 := by
  unfold stw
  split
  · omega
  · split
    · omega
    · split <;> omega
def mu (e : Nat) (f : RF) : Nat := if f.wt = none then 0 else 1 + 3 * (e - f.pl) + stw f.st
theorem mu_le (e : Nat) (f : RF) : mu e f ≤ 1 + 3 * (e - f.pl) + stw f.st := by
  unfold mu
  split <;> omega
theorem mu_fin : mu e (f.finish s) = 0 := rfl
theorem mu_askUp : mu e (f.askUp s e) ≤ 1 + 3 * (e - f.pl) + stw f.st := by
  unfold RF.askUp
  split
  · exact mu_le e _
  · rw [mu_fin]
    omega
theorem rise_pl : (f.turnEq.turn s).pl = f.pl := turnEq_pl f
theorem mu_rise : mu e (f.rise s e) ≤ 1 + 3 * (e - f.pl) := by
  unfold RF.rise
  refine Nat.le_trans mu_askUp ?_
  show 1 + 3 * (e - (f.turnEq.turn s).pl) + 0 ≤ _
  rw [rise_pl]
  omega
theorem mu_ask : mu e (f.ask s e) ≤ 1 + 3 * (e - f.pl) + stw f.st := by
  unfold RF.ask
  split
  · exact mu_le e _
  · split
    · have := mu_rise (s := s) (e := e) (f := f)
      omega
    · rw [mu_fin]
      omega
theorem mu_goOn : mu e (f.goOn s e) ≤ 1 + 3 * (e - (f.pl + 1)) + stw f.st := mu_ask
theorem mu_fall : mu e (f.fall s e) ≤ 1 + 3 * (e - (f.pl + 1)) + 2 := mu_ask
theorem mu_take (hw : f.wt ≠ none) (h : f.pl < e) (b : Bool) : mu e (f.take s e b) < mu e f := by
  have h0 : mu e f = 1 + 3 * (e - f.pl) + stw f.st := by
    unfold mu
    rw [if_neg hw]
  rw [h0]
  unfold RF.take
  split
  · rename_i h1
    rw [show stw f.st = 1 by rw [h1]; rfl]
    unfold RF.take1
    split
    · have := mu_goOn (s := s) (e := e) (f := f)
      rw [show stw f.st = 1 by rw [h1]; rfl] at this
      omega
    · split
      · have := mu_fall (s := s) (e := e) (f := f)
        omega
      · have := mu_le e { f with st := 2, wt := some (f.row.getD s 0, f.row.getD (f.pl - 1) 0) }
        have e2 : stw ({ f with st := 2, wt := some (f.row.getD s 0, f.row.getD (f.pl - 1) 0) } : RF).st = 0 := rfl
        rw [e2] at this
        have e3 : ({ f with st := 2, wt := some (f.row.getD s 0, f.row.getD (f.pl - 1) 0) } : RF).pl = f.pl := rfl
        rw [e3] at this
        omega
  · split
    · rename_i h1
      unfold RF.take2
      split
      · rw [mu_fin]
        omega
      · have := mu_fall (s := s) (e := e) (f := f.turn s)
        have e3 : (f.turn s).pl = f.pl := rfl
        rw [e3] at this
        omega
    · split
      · rename_i h1
        rw [show stw f.st = 2 by rw [h1]; rfl]
        unfold RF.take3
        split
        · have := mu_goOn (s := s) (e := e) (f := f.turnEq)
          rw [turnEq_pl, turnEq_st, show stw f.st = 2 by rw [h1]; rfl] at this
          omega
        · have := mu_le e { f with st := 4, wt := some (f.row.getD (f.pl - 1) 0, f.row.getD f.pl 0) }
          have e2 : stw ({ f with st := 4, wt := some (f.row.getD (f.pl - 1) 0, f.row.getD f.pl 0) } : RF).st = 1 := rfl
          rw [e2] at this
          have e3 : ({ f with st := 4, wt := some (f.row.getD (f.pl - 1) 0, f.row.getD f.pl 0) } : RF).pl = f.pl := rfl
          rw [e3] at this
          omega
      · split
        · rename_i h1
          rw [show stw f.st = 1 by rw [h1]; rfl]
          unfold RF.take4
          split
          · have := mu_rise (s := s) (e := e) (f := f)
            omega
          · have := mu_goOn (s := s) (e := e) (f := { f with eq := f.eq + 1, st := 3 })
            have e2 : stw ({ f with eq := f.eq + 1, st := 3 } : RF).st = 2 := rfl
            rw [e2] at this
            have e3 : ({ f with eq := f.eq + 1, st := 3 } : RF).pl = f.pl := rfl
            rw [e3] at this
            omega
        · unfold RF.take5
          split
          · rw [mu_fin]
            omega
          · have := mu_goOn (s := s) (e := e) (f := f)
            omega
/-! what waits are two items of the row -/
def Two (f : RF) : Prop := ∀ q, f.wt = some q → ∃ k l, q = (f.row.getD k 0, f.row.getD l 0) ∧ k < f.row.length ∧ l < f.row.length ∧ k ≠ l
theorem two_none (h : f.wt = none) : Two f := fun q e => by rw [h] at e; cases e
theorem two_mk {f : RF} {k l : Nat} (h : f.wt = some (f.row.getD k 0, f.row.getD l 0)) (h1 : k < f.row.length) (h2 : l < f.row.length) (h3 : k ≠ l) : Two f := fun q e => by
  rw [h] at e
  exact ⟨k, l, (Option.some.inj e).symm, h1, h2, h3⟩
theorem two_up {f' : RF} (a : 0 < f'.pl) (c : e ≤ f'.row.length) : Two (f'.askUp s e) := by
  unfold RF.askUp
  split
  · rename_i h
    exact two_mk (k := f'.pl) (l := f'.pl - 1) rfl (by show f'.pl < f'.row.length; omega) (by show f'.pl - 1 < f'.row.length; omega) (by omega)
  · exact two_none rfl
theorem two_rise (w : WF s e f) : Two (f.rise s e) := by
  have w2 := w.pre5
  exact two_up (Nat.lt_of_le_of_lt (Nat.zero_le _) w2.sp) w2.er
theorem two_ask (w : WF s e f) : Two (f.ask s e) := by
  have := w.sp; have := w.er
  unfold RF.ask
  split
  · rename_i h
    exact two_mk (k := f.pl) (l := f.pl - 1) rfl (by show f.pl < f.row.length; omega) (by show f.pl - 1 < f.row.length; omega) (by omega)
  · split
    · exact two_rise w
    · exact two_none rfl
theorem two_take (w : WF s e f) (h : f.pl < e) (b : Bool) : Two (f.take s e b) := by
  have b1 := w.sp; have b2 := w.er
  unfold RF.take
  split
  · unfold RF.take1
    split
    · exact two_ask (w.next h)
    · split
      · exact two_ask ((w.st 3).next h)
      · exact two_mk (k := s) (l := f.pl - 1) rfl (by show s < f.row.length; omega) (by show f.pl - 1 < f.row.length; omega) (by omega)
  · split
    · unfold RF.take2
      split
      · exact two_none rfl
      · exact two_ask (((w.turn (Nat.le_of_lt w.sp)).st 3).next h)
    · split
      · unfold RF.take3
        split
        · exact two_ask (w.turnEq.next (by rw [turnEq_pl]; exact h))
        · exact two_mk (k := f.pl - 1) (l := f.pl) rfl (by show f.pl - 1 < f.row.length; omega) (by show f.pl < f.row.length; omega) (by omega)
      · split
        · unfold RF.take4
          split
          · exact two_rise w
          · exact two_ask (w.eq1 h)
        · unfold RF.take5
          split
          · exact two_none rfl
          · exact two_ask (w.next h)
/-! the length is there when nothing waits -/
def Len (s : Nat) (f : RF) : Prop := (f.wt = none → f.ln = some (f.pl - s)) ∧ (f.wt ≠ none → f.ln = none)
theorem len_fin : Len s (f.finish s) := ⟨fun _ => rfl, fun h => absurd rfl h⟩
theorem len_some {f : RF} {q : Nat × Nat} (h : f.wt = some q) (h2 : f.ln = none) : Len s f := ⟨fun e => (by rw [h] at e; cases e), fun _ => h2⟩
theorem turnEq_ln (f : RF) : f.turnEq.ln = f.ln := by
  unfold RF.turnEq
  split <;> rfl
theorem len_up {f' : RF} (h : f'.ln = none) : Len s (f'.askUp s e) := by
  unfold RF.askUp
  split
  · exact len_some rfl h
  · exact len_fin
theorem len_rise (h : f.ln = none) : Len s (f.rise s e) := len_up (by show f.turnEq.ln = none; rw [turnEq_ln]; exact h)
theorem len_ask {f : RF} (h : f.ln = none) : Len s (f.ask s e) := by
  unfold RF.ask
  split
  · exact len_some rfl h
  · split
    · exact len_rise h
    · exact len_fin
theorem len_take (h : f.ln = none) (b : Bool) : Len s (f.take s e b) := by
  unfold RF.take
  split
  · unfold RF.take1
    split
    · exact len_ask h
    · split
      · exact len_ask h
      · exact len_some rfl h
  · split
    · unfold RF.take2
      split
      · exact len_fin
      · exact len_ask h
    · split
      · unfold RF.take3
        split
        · exact len_ask (by show f.turnEq.ln = none; rw [turnEq_ln]; exact h)
        · exact len_some rfl h
      · split
        · unfold RF.take4
          split
          · exact len_rise h
          · exact len_ask h
        · unfold RF.take5
          split
          · exact len_fin
          · exact len_ask h
/-! all that holds while a run is found -/
structure Good (s e : Nat) (row0 : List Nat) (f : RF) : Prop where
  wf : WF s e f
  ah : Ahead e f
  pm : f.row.Perm row0
  tw : Two f
  le : Len s f
/-- an item of a row of all n -/
theorem item_lt {row row0 : List Nat} {n k : Nat} (h : row.Perm row0) (h0 : row0.Perm (List.range n)) (hk : k < row.length) : row.getD k 0 < n := by
  refine List.mem_range.mp ((h.trans h0).mem_iff.mp ?_)
  rw [List.getD_eq_getElem?_getD, List.getElem?_eq_getElem hk]
  exact List.getElem_mem hk
theorem Good.items {row0 : List Nat} {n : Nat} (g : Good s e row0 f) (h0 : row0.Perm (List.range n)) {q : Nat × Nat} (h : f.wt = some q) : q.1 < n ∧ q.2 < n ∧ q.1 ≠ q.2 := by
  obtain ⟨k, l, rfl, h1, h2, h3⟩ := g.tw q h
  refine ⟨item_lt g.pm h0 h1, item_lt g.pm h0 h2, fun e => h3 ?_⟩
  have nd : f.row.Nodup := (g.pm.trans h0).nodup_iff.mpr List.nodup_range
  have e2 : f.row.getD k 0 = f.row.getD l 0 := e
  rw [List.getD_eq_getElem?_getD, List.getD_eq_getElem?_getD, List.getElem?_eq_getElem h1, List.getElem?_eq_getElem h2] at e2
  exact (List.getElem_inj nd).mp e2
theorem Good.take {row0 : List Nat} (g : Good s e row0 f) (h : f.wt ≠ none) (b : Bool) : Good s e row0 (f.take s e b) :=
  ⟨g.wf.take (g.ah h) b, ahead_take (g.ah h) b, (take_perm g.wf (g.ah h) b).trans g.pm, two_take g.wf (g.ah h) b, len_take (g.le.2 h) b⟩
theorem Good.init {row : List Nat} (h1 : s < e) (h2 : e ≤ row.length) (h3 : row.length ≤ 2000) : Good s e row (RF.init row s e) := by
  have w : WF s e { row := row, pl := s + 1, eq := 0, st := 1, wt := none, ln := none } := ⟨by show s < s + 1; omega, by show s + 1 ≤ e; omega, h2, by show 0 + s < s + 1; omega, h3⟩
  exact ⟨w.ask, ahead_ask, ask_perm w, two_ask w, len_ask rfl⟩
/-- one question more, answered as ls says -/
def stp (ls : Nat × Nat → Bool) (s e : Nat) (f : RF) : RF := match f.wt with
  | none => f
  | some q => f.take s e (ls q)
def stps (ls : Nat × Nat → Bool) (s e : Nat) (f : RF) : Nat → RF
  | 0 => f
  | n + 1 => stp ls s e (stps ls s e f n)
theorem Good.stp {row0 : List Nat} (ls : Nat × Nat → Bool) (g : Good s e row0 f) : Good s e row0 (f.stp ls s e) := by
  unfold RF.stp
  split
  · exact g
  · rename_i q h
    exact g.take (by rw [h]; exact Option.some_ne_none _) _
theorem Good.stps {row0 : List Nat} (ls : Nat × Nat → Bool) (g : Good s e row0 f) : ∀ n, Good s e row0 (f.stps ls s e n)
  | 0 => g
  | n + 1 => (Good.stps ls g n).stp ls
theorem stps_next {ls : Nat × Nat → Bool} {n : Nat} {q : Nat × Nat} (h : (f.stps ls s e n).wt = some q) : f.stps ls s e (n + 1) = (f.stps ls s e n).take s e (ls q) := by
  show RF.stp ls s e (f.stps ls s e n) = _
  unfold RF.stp
  rw [h]
theorem stps_end {ls : Nat × Nat → Bool} {n : Nat} (h : (f.stps ls s e n).wt = none) : f.stps ls s e (n + 1) = f.stps ls s e n := by
  show RF.stp ls s e (f.stps ls s e n) = _
  unfold RF.stp
  rw [h]
theorem stps_stay {ls : Nat × Nat → Bool} {n : Nat} (h : (f.stps ls s e n).wt = none) : ∀ k, f.stps ls s e (n + k) = f.stps ls s e n
  | 0 => rfl
  | k + 1 => by
    have ih := stps_stay h k
    show RF.stps ls s e f ((n + k) + 1) = _
    rw [stps_end (by rw [ih]; exact h), ih]
/-- the first n questions -/
def asks (ls : Nat × Nat → Bool) (s e : Nat) (f : RF) (n : Nat) : List (Nat × Nat) := (List.range n).map fun i => ((f.stps ls s e i).wt).getD (0, 0)
theorem asks_len (ls : Nat × Nat → Bool) (n : Nat) : (f.asks ls s e n).length = n := by
  unfold asks
  rw [List.length_map, List.length_range]
theorem asks_next {ls : Nat × Nat → Bool} {n : Nat} {q : Nat × Nat} (h : (f.stps ls s e n).wt = some q) : f.asks ls s e (n + 1) = f.asks ls s e n ++ [q] := by
  unfold asks
  rw [List.range_succ, List.map_append, List.map_singleton, h]
  rfl
theorem asks_at {ls : Nat × Nat → Bool} {n i : Nat} (h : i < n) : (f.asks ls s e n)[i]? = some (((f.stps ls s e i).wt).getD (0, 0)) := by
  unfold asks
  rw [List.getElem?_map, List.getElem?_range h]
  rfl
end RF
/-- by the keys -/
def less (ns : List Int) (q : Nat × Nat) : Bool := decide (ns.getD q.1 0 < ns.getD q.2 0)
/-- questions, tuples of two items each, in a list -/
def PairAt (H : Hp) (v : V) (q : Nat × Nat) : Prop := ∃ t, v = .ref t ∧ H t = some (.tup [.int (q.1 : Int), .int (q.2 : Int)])
def QAt (H : Hp) (l : Addr) (qs : List (Nat × Nat)) : Prop := ∃ ts : List V, H l = some (.lst ts) ∧ ts.length = qs.length ∧ ∀ (i : Nat) (v : V) (q : Nat × Nat), ts[i]? = some v → qs[i]? = some q → PairAt H v q
theorem PairAt.keep {H H' : Hp} {v : V} {q : Nat × Nat} (h : PairAt H v q) (k : ∀ t i j, H t = some (.tup [.int i, .int j]) → H' t = some (.tup [.int i, .int j])) : PairAt H' v q := by
  obtain ⟨t, e, g⟩ := h
  exact ⟨t, e, k _ _ _ g⟩
theorem QAt.keep {H H' : Hp} {l : Addr} {qs : List (Nat × Nat)} (h : QAt H l qs) (kl : ∀ x, H l = some x → H' l = some x) (k : ∀ t i j, H t = some (.tup [.int i, .int j]) → H' t = some (.tup [.int i, .int j])) : QAt H' l qs := by
  obtain ⟨ts, g, n, a⟩ := h
  exact ⟨ts, kl _ g, n, fun i v q h1 h2 => (a i v q h1 h2).keep k⟩
theorem QAt.same {H H' : Hp} {l : Addr} {qs : List (Nat × Nat)} (h : QAt H l qs) (k : Same H H') : QAt H' l qs := h.keep (fun _ => k _ _) (fun _ _ _ => k _ _)
theorem QAt.nil {H : Hp} {l : Addr} (h : H l = some (.lst [])) : QAt H l [] := ⟨[], h, rfl, fun i v q h1 => by simp at h1⟩
theorem QAt.push {H : Hp} {l : Addr} {qs : List (Nat × Nat)} {ts : List V} (h : H l = some (.lst ts)) (hq : QAt H l qs) {v : V} {q : Nat × Nat} (hv : PairAt H v q) : QAt (upd H l (.lst (ts ++ [v]))) l (qs ++ [q]) := by
  obtain ⟨ts', g, n, a⟩ := hq
  rw [h] at g
  cases g
  have k : ∀ t i j, H t = some (.tup [.int i, .int j]) → upd H l (.lst (ts ++ [v])) t = some (.tup [.int i, .int j]) := fun t i j ht => by
    rw [upd_ne (ne_of ht h (fun e => by cases e))]
    exact ht
  refine ⟨ts ++ [v], upd_same, by simp [n], fun i v' q' h1 h2 => ?_⟩
  by_cases hi : i < ts.length
  · rw [List.getElem?_append_left hi] at h1
    rw [List.getElem?_append_left (by omega)] at h2
    exact (a i v' q' h1 h2).keep k
  · rw [List.getElem?_append_right (by omega)] at h1
    rw [List.getElem?_append_right (by omega)] at h2
    have e0 : i - ts.length = 0 := by
      cases e1 : i - ts.length with
      | zero => rfl
      | succ m =>
        rw [e1] at h1
        simp at h1
    have e0' : i - qs.length = 0 := by omega
    rw [e0] at h1
    rw [e0'] at h2
    cases h1
    cases h2
    exact hv.keep k
end L2

namespace L2
open PySem PySem.Spec PyProof.Rows
/-! ### the law's own walk -/
structure WS where
  row : List Nat
  pl : Nat
  eq : Nat
  st : Nat
namespace WS
def fallRow (w : WS) : List Nat := RF.turned (if 0 < w.eq then RF.turned w.row (w.pl - w.eq - 1) w.pl else w.row) 0 w.pl
def fall (w : WS) : WS := { w with row := fallRow w }
def ans (b : Bool) (w : WS) : WS :=
  if w.st = 1 ∧ b = true then { w with st := if 1 < w.pl then 2 else 3, pl := w.pl + (if w.pl = 1 then 1 else 0) }
  else if w.st = 2 ∧ b = true then { w with st := 0 }
  else if w.st = 2 then { w with row := RF.turned w.row 0 w.pl, st := 3, pl := w.pl + 1 }
  else if w.st = 3 ∧ b = true then { w with row := if 0 < w.eq then RF.turned w.row (w.pl - w.eq - 1) w.pl else w.row, eq := 0, pl := w.pl + 1 }
  else if w.st = 3 then { w with st := 4 }
  else if w.st = 4 ∧ b = true then { w with row := fallRow w, st := 5 }
  else if w.st = 4 then { w with st := 3, eq := w.eq + 1, pl := w.pl + 1 }
  else if b = true then { w with st := 0 }
  else { w with pl := w.pl + 1 }
def lk (size : Nat) (w : WS) : Option (Nat × Nat) :=
  if w.st = 2 then some (w.row.getD 0 0, w.row.getD (w.pl - 1) 0)
  else if w.st = 4 then some (w.row.getD (w.pl - 1) 0, w.row.getD w.pl 0)
  else if w.pl < size then some (w.row.getD w.pl 0, w.row.getD (w.pl - 1) 0) else none
/-- the walk's state behind a look that finds no question -/
def past (size : Nat) (w : WS) : WS := if w.st = 3 then { w with row := fallRow w, st := 5 } else { w with st := 0 }
/-- how the walk stands to the finder: 3 a question waits, 2 and 1 and 0 the end is told in so many turns -/
def At (size : Nat) (w : WS) (f : RF) : Nat → Prop
  | 3 => ∃ q, f.wt = some q ∧ w.row = f.row ∧ w.pl = f.pl ∧ w.st = f.st ∧ 1 ≤ w.st ∧ w.st ≤ 5 ∧ (w.st ≠ 5 → w.eq = f.eq) ∧ lk size w = some q
  | 2 => f.wt = none ∧ w.st = 3 ∧ size ≤ w.pl ∧ w.pl = f.pl ∧ fallRow w = f.row
  | 1 => f.wt = none ∧ (w.st = 1 ∨ w.st = 5) ∧ size ≤ w.pl ∧ w.pl = f.pl ∧ w.row = f.row
  | 0 => f.wt = none ∧ w.st = 0 ∧ w.pl = f.pl ∧ w.row = f.row
  | _ => False
theorem at_ask {size : Nat} {w : WS} {f : RF} (h1 : w.row = f.row) (h2 : w.pl = f.pl) (h3 : w.st = f.st) (h4 : w.st = 1 ∨ w.st = 3 ∨ w.st = 5) (h5 : w.st ≠ 5 → w.eq = f.eq) : ∃ t, t ≤ 3 ∧ At size w (f.ask 0 size) t := by
  unfold RF.ask
  by_cases hp : f.pl < size
  · rw [if_pos hp]
    refine ⟨3, Nat.le_refl _, _, rfl, h1, h2, h3, by omega, by omega, h5, ?_⟩
    unfold lk
    rw [if_neg (by omega), if_neg (by omega), if_pos (by omega), h1, h2]
  · rw [if_neg hp]
    by_cases h : f.st = 3
    · rw [if_pos h]
      have e1 : f.rise 0 size = RF.finish 0 { (f.turnEq.turn 0 : RF) with st := 5 } := by
        unfold RF.rise RF.askUp
        rw [if_neg (by show ¬ f.turnEq.pl < size; rw [RF.turnEq_pl]; exact hp)]
      rw [e1]
      refine ⟨2, by omega, rfl, by omega, by omega, ?_, ?_⟩
      · show w.pl = f.turnEq.pl
        rw [RF.turnEq_pl, h2]
      · show fallRow w = RF.turned f.turnEq.row 0 f.turnEq.pl
        rw [RF.turnEq_pl]
        unfold fallRow RF.turnEq
        rw [h1, h2, h5 (by omega)]
        by_cases h0 : 0 < f.eq
        · rw [if_pos h0, if_pos h0]
          rfl
        · rw [if_neg h0, if_neg h0]
    · rw [if_neg h]
      exact ⟨1, by omega, rfl, by omega, by omega, h2, h1⟩
theorem at_ans {size : Nat} {w : WS} {f : RF} (hf : 0 < f.pl) (h : At size w f 3) (b : Bool) : ∃ t, t ≤ 3 ∧ At size (w.ans b) (f.take 0 size b) t := by
  obtain ⟨q, hq, h1, h2, h3, h4, h5, h6, h7⟩ := h
  unfold ans RF.take
  by_cases s1 : w.st = 1
  · rw [if_pos (show f.st = 1 by omega)]
    unfold RF.take1
    cases b with
    | false =>
      rw [if_neg (by simp), if_neg (by simp), if_neg (by omega), if_neg (by simp), if_neg (by omega), if_neg (by simp), if_neg (by omega), if_neg (by simp), if_pos rfl]
      exact at_ask (w := { w with pl := w.pl + 1 }) (f := { f with pl := f.pl + 1 }) h1 (by show w.pl + 1 = f.pl + 1; omega) h3 (.inl s1) h6
    | true =>
      rw [if_pos ⟨s1, rfl⟩, if_neg (show ¬ (true = false) by decide)]
      by_cases hp : f.pl = 0 + 1
      · rw [if_pos hp, if_neg (show ¬ 1 < w.pl by omega), if_pos (show w.pl = 1 by omega)]
        exact at_ask (w := { w with st := 3, pl := w.pl + 1 }) (f := { f with st := 3, pl := f.pl + 1 }) h1 (by show w.pl + 1 = f.pl + 1; omega) rfl (.inr (.inl rfl)) (fun _ => h6 (by omega))
      · rw [if_neg hp, if_pos (show 1 < w.pl by omega), if_neg (show ¬ w.pl = 1 by omega)]
        refine ⟨3, Nat.le_refl _, _, rfl, h1, h2, rfl, by show 1 ≤ 2; omega, by show 2 ≤ 5; omega, fun _ => h6 (by omega), ?_⟩
        unfold lk
        rw [if_pos rfl, h1, Nat.add_zero, h2]
  rw [if_neg (fun e => s1 e.1), if_neg (show ¬ f.st = 1 by omega)]
  by_cases s2 : w.st = 2
  · rw [if_pos (show f.st = 2 by omega)]
    unfold RF.take2
    cases b with
    | true =>
      rw [if_pos ⟨s2, rfl⟩, if_pos rfl]
      exact ⟨0, by omega, rfl, rfl, h2, h1⟩
    | false =>
      rw [if_neg (by simp), if_pos s2, if_neg (by simp)]
      exact at_ask (w := { w with row := RF.turned w.row 0 w.pl, st := 3, pl := w.pl + 1 }) (f := { (f.turn 0 : RF) with st := 3, pl := (f.turn 0).pl + 1 }) (by show RF.turned w.row 0 w.pl = RF.turned f.row 0 f.pl; rw [h1, h2]) (by show w.pl + 1 = f.pl + 1; omega) rfl (.inr (.inl rfl)) (fun _ => h6 (by omega))
  rw [if_neg (fun e => s2 e.1), if_neg s2, if_neg (show ¬ f.st = 2 by omega)]
  by_cases s3 : w.st = 3
  · rw [if_pos (show f.st = 3 by omega)]
    unfold RF.take3
    cases b with
    | true =>
      rw [if_pos ⟨s3, rfl⟩, if_pos rfl]
      refine at_ask (w := { w with row := if 0 < w.eq then RF.turned w.row (w.pl - w.eq - 1) w.pl else w.row, eq := 0, pl := w.pl + 1 }) (f := { (f.turnEq : RF) with pl := f.turnEq.pl + 1 }) ?_ (by show w.pl + 1 = f.turnEq.pl + 1; rw [RF.turnEq_pl, h2]) (by show w.st = f.turnEq.st; rw [RF.turnEq_st, h3]) (.inr (.inl s3)) (fun _ => ?_)
      · show (if 0 < w.eq then RF.turned w.row (w.pl - w.eq - 1) w.pl else w.row) = f.turnEq.row
        unfold RF.turnEq
        rw [h1, h2, h6 (by omega)]
        by_cases h0 : 0 < f.eq
        · rw [if_pos h0, if_pos h0]
          rfl
        · rw [if_neg h0, if_neg h0]
      · show 0 = f.turnEq.eq
        unfold RF.turnEq
        by_cases h0 : 0 < f.eq
        · rw [if_pos h0]
        · rw [if_neg h0]
          omega
    | false =>
      rw [if_neg (by simp), if_pos s3, if_neg (by simp)]
      refine ⟨3, Nat.le_refl _, _, rfl, h1, h2, rfl, by show 1 ≤ 4; omega, by show 4 ≤ 5; omega, fun _ => h6 (by omega), ?_⟩
      unfold lk
      rw [if_neg (by show ¬ 4 = 2; decide), if_pos rfl, h1, h2]
  rw [if_neg (fun e => s3 e.1), if_neg s3, if_neg (show ¬ f.st = 3 by omega)]
  by_cases s4 : w.st = 4
  · rw [if_pos (show f.st = 4 by omega)]
    unfold RF.take4
    cases b with
    | true =>
      rw [if_pos ⟨s4, rfl⟩, if_pos rfl]
      have e1 : f.rise 0 size = RF.ask 0 size { (f.turnEq.turn 0 : RF) with st := 5 } := by
        unfold RF.rise RF.askUp RF.ask
        rw [if_neg (show ¬ ({ (f.turnEq.turn 0 : RF) with st := 5 } : RF).st = 3 by show ¬ 5 = 3; decide)]
      rw [e1]
      refine at_ask (w := { w with row := fallRow w, st := 5 }) (f := { (f.turnEq.turn 0 : RF) with st := 5 }) ?_ (by show w.pl = f.turnEq.pl; rw [RF.turnEq_pl, h2]) rfl (.inr (.inr rfl)) (fun e => absurd rfl e)
      show fallRow w = RF.turned f.turnEq.row 0 f.turnEq.pl
      rw [RF.turnEq_pl]
      unfold fallRow RF.turnEq
      rw [h1, h2, h6 (by omega)]
      by_cases h0 : 0 < f.eq
      · rw [if_pos h0, if_pos h0]
        rfl
      · rw [if_neg h0, if_neg h0]
    | false =>
      rw [if_neg (by simp), if_pos s4, if_neg (by simp)]
      exact at_ask (w := { w with st := 3, eq := w.eq + 1, pl := w.pl + 1 }) (f := { f with eq := f.eq + 1, st := 3, pl := f.pl + 1 }) h1 (by show w.pl + 1 = f.pl + 1; omega) rfl (.inr (.inl rfl)) (fun _ => by show w.eq + 1 = f.eq + 1; rw [h6 (by omega)])
  rw [if_neg (fun e => s4 e.1), if_neg s4, if_neg (show ¬ f.st = 4 by omega)]
  unfold RF.take5
  cases b with
  | true =>
    rw [if_pos rfl, if_pos rfl]
    exact ⟨0, by omega, rfl, rfl, h2, h1⟩
  | false =>
    rw [if_neg (by simp), if_neg (by simp)]
    exact at_ask (w := { w with pl := w.pl + 1 }) (f := { f with pl := f.pl + 1 }) h1 (by show w.pl + 1 = f.pl + 1; omega) h3 (.inr (.inr (by show w.st = 5; omega))) h6
/-- what the walk keeps between its steps -/
structure Ok (w : WS) : Prop where
  p1 : 0 < w.pl
  pl : w.pl ≤ w.row.length
  eq : w.eq < w.pl
  rl : w.row.length ≤ 2000
theorem fallRow_len {w : WS} (o : Ok w) : (fallRow w).length = w.row.length := by
  have := o.pl; have := o.eq
  unfold fallRow
  by_cases h0 : 0 < w.eq
  · rw [if_pos h0]
    have l1 : (RF.turned w.row (w.pl - w.eq - 1) w.pl).length = w.row.length := RF.turned_len (by omega) o.pl
    rw [RF.turned_len (Nat.zero_le _) (by omega), l1]
  · rw [if_neg h0]
    exact RF.turned_len (Nat.zero_le _) o.pl
theorem Ok.past {w : WS} (o : Ok w) (size : Nat) : Ok (past size w) ∧ (WS.past size w).row.length = w.row.length := by
  obtain ⟨a, b, c, d⟩ := id o
  unfold WS.past
  split
  · have l := fallRow_len o
    exact ⟨⟨a, by show w.pl ≤ (fallRow w).length; omega, c, by show (fallRow w).length ≤ 2000; omega⟩, l⟩
  · exact ⟨⟨a, b, c, d⟩, rfl⟩
theorem Ok.ans {w : WS} (o : Ok w) (h : w.pl < w.row.length) (b : Bool) : Ok (w.ans b) ∧ (w.ans b).row.length = w.row.length := by
  obtain ⟨p1, p2, p3, p4⟩ := id o
  have lf := fallRow_len o
  have l0 : (RF.turned w.row 0 w.pl).length = w.row.length := RF.turned_len (Nat.zero_le _) p2
  have l1 : (if 0 < w.eq then RF.turned w.row (w.pl - w.eq - 1) w.pl else w.row).length = w.row.length := by
    split
    · exact RF.turned_len (by omega) p2
    · rfl
  unfold WS.ans
  split
  · refine ⟨⟨?_, ?_, ?_, p4⟩, rfl⟩
    · show 0 < w.pl + _
      omega
    · show w.pl + (if w.pl = 1 then 1 else 0) ≤ w.row.length
      split <;> omega
    · show w.eq < w.pl + _
      omega
  split
  · exact ⟨⟨p1, p2, p3, p4⟩, rfl⟩
  split
  · exact ⟨⟨by show 0 < w.pl + 1; omega, by show w.pl + 1 ≤ (RF.turned w.row 0 w.pl).length; omega, by show w.eq < w.pl + 1; omega, by show (RF.turned w.row 0 w.pl).length ≤ 2000; omega⟩, l0⟩
  split
  · exact ⟨⟨by show 0 < w.pl + 1; omega, by show w.pl + 1 ≤ (if 0 < w.eq then RF.turned w.row (w.pl - w.eq - 1) w.pl else w.row).length; omega, by show 0 < w.pl + 1; omega, by show (if 0 < w.eq then RF.turned w.row (w.pl - w.eq - 1) w.pl else w.row).length ≤ 2000; omega⟩, l1⟩
  split
  · exact ⟨⟨p1, p2, p3, p4⟩, rfl⟩
  split
  · exact ⟨⟨p1, by show w.pl ≤ (fallRow w).length; omega, p3, by show (fallRow w).length ≤ 2000; omega⟩, lf⟩
  split
  · exact ⟨⟨by show 0 < w.pl + 1; omega, by show w.pl + 1 ≤ w.row.length; omega, by show w.eq + 1 < w.pl + 1; omega, p4⟩, rfl⟩
  split
  · exact ⟨⟨p1, p2, p3, p4⟩, rfl⟩
  · exact ⟨⟨by show 0 < w.pl + 1; omega, by show w.pl + 1 ≤ w.row.length; omega, by show w.eq < w.pl + 1; omega, p4⟩, rfl⟩
end WS
namespace RF
/-- told the answers bs one after another -/
def fed (size : Nat) (bs : List Bool) : Nat → RF
  | 0 => RF.init (List.range size) 0 size
  | k + 1 => match (fed size bs k).wt with
    | none => fed size bs k
    | some _ => (fed size bs k).take 0 size (bs.getD k false)
theorem fed_next {size : Nat} {bs : List Bool} {k : Nat} {q : Nat × Nat} (h : (fed size bs k).wt = some q) : fed size bs (k + 1) = (fed size bs k).take 0 size (bs.getD k false) := by
  show (match (fed size bs k).wt with
    | none => fed size bs k
    | some _ => (fed size bs k).take 0 size (bs.getD k false)) = _
  rw [h]
theorem fed_end {size : Nat} {bs : List Bool} {k : Nat} (h : (fed size bs k).wt = none) : fed size bs (k + 1) = fed size bs k := by
  show (match (fed size bs k).wt with
    | none => fed size bs k
    | some _ => (fed size bs k).take 0 size (bs.getD k false)) = _
  rw [h]
theorem fed_stay {size : Nat} {bs : List Bool} {n : Nat} (h : (fed size bs n).wt = none) : ∀ k, fed size bs (n + k) = fed size bs n
  | 0 => rfl
  | k + 1 => by
    have ih := fed_stay h k
    show fed size bs ((n + k) + 1) = _
    rw [fed_end (by rw [ih]; exact h), ih]
theorem fed_good {size : Nat} (h1 : 0 < size) (h2 : size ≤ 2000) (bs : List Bool) : ∀ k, Good 0 size (List.range size) (fed size bs k)
  | 0 => Good.init h1 (by rw [List.length_range]; exact Nat.le_refl _) (by rw [List.length_range]; exact h2)
  | k + 1 => by
    have ih := fed_good h1 h2 bs k
    cases h : (fed size bs k).wt with
    | none => rw [fed_end h]; exact ih
    | some q => rw [fed_next h]; exact ih.take (by rw [h]; exact Option.some_ne_none _) _
def askB (size : Nat) (bs : List Bool) (n : Nat) : List (Nat × Nat) := (List.range n).map fun i => ((fed size bs i).wt).getD (0, 0)
theorem askB_len (size : Nat) (bs : List Bool) (n : Nat) : (askB size bs n).length = n := by
  unfold askB
  rw [List.length_map, List.length_range]
theorem askB_next {size : Nat} {bs : List Bool} {n : Nat} {q : Nat × Nat} (h : (fed size bs n).wt = some q) : askB size bs (n + 1) = askB size bs n ++ [q] := by
  unfold askB
  rw [List.range_succ, List.map_append, List.map_singleton, h]
  rfl
end RF
theorem QAt.ne {H : Hp} {l r : Addr} {qs : List (Nat × Nat)} {row : List Nat} (h : QAt H l qs) (hr : H r = some (.lst (nV row))) (n : row ≠ []) : r ≠ l := by
  intro e
  obtain ⟨ts, h1, h2, h3⟩ := h
  rw [← e, hr] at h1
  cases row with
  | nil => exact n rfl
  | cons x rest =>
    have e2 : ts = nV (x :: rest) := (HO.lst.inj (Option.some.inj h1)).symm
    cases qs with
    | nil => rw [e2] at h2; cases h2
    | cons q qs =>
      obtain ⟨t, e3, _⟩ := h3 0 (.int (x : Int)) q (by rw [e2]; rfl) rfl
      cases e3
end L2

namespace L2
open PySem PySem.Spec PyProof.Rows
namespace RF
/-! ### a run at s is a run at 0, moved by s -/
def shRow (s : Nat) (row : List Nat) : List Nat := List.range s ++ row.map (fun i => s + i)
def sh (s : Nat) (g : RF) : RF := { row := shRow s g.row, pl := s + g.pl, eq := g.eq, st := g.st, wt := g.wt.map (fun q => (s + q.1, s + q.2)), ln := g.ln }
variable {s size : Nat} {g : RF}
theorem shRow_len (s : Nat) (row : List Nat) : (shRow s row).length = s + row.length := by
  unfold shRow
  rw [List.length_append, List.length_range, List.length_map]
theorem shRow_range (s n : Nat) : shRow s (List.range n) = List.range (s + n) := by
  unfold shRow
  rw [List.range_add]
theorem turned_sh (s lo hi : Nat) (row : List Nat) : turned (shRow s row) (s + lo) (s + hi) = shRow s (turned row lo hi) := by
  unfold turned shRow
  have l : (List.range s).length = s := List.length_range
  have e1 : (List.range s ++ row.map (fun i => s + i)).take (s + lo) = List.range s ++ (row.take lo).map (fun i => s + i) := by
    rw [List.take_append, List.take_of_length_le (by omega), l, Nat.add_sub_cancel_left, List.map_take]
  have e2 : ∀ k, (List.range s ++ row.map (fun i => s + i)).drop (s + k) = (row.drop k).map (fun i => s + i) := fun k => by
    rw [List.drop_append, List.drop_of_length_le (by omega), l, Nat.add_sub_cancel_left, List.map_drop]
    rfl
  rw [e1, e2, e2, show s + hi - (s + lo) = hi - lo by omega]
  simp only [List.map_append, List.map_reverse, List.map_take, List.append_assoc]
theorem getD_sh {row : List Nat} {k : Nat} (h : k < row.length) : (shRow s row).getD (s + k) 0 = s + row.getD k 0 := by
  unfold shRow
  rw [List.getD_eq_getElem?_getD, List.getD_eq_getElem?_getD, List.getElem?_append_right (by rw [List.length_range]; omega), List.length_range, Nat.add_sub_cancel_left, List.getElem?_map, List.getElem?_eq_getElem h]
  rfl
theorem ext {f g : RF} (h1 : f.row = g.row) (h2 : f.pl = g.pl) (h3 : f.eq = g.eq) (h4 : f.st = g.st) (h5 : f.wt = g.wt) (h6 : f.ln = g.ln) : f = g := by
  cases f
  cases g
  cases h1
  cases h2
  cases h3
  cases h4
  cases h5
  cases h6
  rfl
theorem sh_turn (lo : Nat) : (sh s g).turn (s + lo) = sh s (g.turn lo) := ext (turned_sh s lo g.pl g.row) rfl rfl rfl rfl rfl
theorem sh_turnEq (w : WF 0 size g) : (sh s g).turnEq = sh s g.turnEq := by
  unfold RF.turnEq
  by_cases h : 0 < g.eq
  · have := w.eq
    rw [if_pos h, if_pos (show 0 < (sh s g).eq from h)]
    have e : (sh s g).pl - (sh s g).eq - 1 = s + (g.pl - g.eq - 1) := by show s + g.pl - g.eq - 1 = _; omega
    rw [e, sh_turn]
    rfl
  · rw [if_neg h, if_neg (show ¬ 0 < (sh s g).eq from h)]
theorem sh_fin : (sh s g).finish s = sh s (g.finish 0) := ext rfl rfl rfl rfl rfl (by show some (s + g.pl - s) = some (g.pl - 0); rw [Nat.add_sub_cancel_left]; rfl)
theorem sh_w {g' : RF} {k l : Nat} (h1 : k < g'.row.length) (h2 : l < g'.row.length) : ({ sh s g' with wt := some ((sh s g').row.getD (s + k) 0, (sh s g').row.getD (s + l) 0) } : RF) = sh s { g' with wt := some (g'.row.getD k 0, g'.row.getD l 0) } := by
  refine ext rfl rfl rfl rfl ?_ rfl
  show some ((shRow s g'.row).getD (s + k) 0, (shRow s g'.row).getD (s + l) 0) = some (s + g'.row.getD k 0, s + g'.row.getD l 0)
  rw [getD_sh h1, getD_sh h2]
theorem sh_up {g' : RF} (a : 0 < g'.pl) (c : size ≤ g'.row.length) : (sh s g').askUp s (s + size) = sh s (g'.askUp 0 size) := by
  unfold RF.askUp
  by_cases h : g'.pl < size
  · rw [if_pos h, if_pos (show (sh s g').pl < s + size by show s + g'.pl < s + size; omega)]
    have e : (sh s g').pl - 1 = s + (g'.pl - 1) := by show s + g'.pl - 1 = _; omega
    rw [e]
    exact sh_w (by omega) (by omega)
  · rw [if_neg h, if_neg (show ¬ (sh s g').pl < s + size by show ¬ s + g'.pl < s + size; omega)]
    exact sh_fin
theorem sh_rise (w : WF 0 size g) : (sh s g).rise s (s + size) = sh s (g.rise 0 size) := by
  unfold RF.rise
  have w2 := w.pre5
  have e : ({ ((sh s g).turnEq.turn s : RF) with st := 5 } : RF) = sh s { (g.turnEq.turn 0 : RF) with st := 5 } := by
    have e1 : (sh s g).turnEq.turn s = sh s (g.turnEq.turn 0) := by
      rw [sh_turnEq w]
      exact sh_turn 0
    rw [e1]
    rfl
  rw [e]
  exact sh_up (Nat.lt_of_le_of_lt (Nat.zero_le _) w2.sp) w2.er
theorem sh_ask (w : WF 0 size g) : (sh s g).ask s (s + size) = sh s (g.ask 0 size) := by
  have b1 := w.sp; have b2 := w.er
  unfold RF.ask
  by_cases h : g.pl < size
  · rw [if_pos h, if_pos (show (sh s g).pl < s + size by show s + g.pl < s + size; omega)]
    have e : (sh s g).pl - 1 = s + (g.pl - 1) := by show s + g.pl - 1 = _; omega
    rw [e]
    exact sh_w (by omega) (by omega)
  · rw [if_neg h, if_neg (show ¬ (sh s g).pl < s + size by show ¬ s + g.pl < s + size; omega)]
    by_cases h3 : g.st = 3
    · rw [if_pos h3, if_pos (show (sh s g).st = 3 from h3)]
      exact sh_rise w
    · rw [if_neg h3, if_neg (show ¬ (sh s g).st = 3 from h3)]
      exact sh_fin
theorem sh_goOn (w : WF 0 size { g with pl := g.pl + 1 }) : (sh s g).goOn s (s + size) = sh s (g.goOn 0 size) := by
  unfold RF.goOn
  rw [← sh_ask w]
  rfl
theorem sh_take (w : WF 0 size g) (h : g.pl < size) (b : Bool) : (sh s g).take s (s + size) b = sh s (g.take 0 size b) := by
  have b1 := w.sp; have b2 := w.er
  unfold RF.take
  show (if g.st = 1 then _ else if g.st = 2 then _ else if g.st = 3 then _ else if g.st = 4 then _ else _) = sh s (if g.st = 1 then _ else if g.st = 2 then _ else if g.st = 3 then _ else if g.st = 4 then _ else _)
  by_cases s1 : g.st = 1
  · rw [if_pos s1, if_pos s1]
    unfold RF.take1
    cases b with
    | false =>
      rw [if_pos rfl, if_pos rfl]
      exact sh_goOn (w.next h)
    | true =>
      rw [if_neg (show ¬ (true = false) by decide), if_neg (show ¬ (true = false) by decide)]
      by_cases hp : g.pl = 0 + 1
      · rw [if_pos hp, if_pos (show (sh s g).pl = s + 1 by show s + g.pl = s + 1; omega)]
        exact sh_goOn (g := { g with st := 3 }) ((w.st 3).next h)
      · rw [if_neg hp, if_neg (show ¬ (sh s g).pl = s + 1 by show ¬ s + g.pl = s + 1; omega)]
        have e : (sh s g).pl - 1 = s + (g.pl - 1) := by show s + g.pl - 1 = _; omega
        rw [e]
        exact sh_w (g' := { g with st := 2 }) (k := 0) (l := g.pl - 1) (by show 0 < g.row.length; omega) (by show g.pl - 1 < g.row.length; omega)
  rw [if_neg s1, if_neg s1]
  by_cases s2 : g.st = 2
  · rw [if_pos s2, if_pos s2]
    unfold RF.take2
    cases b with
    | true =>
      rw [if_pos rfl, if_pos rfl]
      exact sh_fin
    | false =>
      rw [if_neg (show ¬ (false = true) by decide), if_neg (show ¬ (false = true) by decide)]
      have e : (sh s g).turn s = sh s (g.turn 0) := sh_turn 0
      rw [e]
      exact sh_goOn (g := { (g.turn 0 : RF) with st := 3 }) (((w.turn (Nat.le_of_lt w.sp)).st 3).next h)
  rw [if_neg s2, if_neg s2]
  by_cases s3 : g.st = 3
  · rw [if_pos s3, if_pos s3]
    unfold RF.take3
    cases b with
    | true =>
      rw [if_pos rfl, if_pos rfl, sh_turnEq w]
      exact sh_goOn (w.turnEq.next (by rw [turnEq_pl]; exact h))
    | false =>
      rw [if_neg (show ¬ (false = true) by decide), if_neg (show ¬ (false = true) by decide)]
      have e : (sh s g).pl - 1 = s + (g.pl - 1) := by show s + g.pl - 1 = _; omega
      rw [e]
      exact sh_w (g' := { g with st := 4 }) (k := g.pl - 1) (l := g.pl) (by show g.pl - 1 < g.row.length; omega) (by show g.pl < g.row.length; omega)
  rw [if_neg s3, if_neg s3]
  by_cases s4 : g.st = 4
  · rw [if_pos s4, if_pos s4]
    unfold RF.take4
    cases b with
    | true =>
      rw [if_pos rfl, if_pos rfl]
      exact sh_rise w
    | false =>
      rw [if_neg (show ¬ (false = true) by decide), if_neg (show ¬ (false = true) by decide)]
      exact sh_goOn (g := { g with eq := g.eq + 1, st := 3 }) (w.eq1 h)
  rw [if_neg s4, if_neg s4]
  unfold RF.take5
  cases b with
  | true =>
    rw [if_pos rfl, if_pos rfl]
    exact sh_fin
  | false =>
    rw [if_neg (show ¬ (false = true) by decide), if_neg (show ¬ (false = true) by decide)]
    exact sh_goOn (w.next h)
theorem sh_init (h : 0 < size) (h2 : size ≤ 2000) : RF.init (List.range (s + size)) s (s + size) = sh s (RF.init (List.range size) 0 size) := by
  unfold RF.init
  have w : WF 0 size { row := List.range size, pl := 0 + 1, eq := 0, st := 1, wt := none, ln := none } := ⟨by show 0 < 0 + 1; omega, by show 0 + 1 ≤ size; omega, by show size ≤ (List.range size).length; rw [List.length_range]; exact Nat.le_refl _, by show 0 + 0 < 0 + 1; omega, by show (List.range size).length ≤ 2000; rw [List.length_range]; exact h2⟩
  rw [← sh_ask w]
  congr 1
  exact ext (shRow_range s size).symm rfl rfl rfl rfl rfl
/-! behind the place nothing has moved -/
def Tail (n : Nat) (f : RF) : Prop := ∀ k, f.pl ≤ k → f.row.drop k = (List.range n).drop k
theorem turned_tail {row : List Nat} {lo hi k : Nat} (h : lo ≤ hi) (h2 : hi ≤ row.length) (hk : hi ≤ k) : (turned row lo hi).drop k = row.drop k := by
  unfold turned
  have l : (row.take lo ++ ((row.drop lo).take (hi - lo)).reverse).length = hi := by
    rw [List.length_append, List.length_take, List.length_reverse, List.length_take, List.length_drop]
    omega
  rw [List.drop_append, List.drop_of_length_le (by omega), l, List.drop_drop, List.nil_append]
  congr 1
  omega
section
variable {n : Nat} {f : RF} {e : Nat}
theorem tail_turn {lo : Nat} (t : Tail n f) (h : lo ≤ f.pl) (h2 : f.pl ≤ f.row.length) : Tail n (f.turn lo) := fun k hk => (turned_tail h h2 hk).trans (t k hk)
theorem tail_turnEq (t : Tail n f) (h2 : f.pl ≤ f.row.length) : Tail n f.turnEq := by
  unfold RF.turnEq
  split
  · exact fun k hk => tail_turn t (by omega) h2 k hk
  · exact t
theorem tail_up (t : Tail n f) : Tail n (f.askUp s e) := by
  unfold RF.askUp
  split
  · exact t
  · exact t
theorem tail_rise (w : WF s e f) (t : Tail n f) : Tail n (f.rise s e) := by
  have w1 := w.turnEq
  have h2 : f.pl ≤ f.row.length := Nat.le_trans w.pe w.er
  have t1 : Tail n f.turnEq := tail_turnEq t h2
  exact tail_up (f := { (f.turnEq.turn s : RF) with st := 5 }) (tail_turn t1 (Nat.le_of_lt w1.sp) (Nat.le_trans w1.pe w1.er))
theorem tail_ask (w : WF s e f) (t : Tail n f) : Tail n (f.ask s e) := by
  unfold RF.ask
  split
  · exact t
  · split
    · exact tail_rise w t
    · exact t
theorem tail_next (t : Tail n f) : Tail n { f with pl := f.pl + 1 } := fun k hk => t k (Nat.le_of_succ_le hk)
theorem tail_take (w : WF s e f) (h : f.pl < e) (t : Tail n f) (b : Bool) : Tail n (f.take s e b) := by
  have h2 : f.pl ≤ f.row.length := Nat.le_trans w.pe w.er
  unfold RF.take
  split
  · unfold RF.take1
    split
    · exact tail_ask (w.next h) (tail_next t)
    · split
      · exact tail_ask ((w.st 3).next h) (tail_next t)
      · exact t
  · split
    · unfold RF.take2
      split
      · exact t
      · exact tail_ask (((w.turn (Nat.le_of_lt w.sp)).st 3).next h) (tail_next (tail_turn t (Nat.le_of_lt w.sp) h2))
    · split
      · unfold RF.take3
        split
        · exact tail_ask (w.turnEq.next (by rw [turnEq_pl]; exact h)) (tail_next (tail_turnEq t h2))
        · exact t
      · split
        · unfold RF.take4
          split
          · exact tail_rise w t
          · exact tail_ask (w.eq1 h) (tail_next t)
        · unfold RF.take5
          split
          · exact t
          · exact tail_ask (w.next h) (tail_next t)
end
theorem fed_tail {size : Nat} (h1 : 0 < size) (h2 : size ≤ 2000) (bs : List Bool) : ∀ k, Tail size (fed size bs k)
  | 0 => by
    have w : WF 0 size { row := List.range size, pl := 0 + 1, eq := 0, st := 1, wt := none, ln := none } := ⟨by show 0 < 0 + 1; omega, by show 0 + 1 ≤ size; omega, by show size ≤ (List.range size).length; rw [List.length_range]; exact Nat.le_refl _, by show 0 + 0 < 0 + 1; omega, by show (List.range size).length ≤ 2000; rw [List.length_range]; exact h2⟩
    exact tail_ask w (fun k _ => rfl)
  | k + 1 => by
    have ih := fed_tail h1 h2 bs k
    have g := fed_good h1 h2 bs k
    cases h : (fed size bs k).wt with
    | none => rw [fed_end h]; exact ih
    | some q => rw [fed_next h]; exact tail_take g.wf (g.ah (by rw [h]; exact Option.some_ne_none _)) ih _
theorem fed_congr {size : Nat} {bs cs : List Bool} : ∀ {k : Nat}, (∀ i, i < k → bs.getD i false = cs.getD i false) → fed size bs k = fed size cs k
  | 0, _ => rfl
  | k + 1, h => by
    have ih := fed_congr (size := size) (k := k) (fun i hi => h i (by omega))
    cases e : (fed size bs k).wt with
    | none => rw [fed_end e, fed_end (by rw [← ih]; exact e), ih]
    | some q => rw [fed_next e, fed_next (q := q) (by rw [← ih]; exact e), ih, h k (by omega)]
/-- the steps by the keys are the steps by their answers, moved -/
theorem stps_fed {ls : Nat × Nat → Bool} {s size N : Nat} (h1 : 0 < size) (h2 : size ≤ 2000) (hw : ∀ i, i < N → ((RF.init (List.range (s + size)) s (s + size)).stps ls s (s + size) i).wt ≠ none) :
    ∀ k, k ≤ N → (RF.init (List.range (s + size)) s (s + size)).stps ls s (s + size) k = sh s (fed size (((RF.init (List.range (s + size)) s (s + size)).asks ls s (s + size) N).map ls) k)
  | 0, _ => sh_init h1 h2
  | k + 1, hk => by
    have ih := stps_fed h1 h2 hw k (by omega)
    cases e : ((RF.init (List.range (s + size)) s (s + size)).stps ls s (s + size) k).wt with
    | none => exact absurd e (hw k (by omega))
    | some q =>
      rw [stps_next e]
      rw [ih] at e
      have e0 : ∃ q0, (fed size (((RF.init (List.range (s + size)) s (s + size)).asks ls s (s + size) N).map ls) k).wt = some q0 := by
        cases e1 : (fed size (((RF.init (List.range (s + size)) s (s + size)).asks ls s (s + size) N).map ls) k).wt with
        | none =>
          exfalso
          have e2 : (sh s (fed size (((RF.init (List.range (s + size)) s (s + size)).asks ls s (s + size) N).map ls) k)).wt = none := by
            show Option.map _ _ = none
            rw [e1]
            rfl
          rw [e2] at e
          cases e
        | some q0 => exact ⟨q0, rfl⟩
      obtain ⟨q0, e0⟩ := e0
      have g := fed_good h1 h2 (((RF.init (List.range (s + size)) s (s + size)).asks ls s (s + size) N).map ls) k
      rw [fed_next e0, ih, ← sh_take g.wf (g.ah (by rw [e0]; exact Option.some_ne_none _))]
      congr 1
      rw [List.getD_eq_getElem?_getD, List.getElem?_map, asks_at (by omega), ih, e]
      rfl
theorem range_drop (k n : Nat) (h : k ≤ n) : (List.range n).drop k = (List.range (n - k)).map (fun i => k + i) := by
  have e : List.range n = List.range k ++ (List.range (n - k)).map (fun i => k + i) := by
    rw [← List.range_add]
    congr 1
    omega
  rw [e, List.drop_append, List.drop_of_length_le (by rw [List.length_range]; exact Nat.le_refl _), List.length_range, Nat.sub_self]
  rfl
/-- the whole row, told by what lies ahead, the run and the rest -/
theorem row_split {s size : Nat} {g : RF} (w : WF 0 size g) (t : Tail size g) : (sh s g).row = List.range s ++ ((sh s g).row.drop s).take g.pl ++ (List.range (size - g.pl)).map (fun i => s + g.pl + i) := by
  have l : (List.range s).length = s := List.length_range
  have e1 : (sh s g).row.drop s = g.row.map (fun i => s + i) := by
    show (List.range s ++ g.row.map (fun i => s + i)).drop s = _
    rw [List.drop_append, List.drop_of_length_le (by omega), l, Nat.sub_self]
    rfl
  rw [e1, List.append_assoc]
  show List.range s ++ g.row.map (fun i => s + i) = _
  congr 1
  have e2 : g.row = g.row.take g.pl ++ (List.range (size - g.pl)).map (fun i => g.pl + i) := by
    rw [← range_drop _ _ w.pe, ← t _ (Nat.le_refl _), List.take_append_drop]
  rw [← List.map_take]
  conv => lhs; rw [e2]
  rw [List.map_append, List.map_map]
  congr 1
  exact List.map_congr_left fun i _ => by show s + (g.pl + i) = s + g.pl + i; omega
end RF
end L2

namespace L2
open PySem PySem.Spec PyProof.Rows
/-! ### for over a list or a tuple -/
section
variable {X : Cx} {tg : Expr} {pins : List (Addr × Obj)} {σ : L2.St} {H : Hp} {s : Shared} {a : Addr} {xs : List V} {R : It → Hp → Prop}
theorem lone_fresh (I : Inv X pins σ H s) : ∀ b ∈ [s.heap.objs.size], FpOk X pins H b := fun b hb => by
  rw [List.mem_singleton.mp hb]
  exact I.fpOk (Nat.le_refl _) (I.hok.fresh (Nat.le_refl _))
theorem walk_list (I : Inv X pins σ H s) (h : SqL X.K H a xs) (q : R (Itl X.K a) H) : wpAny (model X.prog X.w) X.A (pyIter (.ref a)) (PIE X pins σ tg R) X.xe s := by
  obtain ⟨items, _, isl, _⟩ := I.list h
  exact wpAny_pyIter_list isl.isList ⟨_, [_], _, _, H, rfl, I.kept (t' := s.toks) (fun _ _ e => Heap.get?_push_of_some _ e), turn_list a _, ⟨_, Heap.get?_push_size _ rfl, rfl, rfl⟩, lone_fresh I, q⟩
theorem walk_tup (I : Inv X pins σ H s) (h : SqT X.K H a xs) (q : R (Itt X.K a) H) : wpAny (model X.prog X.w) X.A (pyIter (.ref a)) (PIE X pins σ tg R) X.xe s := by
  obtain ⟨items, _, ist, _⟩ := I.tuple h
  have ist' : s.heap.IsTuple a items.toArray := ist
  exact wpAny_pyIter_tuple ist' ⟨_, [_], _, _, H, rfl, I.kept (t' := s.toks) (fun _ _ e => Heap.get?_push_of_some _ e), turn_tuple a _, ⟨_, Heap.get?_push_size _ rfl, rfl, rfl⟩, lone_fresh I, q⟩
def iLT (K : PySem.W.Frag) (tl : TE) : TI := fun σ H R => tl σ H fun x H1 => ∃ (a : Addr) (xs : List V), x = .ref a ∧ ((SqL K H1 a xs ∧ R (Itl K a) H1) ∨ (SqT K H1 a xs ∧ R (Itt K a) H1))
theorem pi_lt {l : Expr} {tl : TE} (hl : PE X l tl) : PI X tg l (iLT X.K tl) :=
  ⟨fun pins s σ H R I h => thn (hl.run pins s σ H _ I h) fun v s1 ⟨x, H1, I1, r1, a, xs, e, q⟩ => by
    subst e
    cases r1
    rcases q with ⟨hs, q⟩ | ⟨hs, q⟩
    · exact walk_list I1 hs q
    · exact walk_tup I1 hs q⟩
end
/-- for over the entries, whichever of the two it is -/
theorem for_lt {K : PySem.W.Frag} {a : Addr} {xs : List V} {g : TG} {tb : TS} {D : Ends} {σ : L2.St} {H : Hp} (Pv : Nat → L2.St → Hp → Prop) (h0 : Pv 0 σ H) (h : (∀ i σ' H', Pv i σ' H' → SqL K H' a xs) ∨ (∀ i σ' H', Pv i σ' H' → SqT K H' a xs))
    (hs : ∀ i x σ H, xs[i]? = some x → Pv i σ H → g x σ H fun σ2 H2 => tb { D with nx := Pv (i + 1), ct := Pv (i + 1), bk := D.nx } σ2 H2) (hd : ∀ σ H, Pv xs.length σ H → D.nx σ H) :
    (SqL K H a xs ∧ ∃ W : Nat → Nat → L2.St → Hp → Prop, (∃ m, W 0 m σ H) ∧ ∀ i m σ H, W i m σ H →
      ((Itl K a).stop i H ∧ D.nx σ H) ∨ ((Itl K a).go i H ∧ ∃ N : L2.St → Hp → Prop, (∀ σ' H', N σ' H' → ∃ m', m' < m ∧ W (i + 1) m' σ' H') ∧ ∀ x H', (Itl K a).yld i H x H' → g x σ H' fun σ2 H2 => tb { D with nx := N, ct := N, bk := D.nx } σ2 H2)) ∨
    (SqT K H a xs ∧ ∃ W : Nat → Nat → L2.St → Hp → Prop, (∃ m, W 0 m σ H) ∧ ∀ i m σ H, W i m σ H →
      ((Itt K a).stop i H ∧ D.nx σ H) ∨ ((Itt K a).go i H ∧ ∃ N : L2.St → Hp → Prop, (∀ σ' H', N σ' H' → ∃ m', m' < m ∧ W (i + 1) m' σ' H') ∧ ∀ x H', (Itt K a).yld i H x H' → g x σ H' fun σ2 H2 => tb { D with nx := N, ct := N, bk := D.nx } σ2 H2)) := by
  rcases h with h | h
  · exact .inl ⟨h _ _ _ h0, for_list Pv h0 (fun i σ' H' _ p => h i σ' H' p) hs hd⟩
  · exact .inr ⟨h _ _ _ h0, for_tup Pv h0 (fun i σ' H' _ p => h i σ' H' p) hs hd⟩
theorem rg_nat (n : Nat) : rgV 0 (n : Int) = nV (List.range n) := by
  unfold rgV
  rw [show ((n : Int) - 0).toNat = n by omega]
  exact List.map_congr_left fun i _ => congrArg V.int (by omega)
theorem rgOk_nat {n : Nat} (h : n ≤ 2000) : RgOk 0 (n : Int) := ⟨by omega, by omega, by omega, by omega, by omega⟩
end L2

namespace L2
open PySem PySem.Spec PyProof.Rows
/-! ### Base.__init__(self, ..) where Base is a class of the program that has no own one -/
section
variable {X : Cx} {e : Expr} {es : List Expr} {ta : TA} {x : Str} {B : Addr} {p1 p2 pos : Pos}
theorem pe_baseinit {pl : Sem Bool} (hg : Gl X x) (hm : X.mg x = some (.ref B)) (rd1 : PySem.W.readsIn X.K B (.type "type") = true) (rd2 : PySem.W.specialIn X.K (.ref B) "__getattribute__" = some (some (.builtin "type.__getattribute__"))) (vV : PySem.W.findCls X.K (.ref B) (.type "type") "__init__" = some (.val (.builtin "ValueError.__init__"))) (ha : PA X (e :: es) ta)
    (hc : eval (.Call (.Attribute (.Name x p1) "__init__" p2) (e :: es) [] pos) X.env = (do
      let base ← eval (.Name x p1) X.env
      standAt p2.atName
      let (f, first) ← holding [base] (getMethod base "__init__" pl)
      callWith pos f first (backTo pos (starEach (e :: es) X.env)) (backToKw pos (keywordEach [] X.env))) := by rfl)
    (hdb : (x == ("__debug__" : Str)) = false := by decide) (he : starEach (e :: es) X.env = (false, eval e X.env) :: starEach es X.env := by rfl) (hpl : (backTo pos (starEach es X.env)).any (·.1) = false := by rfl) :
    PE X (.Call (.Attribute (.Name x p1) "__init__" p2) (e :: es) [] pos) (tVeI X.K ta) := by
  refine ⟨fun pins s σ H Q I h => PySem.W.methodCall_KW (ld_glob I hg hm ?_ hdb) hc⟩
  refine PySem.W.method_cls I.kIn rd2 (PySem.W.cls_value I.kIn rd1 vV (by decide +kernel) ?_)
  show wpAny _ _ (callWith pos (Value.builtin "ValueError.__init__") [] (backTo pos (starEach (e :: es) X.env)) []) _ _ _
  refine PyProof.Rows.callWith_method1 (thn (ha.run pos pins _ σ H _ (I.tok _) h) fun us s1 ⟨vs, H1, I1, rel, a, C, ws, ev, hl, T, ea, q⟩ => ?_) he hpl
  subst ev
  cases rel with
  | @cons _ w0 _ wr r0 rs =>
    have ew : w0 = Value.ref a := r0
    subst ew
    have short : wr.length ≤ sizeLine := by
      have := Paired.length rs
      rw [sizeLine_eq]
      omega
    exact oinit_ok T I1 ea short fun s' J => ⟨.non, H1, J, rfl, q⟩
end
/-! ### what the text says of an error's class, and of the class above -/
structure ExC (K : PySem.W.Frag) (mg : Str → Option Value) (C fI : Addr) (x f : Str) : Prop where
  g : mg x = some (.ref C)
  ox : OexC K C
  ii : PySem.W.findIn K (.ref C) "__init__" = some (some (.ref fI))
  ti : PySem.W.typeIn K (.ref fI) = some (.type "function")
  no : PySem.W.findIn K (.ref C) f = some none
  xf : XfC K C
  te : PySem.W.exmOne K (.ref C) (.ref C) = some true
structure ExB (K : PySem.W.Frag) (mg : Str → Option Value) (B : Addr) (x : Str) : Prop where
  g : mg x = some (.ref B)
  r1 : PySem.W.readsIn K B (.type "type") = true
  r2 : PySem.W.specialIn K (.ref B) "__getattribute__" = some (some (.builtin "type.__getattribute__"))
  vi : PySem.W.findCls K (.ref B) (.type "type") "__init__" = some (.val (.builtin "ValueError.__init__"))
theorem exm_own {K : PySem.W.Frag} {S : Addr} (h1 : PySem.W.subIn K (.ref S) (.type "BaseException") = some true) (h2 : PySem.W.isClsIn K S = true) (h3 : PySem.W.typeIn K (.ref S) = some (.type "type")) (h4 : PySem.W.subIn K (.ref S) (.ref S) = some true) :
    PySem.W.exmOne K (.ref S) (.ref S) = some true := by
  have h2' : (PySem.W.clsIn K S).isSome = true := h2
  unfold PySem.W.exmOne
  simp [PySem.W.kitCls, h1, h2', h3, h4]
theorem exC_mk {K : PySem.W.Frag} {h : Heap} {mg : Str → Option Value} {C B fI : Addr} {x f : Str} (X : K.In h) (G : h.Ns mainGlobals mg)
    {nm q : Str} {N : Addr} {bs : List Value} {sn : List Str} {sub : List Value} {ab : Bool} {col : Option Bool} {dd : Option Addr} {m0 m1 m2 m3 m5 : Option Value}
    (aC : PySem.W.nsIn K mainGlobals x = some (some (.ref C)))
    (xL : K.lookup C = some (excClassObj nm q C N bs [.ref B, .type "ValueError", .type "Exception", .type "BaseException", .type "object"] true sn sub ab col dd m0 m1 m2 m3 m5 "ValueError.__new__"))
    (sa : PySem.W.findIn K (.ref C) "__setattr__" = some (some (.builtin "object.__setattr__"))) (ga : PySem.W.findIn K (.ref C) "__getattribute__" = some (some (.builtin "BaseException.__getattribute__"))) (gg : PySem.W.findIn K (.ref C) "__getattr__" = some none)
    (nb : PySem.W.findIn K (.ref C) f = some none) (ii : PySem.W.findIn K (.ref C) "__init__" = some (some (.ref fI))) (ti : PySem.W.typeIn K (.ref fI) = some (.type "function")) (kC : PySem.W.keepIn K (.ref C) = true)
    (eC : PySem.W.subIn K (.ref C) (.type "BaseException") = some true) (tC : PySem.W.typeIn K (.ref C) = some (.type "type")) (hC : PySem.W.hasDictIn K C = true) (iC : PySem.W.isClsIn K C = true) (sC : PySem.W.subIn K (.ref C) (.ref C) = some true) :
    ExC K mg C fI x f :=
  ⟨PySem.W.mg_of X G aC, ⟨⟨_, _, _, _, _, _, _, _, _, _, _, _, _, _, _, xL, rfl⟩, sa, eC, tC, kC⟩, ii, ti, nb, ⟨ga, gg, eC, hC⟩, exm_own eC iC tC sC⟩
/-- what __init__ of such an error does: the value is kept under f -/
def spErr (C : Addr) (f : Str) : Sp := fun vs H Q _ => ∃ (e : Addr) (v : V), vs = [.ref e, v] ∧ H e = some (exo e C none) ∧ ∀ dx, H dx = none → dx ≠ e → Q .non (upd (upd H dx (exd dx [(f, v)])) e (exo e C (some dx)))
end L2

namespace L2
open PySem PySem.Spec PyProof.Rows
/-! ### a def that has defaults -/
structure FunV (K : PySem.W.Frag) (x qual : Str) (st : Stmt) (f : Addr) (fd : FuncData) : Prop where
  ex : ∃ (oc : Value) (od : Option Addr) (dV kV doc pm : Value) (an : Option Addr) (cdv ct : Value) (osl : Array (Option Value)),
    fd = PySem.W.fnOf x qual (defArgs st) (defBody st) (defScope st) dV kV doc pm an cdv ct ∧ K.lookup f = some ⟨oc, od, .func fd, osl⟩ ∧ PySem.W.codeIn K cdv qual = true
section
variable {P : Program} {w : World} {K : PySem.W.Frag} {mg : Str → Option Value} {base : Heap}
theorem FunV.ok {x qual : Str} {st : Stmt} {f : Addr} {fd : FuncData} {N ps : List Str} {k : Nat} {sp : Sp} (F : FunV K x qual st f fd) (S : FnScope N ps (defScope st)) (len : ∀ vs H Q E, sp vs H Q E → vs.length = ps.length)
    (hbody : ∀ (cdv : Value) (A : Around) (outer : List Env) (s : Shared) (H : Hp) (vs : List V) (Q : VK) (E : XK), Room k (A.deeper (envOfC qual (defScope st) s.heap.objs.size f cdv)) → sp vs H Q E →
      ∃ t, PSs (cxOf CX0 P w K mg base N qual (defScope st) f cdv A outer s H E).nox (defBody st) t ∧ t { nx := fun _ H' => Q .non H', rt := Q } (start N vs) H) : FnOk P w K mg base CX0 (k + 1) f fd ps sp := by
  obtain ⟨oc, od, dV, kV, doc, pm, an, cdv, ct, osl, rfl, lk, hcd⟩ := F.ex
  refine fn_of lk hcd S len fun A outer s H vs Q E hr hsp => ?_
  obtain ⟨t, h, q⟩ := hbody cdv A outer s H vs Q E hr hsp
  exact ⟨t, h.nox, q⟩
theorem FunV.okX {x qual : Str} {st : Stmt} {f : Addr} {fd : FuncData} {N ps : List Str} {k : Nat} {sp : Sp} (F : FunV K x qual st f fd) (S : FnScope N ps (defScope st)) (len : ∀ vs H Q E, sp vs H Q E → vs.length = ps.length)
    (hbody : ∀ (cdv : Value) (A : Around) (outer : List Env) (s : Shared) (H : Hp) (vs : List V) (Q : VK) (E : XK), Room k (A.deeper (envOfC qual (defScope st) s.heap.objs.size f cdv)) → sp vs H Q E →
      ∃ t, PSs (cxOf (L2.CX P w) P w K mg base N qual (defScope st) f cdv A outer s H E) (defBody st) t ∧ t { nx := fun _ H' => Q .non H', rt := Q } (start N vs) H) : FnOk P w K mg base (L2.CX P w) (k + 1) f fd ps sp := by
  obtain ⟨oc, od, dV, kV, doc, pm, an, cdv, ct, osl, rfl, lk, hcd⟩ := F.ex
  exact fn_of lk hcd S len fun A outer s H vs Q E hr hsp => hbody cdv A outer s H vs Q E hr hsp
theorem funV_mk {x qual : Str} {st : Stmt} {f : Addr} {oc : Value} {od an : Option Addr} {osl : Array (Option Value)} {dV kV doc pm cdv ct : Value} (l : K.lookup f = some ⟨oc, od, .func (PySem.W.fnOf x qual (defArgs st) (defBody st) (defScope st) dV kV doc pm an cdv ct), osl⟩)
    (c : PySem.W.codeIn K cdv qual = true) : FunV K x qual st f (PySem.W.fnOf x qual (defArgs st) (defBody st) (defScope st) dV kV doc pm an cdv ct) := ⟨oc, od, dV, kV, doc, pm, an, cdv, ct, osl, rfl, l, c⟩
/-- how the arguments bind where the last defaults fill up: dvs the defaults, j of them are written -/
theorem bindsV {x qual : Str} {st : Stmt} {f T : Addr} {oc oT : Value} {od odT an : Option Addr} {osl slT : Array (Option Value)} {kV doc pm cdv ct : Value} {its : List Value} {nT : Nat} {ps : List Str} {dvs : List V}
    (l : K.lookup f = some ⟨oc, od, .func (PySem.W.fnOf x qual (defArgs st) (defBody st) (defScope st) (.ref T) kV doc pm an cdv ct), osl⟩)
    (c : PySem.W.codeIn K cdv qual = true) (kp : PySem.W.keepIn K (.ref f) = true) (lT : K.lookup T = some ⟨oT, odT, .seq its.toArray nT, slT⟩) (rT : Vals dvs its) (n j : Nat) (hd : dvs ≠ []) (hn : n + (dvs.length - j) = ps.length)
    (h : ∀ (T : Addr) (kV doc pm : Value) (an : Option Addr) (cdv ct : Value) (us its : List Value), us.length = n → its.length = dvs.length →
      ∃ k, bindArgs (PySem.W.fnOf x qual (defArgs st) (defBody st) (defScope st) (.ref T) kV doc pm an cdv ct) ⟨us, []⟩ = seqItems? (.ref T) >>= k ∧ k (some its.toArray) = pure (ps.zip (us ++ its.drop j))) :
    ∃ ds, Vals (dvs.drop j) ds ∧ Binds K (PySem.W.fnOf x qual (defArgs st) (defBody st) (defScope st) (.ref T) kV doc pm an cdv ct) ps ds := by
  have F : FunD K x qual (defArgs st) (defBody st) (defScope st) dvs [] f _ := ⟨⟨_, _, _, _, _, _, _, _, _, _, rfl, l, c, .inr ⟨hd, T, _, its, nT, rfl, lT, rfl, rT⟩, .inl rfl⟩, kp⟩
  exact F.binds1 (ps := ps) n j hd hn h
theorem Binds.none {fd : FuncData} {ps : List Str} {ds : List Value} (r : Vals [] ds) (b : Binds K fd ps ds) : Binds K fd ps [] := by
  cases r
  exact b
end
end L2

namespace L2
open PySem PySem.Spec PyProof.Rows
namespace RF
/-- given the answers bs one after another, from any state on -/
def gv (s e : Nat) (f : RF) (bs : List Bool) : Nat → RF
  | 0 => f
  | k + 1 => match (gv s e f bs k).wt with
    | none => gv s e f bs k
    | some _ => (gv s e f bs k).take s e (bs.getD k false)
theorem gv_next {s e : Nat} {f : RF} {bs : List Bool} {k : Nat} {q : Nat × Nat} (h : (gv s e f bs k).wt = some q) : gv s e f bs (k + 1) = (gv s e f bs k).take s e (bs.getD k false) := by
  show (match (gv s e f bs k).wt with
    | none => gv s e f bs k
    | some _ => (gv s e f bs k).take s e (bs.getD k false)) = _
  rw [h]
theorem gv_end {s e : Nat} {f : RF} {bs : List Bool} {k : Nat} (h : (gv s e f bs k).wt = none) : gv s e f bs (k + 1) = gv s e f bs k := by
  show (match (gv s e f bs k).wt with
    | none => gv s e f bs k
    | some _ => (gv s e f bs k).take s e (bs.getD k false)) = _
  rw [h]
theorem gv_good {s e : Nat} {f : RF} {row : List Nat} (g : Good s e row f) (bs : List Bool) : ∀ k, Good s e row (gv s e f bs k)
  | 0 => g
  | k + 1 => by
    have ih := gv_good g bs k
    cases h : (gv s e f bs k).wt with
    | none => rw [gv_end h]; exact ih
    | some q => rw [gv_next h]; exact ih.take (by rw [h]; exact Option.some_ne_none _) _
def gvq (s e : Nat) (f : RF) (bs : List Bool) (n : Nat) : List (Nat × Nat) := (List.range n).map fun i => ((gv s e f bs i).wt).getD (0, 0)
theorem gvq_len (s e : Nat) (f : RF) (bs : List Bool) (n : Nat) : (gvq s e f bs n).length = n := by
  unfold gvq
  rw [List.length_map, List.length_range]
theorem gvq_next {s e : Nat} {f : RF} {bs : List Bool} {n : Nat} {q : Nat × Nat} (h : (gv s e f bs n).wt = some q) : gvq s e f bs (n + 1) = gvq s e f bs n ++ [q] := by
  unfold gvq
  rw [List.range_succ, List.map_append, List.map_singleton, h]
  rfl
theorem gv_fed (size : Nat) (bs : List Bool) : ∀ k, gv 0 size (RF.init (List.range size) 0 size) bs k = fed size bs k
  | 0 => rfl
  | k + 1 => by
    have ih := gv_fed size bs k
    cases h : (fed size bs k).wt with
    | none => rw [fed_end h, gv_end (by rw [ih]; exact h), ih]
    | some q => rw [fed_next h, gv_next (by rw [ih]; exact h), ih]
theorem gvq_ask (size : Nat) (bs : List Bool) (n : Nat) : gvq 0 size (RF.init (List.range size) 0 size) bs n = askB size bs n := by
  unfold gvq askB
  exact List.map_congr_left fun i _ => by rw [gv_fed]
theorem gv_stps {s e : Nat} {f : RF} {ls : Nat × Nat → Bool} {bs : List Bool} : ∀ {k : Nat}, (∀ i q, i < k → (f.stps ls s e i).wt = some q → bs.getD i false = ls q) → gv s e f bs k = f.stps ls s e k
  | 0, _ => rfl
  | k + 1, h => by
    have ih := gv_stps (k := k) fun i q hi hq => h i q (by omega) hq
    cases hw : (f.stps ls s e k).wt with
    | none => rw [stps_end hw, gv_end (by rw [ih]; exact hw), ih]
    | some q => rw [stps_next hw, gv_next (by rw [ih]; exact hw), ih, h k q (by omega) hw]
end RF
/-- answers: a list or a tuple of bools -/
def AnsAt (H : Hp) (p : Addr) (bs : List Bool) : Prop := H p = some (.lst (bs.map V.bl)) ∨ H p = some (.tup (bs.map V.bl))
theorem AnsAt.same {H H' : Hp} {p : Addr} {bs : List Bool} (e : Same H H') (h : AnsAt H p bs) : AnsAt H' p bs := h.imp (e _ _) (e _ _)
theorem ans_item {bs : List Bool} {i : Nat} {x : V} (h : (bs.map V.bl)[i]? = some x) : ∃ z, bs[i]? = some z ∧ x = .bl z := by
  rw [List.getElem?_map] at h
  cases e : bs[i]? with
  | none => rw [e] at h; cases h
  | some z => rw [e] at h; exact ⟨z, rfl, (Option.some.inj h).symm⟩
theorem AnsAt.free {H : Hp} {p z : Addr} {bs : List Bool} (h : AnsAt H p bs) (n : H z = none) : p ≠ z := fun e => by
  rw [← e] at n
  rcases h with h | h
  · rw [h] at n; cases n
  · rw [h] at n; cases n
end L2

namespace L2
open PySem PySem.Spec PyProof.Rows
namespace RF
/-! ### how many questions there may be: two less than twice the items -/
variable {e : Nat} {f : RF}
def ph (st pl n : Nat) : Nat := if st = 5 then n else if st = 4 then 2 * n else if st = 3 then 2 * n + 1 else if st = 2 then 2 * n else if pl = 1 then 2 * n else 2 * n + 1
def phi (e : Nat) (f : RF) : Nat := if f.wt = none then 0 else ph f.st f.pl (e - f.pl)
theorem phi_none (h : f.wt = none) : phi e f = 0 := if_pos h
theorem phi_some {q : Nat × Nat} (h : f.wt = some q) : phi e f = ph f.st f.pl (e - f.pl) := if_neg (by rw [h]; exact Option.some_ne_none _)
theorem phi_ask {f : RF} {b : Nat} (h : f.pl < e → ph f.st f.pl (e - f.pl) ≤ b) : phi e (f.ask 0 e) ≤ b := by
  unfold RF.ask
  split
  · rename_i hp
    rw [phi_some (q := (f.row.getD f.pl 0, f.row.getD (f.pl - 1) 0)) rfl]
    exact h hp
  · rename_i hp
    split
    · have : phi e (f.rise 0 e) = 0 := by
        unfold RF.rise RF.askUp
        rw [if_neg (by show ¬ f.turnEq.pl < e; rw [turnEq_pl]; exact hp)]
        exact phi_none rfl
      omega
    · rw [phi_none (f := f.finish 0) rfl]
      exact Nat.zero_le _
theorem phi_take {q : Nat × Nat} (hw : f.wt = some q) (h0 : 0 < f.pl) (h : f.pl < e) (hs : 1 ≤ f.st ∧ f.st ≤ 5) (b : Bool) : phi e (f.take 0 e b) < phi e f := by
  rw [phi_some hw]
  unfold RF.take
  by_cases s1 : f.st = 1
  · rw [if_pos s1]
    have hb : ph f.st f.pl (e - f.pl) = if f.pl = 1 then 2 * (e - f.pl) else 2 * (e - f.pl) + 1 := by rw [s1]; rfl
    unfold RF.take1
    split
    · have : phi e (f.goOn 0 e) ≤ 2 * (e - f.pl) - 1 := phi_ask fun hp => by
        have hp' : f.pl + 1 < e := hp
        show ph f.st (f.pl + 1) (e - (f.pl + 1)) ≤ _
        rw [s1]
        show (if f.pl + 1 = 1 then 2 * (e - (f.pl + 1)) else 2 * (e - (f.pl + 1)) + 1) ≤ _
        rw [if_neg (by omega)]
        omega
      rw [hb]
      split <;> omega
    · split
      · rename_i hp1
        have : phi e (f.fall 0 e) ≤ 2 * (e - f.pl) - 1 := phi_ask fun hp => by
          have hp' : f.pl + 1 < e := hp
          show 2 * (e - (f.pl + 1)) + 1 ≤ _
          omega
        rw [hb, if_pos (by omega)]
        omega
      · rename_i hp1
        rw [phi_some (f := { f with st := 2, wt := some (f.row.getD 0 0, f.row.getD (f.pl - 1) 0) }) rfl, hb, if_neg (by omega)]
        show 2 * (e - f.pl) < _
        omega
  rw [if_neg s1]
  by_cases s2 : f.st = 2
  · rw [if_pos s2]
    have hb : ph f.st f.pl (e - f.pl) = 2 * (e - f.pl) := by rw [s2]; rfl
    unfold RF.take2
    split
    · rw [phi_none (f := f.finish 0) rfl, hb]
      omega
    · have : phi e ((f.turn 0).fall 0 e) ≤ 2 * (e - f.pl) - 1 := phi_ask fun hp => by
        have hp' : f.pl + 1 < e := hp
        show 2 * (e - (f.pl + 1)) + 1 ≤ _
        omega
      rw [hb]
      omega
  rw [if_neg s2]
  by_cases s3 : f.st = 3
  · rw [if_pos s3]
    have hb : ph f.st f.pl (e - f.pl) = 2 * (e - f.pl) + 1 := by rw [s3]; rfl
    unfold RF.take3
    split
    · have : phi e (f.turnEq.goOn 0 e) ≤ 2 * (e - f.pl) - 1 := phi_ask fun hp => by
        have hp' : f.turnEq.pl + 1 < e := hp
        rw [turnEq_pl] at hp'
        show ph f.turnEq.st (f.turnEq.pl + 1) (e - (f.turnEq.pl + 1)) ≤ _
        rw [turnEq_st, turnEq_pl, s3]
        show 2 * (e - (f.pl + 1)) + 1 ≤ _
        omega
      rw [hb]
      omega
    · rw [phi_some (f := { f with st := 4, wt := some (f.row.getD (f.pl - 1) 0, f.row.getD f.pl 0) }) rfl, hb]
      show 2 * (e - f.pl) < _
      omega
  rw [if_neg s3]
  by_cases s4 : f.st = 4
  · rw [if_pos s4]
    have hb : ph f.st f.pl (e - f.pl) = 2 * (e - f.pl) := by rw [s4]; rfl
    unfold RF.take4
    split
    · have e1 : f.rise 0 e = RF.ask 0 e { (f.turnEq.turn 0 : RF) with st := 5 } := by
        unfold RF.rise RF.askUp RF.ask
        rw [if_neg (show ¬ ({ (f.turnEq.turn 0 : RF) with st := 5 } : RF).st = 3 by show ¬ 5 = 3; decide)]
      have : phi e (f.rise 0 e) ≤ e - f.pl := by
        rw [e1]
        exact phi_ask fun hp => by
          show e - f.turnEq.pl ≤ _
          rw [turnEq_pl]
          exact Nat.le_refl _
      rw [hb]
      omega
    · have : phi e (({ f with eq := f.eq + 1, st := 3 } : RF).goOn 0 e) ≤ 2 * (e - f.pl) - 1 := phi_ask fun hp => by
        have hp' : f.pl + 1 < e := hp
        show 2 * (e - (f.pl + 1)) + 1 ≤ _
        omega
      rw [hb]
      omega
  rw [if_neg s4]
  have s5 : f.st = 5 := by omega
  have hb : ph f.st f.pl (e - f.pl) = e - f.pl := by rw [s5]; rfl
  unfold RF.take5
  split
  · rw [phi_none (f := f.finish 0) rfl, hb]
    omega
  · have : phi e (f.goOn 0 e) ≤ e - f.pl - 1 := phi_ask fun hp => by
      have hp' : f.pl + 1 < e := hp
      show ph f.st (f.pl + 1) (e - (f.pl + 1)) ≤ _
      rw [s5]
      show e - (f.pl + 1) ≤ _
      omega
    rw [hb]
    omega
/-- the step is one of the five -/
def St5 (f : RF) : Prop := 1 ≤ f.st ∧ f.st ≤ 5
theorem st5_ask {f : RF} (h : St5 f) : St5 (f.ask 0 e) := by
  unfold RF.ask
  split
  · exact h
  · split
    · unfold RF.rise RF.askUp
      split
      · exact ⟨by show 1 ≤ 5; decide, by show 5 ≤ 5; decide⟩
      · exact ⟨by show 1 ≤ 5; decide, by show 5 ≤ 5; decide⟩
    · exact h
theorem st5_rise : St5 (f.rise 0 e) := by
  unfold RF.rise RF.askUp
  split
  · exact ⟨by show 1 ≤ 5; decide, by show 5 ≤ 5; decide⟩
  · exact ⟨by show 1 ≤ 5; decide, by show 5 ≤ 5; decide⟩
theorem st5_three {f : RF} (h : f.st = 3) : St5 f := ⟨by omega, by omega⟩
theorem st5_take (h : St5 f) (b : Bool) : St5 (f.take 0 e b) := by
  unfold RF.take
  split
  · unfold RF.take1
    split
    · exact st5_ask h
    · split
      · exact st5_ask (st5_three rfl)
      · exact ⟨by show 1 ≤ 2; decide, by show 2 ≤ 5; decide⟩
  · split
    · unfold RF.take2
      split
      · exact h
      · exact st5_ask (st5_three rfl)
    · split
      · rename_i h3
        unfold RF.take3
        split
        · exact st5_ask (st5_three (by show f.turnEq.st = 3; rw [turnEq_st]; exact h3))
        · exact ⟨by show 1 ≤ 4; decide, by show 4 ≤ 5; decide⟩
      · split
        · unfold RF.take4
          split
          · exact st5_rise
          · exact st5_ask (st5_three rfl)
        · unfold RF.take5
          split
          · exact h
          · exact st5_ask h
theorem fed_st5 {size : Nat} {bs : List Bool} : ∀ k, St5 (fed size bs k)
  | 0 => st5_ask ⟨by show 1 ≤ 1; decide, by show 1 ≤ 5; decide⟩
  | k + 1 => by
    have ih := fed_st5 (size := size) (bs := bs) k
    cases h : (fed size bs k).wt with
    | none => rw [fed_end h]; exact ih
    | some q => rw [fed_next h]; exact st5_take ih _
theorem phi_zero {size : Nat} {bs : List Bool} (h : 0 < size) : phi size (fed size bs 0) ≤ 2 * (size - 1) := phi_ask fun hp => by
  show (if 0 + 1 = 1 then 2 * (size - (0 + 1)) else 2 * (size - (0 + 1)) + 1) ≤ _
  rw [if_pos rfl]
  omega
theorem fed_phi {size : Nat} (h1 : 0 < size) (h2 : size ≤ 2000) (bs : List Bool) : ∀ k, (∀ i, i < k → (fed size bs i).wt ≠ none) → k + phi size (fed size bs k) ≤ 2 * (size - 1)
  | 0, _ => by
    have := phi_zero (bs := bs) h1
    omega
  | k + 1, h => by
    have ih := fed_phi h1 h2 bs k (fun i hi => h i (by omega))
    have g := fed_good h1 h2 bs k
    cases e0 : (fed size bs k).wt with
    | none => exact absurd e0 (h k (by omega))
    | some q =>
      have := phi_take e0 g.wf.sp (g.ah (by rw [e0]; exact Option.some_ne_none _)) (fed_st5 k) (bs.getD k false)
      rw [← fed_next e0] at this
      omega
/-- at most two questions less than twice the items -/
theorem fed_few {size : Nat} (h1 : 0 < size) (h2 : size ≤ 2000) (bs : List Bool) {k : Nat} (h : ∀ i, i < k → (fed size bs i).wt ≠ none) : k ≤ 2 * (size - 1) := by
  have := fed_phi h1 h2 bs k h
  omega
/-- a run of two items, where there are two -/
def Long (e : Nat) (f : RF) : Prop := 2 ≤ f.pl ∨ (f.pl = 1 ∧ f.st = 1 ∧ f.wt ≠ none) ∨ e ≤ 1
theorem ask_pl {f : RF} : (f.ask 0 e).pl = f.pl := by
  unfold RF.ask
  split
  · rfl
  · split
    · unfold RF.rise RF.askUp
      split
      · exact turnEq_pl f
      · exact turnEq_pl f
    · rfl
theorem go_pl {f : RF} : f.pl ≤ (f.goOn 0 e).pl := by
  have e1 : (f.goOn 0 e).pl = f.pl + 1 := ask_pl
  omega
theorem fall_pl {f : RF} : f.pl ≤ (f.fall 0 e).pl := by
  have e1 : (f.fall 0 e).pl = f.pl + 1 := ask_pl
  omega
theorem take_pl (b : Bool) : f.pl ≤ (f.take 0 e b).pl := by
  unfold RF.take
  split
  · unfold RF.take1
    split
    · exact go_pl
    · split
      · exact fall_pl
      · exact Nat.le_refl _
  · split
    · unfold RF.take2
      split
      · exact Nat.le_refl _
      · exact fall_pl (f := f.turn 0)
    · split
      · unfold RF.take3
        split
        · refine Nat.le_trans (Nat.le_succ _) (Nat.le_of_eq ?_)
          have e1 : (f.turnEq.goOn 0 e).pl = f.turnEq.pl + 1 := ask_pl
          rw [e1, turnEq_pl]
        · exact Nat.le_refl _
      · split
        · unfold RF.take4
          split
          · have e1 : (f.rise 0 e).pl = f.pl := by
              unfold RF.rise RF.askUp
              split
              · exact turnEq_pl f
              · exact turnEq_pl f
            exact Nat.le_of_eq e1.symm
          · exact go_pl (f := { f with eq := f.eq + 1, st := 3 })
        · unfold RF.take5
          split
          · exact Nat.le_refl _
          · exact go_pl
theorem fed_long {size : Nat} {bs : List Bool} : ∀ k, Long size (fed size bs k)
  | 0 => by
    by_cases h : size ≤ 1
    · exact .inr (.inr h)
    · refine .inr (.inl ⟨ask_pl, ?_, ?_⟩)
      · show (RF.ask 0 size _).st = 1
        unfold RF.ask
        rw [if_pos (by show 0 + 1 < size; omega)]
      · show (RF.ask 0 size _).wt ≠ none
        unfold RF.ask
        rw [if_pos (by show 0 + 1 < size; omega)]
        exact Option.some_ne_none _
  | k + 1 => by
    have ih := fed_long (size := size) (bs := bs) k
    cases h : (fed size bs k).wt with
    | none => rw [fed_end h]; exact ih
    | some q =>
      rw [fed_next h]
      rcases ih with ih | ⟨i1, i2, _⟩ | ih
      · exact .inl (Nat.le_trans ih (take_pl _))
      · refine .inl ?_
        unfold RF.take
        rw [if_pos i2]
        unfold RF.take1
        rw [if_pos (show (fed size bs k).pl = 0 + 1 by omega)]
        split
        · have e1 : ((fed size bs k).goOn 0 size).pl = (fed size bs k).pl + 1 := ask_pl
          omega
        · have e1 : ((fed size bs k).fall 0 size).pl = (fed size bs k).pl + 1 := ask_pl
          omega
      · exact .inr (.inr ih)
theorem fed_two {size : Nat} (h1 : 0 < size) (h2 : size ≤ 2000) {bs : List Bool} {k : Nat} (h : (fed size bs k).wt = none) : min 2 size ≤ (fed size bs k).pl := by
  have g := (fed_good h1 h2 bs k).wf.sp
  rcases fed_long (size := size) (bs := bs) k with l | ⟨_, _, l⟩ | l
  · omega
  · exact absurd h l
  · omega
end RF
end L2

namespace L2
open PySem PySem.Spec PyProof.Rows
namespace RF
/-- the rows of answers of one length that lead to no end before -/
def ended (size : Nat) (bs : List Bool) : Bool := (fed size bs bs.length).wt.isNone
def openR (size : Nat) : Nat → List (List Bool)
  | 0 => [[]]
  | g + 1 => (openR size g).flatMap fun bs => if ended size bs then [] else [bs ++ [false], bs ++ [true]]
/-- the ends that have been found -/
def fnd (size : Nat) : Nat → List (List Bool)
  | 0 => []
  | g + 1 => fnd size g ++ (openR size g).filter (ended size)
def lens (size : Nat) : List Nat := (fnd size (2 * size + 1)).map List.length
def nxt (size : Nat) (bs : List Bool) : List (List Bool) := if ended size bs then [] else [bs ++ [false], bs ++ [true]]
theorem openR_mem {n : Nat} : ∀ {g : Nat} {bs : List Bool}, bs ∈ openR n g → bs.length = g ∧ ∀ i, i < g → (fed n bs i).wt ≠ none
  | 0, bs, h => by
    rw [show bs = [] from List.mem_singleton.mp h]
    exact ⟨rfl, fun i h => absurd h (Nat.not_lt_zero _)⟩
  | g + 1, bs, h => by
    obtain ⟨cs, hc, hb⟩ := List.mem_flatMap.mp h
    obtain ⟨l1, l2⟩ := openR_mem hc
    have key : ∀ b : Bool, ended n cs = false → bs = cs ++ [b] → bs.length = g + 1 ∧ ∀ i, i < g + 1 → (fed n bs i).wt ≠ none := fun b hn e => by
      subst e
      refine ⟨by rw [List.length_append, l1]; rfl, fun i hi => ?_⟩
      have ec : fed n (cs ++ [b]) i = fed n cs i := fed_congr fun x hx => by
        rw [List.getD_eq_getElem?_getD, List.getD_eq_getElem?_getD, List.getElem?_append_left (by omega)]
      rw [ec]
      by_cases e : i = g
      · unfold ended at hn
        rw [l1, ← e] at hn
        intro z
        rw [z] at hn
        cases hn
      · exact l2 i (by omega)
    by_cases hn : ended n cs = true
    · rw [if_pos hn] at hb
      cases hb
    · rw [if_neg hn] at hb
      have hn : ended n cs = false := by
        cases e : ended n cs with
        | false => rfl
        | true => exact absurd e hn
      rcases List.mem_cons.mp hb with e | hb
      · exact key false hn e
      · exact key true hn (List.mem_singleton.mp hb)
theorem openR_last {n : Nat} (z0 : 0 < n) (z1 : n ≤ 2000) : openR n (2 * n + 1) = [] := by
  cases e : openR n (2 * n + 1) with
  | nil => rfl
  | cons bs r =>
    have h : bs ∈ openR n (2 * n + 1) := by rw [e]; exact List.mem_cons_self ..
    obtain ⟨_, h2⟩ := openR_mem h
    have := fed_few z0 z1 bs h2
    omega
theorem flat_le (n : Nat) : ∀ L : List (List Bool), (L.flatMap (nxt n)).length ≤ 2 * L.length
  | [] => Nat.le_refl _
  | bs :: r => by
    have ih := flat_le n r
    rw [List.flatMap_cons, List.length_append, List.length_cons]
    have : (nxt n bs).length ≤ 2 := by
      unfold nxt
      split
      · exact Nat.zero_le _
      · exact Nat.le_refl 2
    omega
theorem openR_le (n : Nat) : ∀ g, (openR n g).length ≤ 2 ^ g
  | 0 => Nat.le_refl _
  | g + 1 => by
    have ih := openR_le n g
    have := flat_le n (openR n g)
    have e : (openR n (g + 1)).length ≤ 2 * (openR n g).length := this
    rw [Nat.pow_succ]
    omega
theorem fnd_le (n : Nat) : ∀ g, (fnd n g).length ≤ 2 ^ g
  | 0 => Nat.zero_le _
  | g + 1 => by
    have ih := fnd_le n g
    have h1 := openR_le n g
    have h2 := List.length_filter_le (ended n) (openR n g)
    show (fnd n g ++ (openR n g).filter (ended n)).length ≤ _
    rw [List.length_append, Nat.pow_succ]
    omega
end RF
/-- tuples stay -/
def TK (H H' : Hp) : Prop := ∀ t xs, H t = some (.tup xs) → H' t = some (.tup xs)
theorem TK.of {H H' : Hp} (s : Same H H') : TK H H' := fun t xs h => s _ _ h
theorem TK.trans {H H1 H2 : Hp} (a : TK H H1) (b : TK H1 H2) : TK H H2 := fun t xs h => b _ _ (a _ _ h)
theorem TK.put {H : Hp} {p : Addr} {xs ys : List V} (h : H p = some (.lst xs)) : TK H (upd H p (.lst ys)) := fun t zs ht => by
  rw [upd_ne (fun e => by rw [e, h] at ht; cases ht)]
  exact ht
/-- a list whose entries are told by a row -/
def LAt {β : Type} (R : Hp → V → β → Prop) (H : Hp) (p : Addr) (L : List β) : Prop := ∃ ts : List V, H p = some (.lst ts) ∧ ts.length = L.length ∧ ∀ (i : Nat) (v : V) (b : β), ts[i]? = some v → L[i]? = some b → R H v b
def RowT (H : Hp) (v : V) (bs : List Bool) : Prop := ∃ t, v = .ref t ∧ H t = some (.tup (bs.map V.bl))
def EndT (H : Hp) (v : V) (bs : List Bool) : Prop := ∃ t rt st, v = .ref t ∧ H t = some (.tup [.ref rt, .ref st]) ∧ H rt = some (.tup (bs.map V.bl))
theorem RowT.keep {H H' : Hp} {v : V} {bs : List Bool} (k : TK H H') (h : RowT H v bs) : RowT H' v bs := by
  obtain ⟨t, e, ht⟩ := h
  exact ⟨t, e, k _ _ ht⟩
theorem EndT.keep {H H' : Hp} {v : V} {bs : List Bool} (k : TK H H') (h : EndT H v bs) : EndT H' v bs := by
  obtain ⟨t, rt, st, e, ht, hr⟩ := h
  exact ⟨t, rt, st, e, k _ _ ht, k _ _ hr⟩
theorem LAt.keep {β : Type} {R : Hp → V → β → Prop} {H H' : Hp} {p : Addr} {L : List β} (hR : ∀ v b, R H v b → R H' v b) (hp : ∀ x, H p = some x → H' p = some x) (h : LAt R H p L) : LAt R H' p L := by
  obtain ⟨ts, h1, h2, h3⟩ := h
  exact ⟨ts, hp _ h1, h2, fun i v b e1 e2 => hR _ _ (h3 i v b e1 e2)⟩
theorem LAt.nil {β : Type} {R : Hp → V → β → Prop} {H : Hp} {p : Addr} (h : H p = some (.lst [])) : LAt R H p [] := ⟨[], h, rfl, fun i v b e => by simp at e⟩
theorem LAt.more {β : Type} {R : Hp → V → β → Prop} {H : Hp} {p : Addr} {L M : List β} {ts zs : List V} (hts : H p = some (.lst ts)) (h : LAt R H p L) (hR : ∀ v b, R H v b → R (upd H p (.lst (ts ++ zs))) v b) (hl : zs.length = M.length)
    (hz : ∀ (i : Nat) (v : V) (b : β), zs[i]? = some v → M[i]? = some b → R (upd H p (.lst (ts ++ zs))) v b) : LAt R (upd H p (.lst (ts ++ zs))) p (L ++ M) := by
  obtain ⟨ts', h1, h2, h3⟩ := h
  rw [hts] at h1
  cases h1
  refine ⟨ts ++ zs, upd_same, by rw [List.length_append, List.length_append, h2, hl], fun i v b e1 e2 => ?_⟩
  rcases Nat.lt_or_ge i ts.length with hi | hi
  · rw [List.getElem?_append_left hi] at e1
    rw [List.getElem?_append_left (by omega)] at e2
    exact hR _ _ (h3 i v b e1 e2)
  · rw [List.getElem?_append_right hi] at e1
    rw [List.getElem?_append_right (by omega), ← h2] at e2
    exact hz _ v b e1 e2
/-- the most questions, and that all ends together are one -/
def topR (n : Nat) : Nat := 2 * n - 2 - if n = 2 then 1 else 0
theorem lens_right : ∀ n, n < 7 → 0 < n → ((RF.lens n).map fun l => 2 ^ (topR n - l)).sum = 2 ^ topR n ∧ topR n ∈ RF.lens n ∧ ∀ l ∈ RF.lens n, l ≤ topR n := by decide +kernel
end L2

namespace L2
open PySem PySem.Spec PyProof.Rows
/-! ### what told_run tells, as data -/
def pD (q : Nat × Nat) : PyData := .tuple [.int (q.1 : Int), .int (q.2 : Int)]
def lnD : Option Nat → PyData
  | none => .none
  | some n => .int (n : Int)
def toldD (ln : Option Nat) (row : List Nat) (qs : List (Nat × Nat)) : PyData := .tuple [lnD ln, .list ((row.map fun (i : Nat) => (i : Int)).map PyData.int), .list (qs.map pD)]
theorem canLay_pairs : ∀ qs : List (Nat × Nat), PyData.canLayAll0 (qs.map pD) = true
  | [] => rfl
  | q :: r => by
    show (PyData.canLay0 (pD q) && PyData.canLayAll0 (r.map pD)) = true
    rw [canLay_pairs r]
    rfl
theorem depth_pairs : ∀ qs : List (Nat × Nat), PyData.depthAll (qs.map pD) ≤ 1
  | [] => Nat.zero_le _
  | q :: r => by
    show max (PyData.depth (pD q)) (PyData.depthAll (r.map pD)) ≤ 1
    have h1 : PyData.depth (pD q) = 1 := rfl
    have h2 := depth_pairs r
    omega
theorem shaped_told (ln : Option Nat) (row : List Nat) (qs : List (Nat × Nat)) : SeqAt.shaped (toldD ln row qs) = true := by
  unfold SeqAt.shaped
  rw [Bool.and_eq_true]
  constructor
  · show (PyData.canLay0 (lnD ln) && (PyData.canLayAll0 ((row.map fun (i : Nat) => (i : Int)).map PyData.int) && (PyData.canLayAll0 (qs.map pD) && true))) = true
    rw [canLay_ints, canLay_pairs]
    cases ln <;> rfl
  · refine decide_eq_true ?_
    show max (PyData.depth (lnD ln)) (max (PyData.depthAll ((row.map fun (i : Nat) => (i : Int)).map PyData.int) + 1) (max (PyData.depthAll (qs.map pD) + 1) 0)) + 1 ≤ 64
    have h1 : PyData.depth (lnD ln) = 0 := by cases ln <;> rfl
    have h2 := depth_pairs qs
    rw [depth_ints, h1]
    omega
theorem eqv_told (ln : Option Nat) (row : List Nat) (qs : List (Nat × Nat)) : PyData.eqv (toldD ln row qs) (toldD ln row qs) = true := SeqAt.eqv_refl _ (SeqAt.canLay_of_shaped (shaped_told ln row qs))
theorem dpAll_pairs {K : PySem.W.Frag} {H : Hp} : ∀ {ts : List V} {qs : List (Nat × Nat)}, ts.length = qs.length → (∀ (i : Nat) (v : V) (q : Nat × Nat), ts[i]? = some v → qs[i]? = some q → PairAt H v q) → DpAll K H ts (qs.map pD)
  | [], [], _, _ => .nil
  | v :: ts, q :: qs, hl, h => by
    obtain ⟨t, e, ht⟩ := h 0 v q rfl rfl
    subst e
    refine .cons (.tup (L2.st_of ht) (.cons (.int _) (.cons (.int _) .nil))) (dpAll_pairs (by simpa using hl) fun i v' q' h1 h2 => h (i + 1) v' q' h1 h2)
theorem dp_told {K : PySem.W.Frag} {H : Hp} {t r l : Addr} {ln : Option Nat} {row : List Nat} {qs : List (Nat × Nat)} (ht : H t = some (.tup [lenV ln, .ref r, .ref l])) (hr : H r = some (.lst (nV row))) (hq : QAt H l qs) : Dp K H (.ref t) (toldD ln row qs) := by
  obtain ⟨ts, h1, h2, h3⟩ := hq
  refine .tup (L2.st_of ht) (.cons ?_ (.cons ?_ (.cons (.lst (L2.sq_of h1) (dpAll_pairs h2 h3)) .nil)))
  · cases ln with
    | none => exact .non
    | some n => exact .int _
  · exact dp_ints (by rw [← nV_map]; exact L2.sq_of hr)
/-- a sorted row of the same ints is one -/
theorem sorted_one : ∀ {a b : List Int}, a.Perm b → a.Pairwise (· ≤ ·) → b.Pairwise (· ≤ ·) → a = b
  | [], b, p, _, _ => (List.nil_perm.mp p).symm
  | x :: a, b, p, ha, hb => by
    cases b with
    | nil => exact absurd p.length_eq (by simp)
    | cons y b =>
      have ha' := List.pairwise_cons.mp ha
      have hb' := List.pairwise_cons.mp hb
      have e : x = y := by
        have h1 : x ∈ y :: b := p.mem_iff.mp List.mem_cons_self
        have h2 : y ∈ x :: a := p.mem_iff.mpr List.mem_cons_self
        rcases List.mem_cons.mp h1 with h1 | h1
        · exact h1
        · rcases List.mem_cons.mp h2 with h2 | h2
          · exact h2.symm
          · have := hb'.1 x h1
            have := ha'.1 y h2
            omega
      subst e
      rw [sorted_one (List.perm_cons x |>.mp p) ha'.2 hb'.2]
theorem range_sorted (n : Nat) : ((List.range n).map fun (i : Nat) => (i : Int)).Pairwise (· ≤ ·) := by
  rw [List.pairwise_map]
  exact List.Pairwise.imp (fun h => by omega) (List.pairwise_lt_range (n := n))
end L2

/-! runs by honest answers: what stands behind one -/
namespace L2
open PySem PySem.Spec PyProof.Rows
namespace RF
def gt (f : RF) (i : Nat) : Nat := f.row.getD i 0
theorem turned_get {row : List Nat} {lo hi : Nat} (h : lo ≤ hi) (h2 : hi ≤ row.length) (i : Nat) : (turned row lo hi).getD i 0 = if lo ≤ i ∧ i < hi then row.getD (lo + hi - 1 - i) 0 else row.getD i 0 := by
  have l1 : (row.take lo).length = lo := by rw [List.length_take]; omega
  have l2 : (((row.drop lo).take (hi - lo)).reverse).length = hi - lo := by rw [List.length_reverse, List.length_take, List.length_drop]; omega
  unfold turned
  simp only [List.getD_eq_getElem?_getD]
  rw [List.append_assoc]
  rcases Nat.lt_or_ge i lo with c | c
  · rw [if_neg (by omega), List.getElem?_append_left (by omega), List.getElem?_take, if_pos c]
  · rw [List.getElem?_append_right (by omega), l1]
    rcases Nat.lt_or_ge i hi with d | d
    · rw [if_pos ⟨c, d⟩, List.getElem?_append_left (by omega), List.getElem?_reverse (by rw [List.length_reverse] at l2; omega)]
      rw [List.length_reverse] at l2
      rw [l2, List.getElem?_take, if_pos (by omega), List.getElem?_drop]
      congr 2
      omega
    · rw [if_neg (by omega), List.getElem?_append_right (by omega), l2, List.getElem?_drop]
      congr 2
      omega
theorem turn_gt {f : RF} {lo : Nat} (h : lo ≤ f.pl) (h2 : f.pl ≤ f.row.length) (i : Nat) : (f.turn lo).gt i = if lo ≤ i ∧ i < f.pl then f.gt (lo + f.pl - 1 - i) else f.gt i := turned_get h h2 i
section
variable {K : Nat → Int} {n : Nat}
/-- sorted up to the place, untouched from there on -/
structure Up (K : Nat → Int) (n : Nat) (f : RF) : Prop where
  len : f.row.length = n
  p0 : 0 < f.pl
  pn : f.pl ≤ n
  srt : ∀ i j, i < j → j < f.pl → Lx K (f.gt i) (f.gt j)
  raw : ∀ i, f.pl ≤ i → i < n → f.gt i = i
  low : ∀ i, i < f.pl → f.gt i < f.pl
/-- falling up to b, then equal ones -/
structure Dn' (K : Nat → Int) (n : Nat) (f : RF) (b : Nat) : Prop where
  len : f.row.length = n
  pn : f.pl ≤ n
  be : b + f.eq + 1 = f.pl
  srt : ∀ i j, i < j → j < b → Lx K (f.gt j) (f.gt i)
  low : ∀ i, i < b → f.gt i < b ∧ K b < K (f.gt i)
  raw : ∀ i, b ≤ i → i < n → f.gt i = i
  same : ∀ i, b ≤ i → i < f.pl → K i = K b
/-- what holds between the honest steps -/
def Hon (K : Nat → Int) (n : Nat) (f : RF) : Prop :=
  (f.wt = none ∧ Up K n f ∧ f.ln = some f.pl ∧ (f.pl = n ∨ K f.pl < K (f.gt (f.pl - 1)))) ∨
  (f.st = 1 ∧ Up K n f ∧ f.pl < n ∧ f.eq = 0 ∧ (∀ i, i < n → f.gt i = i) ∧ f.wt = some (f.pl, f.pl - 1)) ∨
  (f.st = 2 ∧ Up K n f ∧ f.pl < n ∧ 1 < f.pl ∧ f.eq = 0 ∧ (∀ i, i < n → f.gt i = i) ∧ f.wt = some (0, f.pl - 1) ∧ K f.pl < K (f.pl - 1)) ∨
  (f.st = 3 ∧ (∃ b, Dn' K n f b) ∧ f.pl < n ∧ f.wt = some (f.pl, f.pl - 1)) ∨
  (f.st = 4 ∧ (∃ b, Dn' K n f b) ∧ f.pl < n ∧ f.wt = some (f.pl - 1, f.pl) ∧ ¬ K f.pl < K (f.pl - 1)) ∨
  (f.st = 5 ∧ Up K n f ∧ f.pl < n ∧ f.wt = some (f.pl, f.gt (f.pl - 1)))
theorem hon_up {f : RF} (u : Up K n f) (h5 : f.st = 5) : Hon K n (f.askUp 0 n) := by
  unfold askUp
  by_cases c : f.pl < n
  · rw [if_pos c]
    refine .inr (.inr (.inr (.inr (.inr ⟨h5, ⟨u.len, u.p0, u.pn, u.srt, u.raw, u.low⟩, c, ?_⟩))))
    show some (f.gt f.pl, f.gt (f.pl - 1)) = _
    rw [u.raw f.pl (Nat.le_refl _) c]
    rfl
  · rw [if_neg c]
    refine .inl ⟨rfl, ⟨u.len, u.p0, u.pn, u.srt, u.raw, u.low⟩, rfl, .inl ?_⟩
    have := u.pn
    show f.pl = n
    omega
theorem turnEq_gt {f : RF} {b : Nat} (v : Dn' K n f b) (i : Nat) : f.turnEq.gt i = if b ≤ i ∧ i < f.pl then b + f.pl - 1 - i else f.gt i := by
  have be := v.be
  have pn := v.pn
  have len := v.len
  unfold turnEq
  by_cases c : 0 < f.eq
  · rw [if_pos c]
    show (f.turn (f.pl - f.eq - 1)).gt i = _
    rw [turn_gt (by omega) (by omega), show f.pl - f.eq - 1 = b by omega]
    by_cases d : b ≤ i ∧ i < f.pl
    · rw [if_pos d, if_pos d]
      exact v.raw _ (by omega) (by omega)
    · rw [if_neg d, if_neg d]
  · rw [if_neg c]
    by_cases d : b ≤ i ∧ i < f.pl
    · rw [if_pos d, v.raw i d.1 (by omega)]
      omega
    · rw [if_neg d]
theorem turnEq_len {f : RF} {b : Nat} (v : Dn' K n f b) : f.turnEq.row.length = n := by
  have be := v.be
  have pn := v.pn
  have len := v.len
  unfold turnEq
  by_cases c : 0 < f.eq
  · rw [if_pos c]
    show (turned f.row (f.pl - f.eq - 1) f.pl).length = n
    rw [turned_len (by omega) (by omega)]
    exact len
  · rw [if_neg c]
    exact len
theorem hon_rise {f : RF} {b : Nat} (v : Dn' K n f b) : Hon K n (f.rise 0 n) := by
  have be := v.be
  have pn := v.pn
  have l1 := turnEq_len v
  have p1 := turnEq_pl f
  have l2 : (f.turnEq.turn 0).row.length = n := by
    show (turned f.turnEq.row 0 f.turnEq.pl).length = n
    rw [turned_len (Nat.zero_le _) (by omega)]
    exact l1
  have g2 : ∀ i, (f.turnEq.turn 0).gt i = if i < f.pl then (if b ≤ f.pl - 1 - i then b + i else f.gt (f.pl - 1 - i)) else f.gt i := by
    intro i
    rw [turn_gt (Nat.zero_le _) (by omega), p1]
    by_cases c : i < f.pl
    · rw [if_pos ⟨Nat.zero_le _, c⟩, if_pos c, turnEq_gt v, show 0 + f.pl - 1 - i = f.pl - 1 - i by omega]
      by_cases d : b ≤ f.pl - 1 - i
      · rw [if_pos ⟨d, by omega⟩, if_pos d]
        omega
      · rw [if_neg (by omega), if_neg d]
    · rw [if_neg (by omega), if_neg c, turnEq_gt v, if_neg (by omega)]
  refine hon_up (f := { (turnEq f).turn 0 with st := 5 }) ⟨l2, ?_, ?_, ?_, ?_, ?_⟩ rfl
  · show 0 < f.turnEq.pl
    omega
  · show f.turnEq.pl ≤ n
    omega
  · intro i j hij hj
    have hj : j < f.turnEq.pl := hj
    rw [p1] at hj
    show Lx K ((f.turnEq.turn 0).gt i) ((f.turnEq.turn 0).gt j)
    rw [g2, g2, if_pos (by omega), if_pos hj]
    by_cases c : b ≤ f.pl - 1 - j
    · rw [if_pos (by omega), if_pos c]
      have e1 := v.same (b + i) (by omega) (by omega)
      have e2 := v.same (b + j) (by omega) (by omega)
      unfold Lx
      omega
    · rw [if_neg c]
      by_cases d : b ≤ f.pl - 1 - i
      · rw [if_pos d]
        have e1 := v.same (b + i) (by omega) (by omega)
        have e2 := (v.low (f.pl - 1 - j) (by omega)).2
        unfold Lx
        omega
      · rw [if_neg d]
        exact v.srt _ _ (by omega) (by omega)
  · intro i hi hn
    have hi : f.turnEq.pl ≤ i := hi
    rw [p1] at hi
    show (f.turnEq.turn 0).gt i = i
    rw [g2, if_neg (by omega)]
    exact v.raw i (by omega) hn
  · intro i hi
    have hi : i < f.turnEq.pl := hi
    rw [p1] at hi
    show (f.turnEq.turn 0).gt i < f.turnEq.pl
    rw [g2, if_pos hi, p1]
    by_cases c : b ≤ f.pl - 1 - i
    · rw [if_pos c]
      omega
    · rw [if_neg c]
      have := (v.low (f.pl - 1 - i) (by omega)).1
      omega
theorem hon_ask3 {f : RF} {b : Nat} (v : Dn' K n f b) (h3 : f.st = 3) : Hon K n (f.ask 0 n) := by
  have be := v.be
  have pn := v.pn
  unfold ask
  by_cases c : f.pl < n
  · rw [if_pos c]
    refine .inr (.inr (.inr (.inl ⟨h3, ⟨b, ⟨v.len, v.pn, v.be, v.srt, v.low, v.raw, v.same⟩⟩, c, ?_⟩)))
    show some (f.gt f.pl, f.gt (f.pl - 1)) = _
    rw [v.raw f.pl (by omega) c, v.raw (f.pl - 1) (by omega) (by omega)]
  · rw [if_neg c, if_pos h3]
    exact hon_rise v
theorem hon_ask1 {f : RF} (u : Up K n f) (h1 : f.st = 1) (e0 : f.eq = 0) (rw_ : ∀ i, i < n → f.gt i = i) : Hon K n (f.ask 0 n) := by
  have p0 := u.p0
  unfold ask
  by_cases c : f.pl < n
  · rw [if_pos c]
    refine .inr (.inl ⟨h1, ⟨u.len, u.p0, u.pn, u.srt, u.raw, u.low⟩, c, e0, rw_, ?_⟩)
    show some (f.gt f.pl, f.gt (f.pl - 1)) = _
    rw [rw_ f.pl c, rw_ (f.pl - 1) (by omega)]
  · rw [if_neg c, if_neg (by omega)]
    refine .inl ⟨rfl, ⟨u.len, u.p0, u.pn, u.srt, u.raw, u.low⟩, rfl, .inl ?_⟩
    have := u.pn
    show f.pl = n
    omega
theorem hon_ask5 {f : RF} (u : Up K n f) (h5 : f.st = 5) : Hon K n (f.ask 0 n) := by
  have := hon_up u h5
  unfold ask
  unfold askUp at this
  by_cases c : f.pl < n
  · rw [if_pos c] at this ⊢
    exact this
  · rw [if_neg c] at this ⊢
    rw [if_neg (by omega)]
    exact this
/-- one more that is not less -/
theorem up_more {f : RF} (u : Up K n f) (c : f.pl < n) (h : ¬ K f.pl < K (f.gt (f.pl - 1))) : Up K n { f with pl := f.pl + 1 } := by
  have p0 := u.p0
  refine ⟨u.len, Nat.succ_pos _, c, fun i j hij hj => ?_, fun i hi hn => u.raw i (Nat.le_of_succ_le hi) hn, fun i hi => ?_⟩
  · have hj : j < f.pl + 1 := hj
    show Lx K (f.gt i) (f.gt j)
    by_cases d : j < f.pl
    · exact u.srt i j hij d
    · have e : j = f.pl := by omega
      rw [e, u.raw f.pl (Nat.le_refl _) c]
      have l := u.low i (by omega)
      by_cases d2 : i = f.pl - 1
      · rw [d2] at l ⊢
        unfold Lx
        omega
      · have := u.srt i (f.pl - 1) (by omega) (by omega)
        unfold Lx at *
        omega
  · have hi : i < f.pl + 1 := hi
    show f.gt i < f.pl + 1
    by_cases d : i < f.pl
    · have := u.low i d
      omega
    · have e : i = f.pl := by omega
      rw [e, u.raw f.pl (Nat.le_refl _) c]
      omega
theorem hon_init (h : 0 < n) : Hon K n (RF.init (List.range n) 0 n) := by
  have g : ∀ i, i < n → (List.range n).getD i 0 = i := fun i hi => by
    rw [List.getD_eq_getElem?_getD, List.getElem?_range hi]
    rfl
  unfold init
  refine hon_ask1 (f := { row := List.range n, pl := 0 + 1, eq := 0, st := 1, wt := none, ln := none }) ⟨List.length_range, Nat.succ_pos _, h, fun i j h1 h2 => ?_, fun i _ hi => g i hi, fun i hi => ?_⟩ rfl rfl g
  · have h2 : j < 0 + 1 := h2
    omega
  · have hi : i < 0 + 1 := hi
    have e : i = 0 := by omega
    subst e
    show (List.range n).getD 0 0 < 0 + 1
    rw [g 0 h]
    omega
theorem hon_take {f : RF} {q : Nat × Nat} (v : Hon K n f) (hq : f.wt = some q) : Hon K n (f.take 0 n (decide (K q.1 < K q.2))) := by
  rcases v with ⟨h, _⟩ | ⟨h1, u, c, e0, rw_, hw⟩ | ⟨h2, u, c, p1, e0, rw_, hw, kl⟩ | ⟨h3, ⟨b, v⟩, c, hw⟩ | ⟨h4, ⟨b, v⟩, c, hw, kl⟩ | ⟨h5, u, c, hw⟩
  · rw [h] at hq
    cases hq
  · rw [hw] at hq
    obtain rfl := Option.some.inj hq
    have p0 := u.p0
    unfold take
    rw [if_pos h1]
    unfold take1
    by_cases k : K f.pl < K (f.pl - 1)
    · rw [decide_eq_true k, if_neg Bool.noConfusion]
      by_cases p1 : f.pl = 0 + 1
      · rw [if_pos p1]
        unfold fall goOn
        have p1 : f.pl = 1 := p1
        rw [p1] at k c
        refine hon_ask3 (b := 1) ⟨u.len, ?_, ?_, ?_, ?_, ?_, ?_⟩ rfl
        · show f.pl + 1 ≤ n
          omega
        · show 1 + f.eq + 1 = f.pl + 1
          omega
        · intro i j h1 h2
          omega
        · intro i hi
          have e : i = 0 := by omega
          subst e
          show f.gt 0 < 1 ∧ K 1 < K (f.gt 0)
          rw [rw_ 0 (by omega)]
          exact ⟨by omega, k⟩
        · intro i _ hi
          exact rw_ i hi
        · intro i h1 h2
          have h2 : i < f.pl + 1 := h2
          rw [show i = 1 by omega]
      · rw [if_neg p1]
        refine .inr (.inr (.inl ⟨rfl, ⟨u.len, u.p0, u.pn, u.srt, u.raw, u.low⟩, c, by show 1 < f.pl; omega, e0, rw_, ?_, k⟩))
        show some (f.gt 0, f.gt (f.pl - 1)) = _
        rw [rw_ 0 (by omega), rw_ (f.pl - 1) (by omega)]
    · rw [decide_eq_false k, if_pos rfl]
      unfold goOn
      refine hon_ask1 (up_more u c ?_) h1 e0 rw_
      rw [rw_ (f.pl - 1) (by omega)]
      exact k
  · rw [hw] at hq
    obtain rfl := Option.some.inj hq
    have p0 := u.p0
    unfold take
    rw [if_neg (by omega), if_pos h2]
    unfold take2
    by_cases k : K 0 < K (f.pl - 1)
    · rw [decide_eq_true k, if_pos rfl]
      refine .inl ⟨rfl, ⟨u.len, u.p0, u.pn, u.srt, u.raw, u.low⟩, rfl, .inr ?_⟩
      show K f.pl < K (f.gt (f.pl - 1))
      rw [rw_ (f.pl - 1) (by omega)]
      exact kl
    · rw [decide_eq_false k, if_neg Bool.noConfusion]
      unfold fall goOn
      have all : ∀ i, i < f.pl → K i = K (f.pl - 1) := fun i hi => by
        have a1 : i = 0 ∨ K 0 ≤ K i := by
          by_cases z : i = 0
          · exact .inl z
          · have := u.srt 0 i (by omega) hi
            rw [rw_ 0 (by omega), rw_ i (by omega)] at this
            unfold Lx at this
            omega
        have a2 : i = f.pl - 1 ∨ K i ≤ K (f.pl - 1) := by
          by_cases z : i = f.pl - 1
          · exact .inl z
          · have := u.srt i (f.pl - 1) (by omega) (by omega)
            rw [rw_ i (by omega), rw_ (f.pl - 1) (by omega)] at this
            unfold Lx at this
            omega
        rcases a1 with rfl | a1
        · rcases a2 with z | a2
          · rw [← z]
          · omega
        · rcases a2 with z | a2
          · rw [z]
          · omega
      have len := u.len
      have gT : ∀ i, (f.turn 0).gt i = if i < f.pl then f.pl - 1 - i else f.gt i := fun i => by
        rw [turn_gt (Nat.zero_le _) (by omega)]
        by_cases d : i < f.pl
        · rw [if_pos ⟨Nat.zero_le _, d⟩, if_pos d, show 0 + f.pl - 1 - i = f.pl - 1 - i by omega]
          exact rw_ _ (by omega)
        · rw [if_neg (by omega), if_neg d]
      refine hon_ask3 (b := f.pl) ⟨?_, ?_, ?_, ?_, ?_, ?_, ?_⟩ rfl
      · show (turned f.row 0 f.pl).length = n
        rw [turned_len (Nat.zero_le _) (by omega)]
        exact len
      · show f.pl + 1 ≤ n
        omega
      · show f.pl + f.eq + 1 = f.pl + 1
        omega
      · intro i j hij hj
        show Lx K ((f.turn 0).gt j) ((f.turn 0).gt i)
        rw [gT, gT, if_pos hj, if_pos (by omega)]
        have e1 := all (f.pl - 1 - i) (by omega)
        have e2 := all (f.pl - 1 - j) (by omega)
        unfold Lx
        omega
      · intro i hi
        show (f.turn 0).gt i < f.pl ∧ K f.pl < K ((f.turn 0).gt i)
        rw [gT, if_pos hi]
        have e1 := all (f.pl - 1 - i) (by omega)
        exact ⟨by omega, by omega⟩
      · intro i hi hn
        show (f.turn 0).gt i = i
        rw [gT, if_neg (by omega)]
        exact rw_ i hn
      · intro i h1 h2
        have h2 : i < f.pl + 1 := h2
        rw [show i = f.pl by omega]
  · rw [hw] at hq
    obtain rfl := Option.some.inj hq
    have be := v.be
    unfold take
    rw [if_neg (by omega), if_neg (by omega), if_pos h3]
    unfold take3
    have kb := v.same (f.pl - 1) (by omega) (by omega)
    by_cases k : K f.pl < K (f.pl - 1)
    · rw [decide_eq_true k, if_pos rfl]
      unfold goOn
      have p1 := turnEq_pl f
      have gE := turnEq_gt v
      have e0 : f.turnEq.eq = 0 := by
        unfold turnEq
        by_cases d : 0 < f.eq
        · rw [if_pos d]
        · rw [if_neg d]
          omega
      refine hon_ask3 (b := f.pl) ⟨turnEq_len v, ?_, ?_, ?_, ?_, ?_, ?_⟩ ?_
      · show f.turnEq.pl + 1 ≤ n
        omega
      · show f.pl + f.turnEq.eq + 1 = f.turnEq.pl + 1
        omega
      · intro i j hij hj
        show Lx K (f.turnEq.gt j) (f.turnEq.gt i)
        rw [gE, gE]
        by_cases d : b ≤ i
        · rw [if_pos ⟨by omega, by omega⟩, if_pos ⟨d, by omega⟩]
          have e1 := v.same (b + f.pl - 1 - i) (by omega) (by omega)
          have e2 := v.same (b + f.pl - 1 - j) (by omega) (by omega)
          unfold Lx
          omega
        · rw [if_neg (c := b ≤ i ∧ i < f.pl) (by omega)]
          by_cases d2 : b ≤ j
          · rw [if_pos ⟨d2, hj⟩]
            have e2 := v.same (b + f.pl - 1 - j) (by omega) (by omega)
            have e3 := (v.low i (by omega)).2
            unfold Lx
            omega
          · rw [if_neg (by omega)]
            exact v.srt i j hij (by omega)
      · intro i hi
        show f.turnEq.gt i < f.pl ∧ K f.pl < K (f.turnEq.gt i)
        rw [gE]
        by_cases d : b ≤ i
        · rw [if_pos ⟨d, hi⟩]
          have e1 := v.same (b + f.pl - 1 - i) (by omega) (by omega)
          exact ⟨by omega, by omega⟩
        · rw [if_neg (by omega)]
          have e1 := v.low i (by omega)
          exact ⟨by omega, by omega⟩
      · intro i hi hn
        show f.turnEq.gt i = i
        rw [gE, if_neg (by omega)]
        exact v.raw i (by omega) hn
      · intro i a1 a2
        have a2 : i < f.turnEq.pl + 1 := a2
        rw [show i = f.pl by omega]
      · show f.turnEq.st = 3
        rw [turnEq_st]
        exact h3
    · rw [decide_eq_false k, if_neg Bool.noConfusion]
      refine .inr (.inr (.inr (.inr (.inl ⟨rfl, ⟨b, ⟨v.len, v.pn, v.be, v.srt, v.low, v.raw, v.same⟩⟩, c, ?_, k⟩))))
      show some (f.gt (f.pl - 1), f.gt f.pl) = _
      rw [v.raw f.pl (by omega) c, v.raw (f.pl - 1) (by omega) (by omega)]
  · rw [hw] at hq
    obtain rfl := Option.some.inj hq
    have be := v.be
    unfold take
    rw [if_neg (by omega), if_neg (by omega), if_neg (by omega), if_pos h4]
    unfold take4
    have kb := v.same (f.pl - 1) (by omega) (by omega)
    by_cases k : K (f.pl - 1) < K f.pl
    · rw [decide_eq_true k, if_pos rfl]
      exact hon_rise v
    · rw [decide_eq_false k, if_neg Bool.noConfusion]
      unfold goOn
      refine hon_ask3 (b := b) ⟨v.len, ?_, ?_, v.srt, v.low, v.raw, ?_⟩ rfl
      · show f.pl + 1 ≤ n
        omega
      · show b + (f.eq + 1) + 1 = f.pl + 1
        omega
      · intro i a1 a2
        have a2 : i < f.pl + 1 := a2
        by_cases d : i < f.pl
        · exact v.same i a1 d
        · rw [show i = f.pl by omega]
          omega
  · rw [hw] at hq
    obtain rfl := Option.some.inj hq
    unfold take
    rw [if_neg (by omega), if_neg (by omega), if_neg (by omega), if_neg (by omega)]
    unfold take5
    by_cases k : K f.pl < K (f.gt (f.pl - 1))
    · rw [decide_eq_true k, if_pos rfl]
      exact .inl ⟨rfl, ⟨u.len, u.p0, u.pn, u.srt, u.raw, u.low⟩, rfl, .inr k⟩
    · rw [decide_eq_false k, if_neg Bool.noConfusion]
      unfold goOn
      exact hon_ask5 (up_more u c k) h5
theorem hon_stps {ls : Nat × Nat → Bool} (h : 0 < n) (hl : ∀ q, ls q = decide (K q.1 < K q.2)) : ∀ k, Hon K n ((RF.init (List.range n) 0 n).stps ls 0 n k)
  | 0 => hon_init h
  | k + 1 => by
    have ih := hon_stps h hl k
    cases hw : ((RF.init (List.range n) 0 n).stps ls 0 n k).wt with
    | none =>
      rw [stps_end hw]
      exact ih
    | some q =>
      rw [stps_next hw, hl q]
      exact hon_take ih hw
end
end RF
end L2

namespace L2
open PySem PySem.Spec PyProof.Rows
/-- len, said of one K (for a comprehension) -/
def rLenK (K : PySem.W.Frag) : List V → Hp → VK → Prop := fun xs H Q => ∃ p ys, xs = [.ref p] ∧ (SqL K H p ys ∨ SqT K H p ys) ∧ Q (.int ys.length) H
end L2

/-! a comprehension over zip of two lists that are equally long -/
namespace L2
open PySem PySem.Spec PyProof.Rows
theorem lc_zip2 {K : PySem.W.Frag} {a b : Addr} {xs ys : List V} {g : TG} {tt : TT} {te : TE} {vs : List Nat} {σ : L2.St} {H1 : Hp} {D : Addr} {Qd : Hp → Prop} (le : xs.length = ys.length) (Pv : Nat → Hp → Prop) (h0 : Pv 0 (upd H1 D (.lst []))) (hl : ∀ i H, Pv i H → SqL K H a xs ∧ SqL K H b ys)
    (hs : ∀ i x y H T, xs[i]? = some x → ys[i]? = some y → Pv i H → H T = none → g (.ref T) (wipe σ vs) (upd H T (.tup [x, y])) fun σ2 H2 => wipe σ2 vs = wipe σ vs ∧ tt σ2 H2 fun c H3 =>
      if c = true then te σ2 H3 fun y H4 => ∃ acc, H4 D = some (.lst acc) ∧ acc.length < sizeLine ∧ Pv (i + 1) (upd H4 D (.lst (acc ++ [y]))) else Pv (i + 1) H3) (hd : ∀ H, Pv xs.length H → Qd H) :
    ∃ W : Nat → Nat → Hp → Prop, (∃ m, W 0 m (upd H1 D (.lst []))) ∧ ∀ i m H, W i m H →
      ((Itz K a b).stop i H ∧ Qd H) ∨ ((Itz K a b).go i H ∧ ∃ Nx : Hp → Prop, (∀ H', Nx H' → ∃ m', m' < m ∧ W (i + 1) m' H') ∧ ∀ x H', (Itz K a b).yld i H x H' → g x (wipe σ vs) H' fun σ2 H2 => wipe σ2 vs = wipe σ vs ∧ tt σ2 H2 fun c H3 =>
        if c = true then te σ2 H3 fun y H4 => ∃ acc, H4 D = some (.lst acc) ∧ acc.length < sizeLine ∧ Nx (upd H4 D (.lst (acc ++ [y]))) else Nx H3) := by
  refine ⟨fun i m H => m = xs.length - i ∧ i ≤ xs.length ∧ Pv i H, ⟨xs.length, by simp, Nat.zero_le _, h0⟩, ?_⟩
  rintro i m H ⟨rfl, hi, p⟩
  obtain ⟨qa, qb⟩ := hl i H p
  by_cases hlt : i < xs.length
  · refine .inr ⟨⟨xs, ys, xs[i], ys[i], qa, qb, by simp [hlt], by simp [← le, hlt]⟩, Pv (i + 1), fun H' p' => ⟨xs.length - (i + 1), by omega, rfl, hlt, p'⟩, fun x H' y => ?_⟩
    obtain ⟨T, u, v, e, nT, eH, f, f2⟩ := y
    subst e eH
    exact hs i u v _ T (f xs qa) (f2 ys qb) p nT
  · have e : i = xs.length := by omega
    subst e
    exact .inl ⟨⟨xs, ys, qa, qb, .inl (Nat.le_refl _)⟩, hd H p⟩
end L2

/-! sorted(xs, key=lambda x: g[x]), g a list of ints that is captured -/
namespace L2
open PySem PySem.Spec PyProof.Rows PySem.W LamX
section
variable {prog : Program} {w : World} {A : Around} {s : Shared}
/-- the lambda called with an index: it gives the item, and the heap only grows -/
theorem lam_key {qual : Str} {params : Arguments} {scope : Scope} {cl : List (Str × Addr)} {pm ctv : Value} {f c' c p : Addr} {g x : Str} {xp gp pos : Pos} {its : List Value} {i : Nat} {n : Int} {t t2 : Tok}
    (hroom : A.depth < recursionLimit) (lim : s.heap.NoLimit)
    (of1 : s.heap.get? f = some (kla_obj "<lambda>" qual params (.Subscript (.Name g gp) (.Name x xp) pos) scope cl pm c' ctv)) (hcd : s.heap.CodeRec (.ref c') qual)
    (hbind : ∀ v : Value, bindArgs (kla_fn "<lambda>" qual params (.Subscript (.Name g gp) (.Name x xp) pos) scope cl pm (.ref c') ctv) ⟨[v], []⟩ = pure [(x, v)])
    (hk : scope.kind = .function) (hco : scope.isCoroutine = false) (hgen : scope.isGenerator = false) (hcell : ∀ y ∈ scope.names, y.2 ≠ .cell) (hx : scope.names.lookup x = some .local) (hg : scope.names.lookup g = some .free)
    (hc : cl.lookup g = some c) (hcc : s.heap.IsCell c (some (.ref p))) (hl : s.heap.IsList p its.toArray) (hi : its[i]? = some (.int n t2))
    (hsz : its.length ≤ sizeLine)
    (d1 : (x == ("__debug__" : Str)) = false) (d2 : (g == ("__debug__" : Str)) = false) (d3 : (g == ("__classdict__" : Str)) = false) :
    wpAny (model prog w) A (call (.ref f) [.int (i : Int) t]) (KeyPure (.int n) s) (fun _ _ => False) s := by
  refine wpAny_call ?_
  refine kla_callFunE hroom of1 rfl hco hgen rfl hcd ?_
  rw [hbind]
  refine wpAny_pure (wpAny_newFunctionEnv hcell (fun y hy => by rw [List.mem_singleton.mp hy]; exact hx) (fun h₁ hns hsb => ⟨lim.fresh _ hsb, ?_⟩) hk)
  show codeAny _ _ (.expr _ (envX qual scope s.heap.objs.size f (.ref c') cl)) _ _
  have kp : ∀ b o, s.heap.get? b = some o → h₁.get? b = some o := fun b o e => hsb.extBut b o (Nat.ne_of_lt (Heap.lt_size e)) (Heap.get?_push_of_some _ e)
  have hcc1 : h₁.IsCell c (some (.ref p)) := by
    obtain ⟨o, ho, hd⟩ := hcc
    exact ⟨o, kp _ _ ho, hd⟩
  have hl1 : h₁.IsList p its.toArray := by
    obtain ⟨o, ho, hd⟩ := hl
    exact ⟨o, kp _ _ ho, hd⟩
  refine kla_codeExpr ?_
  refine PySem.wpAny_Subscript_Name (T := "list") slot_list_getitem.lookup ?_
  refine wpAny_Name (wpAny_loadName_free (c := c) (v := .ref p) hk hg hc hcc1 ?_ d3) d2
  refine wpAny_Name (wpAny_loadName_local (m := fun y => ([(x, Value.int (i : Int) t)]).reverse.lookup y) hk hx hns (v := .int (i : Int) t) ?_ ?_) d1
  · show List.lookup x [(x, _)] = _
    simp [List.lookup]
  have li : i < its.length := (List.getElem?_eq_some_iff.mp hi).1
  have h63 := line63
  refine ⟨hl1.typeIs, getItem_listL hl1 (by omega) (by omega) (by rw [Int.toNat_natCast]; exact hi) ⟨h₁, _, rfl, kp, Reads.int _ _⟩⟩
end
theorem key_each : ∀ {us : List Value} {ns : List Int}, IntsAre us ns → EachIs (fun v a => ∃ t, v = Value.int a t) us ns
  | _, _, .nil => .nil
  | _, _, .cons n t h => .cons ⟨t, rfl⟩ (key_each h)
theorem key_ints : ∀ {us : List Value} {ns : List Int}, EachIs (fun v a => ∃ t, v = Value.int a t) us ns → IntsAre us ns
  | _, _, .nil => .nil
  | _, _, .cons ⟨t, e⟩ h => by
    subst e
    exact .cons _ t (key_ints h)
theorem SqL.extN {K : PySem.W.Frag} {H H' : Hp} {a : Addr} {xs : List V} (e : ExtN H H') (h : SqL K H a xs) : SqL K H' a xs := by
  rcases h with (h | ⟨o, h⟩) | h
  · exact .inl (.inl (e _ _ h fun ps z => by cases z))
  · exact .inl (.inr ⟨o, e _ _ h fun ps z => by cases z⟩)
  · exact .inr h
def gSortKL (K : PySem.W.Frag) (T : List (Addr × Str)) (j : Nat) (σ : L2.St) (Q : VK) : VK := fun v H1 => Tabs T H1 ∧ ∃ (l p : Addr) (ns ms : List Int), v = .ref l ∧ σ[j]? = some (some (.ref p)) ∧ SqL K H1 l (ns.map V.int) ∧ SqL K H1 p (ms.map V.int) ∧ (∀ n ∈ ns, 0 ≤ n ∧ n < (ms.length : Int)) ∧
  ∀ (H2 : Hp) (r : Addr), ExtN H1 H2 → Tabs T H2 → H2 r = none → Q (.ref r) (upd H2 r (.lst ((ns.mergeSort fun a b => decide (ms.getD a.toNat 0 ≤ ms.getD b.toNat 0)).map V.int)))
def tSortKL (K : PySem.W.Frag) (T : List (Addr × Str)) (j : Nat) (te : TE) : TE := fun σ H Q => te σ H (gSortKL K T j σ Q)
section
variable {X : Cx}
theorem pe_sortedKL {T : List (Addr × Str)} {j : Nat} {te : TE} {e : Expr} {g x : Str} {params : Arguments} {scope : Scope} {c P : Addr} {sp pos lpos kpos gp xp bp : Pos} (hr : Room 2 X.A)
    (hg : Gl X "sorted") (hm : X.mg "sorted" = none) (hpa : PA X [e] (tCons te tNil))
    (TB : TabB X.base X.mg c P) (hcode : X.env.code = .ref c) (hmT : (P, X.env.qual ++ "<lambda>") ∈ T) (hu : ∀ p ∈ T, p.1 = P → p.2 = X.env.qual ++ "<lambda>")
    (hfree : ∀ y ∈ scope.names, y.2 = .free → X.env.scope.names.lookup y.1 = some .cell ∨ X.env.scope.names.lookup y.1 = some .free) (hdef : defaultsOf params X.env = ([], []))
    (hk : scope.kind = .function) (hco : scope.isCoroutine = false) (hgen : scope.isGenerator = false) (hcell : ∀ y ∈ scope.names, y.2 ≠ .cell) (hx : scope.names.lookup x = some .local) (hgf : scope.names.lookup g = some .free)
    (hgN : X.N[j]? = some g) (hgc : X.env.scope.names.lookup g = some .cell)
    (hbind : ∀ (q : Str) (cl : List (Str × Addr)) (pm cv ctv v : Value), bindArgs (kla_fn "<lambda>" q params (.Subscript (.Name g gp) (.Name x xp) bp) scope cl pm cv ctv) ⟨[v], []⟩ = pure [(x, v)])
    (hst : backTo pos (starEach [e] X.env) = (false, eval e X.env) :: backTo pos (starEach [] X.env) := by rfl) (hpl : (backTo pos (starEach [e] X.env)).any (·.1) = false := by rfl)
    (d1 : (x == ("__debug__" : Str)) = false := by decide) (d2 : (g == ("__debug__" : Str)) = false := by decide) (d3 : (g == ("__classdict__" : Str)) = false := by decide) :
    PE X (.Call (.Name "sorted" sp) [e] [⟨some (Str.ofString "key"), .Lambda params (.Subscript (.Name g gp) (.Name x xp) bp) scope lpos, kpos⟩] pos) (tSortKL X.K T j te) := by
  refine ⟨fun pins s σ H Q I h => ?_⟩
  refine wpAny_Call_Name_kw (ld_blt I hg hm (show bootBuiltins "sorted" = some (.builtin "sorted") by decide +kernel) ?_)
  refine PyProof.Rows.callWith_kw (thn (hpa.run pos pins s σ H (fun vs H1 => match vs with | [v] => gSortKL X.K T j σ Q v H1 | _ => False) I ?_) fun us s1 ⟨vs, H1, I1, r1, q1⟩ => ?_) hst hpl
  · exact h
  match vs, q1, r1 with
  | [v], q1, r1 =>
  obtain ⟨hT, l, p, ns, ms, rfl, hj, hl, hp, hb, q⟩ := (show gSortKL X.K T j σ Q v H1 from q1)
  obtain rfl := Vals.ref1 r1
  have hfC : ∀ y ∈ scope.names, y.2 = .free → ∃ c, X.env.cells.lookup y.1 = some c := fun y hy e => (hfree y hy e).elim (fun z => I1.ok.has _ (.inl z)) fun z => I1.ok.has _ (.inr z)
  refine wpAny_evalAll_cons (wpAny_bind (lam_make2 I1 TB hcode hmT hu hT hdef hfC fun f c' pm' ctv H2 s2 I2 eN T2 hf hfn hfr hco' => wpAny_bind (wpAny_standAt (wpAny_pure ?_))))
  refine wpAny_evalAll_nil ?_
  show wpAny _ _ (call (.builtin "sorted") [.ref l] [(Str.ofString "key", .ref f)]) _ _ _
  obtain ⟨its, rv, hpl2, hz⟩ := I2.list (hl.extN eN)
  obtain ⟨mts, mv, hml, hmz⟩ := I2.list (hp.extN eN)
  have hz : ns.length ≤ sizeLine := by rw [List.length_map] at hz; exact hz
  have hei := key_each rv.ints
  refine sorted_key_data (b := false) (fun a : Int => .int (ms.getD a.toNat 0)) hpl2.isList hei (AllAlike.of fun _ _ => by simp [alike]) (Sortable.others fun _ => ⟨(fun z => by cases z), (fun _ z => by cases z)⟩) hz (fun a _ => ?_) (ksk_s1 _ _) (fun _ => ksk_l1 _ _) (fun _ => ksk_t1 _ _) (fun v a hva ha h tk kp => ?_) fun out c2 h' tk kp fresh hD lout eo => ?_
  · have := hr.un
    show X.A.units + 2 + 0 < cLine
    omega
  · obtain ⟨t, rfl⟩ := hva
    obtain ⟨b0, b1⟩ := hb a ha
    obtain ⟨i, rfl⟩ : ∃ i : Nat, a = (i : Int) := ⟨a.toNat, (Int.toNat_of_nonneg b0).symm⟩
    have hi : i < ms.length := by omega
    obtain ⟨m, hn, hlk⟩ := I2.loc
    obtain ⟨u, ru, lk⟩ := hlk j g (.ref p) hgN hj (.inr (.inl hgc))
    obtain rfl : u = Value.ref p := ru
    have hgc2 : X.env.kindOf g = some .cell := hgc
    obtain ⟨c0, hc0, hcc⟩ : ∃ c0, X.env.cells.lookup g = some c0 ∧ s2.heap.IsCell c0 (some (.ref p)) := by
      rcases lk with ⟨z, _⟩ | ⟨_, c0, a1, a2⟩
      · rw [hgc2] at z
        cases z
      · exact ⟨c0, a1, a2⟩
    have hcl : (cloFrom X.env.cells scope.names []).lookup g = some c0 := NdefX.clo_has hfC (PySem.mem_of_lookup hgf) hc0
    have hmi : (ms.map V.int)[i]? = some (V.int (ms.getD i 0)) := by
      rw [List.getElem?_map, List.getElem?_eq_getElem hi]
      simp [List.getD_eq_getElem?_getD, List.getElem?_eq_getElem hi]
    obtain ⟨wv, ew, t2, rfl⟩ := mv.get hmi
    obtain ⟨⟨oc, vs', tq, k1, k2, k3⟩, _, _⟩ := I2.hok c' _ hco'
    rw [Int.toNat_natCast]
    refine lam_key (c := c0) (p := p) (its := mts) (t2 := t2) hr.in1.in1.depth ?_ (kp _ _ hf) ⟨c', oc, vs', tq, rfl, kp _ _ k1, k2, k3⟩ (fun v => hbind _ _ _ _ _ v) hk hco hgen hcell hx hgf hcl ?_ ?_ ew ?_ d1 d2 d3
    · exact I2.nolimit.keeps kp
    · obtain ⟨o, ho, hd⟩ := hcc
      exact ⟨o, kp _ _ ho, hd⟩
    · obtain ⟨o, ho, hd⟩ := hml.isList
      exact ⟨o, kp _ _ ho, hd⟩
    · rw [← mv.length]
      exact hmz
  · rw [dataLe_int] at eo
    have hlen : ((ns.mergeSort fun a b => decide (ms.getD a.toNat 0 ≤ ms.getD b.toNat 0)).map V.int).length ≤ sizeLine := by
      rw [List.length_map, List.length_mergeSort]
      exact hz
    exact ⟨.ref _, _, I2.laid (o := .lst ((ns.mergeSort fun a b => decide (ms.getD a.toNat 0 ≤ ms.getD b.toNat 0)).map V.int)) (t' := tk) kp (Nat.le_succ _) ⟨hlen, out, c2, vals_of_ints (key_ints eo), hD⟩, rfl, q _ _ eN T2 (I2.hok.fresh (Nat.le_succ _))⟩
/-- the names of the lambda and of the def that makes it -/
def keyScB (sc scope : Scope) (x g : Str) : Bool :=
  decide (scope.kind = .function) && !scope.isCoroutine && !scope.isGenerator && scope.names.all (fun y => !decide (y.2 = .cell)) && decide (scope.names.lookup x = some .local) && decide (scope.names.lookup g = some .free) && decide (sc.names.lookup g = some .cell) &&
    scope.names.all fun y => !decide (y.2 = .free) || decide (sc.names.lookup y.1 = some .cell) || decide (sc.names.lookup y.1 = some .free)
/-- .. with one table -/
theorem pe_sortedK1 {j : Nat} {te : TE} {e : Expr} {g x q : Str} {params : Arguments} {scope : Scope} {c P : Addr} {sp pos lpos kpos gp xp bp : Pos} (hr : Room 2 X.A)
    (hg : Gl X "sorted") (hm : X.mg "sorted" = none) (hpa : PA X [e] (tCons te tNil)) (TB : TabB X.base X.mg c P) (hcode : X.env.code = .ref c) (hq : X.env.qual ++ "<lambda>" = q) (hsc : keyScB X.env.scope scope x g = true) (hdef : defaultsOf params X.env = ([], []))
    (hgN : X.N[j]? = some g)
    (hbind : ∀ (q : Str) (cl : List (Str × Addr)) (pm cv ctv v : Value), bindArgs (kla_fn "<lambda>" q params (.Subscript (.Name g gp) (.Name x xp) bp) scope cl pm cv ctv) ⟨[v], []⟩ = pure [(x, v)])
    (hst : backTo pos (starEach [e] X.env) = (false, eval e X.env) :: backTo pos (starEach [] X.env) := by rfl) (hpl : (backTo pos (starEach [e] X.env)).any (·.1) = false := by rfl)
    (d1 : (x == ("__debug__" : Str)) = false := by decide) (d2 : (g == ("__debug__" : Str)) = false := by decide) (d3 : (g == ("__classdict__" : Str)) = false := by decide) :
    PE X (.Call (.Name "sorted" sp) [e] [⟨some (Str.ofString "key"), .Lambda params (.Subscript (.Name g gp) (.Name x xp) bp) scope lpos, kpos⟩] pos) (tSortKL X.K [(P, q)] j te) := by
  unfold keyScB at hsc
  simp only [Bool.and_eq_true, Bool.or_eq_true, Bool.not_eq_true', decide_eq_true_eq, decide_eq_false_iff_not, List.all_eq_true] at hsc
  obtain ⟨⟨⟨⟨⟨⟨⟨h1, h2⟩, h3⟩, h4⟩, h5⟩, h6⟩, h7⟩, h8⟩ := hsc
  exact pe_sortedKL hr hg hm hpa TB hcode (List.mem_singleton.mpr (by rw [hq])) (fun p hp _ => by rw [List.mem_singleton.mp hp, hq]) (fun y hy e => (h8 y hy).elim (fun z => z.elim (fun z => absurd e z) .inl) .inr) hdef h1 h2 h3 h4 h5 h6 hgN h7 hbind hst hpl d1 d2 d3
end
section
variable {P : Program} {w : World} {K : PySem.W.Frag} {mg : Str → Option Value} {base : Heap}
/-- a def whose code object is known -/
theorem Fun.okC {x qual : Str} {st : Stmt} {f c : Addr} {fd : FuncData} {N ps : List Str} {k : Nat} {sp : Sp} (F : Fun K x qual st f fd) (hc : fd.code = .ref c) (S : FnScope N ps (defScope st)) (len : ∀ vs H Q E, sp vs H Q E → vs.length = ps.length)
    (hbody : ∀ (A : Around) (outer : List Env) (s : Shared) (H : Hp) (vs : List V) (Q : VK) (E : XK), Room k (A.deeper (envOfC qual (defScope st) s.heap.objs.size f (.ref c))) → sp vs H Q E →
      ∃ t, PSs (cxOf CX0 P w K mg base N qual (defScope st) f (.ref c) A outer s H E).nox (defBody st) t ∧ t { nx := fun _ H' => Q .non H', rt := Q } (start N vs) H) : FnOk P w K mg base CX0 (k + 1) f fd ps sp := by
  obtain ⟨oc, od, kV, doc, pm, an, cdv, ct, osl, rfl, lk, hcd⟩ := F.ex
  have e : cdv = .ref c := hc
  subst e
  refine fn_of lk hcd S len fun A outer s H vs Q E hr hsp => ?_
  obtain ⟨t, h, q⟩ := hbody A outer s H vs Q E hr hsp
  exact ⟨t, h.nox, q⟩
end
end L2

namespace L2
open PySem PySem.Spec PyProof.Rows
/-! ### placing: the state, step by step -/
structure PF where
  row : List Nat
  pl : Nat
  lo : Nat
  hi : Nat
  mid : Nat
  wt : Option (Nat × Nat)
namespace PF
def moved (row : List Nat) (lo pl : Nat) : List Nat := row.take lo ++ row.getD pl 0 :: ((row.drop lo).take (pl - lo) ++ row.drop (pl + 1))
def askM (f : PF) : PF := { f with mid := (f.lo + f.hi) / 2, wt := some (f.row.getD f.pl 0, f.row.getD ((f.lo + f.hi) / 2) 0) }
def begin (e : Nat) (f : PF) : PF := if f.pl < e then askM { f with lo := 0, hi := f.pl, wt := none } else { f with wt := none }
def put (e : Nat) (f : PF) : PF := begin e { f with row := moved f.row f.lo f.pl, pl := f.pl + 1 }
def half (b : Bool) (f : PF) : PF := if b = true then { f with hi := f.mid } else { f with lo := f.mid + 1 }
def take (e : Nat) (b : Bool) (f : PF) : PF := if (half b f).lo < (half b f).hi then askM (half b f) else put e (half b f)
def init (row : List Nat) (e rd : Nat) : PF := begin e { row := row, pl := max rd 1, lo := 0, hi := 0, mid := 0, wt := none }
/-- amid an item -/
structure Act (e : Nat) (f : PF) : Prop where
  pe : f.pl < e
  hp : f.hi ≤ f.pl
  lh : f.lo < f.hi
  md : f.mid = (f.lo + f.hi) / 2
  wq : f.wt = some (f.row.getD f.pl 0, f.row.getD f.mid 0)
structure Good (e : Nat) (row0 : List Nat) (f : PF) : Prop where
  len : f.row.length = e
  e64 : e ≤ 64
  p1 : 1 ≤ f.pl
  pm : f.row.Perm row0
  act : f.wt ≠ none → Act e f
  fin : f.wt = none → e ≤ f.pl
theorem moved_perm {row : List Nat} {lo pl : Nat} (h1 : lo ≤ pl) (h2 : pl < row.length) : (moved row lo pl).Perm row := by
  have e1 : row.take lo ++ ((row.drop lo).take (pl - lo) ++ row.getD pl 0 :: row.drop (pl + 1)) = row := by
    have a1 : row.drop pl = row.getD pl 0 :: row.drop (pl + 1) := by
      rw [List.drop_eq_getElem_cons h2]
      simp [List.getD_eq_getElem?_getD, List.getElem?_eq_getElem h2]
    have a2 : (row.drop lo).drop (pl - lo) = row.drop pl := by
      rw [List.drop_drop]
      congr 1
      omega
    rw [← a1, ← a2, List.take_append_drop, List.take_append_drop]
  unfold moved
  refine List.Perm.trans ?_ (List.Perm.of_eq e1)
  refine List.Perm.append_left _ ?_
  exact List.perm_middle.symm
theorem moved_len {row : List Nat} {lo pl : Nat} (h1 : lo ≤ pl) (h2 : pl < row.length) : (moved row lo pl).length = row.length := (moved_perm h1 h2).length_eq
theorem Good.begin {e : Nat} {row0 : List Nat} {f : PF} (l : f.row.length = e) (h64 : e ≤ 64) (p : 1 ≤ f.pl) (pm : f.row.Perm row0) : Good e row0 (begin e f) := by
  unfold PF.begin
  by_cases h : f.pl < e
  · rw [if_pos h]
    exact ⟨l, h64, p, pm, fun _ => ⟨h, Nat.le_refl _, p, rfl, rfl⟩, fun z => by cases z⟩
  · rw [if_neg h]
    exact ⟨l, h64, p, pm, fun z => absurd rfl z, fun _ => by show e ≤ f.pl; omega⟩
theorem Good.put {e : Nat} {row0 : List Nat} {f : PF} (l : f.row.length = e) (h64 : e ≤ 64) (h1 : f.lo ≤ f.pl) (h2 : f.pl < e) (pm : f.row.Perm row0) : Good e row0 (put e f) :=
  Good.begin (by show (moved f.row f.lo f.pl).length = e; rw [moved_len h1 (by omega)]; exact l) h64 (by show 1 ≤ f.pl + 1; omega) ((moved_perm h1 (by omega)).trans pm)
theorem half_row (b : Bool) (f : PF) : (half b f).row = f.row := by unfold half; split <;> rfl
theorem half_pl (b : Bool) (f : PF) : (half b f).pl = f.pl := by unfold half; split <;> rfl
theorem half_in {e : Nat} {f : PF} (a : Act e f) (b : Bool) : (half b f).lo ≤ (half b f).hi ∧ (half b f).hi ≤ f.pl := by
  have h1 := a.hp; have h2 := a.lh; have h3 := a.md
  unfold half
  split
  · exact ⟨by show f.lo ≤ f.mid; omega, by show f.mid ≤ f.pl; omega⟩
  · exact ⟨by show f.mid + 1 ≤ f.hi; omega, h1⟩
theorem Good.take {e : Nat} {row0 : List Nat} {f : PF} (g : Good e row0 f) (h : f.wt ≠ none) (b : Bool) : Good e row0 (take e b f) := by
  have a := g.act h
  obtain ⟨i1, i2⟩ := half_in a b
  unfold PF.take
  split
  · rename_i hl
    exact ⟨by show (half b f).row.length = e; rw [half_row]; exact g.len, g.e64, by show 1 ≤ (half b f).pl; rw [half_pl]; exact g.p1, by show (half b f).row.Perm row0; rw [half_row]; exact g.pm,
      fun _ => ⟨by show (half b f).pl < e; rw [half_pl]; exact a.pe, by show (half b f).hi ≤ (half b f).pl; rw [half_pl]; exact i2, hl, rfl, rfl⟩, fun z => by cases z⟩
  · exact Good.put (by rw [half_row]; exact g.len) g.e64 (by rw [half_pl]; omega) (by rw [half_pl]; exact a.pe) (by rw [half_row]; exact g.pm)
theorem Good.init {row : List Nat} {e rd : Nat} (l : row.length = e) (h64 : e ≤ 64) : Good e row (init row e rd) := Good.begin l h64 (Nat.le_max_right _ _) (List.Perm.refl _)
/-- by the keys -/
def stp (ls : Nat × Nat → Bool) (e : Nat) (f : PF) : PF := match f.wt with
  | none => f
  | some q => f.take e (ls q)
def stps (ls : Nat × Nat → Bool) (e : Nat) (f : PF) : Nat → PF
  | 0 => f
  | n + 1 => stp ls e (stps ls e f n)
theorem stps_next {ls : Nat × Nat → Bool} {e : Nat} {f : PF} {n : Nat} {q : Nat × Nat} (h : (f.stps ls e n).wt = some q) : f.stps ls e (n + 1) = (f.stps ls e n).take e (ls q) := by
  show PF.stp ls e (f.stps ls e n) = _
  unfold PF.stp
  rw [h]
theorem stps_end {ls : Nat × Nat → Bool} {e : Nat} {f : PF} {n : Nat} (h : (f.stps ls e n).wt = none) : f.stps ls e (n + 1) = f.stps ls e n := by
  show PF.stp ls e (f.stps ls e n) = _
  unfold PF.stp
  rw [h]
theorem Good.stps {e : Nat} {row0 : List Nat} {f : PF} (ls : Nat × Nat → Bool) (g : Good e row0 f) : ∀ n, Good e row0 (f.stps ls e n)
  | 0 => g
  | n + 1 => by
    have ih := Good.stps ls g n
    cases h : (f.stps ls e n).wt with
    | none => rw [stps_end h]; exact ih
    | some q => rw [stps_next h]; exact ih.take (by rw [h]; exact Option.some_ne_none _) _
def asks (ls : Nat × Nat → Bool) (e : Nat) (f : PF) (n : Nat) : List (Nat × Nat) := (List.range n).map fun i => ((f.stps ls e i).wt).getD (0, 0)
theorem asks_len (ls : Nat × Nat → Bool) (e : Nat) (f : PF) (n : Nat) : (f.asks ls e n).length = n := by
  unfold asks
  rw [List.length_map, List.length_range]
theorem asks_next {ls : Nat × Nat → Bool} {e : Nat} {f : PF} {n : Nat} {q : Nat × Nat} (h : (f.stps ls e n).wt = some q) : f.asks ls e (n + 1) = f.asks ls e n ++ [q] := by
  unfold asks
  rw [List.range_succ, List.map_append, List.map_singleton, h]
  rfl
theorem asks_at {ls : Nat × Nat → Bool} {e : Nat} {f : PF} {n i : Nat} (h : i < n) : (f.asks ls e n)[i]? = some (((f.stps ls e i).wt).getD (0, 0)) := by
  unfold asks
  rw [List.getElem?_map, List.getElem?_range h]
  rfl
/-- by answers of any kind -/
def gv (e : Nat) (f : PF) (bs : List Bool) : Nat → PF
  | 0 => f
  | k + 1 => match (gv e f bs k).wt with
    | none => gv e f bs k
    | some _ => (gv e f bs k).take e (bs.getD k false)
theorem gv_next {e : Nat} {f : PF} {bs : List Bool} {k : Nat} {q : Nat × Nat} (h : (gv e f bs k).wt = some q) : gv e f bs (k + 1) = (gv e f bs k).take e (bs.getD k false) := by
  show (match (gv e f bs k).wt with
    | none => gv e f bs k
    | some _ => (gv e f bs k).take e (bs.getD k false)) = _
  rw [h]
theorem gv_end {e : Nat} {f : PF} {bs : List Bool} {k : Nat} (h : (gv e f bs k).wt = none) : gv e f bs (k + 1) = gv e f bs k := by
  show (match (gv e f bs k).wt with
    | none => gv e f bs k
    | some _ => (gv e f bs k).take e (bs.getD k false)) = _
  rw [h]
theorem gv_stay {e : Nat} {f : PF} {bs : List Bool} {n : Nat} (h : (gv e f bs n).wt = none) : ∀ k, gv e f bs (n + k) = gv e f bs n
  | 0 => rfl
  | k + 1 => by
    have ih := gv_stay h k
    show gv e f bs ((n + k) + 1) = _
    rw [gv_end (by rw [ih]; exact h), ih]
theorem Good.gv {e : Nat} {row0 : List Nat} {f : PF} (g : Good e row0 f) (bs : List Bool) : ∀ k, Good e row0 (gv e f bs k)
  | 0 => g
  | k + 1 => by
    have ih := Good.gv g bs k
    cases h : (PF.gv e f bs k).wt with
    | none => rw [gv_end h]; exact ih
    | some q => rw [gv_next h]; exact ih.take (by rw [h]; exact Option.some_ne_none _) _
def gvq (e : Nat) (f : PF) (bs : List Bool) (n : Nat) : List (Nat × Nat) := (List.range n).map fun i => ((gv e f bs i).wt).getD (0, 0)
theorem gvq_len (e : Nat) (f : PF) (bs : List Bool) (n : Nat) : (gvq e f bs n).length = n := by
  unfold gvq
  rw [List.length_map, List.length_range]
theorem gvq_next {e : Nat} {f : PF} {bs : List Bool} {n : Nat} {q : Nat × Nat} (h : (gv e f bs n).wt = some q) : gvq e f bs (n + 1) = gvq e f bs n ++ [q] := by
  unfold gvq
  rw [List.range_succ, List.map_append, List.map_singleton, h]
  rfl
theorem gv_congr {e : Nat} {f : PF} {bs cs : List Bool} : ∀ {k : Nat}, (∀ i, i < k → bs.getD i false = cs.getD i false) → gv e f bs k = gv e f cs k
  | 0, _ => rfl
  | k + 1, h => by
    have ih := gv_congr (e := e) (f := f) (k := k) fun i hi => h i (by omega)
    cases hw : (gv e f bs k).wt with
    | none => rw [gv_end hw, gv_end (by rw [← ih]; exact hw), ih]
    | some q => rw [gv_next hw, gv_next (q := q) (by rw [← ih]; exact hw), ih, h k (by omega)]
theorem gv_stps {e : Nat} {f : PF} {ls : Nat × Nat → Bool} {bs : List Bool} : ∀ {k : Nat}, (∀ i q, i < k → (f.stps ls e i).wt = some q → bs.getD i false = ls q) → gv e f bs k = f.stps ls e k
  | 0, _ => rfl
  | k + 1, h => by
    have ih := gv_stps (k := k) fun i q hi hq => h i q (by omega) hq
    cases hw : (f.stps ls e k).wt with
    | none => rw [stps_end hw, gv_end (by rw [ih]; exact hw), ih]
    | some q => rw [stps_next hw, gv_next (q := q) (by rw [ih]; exact hw), ih, h k q (by omega) hw]
/-! how many questions -/
def bl (m : Nat) : Nat := if m = 0 then 0 else m.log2 + 1
theorem bl_half {m m' : Nat} (h : 0 < m) (h2 : m' ≤ m / 2) : bl m' + 1 ≤ bl m := by
  unfold bl
  rw [if_neg (by omega : m ≠ 0)]
  by_cases e : m' = 0
  · rw [if_pos e]
    omega
  · rw [if_neg e]
    have a1 : 2 ^ m'.log2 ≤ m' := Nat.log2_self_le e
    have : m'.log2 + 1 ≤ m.log2 := (Nat.le_log2 (by omega)).mpr (by rw [Nat.pow_succ]; omega)
    omega
theorem bl_63 {m : Nat} (h : m ≤ 63) : bl m ≤ 6 := by
  unfold bl
  split
  · omega
  · rename_i e
    have : m.log2 < 6 := (Nat.log2_lt e).mpr (by omega)
    omega
def phi (e : Nat) (f : PF) : Nat := if f.wt = none then 0 else bl (f.hi - f.lo) + 6 * (e - 1 - f.pl)
theorem phi_begin {e : Nat} {f : PF} (h64 : e ≤ 64) (h : 1 ≤ f.pl) : phi e (begin e f) ≤ 6 * (e - f.pl) := by
  unfold PF.begin
  by_cases hp : f.pl < e
  · rw [if_pos hp]
    unfold phi
    rw [if_neg (by intro z; cases z)]
    show bl (f.pl - 0) + 6 * (e - 1 - f.pl) ≤ _
    have := bl_63 (m := f.pl - 0) (by omega)
    omega
  · rw [if_neg hp]
    unfold phi
    rw [if_pos rfl]
    omega
theorem phi_take {e : Nat} {row0 : List Nat} {f : PF} (g : Good e row0 f) (h : f.wt ≠ none) (b : Bool) : phi e (take e b f) + 1 ≤ phi e f := by
  have a := g.act h
  have h1 := a.hp; have h2 := a.lh; have h3 := a.md; have h4 := a.pe; have h5 := g.e64
  have e1 : phi e f = bl (f.hi - f.lo) + 6 * (e - 1 - f.pl) := by unfold phi; rw [if_neg h]
  have hb : 1 ≤ bl (f.hi - f.lo) := by unfold bl; rw [if_neg (by omega)]; omega
  rw [e1]
  unfold PF.take
  split
  · rename_i hl
    have e2 : phi e (askM (half b f)) = bl ((half b f).hi - (half b f).lo) + 6 * (e - 1 - (half b f).pl) := by
      unfold phi
      rw [if_neg (by intro z; cases z)]
      rfl
    rw [e2, half_pl]
    have : bl ((half b f).hi - (half b f).lo) + 1 ≤ bl (f.hi - f.lo) := by
      refine bl_half (by omega) ?_
      unfold half
      split
      · show f.mid - f.lo ≤ _; omega
      · show f.hi - (f.mid + 1) ≤ _; omega
    omega
  · have : phi e (put e (half b f)) ≤ 6 * (e - ((half b f).pl + 1)) := phi_begin (f := { half b f with row := moved (half b f).row (half b f).lo (half b f).pl, pl := (half b f).pl + 1 }) h5 (by show 1 ≤ (half b f).pl + 1; omega)
    rw [half_pl] at this
    omega
theorem phi_init {row : List Nat} {e rd : Nat} (h64 : e ≤ 64) : phi e (init row e rd) ≤ 6 * (e - 1) := by
  have := phi_begin (e := e) (f := { row := row, pl := max rd 1, lo := 0, hi := 0, mid := 0, wt := none }) h64 (Nat.le_max_right _ _)
  have h2 : 1 ≤ max rd 1 := Nat.le_max_right _ _
  show phi e (begin e _) ≤ _
  refine Nat.le_trans this ?_
  show 6 * (e - max rd 1) ≤ 6 * (e - 1)
  omega
theorem phi_gv {e : Nat} {row0 : List Nat} {f : PF} (g : Good e row0 f) (bs : List Bool) : ∀ k, (∀ i, i < k → (gv e f bs i).wt ≠ none) → k + phi e (gv e f bs k) ≤ phi e f
  | 0, _ => by show 0 + phi e f ≤ phi e f; omega
  | k + 1, h => by
    have ih := phi_gv g bs k fun i hi => h i (by omega)
    have hk := h k (by omega)
    obtain ⟨q, hq⟩ := Option.ne_none_iff_exists'.mp hk
    have := phi_take (g.gv bs k) hk (bs.getD k false)
    rw [gv_next hq]
    omega
theorem few {row : List Nat} {e rd : Nat} {bs : List Bool} (l : row.length = e) (h64 : e ≤ 64) {k : Nat} (h : ∀ i, i < k → (gv e (init row e rd) bs i).wt ≠ none) : k ≤ 6 * (e - 1) := by
  have h1 := phi_gv (Good.init (rd := rd) l h64) bs k h
  have h2 := phi_init (row := row) (e := e) (rd := rd) h64
  omega
theorem Good.pmRange {e n : Nat} {row : List Nat} {f : PF} (g : Good e row f) (pm : row.Perm (List.range n)) : Good e (List.range n) f := ⟨g.len, g.e64, g.p1, g.pm.trans pm, g.act, g.fin⟩
theorem Good.items {e n : Nat} {f : PF} (g : Good e (List.range n) f) {q : Nat × Nat} (h : f.wt = some q) : q.1 < n ∧ q.2 < n ∧ q.1 ≠ q.2 := by
  have hne : f.wt ≠ none := by rw [h]; exact Option.some_ne_none _
  have a := g.act hne
  have h1 := a.hp; have h2 := a.lh; have h3 := a.md; have h4 := a.pe; have h5 := g.len
  rw [a.wq] at h
  have eq := (Option.some.inj h).symm
  subst eq
  have gd : ∀ i, i < f.row.length → f.row.getD i 0 = f.row[i]! := fun i hi => by simp [List.getD_eq_getElem?_getD, List.getElem?_eq_getElem hi, hi]
  have mem : ∀ i, i < f.row.length → f.row.getD i 0 < n := fun i hi => by
    have : f.row.getD i 0 ∈ f.row := by
      rw [List.getD_eq_getElem?_getD, List.getElem?_eq_getElem hi]
      exact List.getElem_mem hi
    exact List.mem_range.mp (g.pm.mem_iff.mp this)
  refine ⟨mem _ (by omega), mem _ (by omega), fun e0 => ?_⟩
  have nd : f.row.Nodup := g.pm.nodup_iff.mpr List.nodup_range
  have e1 : f.row[f.pl]'(by omega) = f.row[f.mid]'(by omega) := by
    have a1 : f.row.getD f.pl 0 = f.row[f.pl]'(by omega) := by rw [List.getD_eq_getElem?_getD, List.getElem?_eq_getElem (by omega)]; rfl
    have a2 : f.row.getD f.mid 0 = f.row[f.mid]'(by omega) := by rw [List.getD_eq_getElem?_getD, List.getElem?_eq_getElem (by omega)]; rfl
    rw [← a1, ← a2]
    exact e0
  have := (List.getElem_inj nd).mp e1
  omega
end PF
/-! ### the placer in the heap -/
def fldsP (r : Addr) (e : Nat) (f : PF) (wv : V) : List (Str × V) :=
  [("row", .ref r), ("start", .int 0), ("end", .int (e : Int)), ("place", .int (f.pl : Int)), ("low", .int (f.lo : Int)), ("high", .int (f.hi : Int)), ("middle", .int (f.mid : Int)), ("waiting", wv)]
def PAt (C : Addr) (H : Hp) (x r : Addr) (e : Nat) (f : PF) : Prop := x ≠ r ∧ ∃ dx wv, H x = some (.ins C dx (fldsP r e f wv)) ∧ WaitAt H wv f.wt ∧ H r = some (.lst (nV f.row))
theorem PAt.same {C : Addr} {H H' : Hp} {x r : Addr} {e : Nat} {f : PF} (h : PAt C H x r e f) (k : Same H H') : PAt C H' x r e f := by
  obtain ⟨n, dx, wv, hx, hw, hr⟩ := h
  exact ⟨n, dx, wv, k _ _ hx, hw.keep (fun _ _ _ => k _ _), k _ _ hr⟩
theorem PAt.set {C x r : Addr} {H : Hp} {e : Nat} {f : PF} {dx : Addr} {wv : V} (h : PAt C H x r e f) (hx : H x = some (.ins C dx (fldsP r e f wv))) (f' : PF) (wv' : V) (er : f'.row = f.row) (hw : WaitAt H wv' f'.wt) {w : List (Str × V)} (ew : w = fldsP r e f' wv') :
    PAt C (upd H x (.ins C dx w)) x r e f' ∧ upd H x (.ins C dx w) x = some (.ins C dx (fldsP r e f' wv')) ∧ Fr2 x r H (upd H x (.ins C dx w)) := by
  obtain ⟨n, _, _, _, _, hr⟩ := h
  subst ew
  refine ⟨⟨n, dx, wv', upd_same, hw.upd hx (fun i j e => by cases e), ?_⟩, upd_same, Fr2.putx⟩
  rw [upd_ne n.symm, er]
  exact hr
theorem PAt.putRow {C x r : Addr} {H : Hp} {e : Nat} {f : PF} (h : PAt C H x r e f) {row : List Nat} {w : List V} (ew : w = nV row) : PAt C (upd H r (.lst w)) x r e { f with row := row } := by
  obtain ⟨n, dx, wv, hx, hw, hr⟩ := h
  subst ew
  refine ⟨n, dx, wv, ?_, hw.upd hr (fun i j e => by cases e), upd_same⟩
  rw [upd_ne n]
  exact hx
end L2

namespace L2
open PySem PySem.Spec PyProof.Rows
/-! ### what placing tells, as data -/
def plD (b : Bool) (row : List Nat) (qs : List (Nat × Nat)) : PyData := .tuple [.bool b, .list ((row.map fun (i : Nat) => (i : Int)).map PyData.int), .list (qs.map pD)]
theorem shaped_pl (b : Bool) (row : List Nat) (qs : List (Nat × Nat)) : SeqAt.shaped (plD b row qs) = true := by
  unfold SeqAt.shaped
  rw [Bool.and_eq_true]
  constructor
  · show (PyData.canLay0 (.bool b) && (PyData.canLayAll0 ((row.map fun (i : Nat) => (i : Int)).map PyData.int) && (PyData.canLayAll0 (qs.map pD) && true))) = true
    rw [canLay_ints, canLay_pairs]
    rfl
  · refine decide_eq_true ?_
    show max (PyData.depth (.bool b)) (max (PyData.depthAll ((row.map fun (i : Nat) => (i : Int)).map PyData.int) + 1) (max (PyData.depthAll (qs.map pD) + 1) 0)) + 1 ≤ 64
    have h1 : PyData.depth (.bool b) = 0 := rfl
    have h2 := depth_pairs qs
    rw [depth_ints, h1]
    omega
theorem eqv_pl (b : Bool) (row : List Nat) (qs : List (Nat × Nat)) : PyData.eqv (plD b row qs) (plD b row qs) = true := SeqAt.eqv_refl _ (SeqAt.canLay_of_shaped (shaped_pl b row qs))
theorem dp_pl {K : PySem.W.Frag} {H : Hp} {t r l : Addr} {b : Bool} {row : List Nat} {qs : List (Nat × Nat)} (ht : H t = some (.tup [.bl b, .ref r, .ref l])) (hr : H r = some (.lst (nV row))) (hq : QAt H l qs) : Dp K H (.ref t) (plD b row qs) := by
  obtain ⟨ts, h1, h2, h3⟩ := hq
  exact .tup (L2.st_of ht) (.cons (.bl _) (.cons (dp_ints (by rw [← nV_map]; exact L2.sq_of hr)) (.cons (.lst (L2.sq_of h1) (dpAll_pairs h2 h3)) .nil)))
/-- taken out at one place, put in at another one -/
theorem ins_moved {row : List Nat} {lo pl : Nat} (h1 : lo ≤ pl) (h2 : pl < row.length) : ((nV row).eraseIdx pl).take lo ++ [.int ((row.getD pl 0 : Nat) : Int)] ++ ((nV row).eraseIdx pl).drop lo = nV (PF.moved row lo pl) := by
  have l1 : ((nV row).take pl).length = pl := by rw [List.length_take, List.length_map]; omega
  rw [List.eraseIdx_eq_take_drop_succ, List.take_append_of_le_length (by omega), List.drop_append_of_le_length (by omega), List.take_take, Nat.min_eq_left h1, List.drop_take]
  unfold PF.moved
  simp only [List.map_append, List.map_take, List.map_drop, List.map_cons, List.append_assoc, List.singleton_append]
namespace PF
theorem mid_eq {e : Nat} {f : PF} (a : Act e f) : f.lo + (f.hi - f.lo) / 2 = f.mid := by
  have h1 := a.lh; have h2 := a.md
  omega
/-- at the start of an item -/
def Fresh (f : PF) : Prop := f.wt ≠ none → f.lo = 0 ∧ f.hi = f.pl
theorem fresh_begin (e : Nat) (f : PF) : Fresh (begin e f) ∧ (begin e f).pl = f.pl ∧ (begin e f).row = f.row := by
  unfold PF.begin
  by_cases h : f.pl < e
  · rw [if_pos h]
    exact ⟨fun _ => ⟨rfl, rfl⟩, rfl, rfl⟩
  · rw [if_neg h]
    exact ⟨fun z => absurd rfl z, rfl, rfl⟩
theorem fresh_put (e : Nat) (f : PF) : Fresh (put e f) ∧ (put e f).pl = f.pl + 1 ∧ (put e f).row = moved f.row f.lo f.pl := fresh_begin e { f with row := moved f.row f.lo f.pl, pl := f.pl + 1 }
end PF
end L2

/-! sorting by a key keeps equal ones as they came -/
namespace L2
open PySem PySem.Spec PyProof.Rows
theorem no_swap : ∀ {l : List Nat} {x y : Nat}, l.Nodup → x ≠ y → [x, y].Sublist l → [y, x].Sublist l → False := by
  intro l
  induction l with
  | nil => intro x y _ _ h _; cases h
  | cons z l ih =>
    intro x y hn hxy h1 h2
    obtain ⟨n1, n2⟩ := List.nodup_cons.mp hn
    cases h1 with
    | cons _ h1 =>
      cases h2 with
      | cons _ h2 => exact ih n2 hxy h1 h2
      | cons_cons _ h2 => exact n1 (h1.subset (by simp))
    | cons_cons _ h1 =>
      cases h2 with
      | cons _ h2 => exact n1 (h2.subset (by simp))
      | cons_cons _ h2 => exact hxy rfl
theorem lx_of (f : Nat → Int) {L : List Nat} {i j : Nat} (hi : i < L.length) (hj : j < L.length) (hij : i < j) (nd : L.Nodup) (h : f L[i] ≤ f L[j]) (st : L[j] < L[i] → f L[j] ≤ f L[i] → [L[j], L[i]].Sublist L) : Lx f L[i] L[j] := by
  have pr : [L[i], L[j]].Sublist L := by
    have e : L = L.take j ++ L.drop j := (List.take_append_drop _ _).symm
    have h1 : L[i] ∈ L.take j := List.mem_iff_getElem.mpr ⟨i, by rw [List.length_take]; omega, by rw [List.getElem_take]⟩
    have h2 : L[j] ∈ L.drop j := List.mem_iff_getElem.mpr ⟨0, by rw [List.length_drop]; omega, by rw [List.getElem_drop]; rfl⟩
    have h3 : ([L[i]] ++ [L[j]]).Sublist (L.take j ++ L.drop j) := List.Sublist.append (List.singleton_sublist.mpr h1) (List.singleton_sublist.mpr h2)
    rw [List.take_append_drop] at h3
    exact h3
  by_cases c : f L[i] < f L[j]
  · exact .inl c
  · refine .inr ⟨by omega, ?_⟩
    rcases Nat.lt_trichotomy L[i] L[j] with d | d | d
    · exact d
    · have := (List.nodup_iff_pairwise_ne.mp nd)
      rw [List.pairwise_iff_getElem] at this
      exact absurd d (this i j hi hj hij)
    · exact (no_swap nd (by omega) pr (st d (by omega))).elim
theorem stab_merge (f : Nat → Int) (n : Nat) : Stab f n ((List.range n).mergeSort fun a b => decide (f a ≤ f b)) := by
  have tr : ∀ a b c : Nat, decide (f a ≤ f b) = true → decide (f b ≤ f c) = true → decide (f a ≤ f c) = true := fun a b c h1 h2 => by
    have h1 := of_decide_eq_true h1
    have h2 := of_decide_eq_true h2
    exact decide_eq_true (by omega)
  have to : ∀ a b : Nat, (decide (f a ≤ f b) || decide (f b ≤ f a)) = true := fun a b => by
    rcases Int.le_total (f a) (f b) with h | h
    · rw [decide_eq_true h]; rfl
    · rw [decide_eq_true h, Bool.or_true]
  have pm : ((List.range n).mergeSort fun a b => decide (f a ≤ f b)).Perm (List.range n) := List.mergeSort_perm _ _
  have nd : ((List.range n).mergeSort fun a b => decide (f a ≤ f b)).Nodup := pm.nodup_iff.mpr List.nodup_range
  have st : ∀ a b, a < b → b < n → f a ≤ f b → [a, b].Sublist ((List.range n).mergeSort fun a b => decide (f a ≤ f b)) := fun a b hab hb h =>
    List.pair_sublist_mergeSort tr to (decide_eq_true h) (by
      have e : List.range n = List.range b ++ (List.range (n - b)).map (fun i => b + i) := by
        rw [← List.range_add, show b + (n - b) = n by omega]
      have h3 : ([a] ++ [b]).Sublist (List.range b ++ (List.range (n - b)).map (fun i => b + i)) := List.Sublist.append (List.singleton_sublist.mpr (List.mem_range.mpr hab)) (List.singleton_sublist.mpr (List.mem_map.mpr ⟨0, List.mem_range.mpr (by omega), rfl⟩))
      rw [e]
      exact h3)
  refine ⟨pm, ?_⟩
  have sr := List.pairwise_mergeSort tr to (List.range n)
  rw [List.pairwise_iff_getElem] at sr ⊢
  intro i j hi hj hij
  exact lx_of f hi hj hij nd (of_decide_eq_true (sr i j hi hj hij)) fun d h => st _ _ d (List.mem_range.mp (pm.mem_iff.mp (List.getElem_mem hi))) h
theorem merge_ints (ns : List Int) : (((List.range ns.length).map fun (i : Nat) => (i : Int)).mergeSort fun a b => decide (ns.getD a.toNat 0 ≤ ns.getD b.toNat 0)) = ((List.range ns.length).mergeSort fun a b => decide (ns.getD a 0 ≤ ns.getD b 0)).map fun (i : Nat) => (i : Int) :=
  (List.map_mergeSort fun a _ b _ => by simp).symm
/-! what placing tells, both parts -/
def pdD (row : List Nat) (qs : List (Nat × Nat)) : PyData := .tuple [.list ((row.map fun (i : Nat) => (i : Int)).map PyData.int), .list (qs.map pD)]
theorem shaped_pd (row : List Nat) (qs : List (Nat × Nat)) : SeqAt.shaped (pdD row qs) = true := by
  unfold SeqAt.shaped
  rw [Bool.and_eq_true]
  constructor
  · show (PyData.canLayAll0 ((row.map fun (i : Nat) => (i : Int)).map PyData.int) && (PyData.canLayAll0 (qs.map pD) && true)) = true
    rw [canLay_ints, canLay_pairs]
    rfl
  · refine decide_eq_true ?_
    show max (PyData.depthAll ((row.map fun (i : Nat) => (i : Int)).map PyData.int) + 1) (max (PyData.depthAll (qs.map pD) + 1) 0) + 1 ≤ 64
    have h2 := depth_pairs qs
    rw [depth_ints]
    omega
theorem eqv_pd (row : List Nat) (qs : List (Nat × Nat)) : PyData.eqv (pdD row qs) (pdD row qs) = true := SeqAt.eqv_refl _ (SeqAt.canLay_of_shaped (shaped_pd row qs))
theorem dp_pd {K : PySem.W.Frag} {H : Hp} {t r l : Addr} {row : List Nat} {qs : List (Nat × Nat)} (ht : H t = some (.tup [.ref r, .ref l])) (hr : H r = some (.lst (nV row))) (hq : QAt H l qs) : Dp K H (.ref t) (pdD row qs) := by
  obtain ⟨ts, h1, h2, h3⟩ := hq
  exact .tup (L2.st_of ht) (.cons (dp_ints (by rw [← nV_map]; exact L2.sq_of hr)) (.cons (.lst (L2.sq_of h1) (dpAll_pairs h2 h3)) .nil))
theorem shaped_qs (qs : List (Nat × Nat)) : SeqAt.shaped (.list (qs.map pD)) = true := by
  unfold SeqAt.shaped
  rw [Bool.and_eq_true]
  constructor
  · show PyData.canLayAll0 (qs.map pD) = true
    exact canLay_pairs qs
  · refine decide_eq_true ?_
    show PyData.depthAll (qs.map pD) + 1 ≤ 64
    have h2 := depth_pairs qs
    omega
theorem eqv_qs (qs : List (Nat × Nat)) : PyData.eqv (.list (qs.map pD)) (.list (qs.map pD)) = true := SeqAt.eqv_refl _ (SeqAt.canLay_of_shaped (shaped_qs qs))
theorem dp_qs {K : PySem.W.Frag} {H : Hp} {l : Addr} {qs : List (Nat × Nat)} (hq : QAt H l qs) : Dp K H (.ref l) (.list (qs.map pD)) := by
  obtain ⟨ts, h1, h2, h3⟩ := hq
  exact .lst (L2.sq_of h1) (dpAll_pairs h2 h3)
end L2

/-! runs by the keys alone: the honest steps, one stretch after another -/
namespace L2
open PySem PySem.Spec PyProof.Rows
namespace RF
theorem range_gt {n i : Nat} (hi : i < n) : (List.range n).getD i 0 = i := by
  rw [List.getD_eq_getElem?_getD, List.getElem?_range hi]
  rfl
/-- the keys have not fallen: j questions so far -/
structure Risen (n j : Nat) (g : RF) : Prop where
  row : g.row = List.range n
  pl : g.pl = j + 1
  eq : g.eq = 0
  st : g.st = 1
  on : j + 1 < n → g.wt = some (j + 1, j)
  off : ¬ j + 1 < n → g.wt = none
theorem risen_ask {n j : Nat} {g : RF} (h1 : g.row = List.range n) (h2 : g.pl = j + 1) (h3 : g.eq = 0) (h4 : g.st = 1) : Risen n j (g.ask 0 n) := by
  unfold ask
  by_cases c : j + 1 < n
  · rw [if_pos (by omega)]
    refine ⟨h1, h2, h3, h4, fun _ => ?_, fun h => absurd c h⟩
    show some (g.row.getD g.pl 0, g.row.getD (g.pl - 1) 0) = _
    rw [h1, h2, range_gt c, range_gt (by omega)]
    rfl
  · rw [if_neg (by omega), if_neg (by omega)]
    exact ⟨h1, h2, h3, h4, fun h => absurd h c, fun _ => rfl⟩
theorem risen_init (n : Nat) : Risen n 0 (RF.init (List.range n) 0 n) := risen_ask rfl rfl rfl rfl
/-- a stretch falls: the next place is P, at its beginning stands l -/
def Falls (n l P : Nat) (g : RF) : Prop := ∃ f : RF, g = f.ask 0 n ∧ f.st = 3 ∧ f.pl = P ∧ P ≤ n ∧ f.row.length = n ∧ f.gt 0 = l ∧ ∃ b, b + f.eq + 1 = P ∧ 0 < b ∧ ∀ i, b ≤ i → i < n → f.gt i = i
/-- the run goes on behind: the next place is P, the last one is l -/
structure Goes (n P l : Nat) (R : List Nat) (g : RF) : Prop where
  st : g.st = 5
  pl : g.pl = P
  pn : P ≤ n
  row : g.row = R
  len : R.length = n
  raw : ∀ i, P ≤ i → i < n → R.getD i 0 = i
  on : P < n → g.wt = some (P, l)
  off : ¬ P < n → g.wt = none
section
variable {K : Nat → Int} {n : Nat} {ls : Nat × Nat → Bool} {f : RF}
theorem rises_at (hl : ∀ q, ls q = decide (K q.1 < K q.2)) {p : Nat} (hp : p ≤ n) (hr : ∀ i, i + 1 < p → ¬ K (i + 1) < K i) : ∀ j, j < p → Risen n j ((RF.init (List.range n) 0 n).stps ls 0 n j) ∧ (RF.init (List.range n) 0 n).asks ls 0 n j = (List.range j).map fun i => (i + 1, i)
  | 0, _ => ⟨risen_init n, rfl⟩
  | j + 1, hj => by
    obtain ⟨r, ea⟩ := rises_at hl hp hr j (by omega)
    have hw := r.on (by omega)
    refine ⟨?_, ?_⟩
    · rw [stps_next hw, hl, decide_eq_false (hr j hj)]
      unfold take
      rw [if_pos r.st]
      unfold take1
      rw [if_pos rfl]
      refine risen_ask r.row ?_ r.eq r.st
      show (stps ls 0 n (RF.init (List.range n) 0 n) j).pl + 1 = j + 1 + 1
      rw [r.pl]
    · rw [asks_next hw, ea, List.range_succ, List.map_append]
      rfl
/-- the first fall, behind one key -/
theorem fall_one (hl : ∀ q, ls q = decide (K q.1 < K q.2)) {k : Nat} (r : Risen n 0 (f.stps ls 0 n k)) (h1 : 1 < n) (hk : K 1 < K 0) : Falls n 0 2 (f.stps ls 0 n (k + 1)) ∧ f.asks ls 0 n (k + 1) = f.asks ls 0 n k ++ [(1, 0)] := by
  have hw := r.on h1
  refine ⟨?_, asks_next hw⟩
  rw [stps_next hw, hl, decide_eq_true hk]
  unfold take
  rw [if_pos r.st]
  unfold take1
  rw [if_neg Bool.noConfusion, if_pos r.pl]
  have e := r.row
  refine ⟨_, rfl, rfl, ?_, h1, ?_, ?_, 1, ?_, by omega, fun i _ hi => ?_⟩
  · show (f.stps ls 0 n k).pl + 1 = 2
    rw [r.pl]
  · show (f.stps ls 0 n k).row.length = n
    rw [e, List.length_range]
  · show (f.stps ls 0 n k).row.getD 0 0 = 0
    rw [e]
    exact range_gt (by omega)
  · show 1 + (f.stps ls 0 n k).eq + 1 = 2
    rw [r.eq]
  · show (f.stps ls 0 n k).row.getD i 0 = i
    rw [e]
    exact range_gt hi
/-- .. behind more: whether the first one is less -/
theorem fall_more (hl : ∀ q, ls q = decide (K q.1 < K q.2)) {k p : Nat} (r : Risen n (p - 1) (f.stps ls 0 n k)) (h1 : 1 < p) (hp : p < n) (hk : K p < K (p - 1)) :
    f.asks ls 0 n (k + 2) = f.asks ls 0 n k ++ [(p, p - 1), (0, p - 1)] ∧ (f.stps ls 0 n (k + 1)).wt ≠ none ∧
    (K 0 < K (p - 1) → (f.stps ls 0 n (k + 2)).wt = none ∧ (f.stps ls 0 n (k + 2)).pl = p ∧ (f.stps ls 0 n (k + 2)).row = List.range n) ∧
    (¬ K 0 < K (p - 1) → Falls n (p - 1) (p + 1) (f.stps ls 0 n (k + 2))) := by
  have hw := r.on (by omega)
  rw [show p - 1 + 1 = p by omega] at hw
  have e1 : f.stps ls 0 n (k + 1) = { f.stps ls 0 n k with st := 2, wt := some (0, p - 1) } := by
    rw [stps_next hw, hl, decide_eq_true hk]
    unfold take
    rw [if_pos r.st]
    unfold take1
    rw [if_neg Bool.noConfusion, if_neg (by rw [r.pl]; omega)]
    have e0 : some ((f.stps ls 0 n k).row.getD 0 0, (f.stps ls 0 n k).row.getD ((f.stps ls 0 n k).pl - 1) 0) = some (0, p - 1) := by
      rw [r.row, r.pl, range_gt (by omega), range_gt (by omega)]
      rfl
    exact congrArg (fun z => ({ f.stps ls 0 n k with st := 2, wt := z } : RF)) e0
  have w1 : (f.stps ls 0 n (k + 1)).wt = some (0, p - 1) := by rw [e1]
  have s1 : (f.stps ls 0 n (k + 1)).st = 2 := by rw [e1]
  have p1 : (f.stps ls 0 n (k + 1)).pl = p := by rw [e1]; show (f.stps ls 0 n k).pl = p; rw [r.pl]; omega
  have r1 : (f.stps ls 0 n (k + 1)).row = List.range n := by rw [e1]; exact r.row
  have q1 : (f.stps ls 0 n (k + 1)).eq = 0 := by rw [e1]; exact r.eq
  refine ⟨by rw [asks_next w1, asks_next hw, List.append_assoc]; rfl, by rw [w1]; exact Option.some_ne_none _, fun c => ?_, fun c => ?_⟩
  · have e2 : f.stps ls 0 n (k + 2) = (f.stps ls 0 n (k + 1)).finish 0 := by
      rw [stps_next w1, hl, decide_eq_true c]
      unfold take
      rw [if_neg (by omega), if_pos s1]
      unfold take2
      rw [if_pos rfl]
    rw [e2]
    exact ⟨rfl, p1, r1⟩
  · have e2 : f.stps ls 0 n (k + 2) = ((f.stps ls 0 n (k + 1)).turn 0).fall 0 n := by
      rw [stps_next w1, hl, decide_eq_false c]
      unfold take
      rw [if_neg (by omega), if_pos s1]
      unfold take2
      rw [if_neg Bool.noConfusion]
    rw [e2]
    generalize f.stps ls 0 n (k + 1) = g at p1 r1 q1
    have gl : g.row.length = n := by rw [r1, List.length_range]
    have gT : ∀ i, (g.turn 0).gt i = if i < p then p - 1 - i else g.gt i := fun i => by
      rw [turn_gt (Nat.zero_le _) (by omega), p1]
      by_cases d : i < p
      · rw [if_pos ⟨Nat.zero_le _, d⟩, if_pos d, show 0 + p - 1 - i = p - 1 - i by omega]
        show g.row.getD _ 0 = _
        rw [r1]
        exact range_gt (by omega)
      · rw [if_neg (by omega), if_neg d]
    refine ⟨_, rfl, rfl, ?_, by omega, ?_, ?_, p, ?_, by omega, fun i h2 hi => ?_⟩
    · show g.pl + 1 = p + 1
      rw [p1]
    · show (turned g.row 0 g.pl).length = n
      rw [turned_len (Nat.zero_le _) (by omega)]
      exact gl
    · show (g.turn 0).gt 0 = p - 1
      rw [gT, if_pos (by omega)]
      rfl
    · show p + g.eq + 1 = p + 1
      rw [q1]
    · show (g.turn 0).gt i = i
      rw [gT, if_neg (by omega)]
      show g.row.getD i 0 = i
      rw [r1]
      exact range_gt hi
theorem turnEq_raw {g : RF} {n b : Nat} (be : b + g.eq + 1 = g.pl) (pn : g.pl ≤ n) (len : g.row.length = n) : g.turnEq.row.length = n ∧ g.turnEq.eq = 0 ∧ ∀ i, i < b ∨ g.pl ≤ i → g.turnEq.gt i = g.gt i := by
  unfold turnEq
  by_cases c : 0 < g.eq
  · rw [if_pos c]
    refine ⟨?_, rfl, fun i hi => ?_⟩
    · show (turned g.row (g.pl - g.eq - 1) g.pl).length = n
      rw [turned_len (by omega) (by omega)]
      exact len
    · show (g.turn (g.pl - g.eq - 1)).gt i = g.gt i
      rw [turn_gt (by omega) (by omega), if_neg (by omega)]
  · rw [if_neg c]
    exact ⟨len, by omega, fun _ _ => rfl⟩
theorem goes_rise {f : RF} {n l P b : Nat} (h2 : f.pl = P) (h3 : P ≤ n) (h4 : f.row.length = n) (h5 : f.gt 0 = l) (be : b + f.eq + 1 = P) (b0 : 0 < b) (raw : ∀ i, b ≤ i → i < n → f.gt i = i) : Goes n P l (f.rise 0 n).row (f.rise 0 n) := by
  obtain ⟨l1, _, g1⟩ := turnEq_raw (g := f) (n := n) (b := b) (by omega) (by omega) h4
  have p1 := turnEq_pl f
  have g2 : ∀ i, (f.turnEq.turn 0).gt i = if i < P then f.turnEq.gt (P - 1 - i) else f.turnEq.gt i := fun i => by
    rw [turn_gt (Nat.zero_le _) (by omega), p1, h2]
    by_cases d : i < P
    · rw [if_pos ⟨Nat.zero_le _, d⟩, if_pos d, show 0 + P - 1 - i = P - 1 - i by omega]
    · rw [if_neg (by omega), if_neg d]
  have l2 : (f.turnEq.turn 0).row.length = n := by
    show (turned f.turnEq.row 0 f.turnEq.pl).length = n
    rw [turned_len (Nat.zero_le _) (by omega)]
    exact l1
  have er : (f.rise 0 n).row = (f.turnEq.turn 0).row := by
    unfold rise
    rw [askUp_row]
  have p2 : ({ f.turnEq.turn 0 with st := 5 } : RF).pl = P := by
    show f.turnEq.pl = P
    omega
  have raw2 : ∀ i, P ≤ i → i < n → (f.turnEq.turn 0).gt i = i := fun i h6 hi => by
    rw [g2, if_neg (by omega), g1 _ (.inr (by omega))]
    exact raw i (by omega) hi
  refine ⟨?_, ?_, h3, rfl, by rw [er]; exact l2, fun i h6 hi => by rw [er]; exact raw2 i h6 hi, fun c => ?_, fun c => ?_⟩
  · unfold rise askUp
    split <;> rfl
  · unfold rise askUp
    split <;> exact p2
  · unfold rise askUp
    rw [if_pos (by omega)]
    show some ((f.turnEq.turn 0).gt f.turnEq.pl, (f.turnEq.turn 0).gt (f.turnEq.pl - 1)) = _
    rw [p1, h2, raw2 P (Nat.le_refl _) c, g2, if_pos (by omega), show P - 1 - (P - 1) = 0 by omega, g1 _ (.inl b0), h5]
  · unfold rise askUp
    rw [if_neg (by omega)]
    rfl
theorem goes_ask {f : RF} {n P l : Nat} {row : List Nat} (h1 : f.st = 5) (h2 : f.pl = P) (p0 : 0 < P) (h3 : P ≤ n) (h4 : f.row = row) (h5 : row.length = n) (raw : ∀ i, P ≤ i → i < n → row.getD i 0 = i) (hq : row.getD (P - 1) 0 = l) : Goes n P l row (f.ask 0 n) := by
  unfold ask
  by_cases c : P < n
  · rw [if_pos (by omega)]
    refine ⟨h1, h2, h3, h4, h5, raw, fun _ => ?_, fun h => absurd c h⟩
    show some (f.row.getD f.pl 0, f.row.getD (f.pl - 1) 0) = _
    rw [h4, h2, raw P (Nat.le_refl _) c, hq]
  · rw [if_neg (by omega), if_neg (by omega)]
    exact ⟨h1, h2, h3, h4, h5, raw, fun h => absurd h c, fun _ => rfl⟩
theorem falls_wt {l P k : Nat} (v : Falls n l P (f.stps ls 0 n k)) (hP : P < n) : (f.stps ls 0 n k).wt = some (P, P - 1) := by
  obtain ⟨g, eg, _, h2, _, _, _, b, be, b0, raw⟩ := v
  rw [eg]
  unfold ask
  rw [if_pos (by omega)]
  show some (g.gt g.pl, g.gt (g.pl - 1)) = _
  rw [h2, raw P (by omega) hP, raw (P - 1) (by omega) (by omega)]
/-- one more that is less -/
theorem falls_less (hl : ∀ q, ls q = decide (K q.1 < K q.2)) {l P k : Nat} (v : Falls n l P (f.stps ls 0 n k)) (hP : P < n) (hk : K P < K (P - 1)) : Falls n l (P + 1) (f.stps ls 0 n (k + 1)) ∧ f.asks ls 0 n (k + 1) = f.asks ls 0 n k ++ [(P, P - 1)] := by
  have hw := falls_wt v hP
  refine ⟨?_, asks_next hw⟩
  rw [stps_next hw, hl, decide_eq_true hk]
  obtain ⟨g, eg, h1, h2, h3, h4, h5, b, be, b0, raw⟩ := v
  rw [eg]
  have ea : g.ask 0 n = { g with wt := some (g.row.getD g.pl 0, g.row.getD (g.pl - 1) 0) } := by
    unfold ask
    rw [if_pos (by omega)]
  rw [ea]
  unfold take
  rw [if_neg (by show ¬ g.st = 1; omega), if_neg (by show ¬ g.st = 2; omega), if_pos h1]
  unfold take3
  rw [if_pos rfl]
  generalize hg2 : ({ g with wt := some (g.row.getD g.pl 0, g.row.getD (g.pl - 1) 0) } : RF) = g2
  have e0 : g2.row = g.row := by rw [← hg2]
  have e1 : g2.pl = P := by rw [← hg2]; exact h2
  have e2 : g2.eq = g.eq := by rw [← hg2]
  have e3 : g2.st = 3 := by rw [← hg2]; exact h1
  have eg2 : ∀ i, g2.gt i = g.gt i := fun i => by unfold gt; rw [e0]
  obtain ⟨l1, q1, g1⟩ := turnEq_raw (g := g2) (n := n) (b := b) (by omega) (by omega) (by rw [e0]; exact h4)
  have p1 := turnEq_pl g2
  refine ⟨{ g2.turnEq with pl := g2.turnEq.pl + 1 }, rfl, ?_, ?_, hP, l1, ?_, P, ?_, by omega, fun i h6 hi => ?_⟩
  · show g2.turnEq.st = 3
    rw [turnEq_st, e3]
  · show g2.turnEq.pl + 1 = P + 1
    rw [p1, e1]
  · show g2.turnEq.gt 0 = l
    rw [g1 _ (.inl b0), eg2, h5]
  · show P + g2.turnEq.eq + 1 = P + 1
    rw [q1]
  · show g2.turnEq.gt i = i
    rw [g1 _ (.inr (by omega)), eg2]
    exact raw i (by omega) hi
/-- .. that is not less: asked the other way, too -/
theorem falls_not (hl : ∀ q, ls q = decide (K q.1 < K q.2)) {l P k : Nat} (v : Falls n l P (f.stps ls 0 n k)) (hP : P < n) (hk : ¬ K P < K (P - 1)) :
    f.asks ls 0 n (k + 2) = f.asks ls 0 n k ++ [(P, P - 1), (P - 1, P)] ∧ (f.stps ls 0 n (k + 1)).wt ≠ none ∧
    (¬ K (P - 1) < K P → Falls n l (P + 1) (f.stps ls 0 n (k + 2))) ∧ (K (P - 1) < K P → Goes n P l (f.stps ls 0 n (k + 2)).row (f.stps ls 0 n (k + 2))) := by
  have hw := falls_wt v hP
  obtain ⟨g, eg, h1, h2, h3, h4, h5, b, be, b0, raw⟩ := v
  have e1 : f.stps ls 0 n (k + 1) = { g with st := 4, wt := some (P - 1, P) } := by
    rw [stps_next hw, hl, decide_eq_false hk, eg]
    have ea : g.ask 0 n = { g with wt := some (g.row.getD g.pl 0, g.row.getD (g.pl - 1) 0) } := by
      unfold ask
      rw [if_pos (by omega)]
    rw [ea]
    unfold take
    rw [if_neg (by show ¬ g.st = 1; omega), if_neg (by show ¬ g.st = 2; omega), if_pos h1]
    unfold take3
    rw [if_neg Bool.noConfusion]
    have e2 : some (g.row.getD (g.pl - 1) 0, g.row.getD g.pl 0) = some (P - 1, P) := by
      show some (g.gt (g.pl - 1), g.gt g.pl) = _
      rw [h2, raw P (by omega) hP, raw (P - 1) (by omega) (by omega)]
    exact congrArg (fun z => ({ g with st := 4, wt := z } : RF)) e2
  have w1 : (f.stps ls 0 n (k + 1)).wt = some (P - 1, P) := by rw [e1]
  refine ⟨by rw [asks_next w1, asks_next hw, List.append_assoc]; rfl, by rw [w1]; exact Option.some_ne_none _, fun c => ?_, fun c => ?_⟩
  · rw [stps_next w1, hl, decide_eq_false c, e1]
    unfold take
    rw [if_neg (by show ¬ (4 : Nat) = 1; omega), if_neg (by show ¬ (4 : Nat) = 2; omega), if_neg (by show ¬ (4 : Nat) = 3; omega), if_pos (show (4 : Nat) = 4 from rfl)]
    unfold take4
    rw [if_neg Bool.noConfusion]
    refine ⟨_, rfl, rfl, ?_, hP, h4, h5, b, ?_, b0, raw⟩
    · show g.pl + 1 = P + 1
      rw [h2]
    · show b + (g.eq + 1) + 1 = P + 1
      omega
  · rw [stps_next w1, hl, decide_eq_true c, e1]
    unfold take
    rw [if_neg (by show ¬ (4 : Nat) = 1; omega), if_neg (by show ¬ (4 : Nat) = 2; omega), if_neg (by show ¬ (4 : Nat) = 3; omega), if_pos (show (4 : Nat) = 4 from rfl)]
    unfold take4
    rw [if_pos rfl]
    exact goes_rise (f := { g with st := 4, wt := some (P - 1, P) }) h2 h3 h4 h5 be b0 raw
/-- .. that is not there -/
theorem falls_end {l P k : Nat} (v : Falls n l P (f.stps ls 0 n k)) (hP : ¬ P < n) : Goes n P l (f.stps ls 0 n k).row (f.stps ls 0 n k) := by
  obtain ⟨g, eg, h1, h2, h3, h4, h5, b, be, b0, raw⟩ := v
  rw [eg]
  unfold ask
  rw [if_neg (by omega), if_pos h1]
  exact goes_rise h2 h3 h4 h5 be b0 raw
/-- going on: one more that is not less, or one that is -/
theorem goes_next (hl : ∀ q, ls q = decide (K q.1 < K q.2)) {l P k : Nat} {row : List Nat} (v : Goes n P l row (f.stps ls 0 n k)) (hP : P < n) :
    f.asks ls 0 n (k + 1) = f.asks ls 0 n k ++ [(P, l)] ∧ (¬ K P < K l → Goes n (P + 1) P row (f.stps ls 0 n (k + 1))) ∧
    (K P < K l → (f.stps ls 0 n (k + 1)).wt = none ∧ (f.stps ls 0 n (k + 1)).pl = P ∧ (f.stps ls 0 n (k + 1)).row = row) := by
  have hw := v.on hP
  have h5 := v.st
  refine ⟨asks_next hw, fun c => ?_, fun c => ?_⟩
  · rw [stps_next hw, hl, decide_eq_false c]
    unfold take
    rw [if_neg (by omega), if_neg (by omega), if_neg (by omega), if_neg (by omega)]
    unfold take5
    rw [if_neg Bool.noConfusion]
    refine goes_ask v.st ?_ (Nat.succ_pos _) hP v.row v.len (fun i h1 h2 => v.raw i (by omega) h2) ?_
    · show (f.stps ls 0 n k).pl + 1 = P + 1
      rw [v.pl]
    · exact v.raw P (Nat.le_refl _) hP
  · rw [stps_next hw, hl, decide_eq_true c]
    unfold take
    rw [if_neg (by omega), if_neg (by omega), if_neg (by omega), if_neg (by omega)]
    unfold take5
    rw [if_pos rfl]
    exact ⟨rfl, v.pl, v.row⟩
/-- what is sorted up to the place is the stable order -/
theorem up_stab {g : RF} (u : Up K n g) (pm : g.row.Perm (List.range n)) : Stab K g.pl (g.row.take g.pl) := by
  have len := u.len
  have pn := u.pn
  have ed : g.row.drop g.pl = (List.range n).drop g.pl := by
    refine List.ext_getElem? fun i => ?_
    rw [List.getElem?_drop, List.getElem?_drop]
    by_cases c : g.pl + i < n
    · have := u.raw (g.pl + i) (by omega) c
      have e : g.gt (g.pl + i) = g.row[g.pl + i]?.getD 0 := List.getD_eq_getElem?_getD
      rw [List.getElem?_range c, List.getElem?_eq_getElem (by omega)]
      rw [List.getElem?_eq_getElem (by omega)] at e
      exact congrArg some (by rw [this] at e; exact e.symm)
    · rw [List.getElem?_eq_none (by omega), List.getElem?_eq_none (by rw [List.length_range]; omega)]
  refine ⟨?_, ?_⟩
  · have e : (g.row.take g.pl ++ (List.range n).drop g.pl).Perm ((List.range n).take g.pl ++ (List.range n).drop g.pl) := by
      rw [← ed, List.take_append_drop, ed, List.take_append_drop]
      exact pm
    have e2 := (List.perm_append_right_iff _).mp e
    rw [List.take_range, Nat.min_eq_left pn] at e2
    exact e2
  · rw [List.pairwise_iff_getElem]
    intro i j hi hj hij
    rw [List.length_take] at hi hj
    have := u.srt i j hij (by omega)
    have e : ∀ i (h : i < g.row.length), g.gt i = g.row[i] := fun i h => by
      show g.row.getD i 0 = _
      rw [List.getD_eq_getElem?_getD, List.getElem?_eq_getElem h]
      rfl
    rw [List.getElem_take, List.getElem_take, ← e i (by omega), ← e j (by omega)]
    exact this
/-- .. where the run goes on -/
theorem goes_stab {g : RF} {P l : Nat} {row : List Nat} (v : Goes n P l row g) (h : Hon K n g) (pm : g.row.Perm (List.range n)) : Stab K P (row.take P) := by
  have u : Up K n g := by
    have h5 := v.st
    rcases h with h | h | h | h | h | h
    · exact h.2.1
    · exact absurd h.1 (by omega)
    · exact absurd h.1 (by omega)
    · exact absurd h.1 (by omega)
    · exact absurd h.1 (by omega)
    · exact h.2.1
  have s := up_stab u pm
  rw [v.pl, v.row] at s
  exact s
end
end RF
end L2

namespace L2
open PySem PySem.Spec PyProof.Rows
namespace RF
/-! ### a run at s is a run at 0, moved by s -/
def shRowP (pre : List Nat) (row : List Nat) : List Nat := pre ++ row.map (fun i => pre.length + i)
def shP (pre : List Nat) (g : RF) : RF := { row := shRowP pre g.row, pl := pre.length + g.pl, eq := g.eq, st := g.st, wt := g.wt.map (fun q => (pre.length + q.1, pre.length + q.2)), ln := g.ln }
variable {pre : List Nat} {size : Nat} {g : RF}
theorem shRowP_len (pre : List Nat) (row : List Nat) : (shRowP pre row).length = pre.length + row.length := by
  unfold shRowP
  rw [List.length_append, List.length_map]
theorem turned_shP (pre : List Nat) (lo hi : Nat) (row : List Nat) : turned (shRowP pre row) (pre.length + lo) (pre.length + hi) = shRowP pre (turned row lo hi) := by
  unfold turned shRowP
  have l : pre.length = pre.length := rfl
  have e1 : (pre ++ row.map (fun i => pre.length + i)).take (pre.length + lo) = pre ++ (row.take lo).map (fun i => pre.length + i) := by
    rw [List.take_append, List.take_of_length_le (by omega), Nat.add_sub_cancel_left, List.map_take]
  have e2 : ∀ k, (pre ++ row.map (fun i => pre.length + i)).drop (pre.length + k) = (row.drop k).map (fun i => pre.length + i) := fun k => by
    rw [List.drop_append, List.drop_of_length_le (by omega), Nat.add_sub_cancel_left, List.map_drop]
    rfl
  rw [e1, e2, e2, show pre.length + hi - (pre.length + lo) = hi - lo by omega]
  simp only [List.map_append, List.map_reverse, List.map_take, List.append_assoc]
theorem getD_shP {row : List Nat} {k : Nat} (h : k < row.length) : (shRowP pre row).getD (pre.length + k) 0 = pre.length + row.getD k 0 := by
  unfold shRowP
  rw [List.getD_eq_getElem?_getD, List.getD_eq_getElem?_getD, List.getElem?_append_right (by omega), Nat.add_sub_cancel_left, List.getElem?_map, List.getElem?_eq_getElem h]
  rfl
theorem shP_turn (lo : Nat) : (shP pre g).turn (pre.length + lo) = shP pre (g.turn lo) := ext (turned_shP pre lo g.pl g.row) rfl rfl rfl rfl rfl
theorem shP_turnEq (w : WF 0 size g) : (shP pre g).turnEq = shP pre g.turnEq := by
  unfold RF.turnEq
  by_cases h : 0 < g.eq
  · have := w.eq
    rw [if_pos h, if_pos (show 0 < (shP pre g).eq from h)]
    have e : (shP pre g).pl - (shP pre g).eq - 1 = pre.length + (g.pl - g.eq - 1) := by show pre.length + g.pl - g.eq - 1 = _; omega
    rw [e, shP_turn]
    rfl
  · rw [if_neg h, if_neg (show ¬ 0 < (shP pre g).eq from h)]
theorem shP_fin : (shP pre g).finish pre.length = shP pre (g.finish 0) := ext rfl rfl rfl rfl rfl (by show some (pre.length + g.pl - pre.length) = some (g.pl - 0); rw [Nat.add_sub_cancel_left]; rfl)
theorem shP_w {g' : RF} {k l : Nat} (h1 : k < g'.row.length) (h2 : l < g'.row.length) : ({ shP pre g' with wt := some ((shP pre g').row.getD (pre.length + k) 0, (shP pre g').row.getD (pre.length + l) 0) } : RF) = shP pre { g' with wt := some (g'.row.getD k 0, g'.row.getD l 0) } := by
  refine ext rfl rfl rfl rfl ?_ rfl
  show some ((shRowP pre g'.row).getD (pre.length + k) 0, (shRowP pre g'.row).getD (pre.length + l) 0) = some (pre.length + g'.row.getD k 0, pre.length + g'.row.getD l 0)
  rw [getD_shP h1, getD_shP h2]
theorem shP_up {g' : RF} (a : 0 < g'.pl) (c : size ≤ g'.row.length) : (shP pre g').askUp pre.length (pre.length + size) = shP pre (g'.askUp 0 size) := by
  unfold RF.askUp
  by_cases h : g'.pl < size
  · rw [if_pos h, if_pos (show (shP pre g').pl < pre.length + size by show pre.length + g'.pl < pre.length + size; omega)]
    have e : (shP pre g').pl - 1 = pre.length + (g'.pl - 1) := by show pre.length + g'.pl - 1 = _; omega
    rw [e]
    exact shP_w (by omega) (by omega)
  · rw [if_neg h, if_neg (show ¬ (shP pre g').pl < pre.length + size by show ¬ pre.length + g'.pl < pre.length + size; omega)]
    exact shP_fin
theorem shP_rise (w : WF 0 size g) : (shP pre g).rise pre.length (pre.length + size) = shP pre (g.rise 0 size) := by
  unfold RF.rise
  have w2 := w.pre5
  have e : ({ ((shP pre g).turnEq.turn pre.length : RF) with st := 5 } : RF) = shP pre { (g.turnEq.turn 0 : RF) with st := 5 } := by
    have e1 : (shP pre g).turnEq.turn pre.length = shP pre (g.turnEq.turn 0) := by
      rw [shP_turnEq w]
      exact shP_turn 0
    rw [e1]
    rfl
  rw [e]
  exact shP_up (Nat.lt_of_le_of_lt (Nat.zero_le _) w2.sp) w2.er
theorem shP_ask (w : WF 0 size g) : (shP pre g).ask pre.length (pre.length + size) = shP pre (g.ask 0 size) := by
  have b1 := w.sp; have b2 := w.er
  unfold RF.ask
  by_cases h : g.pl < size
  · rw [if_pos h, if_pos (show (shP pre g).pl < pre.length + size by show pre.length + g.pl < pre.length + size; omega)]
    have e : (shP pre g).pl - 1 = pre.length + (g.pl - 1) := by show pre.length + g.pl - 1 = _; omega
    rw [e]
    exact shP_w (by omega) (by omega)
  · rw [if_neg h, if_neg (show ¬ (shP pre g).pl < pre.length + size by show ¬ pre.length + g.pl < pre.length + size; omega)]
    by_cases h3 : g.st = 3
    · rw [if_pos h3, if_pos (show (shP pre g).st = 3 from h3)]
      exact shP_rise w
    · rw [if_neg h3, if_neg (show ¬ (shP pre g).st = 3 from h3)]
      exact shP_fin
theorem shP_goOn (w : WF 0 size { g with pl := g.pl + 1 }) : (shP pre g).goOn pre.length (pre.length + size) = shP pre (g.goOn 0 size) := by
  unfold RF.goOn
  rw [← shP_ask w]
  rfl
theorem shP_take (w : WF 0 size g) (h : g.pl < size) (b : Bool) : (shP pre g).take pre.length (pre.length + size) b = shP pre (g.take 0 size b) := by
  have b1 := w.sp; have b2 := w.er
  unfold RF.take
  show (if g.st = 1 then _ else if g.st = 2 then _ else if g.st = 3 then _ else if g.st = 4 then _ else _) = shP pre (if g.st = 1 then _ else if g.st = 2 then _ else if g.st = 3 then _ else if g.st = 4 then _ else _)
  by_cases s1 : g.st = 1
  · rw [if_pos s1, if_pos s1]
    unfold RF.take1
    cases b with
    | false =>
      rw [if_pos rfl, if_pos rfl]
      exact shP_goOn (w.next h)
    | true =>
      rw [if_neg (show ¬ (true = false) by decide), if_neg (show ¬ (true = false) by decide)]
      by_cases hp : g.pl = 0 + 1
      · rw [if_pos hp, if_pos (show (shP pre g).pl = pre.length + 1 by show pre.length + g.pl = pre.length + 1; omega)]
        exact shP_goOn (g := { g with st := 3 }) ((w.st 3).next h)
      · rw [if_neg hp, if_neg (show ¬ (shP pre g).pl = pre.length + 1 by show ¬ pre.length + g.pl = pre.length + 1; omega)]
        have e : (shP pre g).pl - 1 = pre.length + (g.pl - 1) := by show pre.length + g.pl - 1 = _; omega
        rw [e]
        exact shP_w (g' := { g with st := 2 }) (k := 0) (l := g.pl - 1) (by show 0 < g.row.length; omega) (by show g.pl - 1 < g.row.length; omega)
  rw [if_neg s1, if_neg s1]
  by_cases s2 : g.st = 2
  · rw [if_pos s2, if_pos s2]
    unfold RF.take2
    cases b with
    | true =>
      rw [if_pos rfl, if_pos rfl]
      exact shP_fin
    | false =>
      rw [if_neg (show ¬ (false = true) by decide), if_neg (show ¬ (false = true) by decide)]
      have e : (shP pre g).turn pre.length = shP pre (g.turn 0) := shP_turn 0
      rw [e]
      exact shP_goOn (g := { (g.turn 0 : RF) with st := 3 }) (((w.turn (Nat.le_of_lt w.sp)).st 3).next h)
  rw [if_neg s2, if_neg s2]
  by_cases s3 : g.st = 3
  · rw [if_pos s3, if_pos s3]
    unfold RF.take3
    cases b with
    | true =>
      rw [if_pos rfl, if_pos rfl, shP_turnEq w]
      exact shP_goOn (w.turnEq.next (by rw [turnEq_pl]; exact h))
    | false =>
      rw [if_neg (show ¬ (false = true) by decide), if_neg (show ¬ (false = true) by decide)]
      have e : (shP pre g).pl - 1 = pre.length + (g.pl - 1) := by show pre.length + g.pl - 1 = _; omega
      rw [e]
      exact shP_w (g' := { g with st := 4 }) (k := g.pl - 1) (l := g.pl) (by show g.pl - 1 < g.row.length; omega) (by show g.pl < g.row.length; omega)
  rw [if_neg s3, if_neg s3]
  by_cases s4 : g.st = 4
  · rw [if_pos s4, if_pos s4]
    unfold RF.take4
    cases b with
    | true =>
      rw [if_pos rfl, if_pos rfl]
      exact shP_rise w
    | false =>
      rw [if_neg (show ¬ (false = true) by decide), if_neg (show ¬ (false = true) by decide)]
      exact shP_goOn (g := { g with eq := g.eq + 1, st := 3 }) (w.eq1 h)
  rw [if_neg s4, if_neg s4]
  unfold RF.take5
  cases b with
  | true =>
    rw [if_pos rfl, if_pos rfl]
    exact shP_fin
  | false =>
    rw [if_neg (show ¬ (false = true) by decide), if_neg (show ¬ (false = true) by decide)]
    exact shP_goOn (w.next h)

theorem shP_init {row : List Nat} (h : 0 < size) (h2 : size ≤ 2000) (er : row = shRowP pre (List.range size)) : RF.init row pre.length (pre.length + size) = shP pre (RF.init (List.range size) 0 size) := by
  unfold RF.init
  have w : WF 0 size { row := List.range size, pl := 0 + 1, eq := 0, st := 1, wt := none, ln := none } := ⟨by show 0 < 0 + 1; omega, by show 0 + 1 ≤ size; omega, by show size ≤ (List.range size).length; rw [List.length_range]; exact Nat.le_refl _, by show 0 + 0 < 0 + 1; omega, by show (List.range size).length ≤ 2000; rw [List.length_range]; exact h2⟩
  rw [← shP_ask w]
  congr 1
  exact ext er rfl rfl rfl rfl rfl
end RF
end L2

/-! sum of a list or a tuple of ints -/
namespace L2
open PySem PySem.Spec PyProof.Rows
theorem preSum_getD (ns : List Int) : ∀ k, k ≤ ns.length → preSum (fun i => ns.getD i 0) k = (ns.take k).sum
  | 0, _ => rfl
  | k + 1, h => by
    have ih := preSum_getD ns k (by omega)
    rw [List.take_add_one, List.getElem?_eq_getElem (by omega), List.sum_append, ← ih]
    simp [preSum, List.getD_eq_getElem?_getD, List.getElem?_eq_getElem (show k < ns.length by omega)]
def rSumLT (K : PySem.W.Frag) : List V → Hp → VK → Prop := fun vs H Q => ∃ (a : Addr) (ns : List Int), vs = [V.ref a] ∧ (SqL K H a (ns.map V.int) ∨ SqT K H a (ns.map V.int)) ∧ Q (.int ns.sum) H
theorem cr_sumLT {X : Cx} (hc : X.calm = true) : CallR X (.builtin "sum") (rSumLT X.K) := by
  intro pins s σ H vs us Q I r h
  obtain ⟨a, ns, rfl, hs | hs, q⟩ := h
  · exact cr_sum hc pins s σ H _ us Q I r ⟨a, ns, rfl, hs, q⟩
  · obtain ⟨its, rv, pt, hz⟩ := I.tuple hs
    have hi : IntsAre its.toArray.toList ns := ints_of_vals rv
    have ist : s.heap.IsTuple a its.toArray := pt
    have ln : its.toArray.size = ns.length := by rw [← Array.length_toList]; exact IntsAre.length hi
    have ha : a < s.heap.objs.size := by
      obtain ⟨o, ho, _⟩ := id ist
      exact Heap.lt_size ho
    rw [Vals.ref1 r]
    refine call_sum_walkG (wpAny_pyIter_tuple ist ⟨_, _, _, _, _, _, fun i => ns.getD i 0, rfl, Walks.tuple (A := X.A.in1) (I.ok.hd hc) _ a (Nat.ne_of_lt ha) its.toArray, ⟨⟨_, Heap.get?_push_size _ rfl, rfl, rfl⟩, ist.push _⟩, ?_, ?_, ?_⟩)
    · intro b hb
      rw [Heap.size_push]
      rcases List.mem_cons.mp hb with e | hb
      · rw [e]
        exact Nat.lt_succ_self _
      · rw [List.mem_singleton.mp hb]
        exact Nat.lt_succ_of_lt ha
    · intro i v hv
      exact PyProof.Rows.IntsAre.int_at hi i v (by rw [Array.getElem?_toList]; exact hv)
    · intro h2 tk t2 hk
      have e : preSum (fun i => ns.getD i 0) its.toArray.size = ns.sum := by
        rw [ln, preSum_getD ns _ (Nat.le_refl _), List.take_length]
      rw [e]
      refine ⟨.int _, H, I.kept (t' := tk) fun b o ho => hk b o ?_ (Heap.get?_push_of_some _ ho), ⟨_, rfl⟩, q⟩
      intro z
      have := Heap.lt_size ho
      rw [List.mem_singleton.mp z] at this
      exact Nat.lt_irrefl _ this
end L2

namespace K07
open PySem PySem.Spec PyProof.Rows L2
def topS (i : Nat) : Stmt := PySem.Challenge.pw_askedorder_k07_lengths_of_runs.main.body.getD i (.Pass ⟨0, 0, 0, 0⟩)
abbrev s_ask_honestly : Stmt := topS 1
abbrev N_ask_honestly : List Str := ["machine", "keys", "questions", "one", "other"]
abbrev P_ask_honestly : List Str := ["machine", "keys"]
theorem sc_ask_honestly : FnScope N_ask_honestly P_ask_honestly (defScope s_ask_honestly) := ⟨rfl, rfl, rfl, by decide +kernel, rfl, by decide +kernel, by decide +kernel⟩
abbrev s_is_integer : Stmt := topS 8
abbrev N_is_integer : List Str := ["value"]
abbrev P_is_integer : List Str := ["value"]
theorem sc_is_integer : FnScope N_is_integer P_is_integer (defScope s_is_integer) := ⟨rfl, rfl, rfl, by decide +kernel, rfl, by decide +kernel, by decide +kernel⟩
abbrev s_is_within : Stmt := topS 9
abbrev N_is_within : List Str := ["value", "least", "most"]
abbrev P_is_within : List Str := ["value", "least", "most"]
theorem sc_is_within : FnScope N_is_within P_is_within (defScope s_is_within) := ⟨rfl, rfl, rfl, by decide +kernel, rfl, by decide +kernel, by decide +kernel⟩
abbrev s_check_keys : Stmt := topS 10
abbrev N_check_keys : List Str := ["keys", "fewest", "most", "index", "key"]
abbrev P_check_keys : List Str := ["keys", "fewest", "most"]
theorem sc_check_keys : FnScope N_check_keys P_check_keys (defScope s_check_keys) := ⟨rfl, rfl, rfl, by decide +kernel, rfl, by decide +kernel, by decide +kernel⟩
abbrev s_check_number : Stmt := topS 11
abbrev N_check_number : List Str := ["name", "value", "least", "most"]
abbrev P_check_number : List Str := ["name", "value", "least", "most"]
theorem sc_check_number : FnScope N_check_number P_check_number (defScope s_check_number) := ⟨rfl, rfl, rfl, by decide +kernel, rfl, by decide +kernel, by decide +kernel⟩
abbrev s_RunFinder___init__ : Stmt := inClass (topS 18) 0
abbrev N_RunFinder___init__ : List Str := ["self", "row", "start", "end"]
abbrev P_RunFinder___init__ : List Str := ["self", "row", "start", "end"]
theorem sc_RunFinder___init__ : FnScope N_RunFinder___init__ P_RunFinder___init__ (defScope s_RunFinder___init__) := ⟨rfl, rfl, rfl, by decide +kernel, rfl, by decide +kernel, by decide +kernel⟩
abbrev s_RunFinder_take : Stmt := inClass (topS 18) 1
abbrev N_RunFinder_take : List Str := ["self", "is_less"]
abbrev P_RunFinder_take : List Str := ["self", "is_less"]
theorem sc_RunFinder_take : FnScope N_RunFinder_take P_RunFinder_take (defScope s_RunFinder_take) := ⟨rfl, rfl, rfl, by decide +kernel, rfl, by decide +kernel, by decide +kernel⟩
abbrev s_RunFinder__take_rising : Stmt := inClass (topS 18) 2
abbrev N_RunFinder__take_rising : List Str := ["self", "is_less"]
abbrev P_RunFinder__take_rising : List Str := ["self", "is_less"]
theorem sc_RunFinder__take_rising : FnScope N_RunFinder__take_rising P_RunFinder__take_rising (defScope s_RunFinder__take_rising) := ⟨rfl, rfl, rfl, by decide +kernel, rfl, by decide +kernel, by decide +kernel⟩
abbrev s_RunFinder__take_all_equal : Stmt := inClass (topS 18) 3
abbrev N_RunFinder__take_all_equal : List Str := ["self", "is_less"]
abbrev P_RunFinder__take_all_equal : List Str := ["self", "is_less"]
theorem sc_RunFinder__take_all_equal : FnScope N_RunFinder__take_all_equal P_RunFinder__take_all_equal (defScope s_RunFinder__take_all_equal) := ⟨rfl, rfl, rfl, by decide +kernel, rfl, by decide +kernel, by decide +kernel⟩
abbrev s_RunFinder__begin_falling : Stmt := inClass (topS 18) 4
abbrev N_RunFinder__begin_falling : List Str := ["self"]
abbrev P_RunFinder__begin_falling : List Str := ["self"]
theorem sc_RunFinder__begin_falling : FnScope N_RunFinder__begin_falling P_RunFinder__begin_falling (defScope s_RunFinder__begin_falling) := ⟨rfl, rfl, rfl, by decide +kernel, rfl, by decide +kernel, by decide +kernel⟩
abbrev s_RunFinder__take_falling : Stmt := inClass (topS 18) 5
abbrev N_RunFinder__take_falling : List Str := ["self", "is_less"]
abbrev P_RunFinder__take_falling : List Str := ["self", "is_less"]
theorem sc_RunFinder__take_falling : FnScope N_RunFinder__take_falling P_RunFinder__take_falling (defScope s_RunFinder__take_falling) := ⟨rfl, rfl, rfl, by decide +kernel, rfl, by decide +kernel, by decide +kernel⟩
abbrev s_RunFinder__take_still_equal : Stmt := inClass (topS 18) 6
abbrev N_RunFinder__take_still_equal : List Str := ["self", "is_less"]
abbrev P_RunFinder__take_still_equal : List Str := ["self", "is_less"]
theorem sc_RunFinder__take_still_equal : FnScope N_RunFinder__take_still_equal P_RunFinder__take_still_equal (defScope s_RunFinder__take_still_equal) := ⟨rfl, rfl, rfl, by decide +kernel, rfl, by decide +kernel, by decide +kernel⟩
abbrev s_RunFinder__make_rising : Stmt := inClass (topS 18) 7
abbrev N_RunFinder__make_rising : List Str := ["self"]
abbrev P_RunFinder__make_rising : List Str := ["self"]
theorem sc_RunFinder__make_rising : FnScope N_RunFinder__make_rising P_RunFinder__make_rising (defScope s_RunFinder__make_rising) := ⟨rfl, rfl, rfl, by decide +kernel, rfl, by decide +kernel, by decide +kernel⟩
abbrev s_RunFinder__take_rising_on : Stmt := inClass (topS 18) 8
abbrev N_RunFinder__take_rising_on : List Str := ["self", "is_less"]
abbrev P_RunFinder__take_rising_on : List Str := ["self", "is_less"]
theorem sc_RunFinder__take_rising_on : FnScope N_RunFinder__take_rising_on P_RunFinder__take_rising_on (defScope s_RunFinder__take_rising_on) := ⟨rfl, rfl, rfl, by decide +kernel, rfl, by decide +kernel, by decide +kernel⟩
abbrev s_RunFinder__go_on : Stmt := inClass (topS 18) 9
abbrev N_RunFinder__go_on : List Str := ["self"]
abbrev P_RunFinder__go_on : List Str := ["self"]
theorem sc_RunFinder__go_on : FnScope N_RunFinder__go_on P_RunFinder__go_on (defScope s_RunFinder__go_on) := ⟨rfl, rfl, rfl, by decide +kernel, rfl, by decide +kernel, by decide +kernel⟩
abbrev s_RunFinder__ask_about_place : Stmt := inClass (topS 18) 10
abbrev N_RunFinder__ask_about_place : List Str := ["self"]
abbrev P_RunFinder__ask_about_place : List Str := ["self"]
theorem sc_RunFinder__ask_about_place : FnScope N_RunFinder__ask_about_place P_RunFinder__ask_about_place (defScope s_RunFinder__ask_about_place) := ⟨rfl, rfl, rfl, by decide +kernel, rfl, by decide +kernel, by decide +kernel⟩
abbrev s_RunFinder__finish : Stmt := inClass (topS 18) 11
abbrev N_RunFinder__finish : List Str := ["self"]
abbrev P_RunFinder__finish : List Str := ["self"]
theorem sc_RunFinder__finish : FnScope N_RunFinder__finish P_RunFinder__finish (defScope s_RunFinder__finish) := ⟨rfl, rfl, rfl, by decide +kernel, rfl, by decide +kernel, by decide +kernel⟩
abbrev s_RunFinder__turn_equal : Stmt := inClass (topS 18) 12
abbrev N_RunFinder__turn_equal : List Str := ["self"]
abbrev P_RunFinder__turn_equal : List Str := ["self"]
theorem sc_RunFinder__turn_equal : FnScope N_RunFinder__turn_equal P_RunFinder__turn_equal (defScope s_RunFinder__turn_equal) := ⟨rfl, rfl, rfl, by decide +kernel, rfl, by decide +kernel, by decide +kernel⟩
abbrev s_RunFinder__turn : Stmt := inClass (topS 18) 13
abbrev N_RunFinder__turn : List Str := ["self", "low"]
abbrev P_RunFinder__turn : List Str := ["self", "low"]
theorem sc_RunFinder__turn : FnScope N_RunFinder__turn P_RunFinder__turn (defScope s_RunFinder__turn) := ⟨rfl, rfl, rfl, by decide +kernel, rfl, by decide +kernel, by decide +kernel⟩
abbrev s_run_of : Stmt := topS 20
abbrev N_run_of : List Str := ["keys", "start", "row", "finder", "questions"]
abbrev P_run_of : List Str := ["keys", "start"]
theorem sc_run_of : FnScope N_run_of P_run_of (defScope s_run_of) := ⟨rfl, rfl, rfl, by decide +kernel, rfl, by decide +kernel, by decide +kernel⟩
abbrev s_run_lengths : Stmt := topS 21
abbrev N_run_lengths : List Str := ["keys", "row", "lengths", "start", "finder"]
abbrev P_run_lengths : List Str := ["keys"]
theorem sc_run_lengths : FnScope N_run_lengths P_run_lengths (defScope s_run_lengths) := ⟨rfl, rfl, rfl, by decide +kernel, rfl, by decide +kernel, by decide +kernel⟩
abbrev s_source : Stmt := topS 23
abbrev N_source : List Str := ["cell"]
abbrev P_source : List Str := ["cell"]
theorem sc_source : FnScope N_source P_source (defScope s_source) := ⟨rfl, rfl, rfl, by decide +kernel, rfl, by decide +kernel, by decide +kernel⟩
abbrev s_draw : Stmt := topS 24
abbrev N_draw : List Str := ["source", "size", "digit", "mixed"]
abbrev P_draw : List Str := ["source", "size"]
theorem sc_draw : FnScope N_draw P_draw (defScope s_draw) := ⟨rfl, rfl, rfl, by decide +kernel, rfl, by decide +kernel, by decide +kernel⟩
abbrev s_pick : Stmt := topS 25
abbrev N_pick : List Str := ["source", "items"]
abbrev P_pick : List Str := ["source", "items"]
theorem sc_pick : FnScope N_pick P_pick (defScope s_pick) := ⟨rfl, rfl, rfl, by decide +kernel, rfl, by decide +kernel, by decide +kernel⟩
abbrev s_keys : Stmt := topS 26
abbrev N_keys : List Str := ["source", "size", "wide", "way", "given", "index", "step"]
abbrev P_keys : List Str := ["source", "size"]
theorem sc_keys : FnScope N_keys P_keys (defScope s_keys) := ⟨rfl, rfl, rfl, by decide +kernel, rfl, by decide +kernel, by decide +kernel⟩
abbrev s_lprefix : Stmt := topS 27
abbrev N_lprefix : List Str := ["given", "begin", "end"]
abbrev P_lprefix : List Str := ["given", "begin"]
theorem sc_lprefix : FnScope N_lprefix P_lprefix (defScope s_lprefix) := ⟨rfl, rfl, rfl, by decide +kernel, rfl, by decide +kernel, by decide +kernel⟩
abbrev s_run_due : Stmt := topS 28
abbrev N_run_due : List Str := ["given", "begin", "first", "size", "asked", "item", "end", "found", "last", "is_going"]
abbrev P_run_due : List Str := ["given", "begin"]
theorem sc_run_due : FnScope N_run_due P_run_due (defScope s_run_due) := ⟨rfl, rfl, rfl, by decide +kernel, rfl, by decide +kernel, by decide +kernel⟩
abbrev s_lengths : Stmt := topS 29
abbrev N_lengths : List Str := ["given", "found", "begin", "go"]
abbrev P_lengths : List Str := ["given"]
theorem sc_lengths : FnScope N_lengths P_lengths (defScope s_lengths) := ⟨rfl, rfl, rfl, by decide +kernel, rfl, by decide +kernel, by decide +kernel⟩
abbrev s_right : Stmt := topS 30
abbrev N_right : List Str := ["source", "given", "due", "stood", "shown", "at"]
abbrev P_right : List Str := ["source", "given"]
theorem sc_right : FnScope N_right P_right (defScope s_right) := ⟨rfl, rfl, rfl, by decide +kernel, rfl, by decide +kernel, by decide +kernel⟩
abbrev s_law : Stmt := topS 31
abbrev N_law : List Str := ["script", "cell", "source", "top", "size", "rising", "place", "turned", "one", "swings", "given"]
abbrev P_law : List Str := ["script"]
theorem sc_law : FnScope N_law P_law (defScope s_law) := ⟨rfl, rfl, rfl, by decide +kernel, rfl, by decide +kernel, by decide +kernel⟩
def kg_run_lengths_0_keys {α : Type} : List α → List α → List α
  | [], [a] => [a]
  | _, _ => []
theorem kg_vals_run_lengths_0_keys : ∀ {vs zs : List V} {us ws : List Value}, Vals vs us → Vals zs ws → Vals (kg_run_lengths_0_keys vs zs) (kg_run_lengths_0_keys us ws)
  | _, _, _, _, .nil, .cons r_a .nil => .cons r_a .nil
  | _, _, _, _, .cons _ _, _ => .nil
  | _, _, _, _, .nil, .nil => .nil
  | _, _, _, _, .nil, .cons _ (.cons _ _) => .nil
def lq_run_due : Str := "_law_run_due.<locals>.<lambda>"
structure Ad where
  (lc_run_due lp_run_due : Addr) (ask_honestly : Addr) (is_integer : Addr) (is_within : Addr) (check_keys : Addr) (check_number : Addr) (RunFinder___init__ : Addr) (RunFinder_take : Addr) (RunFinder__take_rising : Addr) (RunFinder__take_all_equal : Addr) (RunFinder__begin_falling : Addr) (RunFinder__take_falling : Addr) (RunFinder__take_still_equal : Addr) (RunFinder__make_rising : Addr) (RunFinder__take_rising_on : Addr) (RunFinder__go_on : Addr) (RunFinder__ask_about_place : Addr) (RunFinder__finish : Addr) (RunFinder__turn_equal : Addr) (RunFinder__turn : Addr) (run_of : Addr) (run_lengths : Addr) (source : Addr) (draw : Addr) (pick : Addr) (keys : Addr) (lprefix : Addr) (run_due : Addr) (lengths : Addr) (right : Addr) (law : Addr) (t_ALL_EQUAL : Tok) (t_FALLING : Tok) (t_RISING : Tok) (t_RISING_ON : Tok) (t_STILL_EQUAL : Tok) (c_RunFinder : Addr)
structure Fd where
  (ask_honestly : FuncData) (is_integer : FuncData) (is_within : FuncData) (check_keys : FuncData) (check_number : FuncData) (RunFinder___init__ : FuncData) (RunFinder_take : FuncData) (RunFinder__take_rising : FuncData) (RunFinder__take_all_equal : FuncData) (RunFinder__begin_falling : FuncData) (RunFinder__take_falling : FuncData) (RunFinder__take_still_equal : FuncData) (RunFinder__make_rising : FuncData) (RunFinder__take_rising_on : FuncData) (RunFinder__go_on : FuncData) (RunFinder__ask_about_place : FuncData) (RunFinder__finish : FuncData) (RunFinder__turn_equal : FuncData) (RunFinder__turn : FuncData) (run_of : FuncData) (run_lengths : FuncData) (source : FuncData) (draw : FuncData) (pick : FuncData) (keys : FuncData) (lprefix : FuncData) (run_due : FuncData) (lengths : FuncData) (right : FuncData) (law : FuncData)
/-- what the top has written -/
structure Txt (K : PySem.W.Frag) (mg : Str → Option Value) (a : Ad) (d : Fd) : Prop where
  g_ask_honestly : mg "ask_honestly" = some (.ref a.ask_honestly)
  k_ask_honestly : PySem.W.keepIn K (.ref a.ask_honestly) = true
  f_ask_honestly : Fun K "ask_honestly" "ask_honestly" s_ask_honestly a.ask_honestly d.ask_honestly
  b_ask_honestly : Binds K d.ask_honestly P_ask_honestly []
  g_is_integer : mg "is_integer" = some (.ref a.is_integer)
  k_is_integer : PySem.W.keepIn K (.ref a.is_integer) = true
  f_is_integer : Fun K "is_integer" "is_integer" s_is_integer a.is_integer d.is_integer
  b_is_integer : Binds K d.is_integer P_is_integer []
  g_is_within : mg "is_within" = some (.ref a.is_within)
  k_is_within : PySem.W.keepIn K (.ref a.is_within) = true
  f_is_within : Fun K "is_within" "is_within" s_is_within a.is_within d.is_within
  b_is_within : Binds K d.is_within P_is_within []
  g_check_keys : mg "check_keys" = some (.ref a.check_keys)
  k_check_keys : PySem.W.keepIn K (.ref a.check_keys) = true
  f_check_keys : FunV K "check_keys" "check_keys" s_check_keys a.check_keys d.check_keys
  b_check_keys_2 : ∃ ds, Vals [.int 0, .int 2000] ds ∧ Binds K d.check_keys P_check_keys ds
  b_check_keys : Binds K d.check_keys P_check_keys []
  g_check_number : mg "check_number" = some (.ref a.check_number)
  k_check_number : PySem.W.keepIn K (.ref a.check_number) = true
  f_check_number : FunV K "check_number" "check_number" s_check_number a.check_number d.check_number
  b_check_number : Binds K d.check_number P_check_number []
  m_RunFinder___init__ : Meth K a.c_RunFinder "__init__" a.RunFinder___init__
  f_RunFinder___init__ : Fun K "__init__" "RunFinder.__init__" s_RunFinder___init__ a.RunFinder___init__ d.RunFinder___init__
  b_RunFinder___init__ : Binds K d.RunFinder___init__ P_RunFinder___init__ []
  m_RunFinder_take : Meth K a.c_RunFinder "take" a.RunFinder_take
  f_RunFinder_take : Fun K "take" "RunFinder.take" s_RunFinder_take a.RunFinder_take d.RunFinder_take
  b_RunFinder_take : Binds K d.RunFinder_take P_RunFinder_take []
  m_RunFinder__take_rising : Meth K a.c_RunFinder "_take_rising" a.RunFinder__take_rising
  f_RunFinder__take_rising : Fun K "_take_rising" "RunFinder._take_rising" s_RunFinder__take_rising a.RunFinder__take_rising d.RunFinder__take_rising
  b_RunFinder__take_rising : Binds K d.RunFinder__take_rising P_RunFinder__take_rising []
  m_RunFinder__take_all_equal : Meth K a.c_RunFinder "_take_all_equal" a.RunFinder__take_all_equal
  f_RunFinder__take_all_equal : Fun K "_take_all_equal" "RunFinder._take_all_equal" s_RunFinder__take_all_equal a.RunFinder__take_all_equal d.RunFinder__take_all_equal
  b_RunFinder__take_all_equal : Binds K d.RunFinder__take_all_equal P_RunFinder__take_all_equal []
  m_RunFinder__begin_falling : Meth K a.c_RunFinder "_begin_falling" a.RunFinder__begin_falling
  f_RunFinder__begin_falling : Fun K "_begin_falling" "RunFinder._begin_falling" s_RunFinder__begin_falling a.RunFinder__begin_falling d.RunFinder__begin_falling
  b_RunFinder__begin_falling : Binds K d.RunFinder__begin_falling P_RunFinder__begin_falling []
  m_RunFinder__take_falling : Meth K a.c_RunFinder "_take_falling" a.RunFinder__take_falling
  f_RunFinder__take_falling : Fun K "_take_falling" "RunFinder._take_falling" s_RunFinder__take_falling a.RunFinder__take_falling d.RunFinder__take_falling
  b_RunFinder__take_falling : Binds K d.RunFinder__take_falling P_RunFinder__take_falling []
  m_RunFinder__take_still_equal : Meth K a.c_RunFinder "_take_still_equal" a.RunFinder__take_still_equal
  f_RunFinder__take_still_equal : Fun K "_take_still_equal" "RunFinder._take_still_equal" s_RunFinder__take_still_equal a.RunFinder__take_still_equal d.RunFinder__take_still_equal
  b_RunFinder__take_still_equal : Binds K d.RunFinder__take_still_equal P_RunFinder__take_still_equal []
  m_RunFinder__make_rising : Meth K a.c_RunFinder "_make_rising" a.RunFinder__make_rising
  f_RunFinder__make_rising : Fun K "_make_rising" "RunFinder._make_rising" s_RunFinder__make_rising a.RunFinder__make_rising d.RunFinder__make_rising
  b_RunFinder__make_rising : Binds K d.RunFinder__make_rising P_RunFinder__make_rising []
  m_RunFinder__take_rising_on : Meth K a.c_RunFinder "_take_rising_on" a.RunFinder__take_rising_on
  f_RunFinder__take_rising_on : Fun K "_take_rising_on" "RunFinder._take_rising_on" s_RunFinder__take_rising_on a.RunFinder__take_rising_on d.RunFinder__take_rising_on
  b_RunFinder__take_rising_on : Binds K d.RunFinder__take_rising_on P_RunFinder__take_rising_on []
  m_RunFinder__go_on : Meth K a.c_RunFinder "_go_on" a.RunFinder__go_on
  f_RunFinder__go_on : Fun K "_go_on" "RunFinder._go_on" s_RunFinder__go_on a.RunFinder__go_on d.RunFinder__go_on
  b_RunFinder__go_on : Binds K d.RunFinder__go_on P_RunFinder__go_on []
  m_RunFinder__ask_about_place : Meth K a.c_RunFinder "_ask_about_place" a.RunFinder__ask_about_place
  f_RunFinder__ask_about_place : Fun K "_ask_about_place" "RunFinder._ask_about_place" s_RunFinder__ask_about_place a.RunFinder__ask_about_place d.RunFinder__ask_about_place
  b_RunFinder__ask_about_place : Binds K d.RunFinder__ask_about_place P_RunFinder__ask_about_place []
  m_RunFinder__finish : Meth K a.c_RunFinder "_finish" a.RunFinder__finish
  f_RunFinder__finish : Fun K "_finish" "RunFinder._finish" s_RunFinder__finish a.RunFinder__finish d.RunFinder__finish
  b_RunFinder__finish : Binds K d.RunFinder__finish P_RunFinder__finish []
  m_RunFinder__turn_equal : Meth K a.c_RunFinder "_turn_equal" a.RunFinder__turn_equal
  f_RunFinder__turn_equal : Fun K "_turn_equal" "RunFinder._turn_equal" s_RunFinder__turn_equal a.RunFinder__turn_equal d.RunFinder__turn_equal
  b_RunFinder__turn_equal : Binds K d.RunFinder__turn_equal P_RunFinder__turn_equal []
  m_RunFinder__turn : Meth K a.c_RunFinder "_turn" a.RunFinder__turn
  f_RunFinder__turn : Fun K "_turn" "RunFinder._turn" s_RunFinder__turn a.RunFinder__turn d.RunFinder__turn
  b_RunFinder__turn : Binds K d.RunFinder__turn P_RunFinder__turn []
  g_run_of : mg "run_of" = some (.ref a.run_of)
  k_run_of : PySem.W.keepIn K (.ref a.run_of) = true
  f_run_of : Fun K "run_of" "run_of" s_run_of a.run_of d.run_of
  b_run_of : Binds K d.run_of P_run_of []
  g_run_lengths : mg "run_lengths" = some (.ref a.run_lengths)
  k_run_lengths : PySem.W.keepIn K (.ref a.run_lengths) = true
  f_run_lengths : Fun K "run_lengths" "run_lengths" s_run_lengths a.run_lengths d.run_lengths
  b_run_lengths : Binds K d.run_lengths P_run_lengths []
  kn_run_lengths_0_keys : KBn K d.run_lengths P_run_lengths 0 ["keys"] (fun us ws => kg_run_lengths_0_keys us ws) (fun us ws => kg_run_lengths_0_keys us ws)
  g_source : mg "_law_source" = some (.ref a.source)
  k_source : PySem.W.keepIn K (.ref a.source) = true
  f_source : Fun K "_law_source" "_law_source" s_source a.source d.source
  b_source : Binds K d.source P_source []
  g_draw : mg "_law_draw" = some (.ref a.draw)
  k_draw : PySem.W.keepIn K (.ref a.draw) = true
  f_draw : Fun K "_law_draw" "_law_draw" s_draw a.draw d.draw
  b_draw : Binds K d.draw P_draw []
  g_pick : mg "_law_pick" = some (.ref a.pick)
  k_pick : PySem.W.keepIn K (.ref a.pick) = true
  f_pick : Fun K "_law_pick" "_law_pick" s_pick a.pick d.pick
  b_pick : Binds K d.pick P_pick []
  g_keys : mg "_law_keys" = some (.ref a.keys)
  k_keys : PySem.W.keepIn K (.ref a.keys) = true
  f_keys : Fun K "_law_keys" "_law_keys" s_keys a.keys d.keys
  b_keys : Binds K d.keys P_keys []
  g_lprefix : mg "_law_prefix" = some (.ref a.lprefix)
  k_lprefix : PySem.W.keepIn K (.ref a.lprefix) = true
  f_lprefix : Fun K "_law_prefix" "_law_prefix" s_lprefix a.lprefix d.lprefix
  b_lprefix : Binds K d.lprefix P_lprefix []
  g_run_due : mg "_law_run_due" = some (.ref a.run_due)
  k_run_due : PySem.W.keepIn K (.ref a.run_due) = true
  f_run_due : Fun K "_law_run_due" "_law_run_due" s_run_due a.run_due d.run_due
  b_run_due : Binds K d.run_due P_run_due []
  g_lengths : mg "_law_lengths" = some (.ref a.lengths)
  k_lengths : PySem.W.keepIn K (.ref a.lengths) = true
  f_lengths : Fun K "_law_lengths" "_law_lengths" s_lengths a.lengths d.lengths
  b_lengths : Binds K d.lengths P_lengths []
  g_right : mg "_law_right" = some (.ref a.right)
  k_right : PySem.W.keepIn K (.ref a.right) = true
  f_right : Fun K "_law_right" "_law_right" s_right a.right d.right
  b_right : Binds K d.right P_right []
  g_law : mg "law" = some (.ref a.law)
  k_law : PySem.W.keepIn K (.ref a.law) = true
  f_law : Fun K "law" "law" s_law a.law d.law
  b_law : Binds K d.law P_law []
  lc_run_due : d.run_due.code = .ref a.lc_run_due
  g_ALL_EQUAL : mg "ALL_EQUAL" = some (.int 2 a.t_ALL_EQUAL)
  g_FALLING : mg "FALLING" = some (.int 3 a.t_FALLING)
  g_RISING : mg "RISING" = some (.int 1 a.t_RISING)
  g_RISING_ON : mg "RISING_ON" = some (.int 5 a.t_RISING_ON)
  g_STILL_EQUAL : mg "STILL_EQUAL" = some (.int 4 a.t_STILL_EQUAL)
  z_abs : mg "abs" = none
  z_bool : mg "bool" = none
  z_enumerate : mg "enumerate" = none
  z_int : mg "int" = none
  z_isinstance : mg "isinstance" = none
  z_len : mg "len" = none
  z_list : mg "list" = none
  z_min : mg "min" = none
  z_range : mg "range" = none
  z_sorted : mg "sorted" = none
  z_sum : mg "sum" = none
  z_tuple : mg "tuple" = none
  cl_RunFinder : Cls K a.c_RunFinder
  g_RunFinder : mg "RunFinder" = some (.ref a.c_RunFinder)
  mk_RunFinder : Mk K a.c_RunFinder a.RunFinder___init__
  n_row : NoAttr K a.c_RunFinder "row"
  n_start : NoAttr K a.c_RunFinder "start"
  n_end : NoAttr K a.c_RunFinder "end"
  n_place : NoAttr K a.c_RunFinder "place"
  n_equal : NoAttr K a.c_RunFinder "equal"
  n_step : NoAttr K a.c_RunFinder "step"
  n_waiting : NoAttr K a.c_RunFinder "waiting"
  n_length : NoAttr K a.c_RunFinder "length"
/-! keywords -/
theorem kbn_run_lengths_0_keys {K : PySem.W.Frag} {f : Addr} {fd : FuncData} (F : Fun K "run_lengths" "run_lengths" s_run_lengths f fd) : KBn K fd P_run_lengths 0 ["keys"] (fun us ws => kg_run_lengths_0_keys us ws) (fun us ws => kg_run_lengths_0_keys us ws) := by
  obtain ⟨oc, od, kV, doc, pm, an, cdv, ct, osl, rfl, lk, hcd⟩ := F.ex
  refine ⟨fun s us ws _ h1 h2 => ?_, fun {vs us zs ws} r1 r2 => ?_⟩
  · match us, ws, h1, h2 with
    | [], [_], _, _ => exact .of_eq rfl
  · exact kg_vals_run_lengths_0_keys r1 r2
end K07

namespace K07
open PySem PySem.Spec PyProof.Rows L2
section
variable {P : Program} {w : World} {K : PySem.W.Frag} {mg : Str → Option Value} {base : Heap} {a : Ad} {d : Fd}
theorem ok_turn (T : Txt K mg a d) : FnOk P w K mg base CX0 1 a.RunFinder__turn d.RunFinder__turn P_RunFinder__turn (spTurn a.c_RunFinder) := by
  refine T.f_RunFinder__turn.ok sc_RunFinder__turn (fun vs H Q E h => ?_) (fun cdv A outer s0 H vs Q E hr h => ?_)
  · obtain ⟨x, r, s, e, lo, f, rfl, _⟩ := h
    rfl
  · obtain ⟨x, r, s, e, lo, f, rfl, hF, wf, hlo, q⟩ := h
    refine ⟨_, (pss_one (ps_asg (pe_revL (pe_slice sl_list (pe_fld (pv 0) rfl) (po_some (pv 1)) (po_some (pe_fld (pv 0) rfl)))) (pg_slice (pe_fld (pv 0) rfl) (po_some (pv 1)) (po_some (pe_fld (pv 0) rfl))))), ?_⟩
    obtain ⟨n, dx, wv, hx, hw, hrw⟩ := id hF
    have ln : (nV f.row).length = f.row.length := List.length_map _
    have b1 := wf.pe; have b2 := wf.er; have b3 := wf.rl
    refine ⟨_, rfl, x, a.c_RunFinder, dx, _, _, rfl, hx, T.cl_RunFinder, T.n_row, rfl, ?_⟩
    refine ⟨_, rfl, _, rfl, ?_⟩
    refine ⟨_, rfl, x, a.c_RunFinder, dx, _, _, rfl, hx, T.cl_RunFinder, T.n_place, rfl, _, rfl, ?_⟩
    refine ⟨r, _, rfl, L2.sq_of hrw, fun p1 hp1 => ?_⟩
    refine ⟨p1, _, rfl, L2.sq_of upd_same, fun p2 hp2 => ?_⟩
    have s1 : Same H (upd (upd H p1 (.lst (cutV (nV f.row) (some (lo : Int)) (some (f.pl : Int))))) p2 (.lst (cutV (nV f.row) (some (lo : Int)) (some (f.pl : Int))).reverse)) := (same_upd hp1).trans (same_upd hp2)
    have hp : upd (upd H p1 (.lst (cutV (nV f.row) (some (lo : Int)) (some (f.pl : Int))))) p2 (.lst (cutV (nV f.row) (some (lo : Int)) (some (f.pl : Int))).reverse) p2 = some (.lst (cutV (nV f.row) (some (lo : Int)) (some (f.pl : Int))).reverse) := upd_same
    have hn : r ≠ p2 := by
      intro e2
      have := same_upd (o := .lst (cutV (nV f.row) (some (lo : Int)) (some (f.pl : Int)))) hp1 _ _ hrw
      rw [e2, hp2] at this
      cases this
    generalize upd (upd H p1 (.lst (cutV (nV f.row) (some (lo : Int)) (some (f.pl : Int))))) p2 (.lst (cutV (nV f.row) (some (lo : Int)) (some (f.pl : Int))).reverse) = H2 at s1 hp ⊢
    refine ⟨_, rfl, x, a.c_RunFinder, dx, _, _, rfl, s1 _ _ hx, T.cl_RunFinder, T.n_row, rfl, ?_⟩
    refine ⟨_, rfl, _, rfl, ?_⟩
    refine ⟨_, rfl, x, a.c_RunFinder, dx, _, _, rfl, s1 _ _ hx, T.cl_RunFinder, T.n_place, rfl, _, rfl, ?_⟩
    have hc : (cutV (nV f.row) (some (lo : Int)) (some (f.pl : Int))).length ≤ f.row.length := Nat.le_trans (cutV_length _ _ _) (by omega)
    refine ⟨r, p2, _, _, lo, f.pl, rfl, rfl, rfl, rfl, s1 _ _ hrw, hp, hn, by omega, by omega, by omega, ?_, ?_⟩
    · rw [List.length_reverse, ln]
      exact Nat.le_trans (by omega) (by decide : 4000 ≤ sizeLine)
    · refine q _ ?_ ((Fr2.of s1).trans Fr2.putr)
      refine FAt.putRow (hF.same s1) ?_
      rw [Int.toNat_natCast, Int.toNat_natCast, cut_mid _ _ _ hlo (by omega), nV_turned]
theorem ok_finish (T : Txt K mg a d) : FnOk P w K mg base CX0 1 a.RunFinder__finish d.RunFinder__finish P_RunFinder__finish (spF0 a.c_RunFinder noP fun s _ f => RF.finish s f) := by
  refine T.f_RunFinder__finish.ok sc_RunFinder__finish (fun vs H Q E h => ?_) (fun cdv A outer s0 H vs Q E hr h => ?_)
  · obtain ⟨x, r, s, e, f, rfl, _⟩ := h
    rfl
  · obtain ⟨x, r, s, e, f, rfl, hF, wf, _, q⟩ := h
    refine ⟨_, (pss_cons (ps_fld (pv 0) (pe_op op_sub (pe_fld (pv 0) rfl) (pe_fld (pv 0) rfl)) rfl)
    (pss_one (ps_fld (pv 0) pe_non rfl))), ?_⟩
    obtain ⟨n, dx, wv, hx, hw, hrw⟩ := id hF
    have b1 := wf.sp
    refine ⟨_, rfl, x, a.c_RunFinder, dx, _, _, rfl, hx, T.cl_RunFinder, T.n_place, rfl, ?_⟩
    refine ⟨_, rfl, x, a.c_RunFinder, dx, _, _, rfl, hx, T.cl_RunFinder, T.n_start, rfl, ?_⟩
    refine ⟨_, _, rfl, rfl, ?_⟩
    refine ⟨_, rfl, x, a.c_RunFinder, dx, _, rfl, hx, T.cl_RunFinder, T.n_length, by show 8 < 1000; decide, ?_⟩
    have e1 : (f.pl : Int) - (s : Int) = ((f.pl - s : Nat) : Int) := by omega
    obtain ⟨F1, hx1, fr1⟩ := hF.set hx { f with ln := some (f.pl - s) } wv rfl hw (w := putF "length" (.int ((f.pl : Int) - (s : Int))) (flds r s e f wv)) (by rw [e1]; rfl)
    generalize upd H x (.ins a.c_RunFinder dx (putF "length" (.int ((f.pl : Int) - (s : Int))) (flds r s e f wv))) = H1 at F1 hx1 fr1 ⊢
    refine ⟨_, rfl, x, a.c_RunFinder, dx, _, rfl, hx1, T.cl_RunFinder, T.n_waiting, by show 8 < 1000; decide, ?_⟩
    obtain ⟨F2, hx2, fr2⟩ := F1.set hx1 (RF.finish s f) .non rfl rfl (w := putF "waiting" .non (flds r s e { f with ln := some (f.pl - s) } wv)) rfl
    exact q _ F2 (fr1.trans fr2)
theorem ok_turn_equal (T : Txt K mg a d) : FnOk P w K mg base CX0 2 a.RunFinder__turn_equal d.RunFinder__turn_equal P_RunFinder__turn_equal (spF0 a.c_RunFinder noP fun _ _ f => RF.turnEq f) := by
  have G_RunFinder__turn : FnOk P w K mg base CX0 1 a.RunFinder__turn d.RunFinder__turn P_RunFinder__turn (spTurn a.c_RunFinder) := ok_turn T
  refine T.f_RunFinder__turn_equal.ok sc_RunFinder__turn_equal (fun vs H Q E h => ?_) (fun cdv A outer s0 H vs Q E hr h => ?_)
  · obtain ⟨x, r, s, e, f, rfl, _⟩ := h
    rfl
  · obtain ⟨x, r, s, e, f, rfl, hF, wf, _, q⟩ := h
    refine ⟨_, (pss_one (ps_if (pt_cmpR op_gt (pe_fld (pv 0) rfl) pe_int (nomark _)) (pss_cons (ps_expr (pe_meth (pv 0) T.cl_RunFinder T.m_RunFinder__turn G_RunFinder__turn (hr.mono (by decide)) T.b_RunFinder__turn .nil pass0 (pa_cons (pe_op op_sub (pe_op op_sub (pe_fld (pv 0) rfl) (pe_fld (pv 0) rfl)) pe_int) pa_nil)))
      (pss_one (ps_fld (pv 0) pe_int rfl))) pss_nil)), ?_⟩
    obtain ⟨n, dx, wv, hx, hw, hrw⟩ := id hF
    have b1 := wf.sp; have b2 := wf.eq
    refine ⟨_, rfl, x, a.c_RunFinder, dx, _, _, rfl, hx, T.cl_RunFinder, T.n_equal, rfl, ?_⟩
    refine ⟨_, _, rfl, rfl, decide (0 < f.eq), congrArg V.bl (by simp), ?_⟩
    by_cases h0 : 0 < f.eq
    · rw [decide_eq_true h0]
      refine iteT ?_
      refine ⟨_, rfl, x, dx, _, rfl, hx, rfl, ?_⟩
      refine ⟨_, rfl, x, a.c_RunFinder, dx, _, _, rfl, hx, T.cl_RunFinder, T.n_place, rfl, ?_⟩
      refine ⟨_, rfl, x, a.c_RunFinder, dx, _, _, rfl, hx, T.cl_RunFinder, T.n_equal, rfl, ?_⟩
      refine ⟨_, _, rfl, rfl, _, _, rfl, rfl, ?_⟩
      have e1 : (f.pl : Int) - (f.eq : Int) - 1 = ((f.pl - f.eq - 1 : Nat) : Int) := by omega
      refine ⟨x, r, s, e, f.pl - f.eq - 1, f, by rw [← e1]; rfl, hF, wf, by omega, fun H1 F1 fr1 => ?_⟩
      obtain ⟨n1, dx1, wv1, hx1, hw1, hrw1⟩ := id F1
      refine ⟨_, rfl, x, a.c_RunFinder, dx1, _, rfl, hx1, T.cl_RunFinder, T.n_equal, by show 8 < 1000; decide, ?_⟩
      obtain ⟨F2, hx2, fr2⟩ := F1.set hx1 { f.turn (f.pl - f.eq - 1) with eq := 0 } wv1 rfl hw1 (w := putF "equal" (.int 0) (flds r s e (f.turn (f.pl - f.eq - 1)) wv1)) rfl
      refine q _ ?_ (fr1.trans fr2)
      show FAt _ _ _ _ _ _ (RF.turnEq f)
      unfold RF.turnEq
      rw [if_pos h0]
      exact F2
    · rw [decide_eq_false h0]
      refine iteF ?_
      refine q _ ?_ (Fr2.refl _ _ _)
      show FAt _ _ _ _ _ _ (RF.turnEq f)
      unfold RF.turnEq
      rw [if_neg h0]
      exact hF
/-- the question about the place, or the end; not amid a fall -/
theorem ok_ask_up (T : Txt K mg a d) : FnOk P w K mg base CX0 2 a.RunFinder__ask_about_place d.RunFinder__ask_about_place P_RunFinder__ask_about_place (spF0 a.c_RunFinder (fun _ _ f => f.st ≠ 3) RF.askUp) := by
  have G_RunFinder__finish : FnOk P w K mg base CX0 1 a.RunFinder__finish d.RunFinder__finish P_RunFinder__finish (spF0 a.c_RunFinder noP fun s _ f => RF.finish s f) := ok_finish T
  have G_RunFinder__make_rising : FnOk P w K mg base CX0 1 a.RunFinder__make_rising d.RunFinder__make_rising P_RunFinder__make_rising (fun _ _ _ _ => False) := T.f_RunFinder__make_rising.ok sc_RunFinder__make_rising (fun _ _ _ _ h => h.elim) (fun _ _ _ _ _ _ _ _ _ h => h.elim)
  refine T.f_RunFinder__ask_about_place.ok sc_RunFinder__ask_about_place (fun vs H Q E h => ?_) (fun cdv A outer s0 H vs Q E hr h => ?_)
  · obtain ⟨x, r, s, e, f, rfl, _⟩ := h
    rfl
  · obtain ⟨x, r, s, e, f, rfl, hF, wf, h3, q⟩ := h
    refine ⟨_, (pss_one (ps_if (pt_cmpR op_lt (pe_fld (pv 0) rfl) (pe_fld (pv 0) rfl) (nomark _)) (pss_one (ps_fld (pv 0) (pe_tup (pa_cons (pe_ix ix_list (pe_fld (pv 0) rfl) (pe_fld (pv 0) rfl) (fun _ _ => rfl)) (pa_cons (pe_ix ix_list (pe_fld (pv 0) rfl) (pe_op op_sub (pe_fld (pv 0) rfl) pe_int) (fun _ _ => rfl)) pa_nil))) rfl)) (pss_one (ps_if (pt_cmpR op_eq (pe_fld (pv 0) rfl) (pe_glob (v := .int 3) rfl T.g_FALLING ⟨_, rfl⟩) (nomark _)) (pss_one (ps_expr (pe_meth0 (pv 0) T.cl_RunFinder T.m_RunFinder__make_rising G_RunFinder__make_rising (hr.mono (by decide)) T.b_RunFinder__make_rising .nil pass0))) (pss_one (ps_expr (pe_meth0 (pv 0) T.cl_RunFinder T.m_RunFinder__finish G_RunFinder__finish (hr.mono (by decide)) T.b_RunFinder__finish .nil pass0))))))), ?_⟩
    obtain ⟨n, dx, wv, hx, hw, hrw⟩ := id hF
    have b1 := wf.sp; have b2 := wf.er
    refine ⟨_, rfl, x, a.c_RunFinder, dx, _, _, rfl, hx, T.cl_RunFinder, T.n_place, rfl, ?_⟩
    refine ⟨_, rfl, x, a.c_RunFinder, dx, _, _, rfl, hx, T.cl_RunFinder, T.n_end, rfl, ?_⟩
    refine ⟨_, _, rfl, rfl, decide (f.pl < e), congrArg V.bl (by simp), ?_⟩
    by_cases h0 : f.pl < e
    · rw [decide_eq_true h0]
      refine iteT ?_
      refine ⟨_, rfl, x, a.c_RunFinder, dx, _, _, rfl, hx, T.cl_RunFinder, T.n_row, rfl, ?_⟩
      refine ⟨_, rfl, x, a.c_RunFinder, dx, _, _, rfl, hx, T.cl_RunFinder, T.n_place, rfl, ?_⟩
      refine ⟨r, _, _, _, rfl, rfl, L2.sq_of hrw, nV_get (by omega), ?_⟩
      refine ⟨_, rfl, x, a.c_RunFinder, dx, _, _, rfl, hx, T.cl_RunFinder, T.n_row, rfl, ?_⟩
      refine ⟨_, rfl, x, a.c_RunFinder, dx, _, _, rfl, hx, T.cl_RunFinder, T.n_place, rfl, ?_⟩
      have e1 : (f.pl : Int) - 1 = ((f.pl - 1 : Nat) : Int) := by omega
      refine ⟨_, _, rfl, rfl, r, _, _, _, rfl, rfl, L2.sq_of hrw, by rw [e1]; exact nV_get (by omega), ?_⟩
      refine ⟨by show 2 ≤ sizeLine; decide, fun t ht => ?_⟩
      have s1 := same_upd (o := .tup [.int ((f.row.getD f.pl 0 : Nat) : Int), .int ((f.row.getD (f.pl - 1) 0 : Nat) : Int)]) ht
      have hT : upd H t (.tup [.int ((f.row.getD f.pl 0 : Nat) : Int), .int ((f.row.getD (f.pl - 1) 0 : Nat) : Int)]) t = some (.tup [.int ((f.row.getD f.pl 0 : Nat) : Int), .int ((f.row.getD (f.pl - 1) 0 : Nat) : Int)]) := upd_same
      generalize upd H t (.tup [.int ((f.row.getD f.pl 0 : Nat) : Int), .int ((f.row.getD (f.pl - 1) 0 : Nat) : Int)]) = H1 at s1 hT ⊢
      have hx1 := s1 _ _ hx
      refine ⟨_, rfl, x, a.c_RunFinder, dx, _, rfl, hx1, T.cl_RunFinder, T.n_waiting, by show 8 < 1000; decide, ?_⟩
      obtain ⟨F2, hx2, fr2⟩ := (hF.same s1).set hx1 { f with wt := some (f.row.getD f.pl 0, f.row.getD (f.pl - 1) 0) } (.ref t) rfl ⟨t, rfl, hT⟩ (w := putF "waiting" (.ref t) (flds r s e f wv)) rfl
      refine q _ ?_ ((Fr2.of s1).trans fr2)
      unfold RF.askUp
      rw [if_pos h0]
      exact F2
    · rw [decide_eq_false h0]
      refine iteF ?_
      refine ⟨_, rfl, x, a.c_RunFinder, dx, _, _, rfl, hx, T.cl_RunFinder, T.n_step, rfl, ?_⟩
      refine ⟨rfl, false, dnF h3, iteF ?_⟩
      refine ⟨_, rfl, x, dx, _, rfl, hx, rfl, x, r, s, e, f, rfl, hF, wf, True.intro, fun H1 F1 fr1 => q H1 ?_ fr1⟩
      unfold RF.askUp
      rw [if_neg h0]
      exact F1
theorem ok_make_rising (T : Txt K mg a d) : FnOk P w K mg base CX0 3 a.RunFinder__make_rising d.RunFinder__make_rising P_RunFinder__make_rising (spF0 a.c_RunFinder noP RF.rise) := by
  have G_RunFinder__turn : FnOk P w K mg base CX0 1 a.RunFinder__turn d.RunFinder__turn P_RunFinder__turn (spTurn a.c_RunFinder) := ok_turn T
  have G_RunFinder__turn_equal : FnOk P w K mg base CX0 2 a.RunFinder__turn_equal d.RunFinder__turn_equal P_RunFinder__turn_equal (spF0 a.c_RunFinder noP fun _ _ f => RF.turnEq f) := ok_turn_equal T
  have G_RunFinder__ask_about_place : FnOk P w K mg base CX0 2 a.RunFinder__ask_about_place d.RunFinder__ask_about_place P_RunFinder__ask_about_place (spF0 a.c_RunFinder (fun _ _ f => f.st ≠ 3) RF.askUp) := ok_ask_up T
  refine T.f_RunFinder__make_rising.ok sc_RunFinder__make_rising (fun vs H Q E h => ?_) (fun cdv A outer s0 H vs Q E hr h => ?_)
  · obtain ⟨x, r, s, e, f, rfl, _⟩ := h
    rfl
  · obtain ⟨x, r, s, e, f, rfl, hF, wf, _, q⟩ := h
    refine ⟨_, (pss_cons (ps_expr (pe_meth0 (pv 0) T.cl_RunFinder T.m_RunFinder__turn_equal G_RunFinder__turn_equal (hr.mono (by decide)) T.b_RunFinder__turn_equal .nil pass0))
    (pss_cons (ps_expr (pe_meth (pv 0) T.cl_RunFinder T.m_RunFinder__turn G_RunFinder__turn (hr.mono (by decide)) T.b_RunFinder__turn .nil pass0 (pa_cons (pe_fld (pv 0) rfl) pa_nil)))
    (pss_cons (ps_fld (pv 0) (pe_glob (v := .int 5) rfl T.g_RISING_ON ⟨_, rfl⟩) rfl)
    (pss_one (ps_expr (pe_meth0 (pv 0) T.cl_RunFinder T.m_RunFinder__ask_about_place G_RunFinder__ask_about_place (hr.mono (by decide)) T.b_RunFinder__ask_about_place .nil pass0)))))), ?_⟩
    obtain ⟨n, dx, wv, hx, hw, hrw⟩ := id hF
    refine ⟨_, rfl, x, dx, _, rfl, hx, rfl, x, r, s, e, f, rfl, hF, wf, True.intro, fun H1 F1 fr1 => ?_⟩
    have w1 := wf.turnEq
    obtain ⟨n1, dx1, wv1, hx1, hw1, hrw1⟩ := id F1
    refine ⟨_, rfl, x, dx1, _, rfl, hx1, rfl, ?_⟩
    refine ⟨_, rfl, x, a.c_RunFinder, dx1, _, _, rfl, hx1, T.cl_RunFinder, T.n_start, rfl, ?_⟩
    refine ⟨x, r, s, e, s, f.turnEq, rfl, F1, w1, Nat.le_of_lt w1.sp, fun H2 F2 fr2 => ?_⟩
    obtain ⟨n2, dx2, wv2, hx2, hw2, hrw2⟩ := id F2
    refine ⟨_, rfl, x, a.c_RunFinder, dx2, _, rfl, hx2, T.cl_RunFinder, T.n_step, by show 8 < 1000; decide, ?_⟩
    obtain ⟨F3, hx3, fr3⟩ := F2.set hx2 { (f.turnEq.turn s : RF) with st := 5 } wv2 rfl hw2 (w := putF "step" (.int 5) (flds r s e (f.turnEq.turn s) wv2)) rfl
    generalize upd H2 x (.ins a.c_RunFinder dx2 (putF "step" (.int 5) (flds r s e (f.turnEq.turn s) wv2))) = H3 at F3 hx3 fr3 ⊢
    refine ⟨_, rfl, x, dx2, _, rfl, hx3, rfl, x, r, s, e, _, rfl, F3, wf.pre5, by show 5 ≠ 3; decide, fun H4 F4 fr4 => ?_⟩
    exact q _ F4 (((fr1.trans fr2).trans fr3).trans fr4)
theorem ok_ask (T : Txt K mg a d) : FnOk P w K mg base CX0 4 a.RunFinder__ask_about_place d.RunFinder__ask_about_place P_RunFinder__ask_about_place (spF0 a.c_RunFinder noP RF.ask) := by
  have G_RunFinder__finish : FnOk P w K mg base CX0 1 a.RunFinder__finish d.RunFinder__finish P_RunFinder__finish (spF0 a.c_RunFinder noP fun s _ f => RF.finish s f) := ok_finish T
  have G_RunFinder__make_rising : FnOk P w K mg base CX0 3 a.RunFinder__make_rising d.RunFinder__make_rising P_RunFinder__make_rising (spF0 a.c_RunFinder noP RF.rise) := ok_make_rising T
  refine T.f_RunFinder__ask_about_place.ok sc_RunFinder__ask_about_place (fun vs H Q E h => ?_) (fun cdv A outer s0 H vs Q E hr h => ?_)
  · obtain ⟨x, r, s, e, f, rfl, _⟩ := h
    rfl
  · obtain ⟨x, r, s, e, f, rfl, hF, wf, _, q⟩ := h
    refine ⟨_, (pss_one (ps_if (pt_cmpR op_lt (pe_fld (pv 0) rfl) (pe_fld (pv 0) rfl) (nomark _)) (pss_one (ps_fld (pv 0) (pe_tup (pa_cons (pe_ix ix_list (pe_fld (pv 0) rfl) (pe_fld (pv 0) rfl) (fun _ _ => rfl)) (pa_cons (pe_ix ix_list (pe_fld (pv 0) rfl) (pe_op op_sub (pe_fld (pv 0) rfl) pe_int) (fun _ _ => rfl)) pa_nil))) rfl)) (pss_one (ps_if (pt_cmpR op_eq (pe_fld (pv 0) rfl) (pe_glob (v := .int 3) rfl T.g_FALLING ⟨_, rfl⟩) (nomark _)) (pss_one (ps_expr (pe_meth0 (pv 0) T.cl_RunFinder T.m_RunFinder__make_rising G_RunFinder__make_rising (hr.mono (by decide)) T.b_RunFinder__make_rising .nil pass0))) (pss_one (ps_expr (pe_meth0 (pv 0) T.cl_RunFinder T.m_RunFinder__finish G_RunFinder__finish (hr.mono (by decide)) T.b_RunFinder__finish .nil pass0))))))), ?_⟩
    obtain ⟨n, dx, wv, hx, hw, hrw⟩ := id hF
    have b1 := wf.sp; have b2 := wf.er
    refine ⟨_, rfl, x, a.c_RunFinder, dx, _, _, rfl, hx, T.cl_RunFinder, T.n_place, rfl, ?_⟩
    refine ⟨_, rfl, x, a.c_RunFinder, dx, _, _, rfl, hx, T.cl_RunFinder, T.n_end, rfl, ?_⟩
    refine ⟨_, _, rfl, rfl, decide (f.pl < e), congrArg V.bl (by simp), ?_⟩
    by_cases h0 : f.pl < e
    · rw [decide_eq_true h0]
      refine iteT ?_
      refine ⟨_, rfl, x, a.c_RunFinder, dx, _, _, rfl, hx, T.cl_RunFinder, T.n_row, rfl, ?_⟩
      refine ⟨_, rfl, x, a.c_RunFinder, dx, _, _, rfl, hx, T.cl_RunFinder, T.n_place, rfl, ?_⟩
      refine ⟨r, _, _, _, rfl, rfl, L2.sq_of hrw, nV_get (by omega), ?_⟩
      refine ⟨_, rfl, x, a.c_RunFinder, dx, _, _, rfl, hx, T.cl_RunFinder, T.n_row, rfl, ?_⟩
      refine ⟨_, rfl, x, a.c_RunFinder, dx, _, _, rfl, hx, T.cl_RunFinder, T.n_place, rfl, ?_⟩
      have e1 : (f.pl : Int) - 1 = ((f.pl - 1 : Nat) : Int) := by omega
      refine ⟨_, _, rfl, rfl, r, _, _, _, rfl, rfl, L2.sq_of hrw, by rw [e1]; exact nV_get (by omega), ?_⟩
      refine ⟨by show 2 ≤ sizeLine; decide, fun t ht => ?_⟩
      have s1 := same_upd (o := .tup [.int ((f.row.getD f.pl 0 : Nat) : Int), .int ((f.row.getD (f.pl - 1) 0 : Nat) : Int)]) ht
      have hT : upd H t (.tup [.int ((f.row.getD f.pl 0 : Nat) : Int), .int ((f.row.getD (f.pl - 1) 0 : Nat) : Int)]) t = some (.tup [.int ((f.row.getD f.pl 0 : Nat) : Int), .int ((f.row.getD (f.pl - 1) 0 : Nat) : Int)]) := upd_same
      generalize upd H t (.tup [.int ((f.row.getD f.pl 0 : Nat) : Int), .int ((f.row.getD (f.pl - 1) 0 : Nat) : Int)]) = H1 at s1 hT ⊢
      have hx1 := s1 _ _ hx
      refine ⟨_, rfl, x, a.c_RunFinder, dx, _, rfl, hx1, T.cl_RunFinder, T.n_waiting, by show 8 < 1000; decide, ?_⟩
      obtain ⟨F2, hx2, fr2⟩ := (hF.same s1).set hx1 { f with wt := some (f.row.getD f.pl 0, f.row.getD (f.pl - 1) 0) } (.ref t) rfl ⟨t, rfl, hT⟩ (w := putF "waiting" (.ref t) (flds r s e f wv)) rfl
      refine q _ ?_ ((Fr2.of s1).trans fr2)
      unfold RF.ask
      rw [if_pos h0]
      exact F2
    · rw [decide_eq_false h0]
      refine iteF ?_
      refine ⟨_, rfl, x, a.c_RunFinder, dx, _, _, rfl, hx, T.cl_RunFinder, T.n_step, rfl, ?_⟩
      by_cases h3 : f.st = 3
      · refine ⟨rfl, true, dnT h3, iteT ?_⟩
        refine ⟨_, rfl, x, dx, _, rfl, hx, rfl, x, r, s, e, f, rfl, hF, wf, True.intro, fun H1 F1 fr1 => q H1 ?_ fr1⟩
        unfold RF.ask
        rw [if_neg h0, if_pos h3]
        exact F1
      · refine ⟨rfl, false, dnF h3, iteF ?_⟩
        refine ⟨_, rfl, x, dx, _, rfl, hx, rfl, x, r, s, e, f, rfl, hF, wf, True.intro, fun H1 F1 fr1 => q H1 ?_ fr1⟩
        unfold RF.ask
        rw [if_neg h0, if_neg h3]
        exact F1
theorem ok_go_on (T : Txt K mg a d) : FnOk P w K mg base CX0 5 a.RunFinder__go_on d.RunFinder__go_on P_RunFinder__go_on (spG a.c_RunFinder RF.goOn) := by
  have G_RunFinder__ask_about_place : FnOk P w K mg base CX0 4 a.RunFinder__ask_about_place d.RunFinder__ask_about_place P_RunFinder__ask_about_place (spF0 a.c_RunFinder noP RF.ask) := ok_ask T
  refine T.f_RunFinder__go_on.ok sc_RunFinder__go_on (fun vs H Q E h => ?_) (fun cdv A outer s0 H vs Q E hr h => ?_)
  · obtain ⟨x, r, s, e, f, rfl, _⟩ := h
    rfl
  · obtain ⟨x, r, s, e, f, rfl, hF, wf, q⟩ := h
    refine ⟨_, (pss_cons (ps_fldaug (pv 0) pe_int in_add)
    (pss_one (ps_expr (pe_meth0 (pv 0) T.cl_RunFinder T.m_RunFinder__ask_about_place G_RunFinder__ask_about_place (hr.mono (by decide)) T.b_RunFinder__ask_about_place .nil pass0)))), ?_⟩
    obtain ⟨n, dx, wv, hx, hw, hrw⟩ := id hF
    refine ⟨_, rfl, x, a.c_RunFinder, dx, _, _, rfl, hx, T.cl_RunFinder, T.n_place, rfl, ?_⟩
    refine ⟨_, _, rfl, rfl, dx, _, hx, by show 8 < 1000; decide, ?_⟩
    obtain ⟨F1, hx1, fr1⟩ := hF.set hx { f with pl := f.pl + 1 } wv rfl hw (w := putF "place" (.int ((f.pl : Int) + 1)) (flds r s e f wv)) rfl
    generalize upd H x (.ins a.c_RunFinder dx (putF "place" (.int ((f.pl : Int) + 1)) (flds r s e f wv))) = H1 at F1 hx1 fr1 ⊢
    exact ⟨_, rfl, x, dx, _, rfl, hx1, rfl, x, r, s, e, _, rfl, F1, wf, True.intro, fun H2 F2 fr2 => q _ F2 (fr1.trans fr2)⟩
theorem ok_begin_falling (T : Txt K mg a d) : FnOk P w K mg base CX0 6 a.RunFinder__begin_falling d.RunFinder__begin_falling P_RunFinder__begin_falling (spF0 a.c_RunFinder (fun _ e f => f.pl < e) RF.fall) := by
  have G_RunFinder__go_on : FnOk P w K mg base CX0 5 a.RunFinder__go_on d.RunFinder__go_on P_RunFinder__go_on (spG a.c_RunFinder RF.goOn) := ok_go_on T
  refine T.f_RunFinder__begin_falling.ok sc_RunFinder__begin_falling (fun vs H Q E h => ?_) (fun cdv A outer s0 H vs Q E hr h => ?_)
  · obtain ⟨x, r, s, e, f, rfl, _⟩ := h
    rfl
  · obtain ⟨x, r, s, e, f, rfl, hF, wf, hp, q⟩ := h
    refine ⟨_, (pss_cons (ps_fld (pv 0) (pe_glob (v := .int 3) rfl T.g_FALLING ⟨_, rfl⟩) rfl)
    (pss_one (ps_expr (pe_meth0 (pv 0) T.cl_RunFinder T.m_RunFinder__go_on G_RunFinder__go_on (hr.mono (by decide)) T.b_RunFinder__go_on .nil pass0)))), ?_⟩
    obtain ⟨n, dx, wv, hx, hw, hrw⟩ := id hF
    refine ⟨_, rfl, x, a.c_RunFinder, dx, _, rfl, hx, T.cl_RunFinder, T.n_step, by show 8 < 1000; decide, ?_⟩
    obtain ⟨F1, hx1, fr1⟩ := hF.set hx { f with st := 3 } wv rfl hw (w := putF "step" (.int 3) (flds r s e f wv)) rfl
    generalize upd H x (.ins a.c_RunFinder dx (putF "step" (.int 3) (flds r s e f wv))) = H1 at F1 hx1 fr1 ⊢
    exact ⟨_, rfl, x, dx, _, rfl, hx1, rfl, x, r, s, e, _, rfl, F1, (wf.st 3).next hp, fun H2 F2 fr2 => q _ F2 (fr1.trans fr2)⟩
end

section
variable {P : Program} {w : World} {K : PySem.W.Frag} {mg : Str → Option Value} {base : Heap} {a : Ad} {d : Fd}
theorem ok_take_rising (T : Txt K mg a d) : FnOk P w K mg base CX0 7 a.RunFinder__take_rising d.RunFinder__take_rising P_RunFinder__take_rising (spF1 a.c_RunFinder (fun _ e f => f.pl < e) RF.take1) := by
  have G_RunFinder__go_on : FnOk P w K mg base CX0 5 a.RunFinder__go_on d.RunFinder__go_on P_RunFinder__go_on (spG a.c_RunFinder RF.goOn) := ok_go_on T
  have G_RunFinder__begin_falling : FnOk P w K mg base CX0 6 a.RunFinder__begin_falling d.RunFinder__begin_falling P_RunFinder__begin_falling (spF0 a.c_RunFinder (fun _ e f => f.pl < e) RF.fall) := ok_begin_falling T
  refine T.f_RunFinder__take_rising.ok sc_RunFinder__take_rising (fun vs H Q E h => ?_) (fun cdv A outer s0 H vs Q E hr h => ?_)
  · obtain ⟨x, r, s, e, f, b, rfl, _⟩ := h
    rfl
  · obtain ⟨x, r, s, e, f, b, rfl, hF, wf, hp, q⟩ := h
    refine ⟨_, (pss_one (ps_if (pt_not (pt_val (pv 1))) (pss_one (ps_expr (pe_meth0 (pv 0) T.cl_RunFinder T.m_RunFinder__go_on G_RunFinder__go_on (hr.mono (by decide)) T.b_RunFinder__go_on .nil pass0))) (pss_one (ps_if (pt_cmpR op_eq (pe_fld (pv 0) rfl) (pe_op op_add (pe_fld (pv 0) rfl) pe_int) (nomark _)) (pss_one (ps_expr (pe_meth0 (pv 0) T.cl_RunFinder T.m_RunFinder__begin_falling G_RunFinder__begin_falling (hr.mono (by decide)) T.b_RunFinder__begin_falling .nil pass0))) (pss_cons (ps_fld (pv 0) (pe_glob (v := .int 2) rfl T.g_ALL_EQUAL ⟨_, rfl⟩) rfl)
        (pss_one (ps_fld (pv 0) (pe_tup (pa_cons (pe_ix ix_list (pe_fld (pv 0) rfl) (pe_fld (pv 0) rfl) (fun _ _ => rfl)) (pa_cons (pe_ix ix_list (pe_fld (pv 0) rfl) (pe_op op_sub (pe_fld (pv 0) rfl) pe_int) (fun _ _ => rfl)) pa_nil))) rfl))))))), ?_⟩
    obtain ⟨n, dx, wv, hx, hw, hrw⟩ := id hF
    have b1 := wf.sp; have b2 := wf.er
    refine ⟨_, rfl, b, rfl, ?_⟩
    cases b with
    | false =>
      refine iteF (A := True) ?_
      exact ⟨_, rfl, x, dx, _, rfl, hx, rfl, x, r, s, e, f, rfl, hF, wf.next hp, fun H1 F1 fr1 => q H1 F1 fr1⟩
    | true =>
      refine iteT (B := True) ?_
      refine ⟨_, rfl, x, a.c_RunFinder, dx, _, _, rfl, hx, T.cl_RunFinder, T.n_place, rfl, ?_⟩
      refine ⟨_, rfl, x, a.c_RunFinder, dx, _, _, rfl, hx, T.cl_RunFinder, T.n_start, rfl, ?_⟩
      refine ⟨_, _, rfl, rfl, rfl, ?_⟩
      by_cases h1 : f.pl = s + 1
      · refine ⟨true, dnT (m := s + 1) h1, iteT ?_⟩
        refine ⟨_, rfl, x, dx, _, rfl, hx, rfl, x, r, s, e, f, rfl, hF, wf, hp, fun H1 F1 fr1 => q H1 ?_ fr1⟩
        show FAt _ _ _ _ _ _ (RF.take1 s e true f)
        unfold RF.take1
        rw [if_neg (by decide), if_pos h1]
        exact F1
      · refine ⟨false, dnF (m := s + 1) h1, iteF ?_⟩
        refine ⟨_, rfl, x, a.c_RunFinder, dx, _, rfl, hx, T.cl_RunFinder, T.n_step, by show 8 < 1000; decide, ?_⟩
        obtain ⟨F1, hx1, fr1⟩ := hF.set hx { f with st := 2 } wv rfl hw (w := putF "step" (.int 2) (flds r s e f wv)) rfl
        generalize upd H x (.ins a.c_RunFinder dx (putF "step" (.int 2) (flds r s e f wv))) = H1 at F1 hx1 fr1 ⊢
        obtain ⟨_, _, _, _, _, hrw1⟩ := id F1
        refine ⟨_, rfl, x, a.c_RunFinder, dx, _, _, rfl, hx1, T.cl_RunFinder, T.n_row, rfl, ?_⟩
        refine ⟨_, rfl, x, a.c_RunFinder, dx, _, _, rfl, hx1, T.cl_RunFinder, T.n_start, rfl, ?_⟩
        refine ⟨r, _, _, _, rfl, rfl, L2.sq_of hrw1, nV_get (row := f.row) (by omega), ?_⟩
        refine ⟨_, rfl, x, a.c_RunFinder, dx, _, _, rfl, hx1, T.cl_RunFinder, T.n_row, rfl, ?_⟩
        refine ⟨_, rfl, x, a.c_RunFinder, dx, _, _, rfl, hx1, T.cl_RunFinder, T.n_place, rfl, ?_⟩
        have e1 : (f.pl : Int) - 1 = ((f.pl - 1 : Nat) : Int) := by omega
        refine ⟨_, _, rfl, rfl, r, _, _, _, rfl, rfl, L2.sq_of hrw1, by rw [show (({ f with st := 2 } : RF).pl : Int) - 1 = ((f.pl - 1 : Nat) : Int) from e1]; exact nV_get (row := f.row) (by omega), ?_⟩
        refine ⟨by show 2 ≤ sizeLine; decide, fun t ht => ?_⟩
        have s1 := same_upd (o := .tup [.int ((f.row.getD s 0 : Nat) : Int), .int ((f.row.getD (f.pl - 1) 0 : Nat) : Int)]) ht
        have hT : upd H1 t (.tup [.int ((f.row.getD s 0 : Nat) : Int), .int ((f.row.getD (f.pl - 1) 0 : Nat) : Int)]) t = some (.tup [.int ((f.row.getD s 0 : Nat) : Int), .int ((f.row.getD (f.pl - 1) 0 : Nat) : Int)]) := upd_same
        generalize upd H1 t (.tup [.int ((f.row.getD s 0 : Nat) : Int), .int ((f.row.getD (f.pl - 1) 0 : Nat) : Int)]) = H2 at s1 hT ⊢
        have hx2 := s1 _ _ hx1
        refine ⟨_, rfl, x, a.c_RunFinder, dx, _, rfl, hx2, T.cl_RunFinder, T.n_waiting, by show 8 < 1000; decide, ?_⟩
        obtain ⟨F2, hx3, fr2⟩ := (F1.same s1).set hx2 { f with st := 2, wt := some (f.row.getD s 0, f.row.getD (f.pl - 1) 0) } (.ref t) rfl ⟨t, rfl, hT⟩ (w := putF "waiting" (.ref t) (flds r s e { f with st := 2 } wv)) rfl
        refine q _ ?_ ((fr1.trans (Fr2.of s1)).trans fr2)
        show FAt _ _ _ _ _ _ (RF.take1 s e true f)
        unfold RF.take1
        rw [if_neg (by decide), if_neg h1]
        exact F2
theorem ok_take_all_equal (T : Txt K mg a d) : FnOk P w K mg base CX0 7 a.RunFinder__take_all_equal d.RunFinder__take_all_equal P_RunFinder__take_all_equal (spF1 a.c_RunFinder (fun _ e f => f.pl < e) RF.take2) := by
  have G_RunFinder__finish : FnOk P w K mg base CX0 1 a.RunFinder__finish d.RunFinder__finish P_RunFinder__finish (spF0 a.c_RunFinder noP fun s _ f => RF.finish s f) := ok_finish T
  have G_RunFinder__turn : FnOk P w K mg base CX0 1 a.RunFinder__turn d.RunFinder__turn P_RunFinder__turn (spTurn a.c_RunFinder) := ok_turn T
  have G_RunFinder__begin_falling : FnOk P w K mg base CX0 6 a.RunFinder__begin_falling d.RunFinder__begin_falling P_RunFinder__begin_falling (spF0 a.c_RunFinder (fun _ e f => f.pl < e) RF.fall) := ok_begin_falling T
  refine T.f_RunFinder__take_all_equal.ok sc_RunFinder__take_all_equal (fun vs H Q E h => ?_) (fun cdv A outer s0 H vs Q E hr h => ?_)
  · obtain ⟨x, r, s, e, f, b, rfl, _⟩ := h
    rfl
  · obtain ⟨x, r, s, e, f, b, rfl, hF, wf, hp, q⟩ := h
    refine ⟨_, (pss_one (ps_if (pt_val (pv 1)) (pss_one (ps_expr (pe_meth0 (pv 0) T.cl_RunFinder T.m_RunFinder__finish G_RunFinder__finish (hr.mono (by decide)) T.b_RunFinder__finish .nil pass0))) (pss_cons (ps_expr (pe_meth (pv 0) T.cl_RunFinder T.m_RunFinder__turn G_RunFinder__turn (hr.mono (by decide)) T.b_RunFinder__turn .nil pass0 (pa_cons (pe_fld (pv 0) rfl) pa_nil)))
      (pss_one (ps_expr (pe_meth0 (pv 0) T.cl_RunFinder T.m_RunFinder__begin_falling G_RunFinder__begin_falling (hr.mono (by decide)) T.b_RunFinder__begin_falling .nil pass0)))))), ?_⟩
    obtain ⟨n, dx, wv, hx, hw, hrw⟩ := id hF
    refine ⟨_, rfl, b, rfl, ?_⟩
    cases b with
    | true => exact iteT ⟨_, rfl, x, dx, _, rfl, hx, rfl, x, r, s, e, f, rfl, hF, wf, True.intro, fun H1 F1 fr1 => q H1 F1 fr1⟩
    | false =>
      refine iteF ?_
      refine ⟨_, rfl, x, dx, _, rfl, hx, rfl, ?_⟩
      refine ⟨_, rfl, x, a.c_RunFinder, dx, _, _, rfl, hx, T.cl_RunFinder, T.n_start, rfl, ?_⟩
      refine ⟨x, r, s, e, s, f, rfl, hF, wf, Nat.le_of_lt wf.sp, fun H2 F2 fr2 => ?_⟩
      obtain ⟨n2, dx2, wv2, hx2, hw2, hrw2⟩ := id F2
      exact ⟨_, rfl, x, dx2, _, rfl, hx2, rfl, x, r, s, e, _, rfl, F2, wf.turn (Nat.le_of_lt wf.sp), hp, fun H3 F3 fr3 => q _ F3 (fr2.trans fr3)⟩
theorem ok_take_falling (T : Txt K mg a d) : FnOk P w K mg base CX0 7 a.RunFinder__take_falling d.RunFinder__take_falling P_RunFinder__take_falling (spF1 a.c_RunFinder (fun _ e f => f.pl < e) RF.take3) := by
  have G_RunFinder__turn_equal : FnOk P w K mg base CX0 2 a.RunFinder__turn_equal d.RunFinder__turn_equal P_RunFinder__turn_equal (spF0 a.c_RunFinder noP fun _ _ f => RF.turnEq f) := ok_turn_equal T
  have G_RunFinder__go_on : FnOk P w K mg base CX0 5 a.RunFinder__go_on d.RunFinder__go_on P_RunFinder__go_on (spG a.c_RunFinder RF.goOn) := ok_go_on T
  refine T.f_RunFinder__take_falling.ok sc_RunFinder__take_falling (fun vs H Q E h => ?_) (fun cdv A outer s0 H vs Q E hr h => ?_)
  · obtain ⟨x, r, s, e, f, b, rfl, _⟩ := h
    rfl
  · obtain ⟨x, r, s, e, f, b, rfl, hF, wf, hp, q⟩ := h
    refine ⟨_, (pss_one (ps_if (pt_val (pv 1)) (pss_cons (ps_expr (pe_meth0 (pv 0) T.cl_RunFinder T.m_RunFinder__turn_equal G_RunFinder__turn_equal (hr.mono (by decide)) T.b_RunFinder__turn_equal .nil pass0))
      (pss_one (ps_expr (pe_meth0 (pv 0) T.cl_RunFinder T.m_RunFinder__go_on G_RunFinder__go_on (hr.mono (by decide)) T.b_RunFinder__go_on .nil pass0)))) (pss_cons (ps_fld (pv 0) (pe_glob (v := .int 4) rfl T.g_STILL_EQUAL ⟨_, rfl⟩) rfl)
      (pss_one (ps_fld (pv 0) (pe_tup (pa_cons (pe_ix ix_list (pe_fld (pv 0) rfl) (pe_op op_sub (pe_fld (pv 0) rfl) pe_int) (fun _ _ => rfl)) (pa_cons (pe_ix ix_list (pe_fld (pv 0) rfl) (pe_fld (pv 0) rfl) (fun _ _ => rfl)) pa_nil))) rfl))))), ?_⟩
    obtain ⟨n, dx, wv, hx, hw, hrw⟩ := id hF
    have b1 := wf.sp; have b2 := wf.er
    refine ⟨_, rfl, b, rfl, ?_⟩
    cases b with
    | true =>
      refine iteT ⟨_, rfl, x, dx, _, rfl, hx, rfl, x, r, s, e, f, rfl, hF, wf, True.intro, fun H1 F1 fr1 => ?_⟩
      obtain ⟨n1, dx1, wv1, hx1, hw1, hrw1⟩ := id F1
      exact ⟨_, rfl, x, dx1, _, rfl, hx1, rfl, x, r, s, e, _, rfl, F1, wf.turnEq.next (by rw [RF.turnEq_pl]; exact hp), fun H3 F3 fr3 => q _ F3 (fr1.trans fr3)⟩
    | false =>
      refine iteF ?_
      refine ⟨_, rfl, x, a.c_RunFinder, dx, _, rfl, hx, T.cl_RunFinder, T.n_step, by show 8 < 1000; decide, ?_⟩
      obtain ⟨F1, hx1, fr1⟩ := hF.set hx { f with st := 4 } wv rfl hw (w := putF "step" (.int 4) (flds r s e f wv)) rfl
      generalize upd H x (.ins a.c_RunFinder dx (putF "step" (.int 4) (flds r s e f wv))) = H1 at F1 hx1 fr1 ⊢
      obtain ⟨_, _, _, _, _, hrw1⟩ := id F1
      refine ⟨_, rfl, x, a.c_RunFinder, dx, _, _, rfl, hx1, T.cl_RunFinder, T.n_row, rfl, ?_⟩
      refine ⟨_, rfl, x, a.c_RunFinder, dx, _, _, rfl, hx1, T.cl_RunFinder, T.n_place, rfl, ?_⟩
      have e1 : (f.pl : Int) - 1 = ((f.pl - 1 : Nat) : Int) := by omega
      refine ⟨_, _, rfl, rfl, r, _, _, _, rfl, rfl, L2.sq_of hrw1, by rw [show (({ f with st := 4 } : RF).pl : Int) - 1 = ((f.pl - 1 : Nat) : Int) from e1]; exact nV_get (row := f.row) (by omega), ?_⟩
      refine ⟨_, rfl, x, a.c_RunFinder, dx, _, _, rfl, hx1, T.cl_RunFinder, T.n_row, rfl, ?_⟩
      refine ⟨_, rfl, x, a.c_RunFinder, dx, _, _, rfl, hx1, T.cl_RunFinder, T.n_place, rfl, ?_⟩
      refine ⟨r, _, _, _, rfl, rfl, L2.sq_of hrw1, nV_get (row := f.row) (by show f.pl < _; omega), ?_⟩
      refine ⟨by show 2 ≤ sizeLine; decide, fun t ht => ?_⟩
      have s1 := same_upd (o := .tup [.int ((f.row.getD (f.pl - 1) 0 : Nat) : Int), .int ((f.row.getD f.pl 0 : Nat) : Int)]) ht
      have hT : upd H1 t (.tup [.int ((f.row.getD (f.pl - 1) 0 : Nat) : Int), .int ((f.row.getD f.pl 0 : Nat) : Int)]) t = some (.tup [.int ((f.row.getD (f.pl - 1) 0 : Nat) : Int), .int ((f.row.getD f.pl 0 : Nat) : Int)]) := upd_same
      generalize upd H1 t (.tup [.int ((f.row.getD (f.pl - 1) 0 : Nat) : Int), .int ((f.row.getD f.pl 0 : Nat) : Int)]) = H2 at s1 hT ⊢
      have hx2 := s1 _ _ hx1
      refine ⟨_, rfl, x, a.c_RunFinder, dx, _, rfl, hx2, T.cl_RunFinder, T.n_waiting, by show 8 < 1000; decide, ?_⟩
      obtain ⟨F2, hx3, fr2⟩ := (F1.same s1).set hx2 { f with st := 4, wt := some (f.row.getD (f.pl - 1) 0, f.row.getD f.pl 0) } (.ref t) rfl ⟨t, rfl, hT⟩ (w := putF "waiting" (.ref t) (flds r s e { f with st := 4 } wv)) rfl
      exact q _ F2 ((fr1.trans (Fr2.of s1)).trans fr2)
theorem ok_take_still_equal (T : Txt K mg a d) : FnOk P w K mg base CX0 7 a.RunFinder__take_still_equal d.RunFinder__take_still_equal P_RunFinder__take_still_equal (spF1 a.c_RunFinder (fun _ e f => f.pl < e) RF.take4) := by
  have G_RunFinder__make_rising : FnOk P w K mg base CX0 3 a.RunFinder__make_rising d.RunFinder__make_rising P_RunFinder__make_rising (spF0 a.c_RunFinder noP RF.rise) := ok_make_rising T
  have G_RunFinder__go_on : FnOk P w K mg base CX0 5 a.RunFinder__go_on d.RunFinder__go_on P_RunFinder__go_on (spG a.c_RunFinder RF.goOn) := ok_go_on T
  refine T.f_RunFinder__take_still_equal.ok sc_RunFinder__take_still_equal (fun vs H Q E h => ?_) (fun cdv A outer s0 H vs Q E hr h => ?_)
  · obtain ⟨x, r, s, e, f, b, rfl, _⟩ := h
    rfl
  · obtain ⟨x, r, s, e, f, b, rfl, hF, wf, hp, q⟩ := h
    refine ⟨_, (pss_one (ps_if (pt_val (pv 1)) (pss_one (ps_expr (pe_meth0 (pv 0) T.cl_RunFinder T.m_RunFinder__make_rising G_RunFinder__make_rising (hr.mono (by decide)) T.b_RunFinder__make_rising .nil pass0))) (pss_cons (ps_fldaug (pv 0) pe_int in_add)
      (pss_cons (ps_fld (pv 0) (pe_glob (v := .int 3) rfl T.g_FALLING ⟨_, rfl⟩) rfl)
      (pss_one (ps_expr (pe_meth0 (pv 0) T.cl_RunFinder T.m_RunFinder__go_on G_RunFinder__go_on (hr.mono (by decide)) T.b_RunFinder__go_on .nil pass0))))))), ?_⟩
    obtain ⟨n, dx, wv, hx, hw, hrw⟩ := id hF
    refine ⟨_, rfl, b, rfl, ?_⟩
    cases b with
    | true => exact iteT ⟨_, rfl, x, dx, _, rfl, hx, rfl, x, r, s, e, f, rfl, hF, wf, True.intro, fun H1 F1 fr1 => q H1 F1 fr1⟩
    | false =>
      refine iteF ?_
      refine ⟨_, rfl, x, a.c_RunFinder, dx, _, _, rfl, hx, T.cl_RunFinder, T.n_equal, rfl, ?_⟩
      refine ⟨_, _, rfl, rfl, dx, _, hx, by show 8 < 1000; decide, ?_⟩
      obtain ⟨F1, hx1, fr1⟩ := hF.set hx { f with eq := f.eq + 1 } wv rfl hw (w := putF "equal" (.int ((f.eq : Int) + 1)) (flds r s e f wv)) rfl
      generalize upd H x (.ins a.c_RunFinder dx (putF "equal" (.int ((f.eq : Int) + 1)) (flds r s e f wv))) = H1 at F1 hx1 fr1 ⊢
      refine ⟨_, rfl, x, a.c_RunFinder, dx, _, rfl, hx1, T.cl_RunFinder, T.n_step, by show 8 < 1000; decide, ?_⟩
      obtain ⟨F2, hx2, fr2⟩ := F1.set hx1 { f with eq := f.eq + 1, st := 3 } wv rfl (F1.wait hx1) (w := putF "step" (.int 3) (flds r s e { f with eq := f.eq + 1 } wv)) rfl
      generalize upd H1 x (.ins a.c_RunFinder dx (putF "step" (.int 3) (flds r s e { f with eq := f.eq + 1 } wv))) = H2 at F2 hx2 fr2 ⊢
      exact ⟨_, rfl, x, dx, _, rfl, hx2, rfl, x, r, s, e, _, rfl, F2, wf.eq1 hp, fun H3 F3 fr3 => q _ F3 ((fr1.trans fr2).trans fr3)⟩
theorem ok_take_rising_on (T : Txt K mg a d) : FnOk P w K mg base CX0 7 a.RunFinder__take_rising_on d.RunFinder__take_rising_on P_RunFinder__take_rising_on (spF1 a.c_RunFinder (fun _ e f => f.pl < e) RF.take5) := by
  have G_RunFinder__finish : FnOk P w K mg base CX0 1 a.RunFinder__finish d.RunFinder__finish P_RunFinder__finish (spF0 a.c_RunFinder noP fun s _ f => RF.finish s f) := ok_finish T
  have G_RunFinder__go_on : FnOk P w K mg base CX0 5 a.RunFinder__go_on d.RunFinder__go_on P_RunFinder__go_on (spG a.c_RunFinder RF.goOn) := ok_go_on T
  refine T.f_RunFinder__take_rising_on.ok sc_RunFinder__take_rising_on (fun vs H Q E h => ?_) (fun cdv A outer s0 H vs Q E hr h => ?_)
  · obtain ⟨x, r, s, e, f, b, rfl, _⟩ := h
    rfl
  · obtain ⟨x, r, s, e, f, b, rfl, hF, wf, hp, q⟩ := h
    refine ⟨_, (pss_one (ps_if (pt_val (pv 1)) (pss_one (ps_expr (pe_meth0 (pv 0) T.cl_RunFinder T.m_RunFinder__finish G_RunFinder__finish (hr.mono (by decide)) T.b_RunFinder__finish .nil pass0))) (pss_one (ps_expr (pe_meth0 (pv 0) T.cl_RunFinder T.m_RunFinder__go_on G_RunFinder__go_on (hr.mono (by decide)) T.b_RunFinder__go_on .nil pass0))))), ?_⟩
    obtain ⟨n, dx, wv, hx, hw, hrw⟩ := id hF
    refine ⟨_, rfl, b, rfl, ?_⟩
    cases b with
    | true => exact iteT ⟨_, rfl, x, dx, _, rfl, hx, rfl, x, r, s, e, f, rfl, hF, wf, True.intro, fun H1 F1 fr1 => q H1 F1 fr1⟩
    | false => exact iteF ⟨_, rfl, x, dx, _, rfl, hx, rfl, x, r, s, e, f, rfl, hF, wf.next hp, fun H1 F1 fr1 => q H1 F1 fr1⟩
theorem ok_take (T : Txt K mg a d) : FnOk P w K mg base CX0 8 a.RunFinder_take d.RunFinder_take P_RunFinder_take (spF1 a.c_RunFinder (fun _ e f => f.pl < e) RF.take) := by
  have G_RunFinder__take_rising : FnOk P w K mg base CX0 7 a.RunFinder__take_rising d.RunFinder__take_rising P_RunFinder__take_rising (spF1 a.c_RunFinder (fun _ e f => f.pl < e) RF.take1) := ok_take_rising T
  have G_RunFinder__take_all_equal : FnOk P w K mg base CX0 7 a.RunFinder__take_all_equal d.RunFinder__take_all_equal P_RunFinder__take_all_equal (spF1 a.c_RunFinder (fun _ e f => f.pl < e) RF.take2) := ok_take_all_equal T
  have G_RunFinder__take_falling : FnOk P w K mg base CX0 7 a.RunFinder__take_falling d.RunFinder__take_falling P_RunFinder__take_falling (spF1 a.c_RunFinder (fun _ e f => f.pl < e) RF.take3) := ok_take_falling T
  have G_RunFinder__take_still_equal : FnOk P w K mg base CX0 7 a.RunFinder__take_still_equal d.RunFinder__take_still_equal P_RunFinder__take_still_equal (spF1 a.c_RunFinder (fun _ e f => f.pl < e) RF.take4) := ok_take_still_equal T
  have G_RunFinder__take_rising_on : FnOk P w K mg base CX0 7 a.RunFinder__take_rising_on d.RunFinder__take_rising_on P_RunFinder__take_rising_on (spF1 a.c_RunFinder (fun _ e f => f.pl < e) RF.take5) := ok_take_rising_on T
  refine T.f_RunFinder_take.ok sc_RunFinder_take (fun vs H Q E h => ?_) (fun cdv A outer s0 H vs Q E hr h => ?_)
  · obtain ⟨x, r, s, e, f, b, rfl, _⟩ := h
    rfl
  · obtain ⟨x, r, s, e, f, b, rfl, hF, wf, hp, q⟩ := h
    refine ⟨_, (pss_one (ps_if (pt_cmpR op_eq (pe_fld (pv 0) rfl) (pe_glob (v := .int 1) rfl T.g_RISING ⟨_, rfl⟩) (nomark _)) (pss_one (ps_expr (pe_meth (pv 0) T.cl_RunFinder T.m_RunFinder__take_rising G_RunFinder__take_rising (hr.mono (by decide)) T.b_RunFinder__take_rising .nil pass0 (pa_cons (pv 1) pa_nil)))) (pss_one (ps_if (pt_cmpR op_eq (pe_fld (pv 0) rfl) (pe_glob (v := .int 2) rfl T.g_ALL_EQUAL ⟨_, rfl⟩) (nomark _)) (pss_one (ps_expr (pe_meth (pv 0) T.cl_RunFinder T.m_RunFinder__take_all_equal G_RunFinder__take_all_equal (hr.mono (by decide)) T.b_RunFinder__take_all_equal .nil pass0 (pa_cons (pv 1) pa_nil)))) (pss_one (ps_if (pt_cmpR op_eq (pe_fld (pv 0) rfl) (pe_glob (v := .int 3) rfl T.g_FALLING ⟨_, rfl⟩) (nomark _)) (pss_one (ps_expr (pe_meth (pv 0) T.cl_RunFinder T.m_RunFinder__take_falling G_RunFinder__take_falling (hr.mono (by decide)) T.b_RunFinder__take_falling .nil pass0 (pa_cons (pv 1) pa_nil)))) (pss_one (ps_if (pt_cmpR op_eq (pe_fld (pv 0) rfl) (pe_glob (v := .int 4) rfl T.g_STILL_EQUAL ⟨_, rfl⟩) (nomark _)) (pss_one (ps_expr (pe_meth (pv 0) T.cl_RunFinder T.m_RunFinder__take_still_equal G_RunFinder__take_still_equal (hr.mono (by decide)) T.b_RunFinder__take_still_equal .nil pass0 (pa_cons (pv 1) pa_nil)))) (pss_one (ps_expr (pe_meth (pv 0) T.cl_RunFinder T.m_RunFinder__take_rising_on G_RunFinder__take_rising_on (hr.mono (by decide)) T.b_RunFinder__take_rising_on .nil pass0 (pa_cons (pv 1) pa_nil)))))))))))), ?_⟩
    obtain ⟨n, dx, wv, hx, hw, hrw⟩ := id hF
    refine ⟨_, rfl, x, a.c_RunFinder, dx, _, _, rfl, hx, T.cl_RunFinder, T.n_step, rfl, rfl, ?_⟩
    unfold RF.take at q
    by_cases h1 : f.st = 1
    · rw [if_pos h1] at q
      exact ⟨true, dnT h1, iteT ⟨_, rfl, x, dx, _, rfl, hx, rfl, _, rfl, x, r, s, e, f, b, rfl, hF, wf, hp, q⟩⟩
    rw [if_neg h1] at q
    refine ⟨false, dnF h1, iteF ?_⟩
    refine ⟨_, rfl, x, a.c_RunFinder, dx, _, _, rfl, hx, T.cl_RunFinder, T.n_step, rfl, rfl, ?_⟩
    by_cases h2 : f.st = 2
    · rw [if_pos h2] at q
      exact ⟨true, dnT h2, iteT ⟨_, rfl, x, dx, _, rfl, hx, rfl, _, rfl, x, r, s, e, f, b, rfl, hF, wf, hp, q⟩⟩
    rw [if_neg h2] at q
    refine ⟨false, dnF h2, iteF ?_⟩
    refine ⟨_, rfl, x, a.c_RunFinder, dx, _, _, rfl, hx, T.cl_RunFinder, T.n_step, rfl, rfl, ?_⟩
    by_cases h3 : f.st = 3
    · rw [if_pos h3] at q
      exact ⟨true, dnT h3, iteT ⟨_, rfl, x, dx, _, rfl, hx, rfl, _, rfl, x, r, s, e, f, b, rfl, hF, wf, hp, q⟩⟩
    rw [if_neg h3] at q
    refine ⟨false, dnF h3, iteF ?_⟩
    refine ⟨_, rfl, x, a.c_RunFinder, dx, _, _, rfl, hx, T.cl_RunFinder, T.n_step, rfl, rfl, ?_⟩
    by_cases h4 : f.st = 4
    · rw [if_pos h4] at q
      exact ⟨true, dnT h4, iteT ⟨_, rfl, x, dx, _, rfl, hx, rfl, _, rfl, x, r, s, e, f, b, rfl, hF, wf, hp, q⟩⟩
    rw [if_neg h4] at q
    exact ⟨false, dnF h4, iteF ⟨_, rfl, x, dx, _, rfl, hx, rfl, _, rfl, x, r, s, e, f, b, rfl, hF, wf, hp, q⟩⟩
theorem ok_init (T : Txt K mg a d) : FnOk P w K mg base CX0 5 a.RunFinder___init__ d.RunFinder___init__ P_RunFinder___init__ (spInit a.c_RunFinder) := by
  have G_RunFinder__ask_about_place : FnOk P w K mg base CX0 4 a.RunFinder__ask_about_place d.RunFinder__ask_about_place P_RunFinder__ask_about_place (spF0 a.c_RunFinder noP RF.ask) := ok_ask T
  refine T.f_RunFinder___init__.ok sc_RunFinder___init__ (fun vs H Q E h => ?_) (fun cdv A outer s0 H vs Q E hr h => ?_)
  · obtain ⟨x, dx, r, s, e, row, rfl, _⟩ := h
    rfl
  · obtain ⟨x, dx, r, s, e, row, rfl, hx, hrw, n, h1, h2, h3, q⟩ := h
    refine ⟨_, (pss_cons (ps_fld (pv 0) (pv 1) rfl)
    (pss_cons (ps_fld (pv 0) (pv 2) rfl)
    (pss_cons (ps_fld (pv 0) (pv 3) rfl)
    (pss_cons (ps_fld (pv 0) (pe_op op_add (pv 2) pe_int) rfl)
    (pss_cons (ps_fld (pv 0) pe_int rfl)
    (pss_cons (ps_fld (pv 0) (pe_glob (v := .int 1) rfl T.g_RISING ⟨_, rfl⟩) rfl)
    (pss_cons (ps_fld (pv 0) pe_non rfl)
    (pss_cons (ps_fld (pv 0) pe_non rfl)
    (pss_one (ps_expr (pe_meth0 (pv 0) T.cl_RunFinder T.m_RunFinder__ask_about_place G_RunFinder__ask_about_place (hr.mono (by decide)) T.b_RunFinder__ask_about_place .nil pass0))))))))))), ?_⟩
    refine ⟨_, rfl, _, rfl, x, a.c_RunFinder, dx, _, rfl, hx, T.cl_RunFinder, T.n_row, by show 0 < 1000; decide, ?_⟩
    refine ⟨_, rfl, _, rfl, x, a.c_RunFinder, dx, _, rfl, upd_same, T.cl_RunFinder, T.n_start, by show 1 < 1000; decide, ?_⟩
    refine ⟨_, rfl, _, rfl, x, a.c_RunFinder, dx, _, rfl, upd_same, T.cl_RunFinder, T.n_end, by show 2 < 1000; decide, ?_⟩
    refine ⟨_, rfl, _, _, rfl, rfl, _, rfl, x, a.c_RunFinder, dx, _, rfl, upd_same, T.cl_RunFinder, T.n_place, by show 3 < 1000; decide, ?_⟩
    refine ⟨_, rfl, x, a.c_RunFinder, dx, _, rfl, upd_same, T.cl_RunFinder, T.n_equal, by show 4 < 1000; decide, ?_⟩
    refine ⟨_, rfl, x, a.c_RunFinder, dx, _, rfl, upd_same, T.cl_RunFinder, T.n_step, by show 5 < 1000; decide, ?_⟩
    refine ⟨_, rfl, x, a.c_RunFinder, dx, _, rfl, upd_same, T.cl_RunFinder, T.n_waiting, by show 6 < 1000; decide, ?_⟩
    refine ⟨_, rfl, x, a.c_RunFinder, dx, _, rfl, upd_same, T.cl_RunFinder, T.n_length, by show 7 < 1000; decide, ?_⟩
    refine ⟨_, rfl, x, dx, _, rfl, upd_same, rfl, x, r, s, e, { row := row, pl := s + 1, eq := 0, st := 1, wt := none, ln := none }, rfl, ⟨n, dx, .non, upd_same, rfl, ?_⟩, ⟨by show s < s + 1; omega, by show s + 1 ≤ e; omega, h2, by show 0 + s < s + 1; omega, h3⟩, True.intro, fun H2 F2 fr2 => q _ F2 (Fr2.trans ?_ fr2)⟩
    · rw [upd_ne n.symm, upd_ne n.symm, upd_ne n.symm, upd_ne n.symm, upd_ne n.symm, upd_ne n.symm, upd_ne n.symm, upd_ne n.symm]
      exact hrw
    exact ((((((Fr2.putx.trans Fr2.putx).trans Fr2.putx).trans Fr2.putx).trans Fr2.putx).trans Fr2.putx).trans Fr2.putx).trans Fr2.putx
end

def spIsInt : Sp := fun vs H Q _ => ∃ i, vs = [.int i] ∧ Q (.bl true) H
section
variable {P : Program} {w : World} {K : PySem.W.Frag} {mg : Str → Option Value} {base : Heap} {a : Ad} {d : Fd}
theorem ok_is_integer (T : Txt K mg a d) : FnOk P w K mg base CX0 1 a.is_integer d.is_integer P_is_integer spIsInt := by
  refine T.f_is_integer.ok sc_is_integer (fun vs H Q E h => ?_) (fun cdv A outer s H vs Q E hr h => ?_)
  · obtain ⟨i, rfl, _⟩ := h
    rfl
  · obtain ⟨i, rfl, q⟩ := h
    refine ⟨_, (pss_one (ps_ret (pe_and (pe_callB call_isi (by rfl) T.z_isinstance (by decide +kernel) (pa_cons (pv 0) (pa_cons (pe_bltn (v := .ty "int") (u := .type "int") (by rfl) T.z_int (by decide +kernel) rfl) pa_nil))) (pe_one (pe_not (pe_callB call_isi (by rfl) T.z_isinstance (by decide +kernel) (pa_cons (pv 0) (pa_cons (pe_bltn (v := .ty "bool") (u := .type "bool") (by rfl) T.z_bool (by decide +kernel) rfl) pa_nil)))))))), ?_⟩
    refine ⟨_, rfl, .int i, .ty "int", .type "int", .type "int", true, rfl, .ty _, .base (.int i), kit_ty (by decide +kernel), true, rfl, iteT ?_⟩
    exact ⟨_, rfl, .int i, .ty "bool", .type "int", .type "bool", false, rfl, .ty _, .base (.int i), kit_ty (by decide +kernel), false, rfl, q⟩
end
def spWithin : Sp := fun vs H Q _ => ∃ v lo hi, vs = [.int v, .int lo, .int hi] ∧ lo ≤ v ∧ v ≤ hi ∧ Q (.bl true) H
section
variable {P : Program} {w : World} {K : PySem.W.Frag} {mg : Str → Option Value} {base : Heap} {a : Ad} {d : Fd}
theorem ok_is_within (T : Txt K mg a d) : FnOk P w K mg base CX0 2 a.is_within d.is_within P_is_within spWithin := by
  have G_is_integer : FnOk P w K mg base CX0 1 a.is_integer d.is_integer P_is_integer spIsInt := ok_is_integer T
  refine T.f_is_within.ok sc_is_within (fun vs H Q E h => ?_) (fun cdv A outer s H vs Q E hr h => ?_)
  · obtain ⟨v, lo, hi, rfl, _⟩ := h
    rfl
  · obtain ⟨v, lo, hi, rfl, h1, h2, q⟩ := h
    refine ⟨_, (pss_one (ps_ret (pe_and (pe_call G_is_integer (hr.mono (by decide)) (by rfl) T.g_is_integer T.k_is_integer T.b_is_integer .nil pass0 (pa_cons (pv 0) pa_nil)) (pe_and (pe_cmpR op_ge (pv 0) (pv 1) (nomark _)) (pe_one (pe_or (pe_cmpR op_isN (pv 2) pe_non (nomark _)) (pe_one (pe_cmpR op_le (pv 0) (pv 2) (nomark _))))))))), ?_⟩
    refine ⟨_, rfl, v, rfl, true, rfl, iteT ?_⟩
    refine ⟨_, rfl, _, rfl, _, _, rfl, rfl, true, congrArg V.bl (decide_eq_true h1), iteT ?_⟩
    refine ⟨_, rfl, rfl, false, rfl, iteF ?_⟩
    refine ⟨_, rfl, _, rfl, _, _, rfl, rfl, ?_⟩
    show Q (V.bl (decide (v ≤ hi))) H
    rw [decide_eq_true h2]
    exact q
end


def spCheckNumber : Sp := fun vs H Q _ => ∃ (nm : Str) (v lo hi : Int), vs = [.str nm, .int v, .int lo, .int hi] ∧ lo ≤ v ∧ v ≤ hi ∧ Q .non H
section
variable {P : Program} {w : World} {K : PySem.W.Frag} {mg : Str → Option Value} {base : Heap} {a : Ad} {d : Fd}
theorem ok_check_number (T : Txt K mg a d) : FnOk P w K mg base CX0 3 a.check_number d.check_number P_check_number spCheckNumber := by
  have G_is_within : FnOk P w K mg base CX0 2 a.is_within d.is_within P_is_within spWithin := ok_is_within T
  refine T.f_check_number.ok sc_check_number (fun vs H Q E h => ?_) (fun cdv A outer s H vs Q E hr h => ?_)
  · obtain ⟨nm, v, lo, hi, rfl, _⟩ := h
    rfl
  · obtain ⟨nm, v, lo, hi, rfl, h1, h2, q⟩ := h
    refine ⟨_, (pss_one (ps_if (pt_not (pt_val (pe_call G_is_within (hr.mono (by decide)) (by rfl) T.g_is_within T.k_is_within T.b_is_within .nil pass0 (pa_cons (pv 1) (pa_cons (pv 2) (pa_cons (pv 3) pa_nil)))))) (pss_one ps_never) pss_nil)), ?_⟩
    exact ⟨_, rfl, _, rfl, _, rfl, v, lo, hi, rfl, h1, h2, true, rfl, iteF q⟩
end

end K07

namespace K07
open PySem PySem.Spec PyProof.Rows L2
/-- keys: a list or a tuple of ints -/
def KeysAt (H : Hp) (p : Addr) (ns : List Int) : Prop := H p = some (.lst (ns.map V.int)) ∨ H p = some (.tup (ns.map V.int))
theorem KeysAt.same {H H' : Hp} {p : Addr} {ns : List Int} (e : Same H H') (h : KeysAt H p ns) : KeysAt H' p ns := h.imp (e _ _) (e _ _)
def spCheckKeysN : Sp := fun vs H Q _ => ∃ p ns lo hi, vs = [.ref p, .int lo, .int hi] ∧ KeysAt H p ns ∧ lo ≤ (ns.length : Int) ∧ (ns.length : Int) ≤ hi ∧ ∀ H', Same H H' → Q .non H'
theorem keys_item {ns : List Int} {i : Nat} {x : V} (h : (ns.map V.int)[i]? = some x) : ∃ z, ns[i]? = some z ∧ x = .int z := by
  rw [List.getElem?_map] at h
  cases e : ns[i]? with
  | none => rw [e] at h; cases h
  | some z => rw [e] at h; exact ⟨z, rfl, (Option.some.inj h).symm⟩
section
variable {P : Program} {w : World} {K : PySem.W.Frag} {mg : Str → Option Value} {base : Heap} {a : Ad} {d : Fd}
theorem ok_check_keys (T : Txt K mg a d) : FnOk P w K mg base CX0 2 a.check_keys d.check_keys P_check_keys spCheckKeysN := by
  have G_is_integer : FnOk P w K mg base CX0 1 a.is_integer d.is_integer P_is_integer spIsInt := ok_is_integer T
  refine T.f_check_keys.ok sc_check_keys (fun vs H Q E h => ?_) (fun cdv A outer s H vs Q E hr h => ?_)
  · obtain ⟨p, ns, lo, hi, rfl, _⟩ := h
    rfl
  · obtain ⟨p, ns, lo, hi, rfl, hK, hl1, hl2, q⟩ := h
    refine ⟨_, (pss_cons (ps_if (PW.pt (pw_or (pt_not (pt_val (pe_callB call_isiT (by rfl) T.z_isinstance (by decide +kernel) (pa_cons (pv 0) (pa_cons (pe_tup (pa_cons (pe_bltn (v := .ty "list") (u := .type "list") (by rfl) T.z_list (by decide +kernel) rfl) (pa_cons (pe_bltn (v := .ty "tuple") (u := .type "tuple") (by rfl) T.z_tuple (by decide +kernel) rfl) pa_nil))) pa_nil))))) (pw_or1 (pt_not (pt_chain op_le op_le (pv 1) (pe_callB call_len_seq (by rfl) T.z_len PySem.boot_len (pa_cons (pv 0) pa_nil)) (pv 2)))))) (pss_one ps_never) pss_nil)
    (pss_one (ps_for PassesOwn.never rfl (pi_enumA (by rfl) T.z_enumerate (pa_cons (pv 0) pa_nil)) (pg_tup rfl (pgs_cons (pg_name (i := 3) sc_check_keys.nd rfl (Or.inl rfl)) (pgs_cons (pg_name (i := 4) sc_check_keys.nd rfl (Or.inl rfl)) pgs_nil)))
      (pss_one (ps_if (pt_not (pt_val (pe_call G_is_integer (hr.mono (by decide)) (by rfl) T.g_is_integer T.k_is_integer T.b_is_integer .nil pass0 (pa_cons (pv 4) pa_nil)))) (pss_one ps_never) pss_nil))))), ?_⟩
    refine ⟨_, rfl, by show 2 ≤ sizeLine; decide, fun tp htp => ?_⟩
    have s1 : Same H (upd H tp (.tup [.ty "list", .ty "tuple"])) := same_upd htp
    have hK1 := hK.same s1
    have hT : upd H tp (.tup [.ty "list", .ty "tuple"]) tp = some (.tup [.ty "list", .ty "tuple"]) := upd_same
    generalize upd H tp (.tup [.ty "list", .ty "tuple"]) = H1 at s1 hK1 hT ⊢
    have cs : Paired ClsV [.ty "list", .ty "tuple"] [.type "list", .type "tuple"] := .cons (.ty _) (.cons (.ty _) .nil)
    have hS : SqL K H1 p (ns.map V.int) ∨ SqT K H1 p (ns.map V.int) := hK1.imp L2.sq_of L2.st_of
    obtain ⟨t, hty, hkit⟩ : ∃ t, TyX K H1 (.ref p) t ∧ PySem.W.kitAny K t [.type "list", .type "tuple"] = some true := by
      rcases hK1 with hl | ht
      · exact ⟨_, .base (.lst hl), kitAny_cons (b := true) (kit_ty (by decide +kernel)) (fun z => nomatch z) (fun _ => rfl)⟩
      · exact ⟨_, .base (.tup ht), kitAny_cons (b := false) (kit_ty (by decide +kernel)) (fun _ => kitAny_cons (b := true) (kit_ty (by decide +kernel)) (fun z => nomatch z) (fun _ => rfl)) (fun z => nomatch z)⟩
    refine ⟨.ref p, tp, _, t, _, true, rfl, hT, cs, hty, hkit, true, rfl, iteF ?_⟩
    have el : (ns.map V.int).length = ns.length := List.length_map _
    refine ⟨_, rfl, _, rfl, p, _, rfl, hS, _, _, rfl, rfl, true, congrArg V.bl (decide_eq_true (by rw [el]; exact hl1)), iteT ⟨_, rfl, _, _, rfl, rfl, true, congrArg V.bl (decide_eq_true (by rw [el]; exact hl2)), iteF ?_⟩⟩
    · refine ⟨_, rfl, p, ns.map V.int, rfl, hS.imp (fun hs => ⟨hs, ?_⟩) (fun hs => ⟨hs, ?_⟩)⟩
      · refine for_iteL (K := K) (a := p) (xs := ns.map V.int) (fun i σ H' => (∃ u v, σ = [some (.ref p), some (.int lo), some (.int hi), u, v]) ∧ Same H1 H') ⟨⟨_, _, rfl⟩, Same.refl _⟩ (fun i σ H' _ h => h.2.seq hs) ?_ ?_
        · rintro i y σ H2 Tp hy ⟨⟨u, v, rfl⟩, sm⟩ hn
          obtain ⟨z, _, rfl⟩ := keys_item hy
          refine ⟨Tp, _, rfl, L2.st_of upd_same, rfl, _, _, rfl, _, _, rfl, rfl, ?_⟩
          refine ⟨_, rfl, z, rfl, true, rfl, iteF ?_⟩
          exact ⟨⟨_, _, rfl⟩, sm.trans (same_upd hn)⟩
        · rintro σ H' ⟨_, sm⟩
          exact q H' (s1.trans sm)
      · refine for_iteT (K := K) (a := p) (xs := ns.map V.int) (fun i σ H' => (∃ u v, σ = [some (.ref p), some (.int lo), some (.int hi), u, v]) ∧ Same H1 H') ⟨⟨_, _, rfl⟩, Same.refl _⟩ (fun i σ H' _ h => Same.tupS h.2 hs) ?_ ?_
        · rintro i y σ H2 Tp hy ⟨⟨u, v, rfl⟩, sm⟩ hn
          obtain ⟨z, _, rfl⟩ := keys_item hy
          refine ⟨Tp, _, rfl, L2.st_of upd_same, rfl, _, _, rfl, _, _, rfl, rfl, ?_⟩
          refine ⟨_, rfl, z, rfl, true, rfl, iteF ?_⟩
          exact ⟨⟨_, _, rfl⟩, sm.trans (same_upd hn)⟩
        · rintro σ H' ⟨_, sm⟩
          exact q H' (s1.trans sm)
end

theorem keys_get {H : Hp} {K : PySem.W.Frag} {p : Addr} {ns : List Int} (h : KeysAt H p ns) {i : Nat} (hi : i < ns.length) (Q : V → Hp → Prop) (q : Q (.int (ns.getD i 0)) H) : rIx K (.ref p) (.int (i : Int)) H Q := by
  have e : atI (ns.map V.int) (i : Int) = some (.int (ns.getD i 0)) := by
    refine atI_nat ?_
    rw [List.getElem?_map, List.getElem?_eq_getElem hi]
    simp [List.getD_eq_getElem?_getD, List.getElem?_eq_getElem hi]
  rcases h with h | h
  · exact .inl ⟨p, _, i, _, rfl, rfl, L2.sq_of h, e, q⟩
  · exact .inr (.inl ⟨p, _, i, _, rfl, rfl, L2.st_of h, e, q⟩)
/-- the finder at the start of it all -/
abbrev fin0 (row : List Nat) (s e : Nat) : RF := RF.init row s e
def spAsk (C : Addr) : Sp := fun vs H Q _ => ∃ (x p r : Addr) (s : Nat) (ns : List Int) (row : List Nat), vs = [.ref x, .ref p] ∧ KeysAt H p ns ∧ FAt C H x r s row.length (fin0 row s row.length) ∧ p ≠ r ∧ s < row.length ∧ row.length ≤ 2000 ∧ row.Perm (List.range ns.length) ∧
  ∀ (N : Nat) (l : Addr) (H' : Hp), ((fin0 row s row.length).stps (less ns) s row.length N).wt = none → (∀ i, i < N → ((fin0 row s row.length).stps (less ns) s row.length i).wt ≠ none) → N ≤ 6010 →
    Fr2 x r H H' → FAt C H' x r s row.length ((fin0 row s row.length).stps (less ns) s row.length N) → H l = none → QAt H' l ((fin0 row s row.length).asks (less ns) s row.length N) → Q (.ref l) H'
section
variable {P : Program} {w : World} {K : PySem.W.Frag} {mg : Str → Option Value} {base : Heap} {a : Ad} {d : Fd}
theorem ok_asks (T : Txt K mg a d) : FnOk P w K mg base CX0 9 a.ask_honestly d.ask_honestly P_ask_honestly (spAsk a.c_RunFinder) := by
  have G_RunFinder_take : FnOk P w K mg base CX0 8 a.RunFinder_take d.RunFinder_take P_RunFinder_take (spF1 a.c_RunFinder (fun _ e f => f.pl < e) RF.take) := ok_take T
  refine T.f_ask_honestly.ok sc_ask_honestly (fun vs H Q E h => ?_) (fun cdv A outer s0 H vs Q E hr h => ?_)
  · obtain ⟨x, p, r, s, ns, row, rfl, _⟩ := h
    rfl
  · obtain ⟨x, p, r, s, ns, row, rfl, hK, F2, npr, hs, hl, pm, q⟩ := h
    refine ⟨_, (pss_cons (ps_set (i := 2) sc_ask_honestly.nd rfl (Or.inl rfl) (pe_lst pa_nil))
    (pss_cons (ps_while PassesOwn.never (pt_cmpR op_notN (pe_fld (pv 0) rfl) pe_non (nomark _))
      (pss_cons (ps_asg (pe_fld (pv 0) rfl) (pg_tup rfl (pgs_cons (pg_name (i := 3) sc_ask_honestly.nd rfl (Or.inl rfl)) (pgs_cons (pg_name (i := 4) sc_ask_honestly.nd rfl (Or.inl rfl)) pgs_nil))))
        (pss_cons (ps_expr (pe_bm PySem.F.plainAttrs_list PySem.F.slot_list_append PySem.F.type_list_append mt_append (pv 2) (pa_cons (pe_fld (pv 0) rfl) pa_nil)))
        (pss_one (ps_expr (pe_meth (pv 0) T.cl_RunFinder T.m_RunFinder_take G_RunFinder_take (hr.mono (by decide)) T.b_RunFinder_take .nil pass0 (pa_cons (pe_cmpR op_lt (pe_ix ix_seq (pv 1) (pv 3) (fun _ _ => rfl)) (pe_ix ix_seq (pv 1) (pv 4) (fun _ _ => rfl)) (nomark _)) pa_nil)))))))
    (pss_one (ps_ret (pv 2))))), ?_⟩
    have ln : ns.length = row.length := by rw [pm.length_eq, List.length_range]
    obtain ⟨_, dx2, wv2, hx2, hw2, hr2⟩ := id F2
    have nxp : x ≠ p := fun e => by
      rw [e] at hx2
      rcases hK with h | h
      · rw [h] at hx2; cases hx2
      · rw [h] at hx2; cases hx2
    refine ⟨Nat.zero_le _, fun l hlN => ?_⟩
    have G0 : RF.Good s row.length row (fin0 row s row.length) := RF.Good.init hs (Nat.le_refl _) hl
    have F3 := F2.same (same_upd (o := .lst []) hlN)
    have SH3 : Fr2 x r H (upd H l (.lst [])) := fun b o _ _ h => same_upd hlN b o h
    have hq0 : QAt (upd H l (.lst [])) l [] := QAt.nil upd_same
    generalize upd H l (.lst []) = H3 at F3 SH3 hq0 ⊢
    refine ⟨fun m σ H' => ∃ (n : Nat) (u v : Option V), σ = [some (.ref x), some (.ref p), some (.ref l), u, v] ∧ m = RF.mu row.length ((fin0 row s row.length).stps (less ns) s row.length n) ∧ n + m ≤ 6010 ∧
      (∀ i, i < n → ((fin0 row s row.length).stps (less ns) s row.length i).wt ≠ none) ∧ FAt a.c_RunFinder H' x r s row.length ((fin0 row s row.length).stps (less ns) s row.length n) ∧ QAt H' l ((fin0 row s row.length).asks (less ns) s row.length n) ∧ Fr2 x r H H',
      ⟨_, 0, none, none, rfl, rfl, ?_, fun i h => absurd h (Nat.not_lt_zero _), F3, hq0, SH3⟩, ?_⟩
    · have h1 := RF.mu_le row.length (fin0 row s row.length)
      have h2 := RF.stw_le (fin0 row s row.length).st
      show 0 + RF.mu row.length (fin0 row s row.length) ≤ 6010
      omega
    · rintro m σ H4 ⟨n, u, v, rfl, rfl, hm, hbe, F4, hq4, SH4⟩
      have Gn := RF.Good.stps (less ns) G0 n
      have hnx : ∀ q, ((fin0 row s row.length).stps (less ns) s row.length n).wt = some q → (fin0 row s row.length).stps (less ns) s row.length (n + 1) = ((fin0 row s row.length).stps (less ns) s row.length n).take s row.length (less ns q) := fun q h => RF.stps_next h
      have hak : ∀ q, ((fin0 row s row.length).stps (less ns) s row.length n).wt = some q → (fin0 row s row.length).asks (less ns) s row.length (n + 1) = (fin0 row s row.length).asks (less ns) s row.length n ++ [q] := fun q h => RF.asks_next h
      have hmt : ∀ q b, ((fin0 row s row.length).stps (less ns) s row.length n).wt = some q → RF.mu row.length (((fin0 row s row.length).stps (less ns) s row.length n).take s row.length b) < RF.mu row.length ((fin0 row s row.length).stps (less ns) s row.length n) := fun q b h => RF.mu_take (by rw [h]; exact Option.some_ne_none _) (Gn.ah (by rw [h]; exact Option.some_ne_none _)) b
      have hN := q n
      have hasl := RF.asks_len (f := fin0 row s row.length) (s := s) (e := row.length) (less ns) n
      generalize hf : (fin0 row s row.length).stps (less ns) s row.length n = f at hm F4 Gn hnx hak hmt hN ⊢
      obtain ⟨_, dx4, wv4, hx4, hw4, hr4⟩ := id F4
      refine ⟨_, rfl, x, a.c_RunFinder, dx4, _, _, rfl, hx4, T.cl_RunFinder, T.n_waiting, rfl, rfl, ?_⟩
      cases hwt : f.wt with
      | none =>
        rw [hwt] at hw4
        cases hw4
        refine ⟨false, rfl, iteF ?_⟩
        exact ⟨_, rfl, hN l _ hwt hbe (by omega) SH4 F4 hlN hq4⟩
      | some pr =>
        obtain ⟨i, j⟩ := pr
        rw [hwt] at hw4
        obtain ⟨t, rfl, ht⟩ := hw4
        refine ⟨true, rfl, iteT ⟨_, fun _ _ h => h, ?_⟩⟩
        obtain ⟨hi, hj, _⟩ := Gn.items pm hwt
        have K4 : KeysAt H4 p ns := hK.imp (SH4 _ _ nxp.symm npr) (SH4 _ _ nxp.symm npr)
        refine ⟨_, rfl, x, a.c_RunFinder, dx4, _, _, rfl, hx4, T.cl_RunFinder, T.n_waiting, rfl, t, _, rfl, L2.st_of ht, rfl, _, _, rfl, _, _, rfl, rfl, ?_⟩
        obtain ⟨ts, hts, hlen, hpa⟩ := id hq4
        refine ⟨_, rfl, .inl ⟨rfl, _, L2.sq_of hts⟩, _, rfl, x, a.c_RunFinder, dx4, _, _, rfl, hx4, T.cl_RunFinder, T.n_waiting, rfl, l, ts, _, rfl, rfl, hts, ?_, ?_⟩
        · rw [hlen, hasl]
          exact Nat.lt_of_le_of_lt (by omega : n ≤ 6010) (by decide : 6010 < sizeLine)
        have hpair : PairAt H4 (.ref t) (i, j) := ⟨t, rfl, ht⟩
        have hq5 := QAt.push hts hq4 hpair
        have SH5 : Fr2 x r H (upd H4 l (.lst (ts ++ [.ref t]))) := fun b o n1 n2 h => by
          rw [upd_ne (ne_of_none h hlN)]
          exact SH4 b o n1 n2 h
        have nlx : l ≠ x := fun e => by rw [e, hx4] at hts; cases hts
        have nlr : l ≠ r := fun e => by rw [e, hr2] at hlN; cases hlN
        have F5 : FAt a.c_RunFinder (upd H4 l (.lst (ts ++ [.ref t]))) x r s row.length f := by
          obtain ⟨g1, g2, g3, g4, g5, g6⟩ := id F4
          exact ⟨g1, g2, g3, by rw [upd_ne nlx.symm]; exact g4, g5.upd hts (fun i j e => by cases e), by rw [upd_ne nlr.symm]; exact g6⟩
        have nlp : p ≠ l := fun e => by
          rw [← e] at hlN
          rcases hK with h | h
          · rw [h] at hlN; cases hlN
          · rw [h] at hlN; cases hlN
        have K5 : KeysAt (upd H4 l (.lst (ts ++ [.ref t]))) p ns := K4.imp (fun h => by rw [upd_ne nlp]; exact h) (fun h => by rw [upd_ne nlp]; exact h)
        have hx5 : upd H4 l (.lst (ts ++ [.ref t])) x = some (.ins a.c_RunFinder dx4 (flds r s row.length f (.ref t))) := by rw [upd_ne nlx.symm]; exact hx4
        generalize upd H4 l (.lst (ts ++ [.ref t])) = H5 at hq5 SH5 F5 K5 hx5 ⊢
        refine ⟨_, rfl, x, dx4, _, rfl, hx5, rfl, ?_⟩
        refine ⟨_, rfl, _, rfl, keys_get K5 hi _ ⟨_, rfl, _, rfl, keys_get K5 hj _ ⟨_, _, rfl, rfl, ?_⟩⟩⟩
        refine ⟨x, r, s, row.length, f, less ns (i, j), rfl, F5, Gn.wf, Gn.ah (by rw [hwt]; exact Option.some_ne_none _), fun H6 F6 fr6 => ?_⟩
        have hlt := hmt (i, j) (less ns (i, j)) hwt
        rw [← hnx (i, j) hwt] at F6 hlt
        rw [← hak (i, j) hwt] at hq5
        refine ⟨_, hlt, n + 1, _, _, rfl, rfl, by omega, fun k hk => ?_, F6, ?_, ?_⟩
        · by_cases e : k = n
          · rw [e, hf, hwt]
            exact Option.some_ne_none _
          · exact hbe k (by omega)
        · obtain ⟨ts5, h5, _⟩ := id hq5
          refine hq5.keep (fun y hy => fr6 _ _ nlx nlr hy) (fun t' i' j' ht' => fr6 _ _ (ne_of ht' hx5 (fun e => by cases e)) ?_ ht')
          obtain ⟨_, _, _, _, _, h6⟩ := F5
          exact ne_of ht' h6 (fun e => by cases e)
        · exact fun b o n1 n2 h => fr6 _ _ n1 n2 (SH5 b o n1 n2 h)
end
/-- the finder after n questions, in a row of all items -/
abbrev finN (ns : List Int) (s n : Nat) : RF := (fin0 (List.range ns.length) s (List.range ns.length).length).stps (less ns) s (List.range ns.length).length n
abbrev askN (ns : List Int) (s n : Nat) : List (Nat × Nat) := (fin0 (List.range ns.length) s (List.range ns.length).length).asks (less ns) s (List.range ns.length).length n
theorem finN_good {ns : List Int} {s : Nat} (h : s < ns.length) (h2 : ns.length ≤ 2000) (n : Nat) : RF.Good s (List.range ns.length).length (List.range ns.length) (finN ns s n) :=
  RF.Good.stps (less ns) (RF.Good.init (by rw [List.length_range]; exact h) (Nat.le_refl _) (by rw [List.length_range]; exact h2)) n

def spRunOf : Sp := fun vs H Q _ => ∃ (p : Addr) (s : Nat) (ns : List Int), vs = [.ref p, .int (s : Int)] ∧ KeysAt H p ns ∧ s < ns.length ∧ ns.length ≤ 2000 ∧
  ∀ (N ln : Nat) (t il ql : Addr) (H' : Hp), (finN ns s N).wt = none → (∀ i, i < N → (finN ns s i).wt ≠ none) → N ≤ 6010 → (finN ns s N).ln = some ln →
    Same H H' → H' t = some (.tup [.int (ln : Int), .ref il, .ref ql]) → H t = none → H il = none → H ql = none → il ≠ ql → H' il = some (.lst (nV (((finN ns s N).row.drop s).take ln))) → QAt H' ql (askN ns s N) → Q (.ref t) H'
section
variable {P : Program} {w : World} {K : PySem.W.Frag} {mg : Str → Option Value} {base : Heap} {a : Ad} {d : Fd}
theorem kfree {H' : Hp} {p z : Addr} {ns : List Int} (h1 : KeysAt H' p ns) (h2 : H' z = none) : p ≠ z := fun e => by
  rw [← e] at h2
  rcases h1 with h | h
  · rw [h] at h2; cases h2
  · rw [h] at h2; cases h2
theorem ok_run_of (T : Txt K mg a d) : FnOk P w K mg base CX0 10 a.run_of d.run_of P_run_of spRunOf := by
  have G_check_keys : FnOk P w K mg base CX0 2 a.check_keys d.check_keys P_check_keys spCheckKeysN := ok_check_keys T
  have G_check_number : FnOk P w K mg base CX0 3 a.check_number d.check_number P_check_number spCheckNumber := ok_check_number T
  have G_RunFinder___init__ : FnOk P w K mg base CX0 5 a.RunFinder___init__ d.RunFinder___init__ P_RunFinder___init__ (spInit a.c_RunFinder) := ok_init T
  have G_ask_honestly : FnOk P w K mg base CX0 9 a.ask_honestly d.ask_honestly P_ask_honestly (spAsk a.c_RunFinder) := ok_asks T
  refine T.f_run_of.ok sc_run_of (fun vs H Q E h => ?_) (fun cdv A outer s0 H vs Q E hr h => ?_)
  · obtain ⟨p, s, ns, rfl, _⟩ := h
    rfl
  · obtain ⟨p, s, ns, rfl, hK, hs, hl, q⟩ := h
    refine ⟨_, (pss_cons (ps_expr (pe_call (dvs := [.int 0, .int 2000]) G_check_keys (hr.mono (by decide)) (by rfl) T.g_check_keys T.k_check_keys T.b_check_keys_2.choose_spec.2 T.b_check_keys_2.choose_spec.1 pass0 (pa_cons (pv 0) pa_nil)))
    (pss_cons (ps_expr (pe_call G_check_number (hr.mono (by decide)) (by rfl) T.g_check_number T.k_check_number T.b_check_number .nil pass0 (pa_cons pe_str (pa_cons (pv 1) (pa_cons pe_int (pa_cons (pe_op op_sub (pe_callB call_len_seq (by rfl) T.z_len PySem.boot_len (pa_cons (pv 0) pa_nil)) pe_int) pa_nil))))))
    (pss_cons (ps_set (i := 2) sc_run_of.nd rfl (Or.inl rfl) (pe_listRg (by rfl) (by rfl) T.z_list (prg_1 (by rfl) T.z_range (pe_callB call_len_seq (by rfl) T.z_len PySem.boot_len (pa_cons (pv 0) pa_nil)))))
    (pss_cons (ps_set (i := 3) sc_run_of.nd rfl (Or.inl rfl) (pe_make T.mk_RunFinder G_RunFinder___init__ (hr.mono (by decide)) (by rfl) T.g_RunFinder T.b_RunFinder___init__ .nil pass0 (pa_cons (pv 2) (pa_cons (pv 1) (pa_cons (pe_callB call_len_seq (by rfl) T.z_len PySem.boot_len (pa_cons (pv 2) pa_nil)) pa_nil)))))
    (pss_cons (ps_set (i := 4) sc_run_of.nd rfl (Or.inl rfl) (pe_call G_ask_honestly (hr.mono (by decide)) (by rfl) T.g_ask_honestly T.k_ask_honestly T.b_ask_honestly .nil pass0 (pa_cons (pv 3) (pa_cons (pv 0) pa_nil))))
    (pss_one (ps_ret (pe_tup (pa_cons (pe_fld (pv 3) rfl) (pa_cons (pe_slice sl_list (pv 2) (po_some (pv 1)) (po_some (pe_op op_add (pv 1) (pe_fld (pv 3) rfl)))) (pa_cons (pv 4) pa_nil))))))))))), ?_⟩
    have ek : (ns.map V.int).length = ns.length := List.length_map _
    have er : (List.range ns.length).length = ns.length := List.length_range
    refine ⟨_, rfl, p, ns, 0, 2000, rfl, hK, by omega, by omega, fun H1 s1 => ?_⟩
    have hK1 := hK.same s1
    have hS1 : SqL K H1 p (ns.map V.int) ∨ SqT K H1 p (ns.map V.int) := hK1.imp L2.sq_of L2.st_of
    refine ⟨_, rfl, _, rfl, p, _, rfl, hS1, _, _, rfl, rfl, "start", (s : Int), 0, _, rfl, by omega, by rw [ek]; omega, ?_⟩
    refine ⟨_, rfl, p, _, rfl, hS1, _, rfl, by rw [ek]; exact rgOk_nat hl, fun r hrN => ?_⟩
    rw [ek, rg_nat]
    have s2 := same_upd (o := .lst (nV (List.range ns.length))) hrN
    have hr2 : upd H1 r (.lst (nV (List.range ns.length))) r = some (.lst (nV (List.range ns.length))) := upd_same
    have hK2 := hK1.same s2
    have npr : p ≠ r := kfree hK1 hrN
    have hrH : H r = none := (SB.of (p := p) s1).free npr.symm hrN
    generalize upd H1 r (.lst (nV (List.range ns.length))) = H2 at s2 hr2 hK2 ⊢
    refine ⟨_, rfl, _, rfl, _, rfl, r, _, rfl, .inl (L2.sq_of hr2), ?_⟩
    intro x dx hx hdx nxd
    have nxr : x ≠ r := fun e => by rw [e, hr2] at hx; cases hx
    have s12 : Same H H2 := s1.trans s2
    have xH : H x = none := by
      cases e : H x with
      | none => rfl
      | some o => rw [s12 _ _ e] at hx; cases hx
    have s3 : Same H2 (upd (upd H2 dx (.own x)) x (.ins a.c_RunFinder dx [])) := (same_upd hdx).trans (same_upd (by rw [upd_ne nxd.symm]; exact hx))
    have hxi : upd (upd H2 dx (.own x)) x (.ins a.c_RunFinder dx []) x = some (.ins a.c_RunFinder dx []) := upd_same
    generalize upd (upd H2 dx (.own x)) x (.ins a.c_RunFinder dx []) = H3 at s3 hxi ⊢
    refine ⟨x, dx, r, s, (List.range ns.length).length, List.range ns.length, by rw [List.length_map]; rfl, hxi, s3 _ _ hr2, nxr, by rw [er]; exact hs, Nat.le_refl _, by rw [er]; exact hl, fun H4 F4 fr4 => ⟨rfl, ?_⟩⟩
    have nxp : p ≠ x := kfree hK2 hx
    have hK4 : KeysAt H4 p ns := (hK2.same s3).imp (fr4 _ _ nxp npr) (fr4 _ _ nxp npr)
    refine ⟨_, rfl, _, rfl, x, p, r, s, ns, _, rfl, hK4, F4, npr, by rw [er]; exact hs, by rw [er]; exact hl, List.Perm.refl _, fun N l H5 hwt hbe hN fr5 F5 lN Q5 => ?_⟩
    have S5 : Same H H5 := fun b o h => by
      have nx : b ≠ x := fun e => by rw [e, xH] at h; cases h
      have nr : b ≠ r := fun e => by rw [e, hrH] at h; cases h
      exact fr5 b o nx nr (fr4 b o nx nr (s3 _ _ (s12 _ _ h)))
    have lH : H l = none := by
      cases e : H l with
      | none => rfl
      | some o =>
        have nx : l ≠ x := fun e2 => by rw [e2, xH] at e; cases e
        have nr : l ≠ r := fun e2 => by rw [e2, hrH] at e; cases e
        rw [fr4 _ _ nx nr (s3 _ _ (s12 _ _ e))] at lN
        cases lN
    have GN := finN_good hs hl N
    have hln := GN.le.1 hwt
    have e5 : lenV (finN ns s N).ln = .int (((finN ns s N).pl - s : Nat) : Int) := congrArg lenV hln
    have b1 := GN.wf.sp; have b2 := GN.wf.pe; have b3 := GN.wf.er
    obtain ⟨_, dx5, wv5, hx5, hw5, hr5⟩ := id F5
    refine ⟨_, rfl, x, a.c_RunFinder, dx5, _, _, rfl, hx5, T.cl_RunFinder, T.n_length, rfl, _, rfl, _, rfl, _, rfl, _, rfl, _, rfl, x, a.c_RunFinder, dx5, _, _, rfl, hx5, T.cl_RunFinder, T.n_length, rfl, _, (((finN ns s N).pl - s : Nat) : Int), rfl, e5, _, rfl, r, _, rfl, L2.sq_of hr5, fun il hil => ⟨_, rfl, by show 3 ≤ sizeLine; decide, fun t2 ht2 => ?_⟩⟩
    have e1 : (s : Int) + (((finN ns s N).pl - s : Nat) : Int) = ((finN ns s N).pl : Int) := by omega
    have ec : cutV (nV (finN ns s N).row) (some (s : Int)) (some ((s : Int) + (((finN ns s N).pl - s : Nat) : Int))) = nV (((finN ns s N).row.drop s).take ((finN ns s N).pl - s)) := by
      rw [e1, cut_mid _ _ _ (Nat.le_of_lt b1) (by rw [List.length_map]; omega)]
      simp only [List.map_take, List.map_drop]
    have il2 : ∀ o : HO, upd (upd H5 il (.lst (cutV (nV (finN ns s N).row) (some (s : Int)) (some ((s : Int) + (((finN ns s N).pl - s : Nat) : Int)))))) t2 o il = some (.lst (nV (((finN ns s N).row.drop s).take ((finN ns s N).pl - s)))) := fun o => by
      rw [upd_ne (fun e => by rw [← e, upd_same] at ht2; cases ht2), upd_same, ec]
    have S6 := S5.trans (same_upd (o := .lst (cutV (nV (finN ns s N).row) (some (s : Int)) (some ((s : Int) + (((finN ns s N).pl - s : Nat) : Int))))) hil)
    have free : ∀ {H' : Hp} {z : Addr}, Same H H' → H' z = none → H z = none := fun {H' z} sm hz => by
      cases e : H z with
      | none => rfl
      | some o => rw [sm _ _ e] at hz; cases hz
    refine q N ((finN ns s N).pl - s) t2 il l _ hwt hbe hN hln (S6.trans (same_upd ht2)) ?_ (free S6 ht2) (free S5 hil) lH (fun e => ?_) (il2 _) ((Q5.same (same_upd hil)).same (same_upd ht2))
    · rw [upd_same]
      exact congrArg (fun z => some (HO.tup [z, .ref il, .ref l])) e5
    · obtain ⟨ts, h, _⟩ := Q5
      rw [← e, hil] at h
      cases h
end

end K07

namespace K07
open PySem PySem.Spec PyProof.Rows L2
/-- p keys from b on do not fall, and the next one does, if there is one -/
def Rises (ns : List Int) (b p : Nat) : Prop := 0 < p ∧ b + p ≤ ns.length ∧ (∀ i, i + 1 < p → ¬ ns.getD (b + i + 1) 0 < ns.getD (b + i) 0) ∧ (b + p = ns.length ∨ ns.getD (b + p) 0 < ns.getD (b + p - 1) 0)
def spPrefix : Sp := fun vs H Q _ => ∃ (p : Addr) (ns : List Int) (b : Nat), vs = [.ref p, .int (b : Int)] ∧ H p = some (.lst (ns.map V.int)) ∧ b < ns.length ∧ ns.length ≤ 2000 ∧ ∀ m : Nat, Rises ns b m → Q (.int (m : Int)) H
theorem key_at {ns : List Int} {i : Nat} (hi : i < ns.length) : atI (ns.map V.int) (i : Int) = some (.int (ns.getD i 0)) := by
  refine atI_nat ?_
  rw [List.getElem?_map, List.getElem?_eq_getElem hi]
  simp [List.getD_eq_getElem?_getD, List.getElem?_eq_getElem hi]
section
variable {P : Program} {w : World} {K : PySem.W.Frag} {mg : Str → Option Value} {base : Heap} {a : Ad} {d : Fd}
theorem ok_prefix (T : Txt K mg a d) : FnOk P w K mg base CX0 1 a.lprefix d.lprefix P_lprefix spPrefix := by
  refine T.f_lprefix.ok sc_lprefix (fun vs H Q E h => ?_) (fun cdv A outer s H vs Q E hr h => ?_)
  · obtain ⟨p, ns, b, rfl, _⟩ := h
    rfl
  · obtain ⟨p, ns, b, rfl, hp, hb, hl, q⟩ := h
    refine ⟨_, (pss_cons (ps_set (i := 2) sc_lprefix.nd rfl (Or.inl rfl) (pe_op op_add (pv 1) pe_int))
    (pss_cons (ps_while PassesOwn.never (PW.pt (pw_and (pt_cmpR op_lt (pv 2) (pe_callB call_len_seq (by rfl) T.z_len PySem.boot_len (pa_cons (pv 0) pa_nil)) (nomark _)) (pw_and1 (pt_cmpR op_ge (pe_ix ix_list (pv 0) (pv 2) (fun _ _ => rfl)) (pe_ix ix_list (pv 0) (pe_op op_sub (pv 2) pe_int) (fun _ _ => rfl)) (nomark _)))))
      (pss_one (ps_set (i := 2) sc_lprefix.nd rfl (Or.inl rfl) (pe_op op_add (pv 2) pe_int))))
    (pss_one (ps_ret (pe_op op_sub (pv 2) (pv 1)))))), ?_⟩
    have ek : (ns.map V.int).length = ns.length := List.length_map _
    refine ⟨_, rfl, _, _, rfl, rfl, ?_⟩
    refine ⟨fun m σ H' => ∃ k : Nat, σ = [some (.ref p), some (.int (b : Int)), some (.int ((b + k : Nat) : Int))] ∧ m = ns.length - (b + k) ∧ H' = H ∧ 0 < k ∧ b + k ≤ ns.length ∧ ∀ i, i + 1 < k → ¬ ns.getD (b + i + 1) 0 < ns.getD (b + i) 0,
      ⟨_, 1, rfl, rfl, rfl, by decide, by omega, fun i hi => absurd hi (by omega)⟩, ?_⟩
    rintro m σ H' ⟨k, rfl, rfl, rfl, k0, kl, hk⟩
    refine ⟨_, rfl, _, rfl, p, _, rfl, .inl (L2.sq_of hp), _, _, rfl, rfl, ?_⟩
    rw [ek]
    by_cases c : b + k < ns.length
    · refine ⟨true, congrArg V.bl (decide_eq_true (by omega)), iteT ?_⟩
      have e1 : ((b + k : Nat) : Int) - 1 = ((b + k - 1 : Nat) : Int) := by omega
      refine ⟨_, rfl, _, rfl, p, _, _, _, rfl, rfl, L2.sq_of hp, key_at c, _, rfl, _, rfl, _, _, rfl, rfl, p, _, _, .int (ns.getD (b + k - 1) 0), rfl, rfl, L2.sq_of hp, by rw [e1]; exact key_at (by omega), _, _, rfl, rfl, ?_⟩
      by_cases d : ns.getD (b + k) 0 < ns.getD (b + k - 1) 0
      · refine ⟨false, congrArg V.bl (decide_eq_false (by omega)), iteF ?_⟩
        have e2 : ((b + k : Nat) : Int) - (b : Int) = (k : Int) := by omega
        refine ⟨_, rfl, _, rfl, _, _, rfl, rfl, ?_⟩
        show Q (.int (((b + k : Nat) : Int) - (b : Int))) _
        rw [e2]
        exact q k ⟨k0, kl, hk, .inr d⟩
      · refine ⟨true, congrArg V.bl (decide_eq_true (by omega)), iteT ⟨_, fun _ _ h => h, ?_⟩⟩
        refine ⟨_, rfl, _, _, rfl, rfl, ?_⟩
        exact ⟨_, by omega, k + 1, rfl, rfl, rfl, by omega, by omega, fun i hi => by
          by_cases e : i + 1 = k
          · rw [show b + i + 1 = b + k by omega, show b + i = b + k - 1 by omega]
            exact d
          · exact hk i (by omega)⟩
    · refine ⟨false, congrArg V.bl (decide_eq_false (by omega)), iteF (iteF ?_)⟩
      have e2 : ((b + k : Nat) : Int) - (b : Int) = (k : Int) := by omega
      refine ⟨_, rfl, _, rfl, _, _, rfl, rfl, ?_⟩
      show Q (.int (((b + k : Nat) : Int) - (b : Int))) _
      rw [e2]
      exact q k ⟨k0, kl, hk, .inl (by omega)⟩
end

end K07

namespace K07
open PySem PySem.Spec PyProof.Rows L2
/-- the steps by the keys are the steps by the honest answers -/
theorem fed_fin {ns : List Int} {N : Nat} (hbe : ∀ i, i < N → (finN ns 0 i).wt ≠ none) {k : Nat} (hk : k ≤ N) : RF.fed ns.length ((askN ns 0 N).map (less ns)) k = finN ns 0 k := by
  rw [← RF.gv_fed]
  have e := RF.gv_stps (s := 0) (e := (List.range ns.length).length) (f := fin0 (List.range ns.length) 0 (List.range ns.length).length) (ls := less ns) (bs := (askN ns 0 N).map (less ns)) (k := k) (fun i pr hi hq => by
    have e0 : (askN ns 0 N)[i]? = some pr := by
      rw [RF.asks_at (by omega)]
      show some (((finN ns 0 i).wt).getD (0, 0)) = _
      rw [show (finN ns 0 i).wt = some pr from hq]
      rfl
    rw [List.getD_eq_getElem?_getD, List.getElem?_map, e0]
    rfl)
  refine Eq.trans ?_ e
  rw [List.length_range]
theorem askB_fin {ns : List Int} {N : Nat} (hbe : ∀ i, i < N → (finN ns 0 i).wt ≠ none) {k : Nat} (hk : k ≤ N) : RF.askB ns.length ((askN ns 0 N).map (less ns)) k = askN ns 0 k := by
  refine List.map_congr_left fun i hi => ?_
  rw [fed_fin hbe (Nat.le_trans (Nat.le_of_lt (List.mem_range.mp hi)) hk)]
theorem take_getD {bs : List Bool} {m j : Nat} (h : j < m) : (bs.take m).getD j false = bs.getD j false := by
  rw [List.getD_eq_getElem?_getD, List.getD_eq_getElem?_getD, List.getElem?_take, if_pos h]
theorem askN_take {ns : List Int} {s N k : Nat} (h : k ≤ N) : (askN ns s N).take k = askN ns s k := by
  show ((List.range N).map _).take k = (List.range k).map _
  rw [← List.map_take, List.take_range, Nat.min_eq_left h]
theorem QAt.take {H : Hp} {l c : Addr} {ts : List V} {qs : List (Nat × Nat)} {k : Nat} (hq : QAt H l qs) (hl : H l = some (.lst ts)) (hc : H c = some (.lst (ts.take k))) : QAt H c (qs.take k) := by
  obtain ⟨ts', h1, h2, h3⟩ := hq
  have et : ts' = ts := HO.lst.inj (Option.some.inj (h1.symm.trans hl))
  subst et
  refine ⟨_, hc, by rw [List.length_take, List.length_take, h2], fun i v q a b => ?_⟩
  rw [List.getElem?_take] at a b
  split at a
  · rename_i hi
    rw [if_pos hi] at b
    exact h3 i v q a b
  · cases a
/-- the row of a run that is found: its items, then the rest as it was -/
theorem fin_row {ns : List Int} {N : Nat} (h0 : 0 < ns.length) (hl : ns.length ≤ 2000) (hbe : ∀ i, i < N → (finN ns 0 i).wt ≠ none) :
    nV (((finN ns 0 N).row.drop 0).take ((finN ns 0 N).pl - 0)) ++ rgV (((finN ns 0 N).pl : Nat) : Int) (ns.length : Int) = nV (finN ns 0 N).row := by
  have e := fed_fin hbe (Nat.le_refl N)
  have t := RF.fed_tail h0 hl ((askN ns 0 N).map (less ns)) N
  rw [e] at t
  have GN := finN_good h0 hl N
  have b2 := GN.wf.pe
  have er : (List.range ns.length).length = ns.length := List.length_range
  rw [er] at b2
  have e2 : rgV (((finN ns 0 N).pl : Nat) : Int) (ns.length : Int) = nV ((List.range ns.length).drop (finN ns 0 N).pl) := by
    rw [RF.range_drop _ _ b2]
    unfold rgV
    rw [show ((ns.length : Int) - ((finN ns 0 N).pl : Int)).toNat = ns.length - (finN ns 0 N).pl by omega]
    show _ = ((List.range _).map _).map _
    rw [List.map_map]
    exact List.map_congr_left fun i _ => congrArg V.int (by show _ = ((((finN ns 0 N).pl + i : Nat)) : Int); omega)
  rw [e2, ← t _ (Nat.le_refl _), List.drop_zero, Nat.sub_zero]
  show List.map _ _ ++ List.map _ _ = List.map _ _
  rw [← List.map_append, List.take_append_drop]

theorem stps_congr {ls ls' : Nat × Nat → Bool} {s e : Nat} {f : RF} : ∀ {k : Nat}, (∀ i q, i < k → (f.stps ls s e i).wt = some q → ls' q = ls q) → f.stps ls' s e k = f.stps ls s e k
  | 0, _ => rfl
  | k + 1, h => by
    have ih := stps_congr (k := k) fun i q hi => h i q (by omega)
    cases c : (f.stps ls s e k).wt with
    | none => rw [RF.stps_end c, RF.stps_end (by rw [ih]; exact c), ih]
    | some q => rw [RF.stps_next c, RF.stps_next (q := q) (by rw [ih]; exact c), ih, h k q (by omega) c]
theorem getD_map {ns : List Int} {f : Int → Int} {i : Nat} (hi : i < ns.length) : (ns.map f).getD i 0 = f (ns.getD i 0) := by
  rw [List.getD_eq_getElem?_getD, List.getD_eq_getElem?_getD, List.getElem?_map, List.getElem?_eq_getElem hi]
  rfl
theorem getD_mem {ns : List Int} {i : Nat} (hi : i < ns.length) : ns.getD i 0 ∈ ns := by
  rw [List.getD_eq_getElem?_getD, List.getElem?_eq_getElem hi]
  exact List.getElem_mem hi
/-- keys that stand to one another likewise have the same steps -/
theorem fin_like {ns : List Int} {f : Int → Int} (hf : ∀ x ∈ ns, ∀ y ∈ ns, (f x < f y ↔ x < y)) (l0 : 0 < ns.length) (hl : ns.length ≤ 2000) (k : Nat) : finN (ns.map f) 0 k = finN ns 0 k := by
  show (fin0 (List.range (ns.map f).length) 0 (List.range (ns.map f).length).length).stps (less (ns.map f)) 0 (List.range (ns.map f).length).length k = _
  rw [List.length_map]
  refine stps_congr fun i q _ hq => ?_
  obtain ⟨h1, h2, _⟩ := (finN_good l0 hl i).items (List.Perm.refl _) hq
  unfold less
  rw [getD_map h1, getD_map h2]
  exact decide_eq_decide.mpr (hf _ (getD_mem h1) _ (getD_mem h2))
theorem ask_like {ns : List Int} {f : Int → Int} (hf : ∀ x ∈ ns, ∀ y ∈ ns, (f x < f y ↔ x < y)) (l0 : 0 < ns.length) (hl : ns.length ≤ 2000) (k : Nat) : askN (ns.map f) 0 k = askN ns 0 k :=
  List.map_congr_left fun i _ => congrArg (fun g : RF => g.wt.getD (0, 0)) (fin_like hf l0 hl i)
theorem less_shift {as ns : List Int} (q : Nat × Nat) : less (as ++ ns) (as.length + q.1, as.length + q.2) = less ns q := by
  have g : ∀ i, (as ++ ns).getD (as.length + i) 0 = ns.getD i 0 := fun i => by
    rw [List.getD_eq_getElem?_getD, List.getD_eq_getElem?_getD, List.getElem?_append_right (Nat.le_add_right _ _), Nat.add_sub_cancel_left]
  unfold less
  rw [g, g]
/-- keys ahead of the place move the steps, and no more -/
theorem fin_shift {as ns : List Int} (l0 : 0 < ns.length) (hl : as.length + ns.length ≤ 2000) : ∀ k, finN (as ++ ns) as.length k = RF.sh as.length (finN ns 0 k)
  | 0 => by
    show RF.init (List.range (as ++ ns).length) as.length (List.range (as ++ ns).length).length = RF.sh as.length (RF.init (List.range ns.length) 0 (List.range ns.length).length)
    rw [List.length_range, List.length_range, List.length_append]
    exact RF.sh_init l0 (by omega)
  | k + 1 => by
    have ih := fin_shift l0 hl k
    have G := finN_good l0 (by omega) k
    have wf := G.wf
    rw [List.length_range] at wf
    cases e : (finN ns 0 k).wt with
    | none =>
      have e1 : finN ns 0 (k + 1) = finN ns 0 k := RF.stps_end e
      have e2 : (finN (as ++ ns) as.length k).wt = none := by
        rw [ih]
        show Option.map _ _ = none
        rw [e]
        rfl
      have e3 : finN (as ++ ns) as.length (k + 1) = finN (as ++ ns) as.length k := RF.stps_end e2
      rw [e1, e3, ih]
    | some q =>
      have e2 : (finN (as ++ ns) as.length k).wt = some (as.length + q.1, as.length + q.2) := by
        rw [ih]
        show Option.map _ _ = _
        rw [e]
        rfl
      have n1 : finN ns 0 (k + 1) = (finN ns 0 k).take 0 (List.range ns.length).length (less ns q) := RF.stps_next e
      have n2 : finN (as ++ ns) as.length (k + 1) = (finN (as ++ ns) as.length k).take as.length (List.range (as ++ ns).length).length (less (as ++ ns) (as.length + q.1, as.length + q.2)) := RF.stps_next e2
      have ah := G.ah (by rw [e]; exact Option.some_ne_none _)
      rw [List.length_range] at ah
      rw [n1, n2, ih, less_shift, List.length_range, List.length_range, List.length_append, RF.sh_take wf ah]
theorem ask_shift {as ns : List Int} (l0 : 0 < ns.length) (hl : as.length + ns.length ≤ 2000) {N : Nat} (hbe : ∀ i, i < N → (finN ns 0 i).wt ≠ none) : askN (as ++ ns) as.length N = (askN ns 0 N).map fun q => (as.length + q.1, as.length + q.2) := by
  show (List.range N).map _ = ((List.range N).map _).map _
  rw [List.map_map]
  refine List.map_congr_left fun i hi => ?_
  show ((finN (as ++ ns) as.length i).wt).getD (0, 0) = _
  rw [fin_shift l0 hl]
  show (Option.map _ (finN ns 0 i).wt).getD (0, 0) = (fun q : Nat × Nat => (as.length + q.1, as.length + q.2)) (((finN ns 0 i).wt).getD (0, 0))
  cases e : (finN ns 0 i).wt with
  | none => exact absurd e (hbe i (List.mem_range.mp hi))
  | some q => rfl
theorem items_shift {as ns : List Int} (l0 : 0 < ns.length) (hl : as.length + ns.length ≤ 2000) (N m : Nat) : ((finN (as ++ ns) as.length N).row.drop as.length).take m = ((finN ns 0 N).row.take m).map fun i => as.length + i := by
  rw [fin_shift l0 hl]
  show ((List.range as.length ++ (finN ns 0 N).row.map fun i => as.length + i).drop as.length).take m = _
  rw [List.drop_append_of_le_length (by rw [List.length_range]; exact Nat.le_refl _), List.drop_of_length_le (by rw [List.length_range]; exact Nat.le_refl _), List.nil_append, List.map_take]
/-- what stands behind the run of some keys -/
theorem fin_run {ns : List Int} {N : Nat} (l0 : 0 < ns.length) (hl : ns.length ≤ 2000) (hwt : (finN ns 0 N).wt = none) (hbe : ∀ i, i < N → (finN ns 0 i).wt ≠ none) :
    ((finN ns 0 N).row.take (finN ns 0 N).pl).length = (finN ns 0 N).pl ∧ 0 < (finN ns 0 N).pl ∧ (finN ns 0 N).pl ≤ ns.length ∧ ((finN ns 0 N).row.take (finN ns 0 N).pl).Perm (List.range (finN ns 0 N).pl) ∧
    (∀ i j, i < j → j < (finN ns 0 N).pl → Lx (fun k => ns.getD k 0) (((finN ns 0 N).row.take (finN ns 0 N).pl).getD i 0) (((finN ns 0 N).row.take (finN ns 0 N).pl).getD j 0)) ∧
    ((finN ns 0 N).pl = ns.length ∨ ns.getD (finN ns 0 N).pl 0 < ns.getD (((finN ns 0 N).row.take (finN ns 0 N).pl).getD ((finN ns 0 N).pl - 1) 0) 0) := by
  have hh : RF.Hon (fun k => ns.getD k 0) ns.length (finN ns 0 N) := by
    have h := RF.hon_stps (K := fun k => ns.getD k 0) (ls := less ns) l0 (fun _ => rfl) N
    show RF.Hon (fun k => ns.getD k 0) ns.length ((RF.init (List.range ns.length) 0 (List.range ns.length).length).stps (less ns) 0 (List.range ns.length).length N)
    rw [List.length_range]
    exact h
  have GN := finN_good l0 hl N
  have t := RF.fed_tail l0 hl ((askN ns 0 N).map (less ns)) N
  rw [fed_fin hbe (Nat.le_refl N)] at t
  have pm := GN.pm
  have lr := pm.length_eq
  rw [List.length_range] at lr
  generalize finN ns 0 N = g at hwt hh t pm lr ⊢
  obtain ⟨_, u, _, nx⟩ : g.wt = none ∧ RF.Up (fun k => ns.getD k 0) ns.length g ∧ g.ln = some g.pl ∧ (g.pl = ns.length ∨ ns.getD g.pl 0 < ns.getD (g.gt (g.pl - 1)) 0) := by
    rcases hh with h | h | h | h | h | h
    · exact h
    · rw [h.2.2.2.2.2] at hwt; cases hwt
    · rw [h.2.2.2.2.2.2.1] at hwt; cases hwt
    · rw [h.2.2.2] at hwt; cases hwt
    · rw [h.2.2.2.1] at hwt; cases hwt
    · rw [h.2.2.2] at hwt; cases hwt
  have pn := u.pn
  have p0 := u.p0
  have gt : ∀ i, i < g.pl → (g.row.take g.pl).getD i 0 = g.gt i := fun i hi => by
    rw [List.getD_eq_getElem?_getD, List.getElem?_take, if_pos hi, ← List.getD_eq_getElem?_getD]
    rfl
  refine ⟨by rw [List.length_take]; omega, p0, pn, ?_, fun i j hij hj => ?_, ?_⟩
  · have e : (g.row.take g.pl ++ (List.range ns.length).drop g.pl).Perm ((List.range ns.length).take g.pl ++ (List.range ns.length).drop g.pl) := by
      rw [← t _ (Nat.le_refl _), List.take_append_drop, t _ (Nat.le_refl _), List.take_append_drop]
      exact pm
    have e2 := (List.perm_append_right_iff _).mp e
    rw [List.take_range, Nat.min_eq_left pn] at e2
    exact e2
  · rw [gt i (by omega), gt j hj]
    exact u.srt i j hij hj
  · rcases nx with h | h
    · exact .inl h
    · refine .inr ?_
      rw [gt _ (by omega)]
      exact h

/-! a run by the keys alone: the law's own steps and the honest ones -/
def sq (b : Nat) (qs : List (Nat × Nat)) : List (Nat × Nat) := qs.map fun q => (b + q.1, b + q.2)
abbrev st0 (sx : List Int) (k : Nat) : RF := (RF.init (List.range sx.length) 0 sx.length).stps (less sx) 0 sx.length k
abbrev as0 (sx : List Int) (k : Nat) : List (Nat × Nat) := (RF.init (List.range sx.length) 0 sx.length).asks (less sx) 0 sx.length k
abbrev kx (sx : List Int) : Nat → Int := fun i => sx.getD i 0
theorem less_kx (sx : List Int) : ∀ q, less sx q = decide (kx sx q.1 < kx sx q.2) := fun _ => rfl
theorem finN_st0 (sx : List Int) (k : Nat) : finN sx 0 k = st0 sx k := by
  show (RF.init (List.range sx.length) 0 (List.range sx.length).length).stps (less sx) 0 (List.range sx.length).length k = _
  rw [List.length_range]
theorem askN_as0 (sx : List Int) (k : Nat) : askN sx 0 k = as0 sx k := by
  show (RF.init (List.range sx.length) 0 (List.range sx.length).length).asks (less sx) 0 (List.range sx.length).length k = _
  rw [List.length_range]
theorem st0_good {sx : List Int} (h : 0 < sx.length) (h2 : sx.length ≤ 2000) (k : Nat) : RF.Good 0 sx.length (List.range sx.length) (st0 sx k) := by
  have := finN_good h h2 k
  rw [finN_st0, List.length_range] at this
  exact this
/-- every step before was a question -/
def Be (sx : List Int) (k : Nat) : Prop := ∀ i, i < k → (st0 sx i).wt ≠ none
theorem Be.next {sx : List Int} {k : Nat} (h : Be sx k) (h2 : (st0 sx k).wt ≠ none) : Be sx (k + 1) := fun i hi => by
  by_cases e : i = k
  · rw [e]
    exact h2
  · exact h i (by omega)
theorem be_mu {sx : List Int} (h : 0 < sx.length) (h2 : sx.length ≤ 2000) : ∀ {k : Nat}, Be sx k → k + RF.mu sx.length (st0 sx k) ≤ RF.mu sx.length (st0 sx 0)
  | 0, _ => by omega
  | k + 1, hb => by
    have ih := be_mu h h2 (k := k) fun i hi => hb i (by omega)
    have hw := hb k (by omega)
    have G := st0_good h h2 k
    cases e : (st0 sx k).wt with
    | none => exact absurd e hw
    | some q =>
      have e2 : st0 sx (k + 1) = (st0 sx k).take 0 sx.length (less sx q) := RF.stps_next e
      have := RF.mu_take (s := 0) hw (G.ah hw) (less sx q)
      rw [e2]
      omega
theorem be_few {sx : List Int} (h : 0 < sx.length) (h2 : sx.length ≤ 2000) {k : Nat} (hb : Be sx k) : k ≤ 6010 := by
  have h1 := be_mu h h2 hb
  have h3 : RF.mu sx.length (st0 sx 0) ≤ 1 + 3 * (sx.length - (0 + 1)) + RF.stw 1 := RF.mu_ask (s := 0) (e := sx.length) (f := { row := List.range sx.length, pl := 0 + 1, eq := 0, st := 1, wt := none, ln := none })
  have h4 : RF.stw 1 = 1 := rfl
  omega
/-- what is found at its place is what is found among the keys from there on, moved -/
theorem due_end {as sx : List Int} {N m : Nat} (l0 : 0 < sx.length) (hl : as.length + sx.length ≤ 2000) (hw : (st0 sx N).wt = none) (hb : Be sx N) (hp : (st0 sx N).pl = m) :
    (finN (as ++ sx) as.length N).wt = none ∧ (∀ i, i < N → (finN (as ++ sx) as.length i).wt ≠ none) ∧ (finN (as ++ sx) as.length N).ln = some m ∧
    ((finN (as ++ sx) as.length N).row.drop as.length).take m = ((st0 sx N).row.take m).map (fun i => as.length + i) ∧ askN (as ++ sx) as.length N = sq as.length (as0 sx N) := by
  have fs := fun k => fin_shift (as := as) (ns := sx) l0 hl k
  have w : ∀ k, (finN (as ++ sx) as.length k).wt = (st0 sx k).wt.map fun q => (as.length + q.1, as.length + q.2) := fun k => by
    rw [fs, finN_st0]
    rfl
  refine ⟨by rw [w, hw]; rfl, fun i hi => ?_, ?_, ?_, ?_⟩
  · rw [w]
    cases e : (st0 sx i).wt with
    | none => exact absurd e (hb i hi)
    | some q => exact Option.some_ne_none _
  · rw [fs, finN_st0]
    show (st0 sx N).ln = some m
    rw [(st0_good l0 (by omega) N).le.1 hw, hp]
    rfl
  · rw [items_shift l0 hl, finN_st0]
  · rw [ask_shift l0 hl (fun i hi => by rw [finN_st0]; exact hb i hi), askN_as0]
    rfl
theorem st0_hon {sx : List Int} (h : 0 < sx.length) (k : Nat) : RF.Hon (kx sx) sx.length (st0 sx k) := RF.hon_stps (K := kx sx) (ls := less sx) h (fun _ => rfl) k
theorem app_get {as sx : List Int} (i : Nat) : (as ++ sx).getD (as.length + i) 0 = kx sx i := by
  show _ = sx.getD i 0
  rw [List.getD_eq_getElem?_getD, List.getD_eq_getElem?_getD, List.getElem?_append_right (Nat.le_add_right _ _), Nat.add_sub_cancel_left]
theorem sq_app (b : Nat) (x y : List (Nat × Nat)) : sq b (x ++ y) = sq b x ++ sq b y := List.map_append
/-- the items sorted by their keys, from a place on -/
theorem merge_from {as sx : List Int} (n : Nat) : (((List.range n).map fun (i : Nat) => ((as.length + i : Nat) : Int)).mergeSort fun a b => decide ((as ++ sx).getD a.toNat 0 ≤ (as ++ sx).getD b.toNat 0)) = ((List.range n).mergeSort fun a b => decide (kx sx a ≤ kx sx b)).map fun (i : Nat) => ((as.length + i : Nat) : Int) :=
  (List.map_mergeSort fun a _ b _ => by rw [Int.toNat_natCast, Int.toNat_natCast, app_get, app_get]).symm

end K07

namespace K07
open PySem PySem.Spec PyProof.Rows L2
/-! runs one behind another -/
theorem stepsP {as sx : List Int} {pre : List Nat} (ep : pre.length = as.length) (l0 : 0 < sx.length) (hl : as.length + sx.length ≤ 2000) : ∀ k, (RF.init (RF.shRowP pre (List.range sx.length)) pre.length (pre.length + sx.length)).stps (less (as ++ sx)) pre.length (pre.length + sx.length) k = RF.shP pre (st0 sx k)
  | 0 => RF.shP_init l0 (by omega) rfl
  | k + 1 => by
    have ih := stepsP ep l0 hl k
    have G := st0_good l0 (by omega) k
    cases e : (st0 sx k).wt with
    | none =>
      have e1 : st0 sx (k + 1) = st0 sx k := RF.stps_end e
      rw [RF.stps_end (by rw [ih]; show Option.map _ _ = none; rw [e]; rfl), e1, ih]
    | some q =>
      have e1 : st0 sx (k + 1) = (st0 sx k).take 0 sx.length (less sx q) := RF.stps_next e
      have e2 : ((RF.init (RF.shRowP pre (List.range sx.length)) pre.length (pre.length + sx.length)).stps (less (as ++ sx)) pre.length (pre.length + sx.length) k).wt = some (pre.length + q.1, pre.length + q.2) := by
        rw [ih]
        show Option.map _ _ = _
        rw [e]
        rfl
      have e3 : less (as ++ sx) (pre.length + q.1, pre.length + q.2) = less sx q := by rw [ep, less_shift]
      rw [RF.stps_next e2, ih, e1, e3, RF.shP_take G.wf (G.ah (by rw [e]; exact Option.some_ne_none _))]
/-- the length of the run at a place -/
def rl (ns : List Int) (s : Nat) : Nat := (finN ns s 6010).ln.getD 1
theorem be_fin {as sx : List Int} (l0 : 0 < sx.length) (hl : as.length + sx.length ≤ 2000) {N : Nat} (hbe : ∀ i, i < N → (finN (as ++ sx) as.length i).wt ≠ none) : Be sx N := fun i hi => by
  have h := hbe i hi
  rw [fin_shift l0 hl, finN_st0] at h
  intro z
  exact h (by show Option.map _ _ = none; rw [z]; rfl)
theorem rl_eq {ns : List Int} {s N m : Nat} (hs : s < ns.length) (hl : ns.length ≤ 2000) (hw : (finN ns s N).wt = none) (hbe : ∀ i, i < N → (finN ns s i).wt ≠ none) (hln : (finN ns s N).ln = some m) : rl ns s = m ∧ 0 < m ∧ s + m ≤ ns.length := by
  have G := finN_good hs hl N
  have few : N ≤ 6010 := by
    obtain ⟨as, sx, rfl, rfl⟩ : ∃ as sx : List Int, ns = as ++ sx ∧ s = as.length := ⟨ns.take s, ns.drop s, (List.take_append_drop _ _).symm, by rw [List.length_take]; omega⟩
    rw [List.length_append] at hs hl
    exact be_few (by omega) (by omega) (be_fin (by omega) hl hbe)
  have e : finN ns s 6010 = finN ns s N := by
    have h := RF.stps_stay hw (6010 - N)
    rw [show N + (6010 - N) = 6010 by omega] at h
    exact h
  have b1 := G.wf.sp; have b2 := G.wf.pe
  rw [List.length_range] at b2
  have h2 := G.le.1 hw
  rw [hln] at h2
  have h3 : m = (finN ns s N).pl - s := Option.some.inj h2
  refine ⟨?_, by omega, by omega⟩
  unfold rl
  rw [e, hln]
  rfl
/-- what stands behind a run that was found in a row whose rest has not moved -/
theorem behind {ns : List Int} {row : List Nat} {s N : Nat} (hs : s < ns.length) (hl : ns.length ≤ 2000) (lr : row.length = ns.length) (raw : ∀ i, s ≤ i → i < ns.length → row.getD i 0 = i) (hw : ((fin0 row s row.length).stps (less ns) s row.length N).wt = none) (hbe : ∀ i, i < N → ((fin0 row s row.length).stps (less ns) s row.length i).wt ≠ none) :
    ((fin0 row s row.length).stps (less ns) s row.length N).pl = s + rl ns s ∧ 0 < rl ns s ∧ s + rl ns s ≤ ns.length ∧ ∀ i, s + rl ns s ≤ i → i < ns.length → ((fin0 row s row.length).stps (less ns) s row.length N).row.getD i 0 = i := by
  obtain ⟨pre, rest, rfl, rfl⟩ : ∃ pre rest : List Nat, row = pre ++ rest ∧ s = pre.length := ⟨row.take s, row.drop s, (List.take_append_drop _ _).symm, by rw [List.length_take]; omega⟩
  obtain ⟨as, sx, rfl, ep⟩ : ∃ as sx : List Int, ns = as ++ sx ∧ pre.length = as.length := ⟨ns.take pre.length, ns.drop pre.length, (List.take_append_drop _ _).symm, by rw [List.length_take]; omega⟩
  rw [List.length_append] at hs hl lr raw
  rw [List.length_append] at lr
  have l0 : 0 < sx.length := by omega
  have er : pre ++ rest = RF.shRowP pre (List.range sx.length) := by
    unfold RF.shRowP
    congr 1
    refine List.ext_getElem? fun i => ?_
    by_cases c : i < sx.length
    · have h := raw (pre.length + i) (by omega) (by omega)
      rw [List.getD_eq_getElem?_getD, List.getElem?_append_right (by omega), Nat.add_sub_cancel_left, List.getElem?_eq_getElem (by omega)] at h
      rw [List.getElem?_map, List.getElem?_range c, List.getElem?_eq_getElem (by omega)]
      exact congrArg some h
    · rw [List.getElem?_eq_none (by omega), List.getElem?_eq_none (by rw [List.length_map, List.length_range]; omega)]
  have st : ∀ k, (fin0 (pre ++ rest) pre.length (pre ++ rest).length).stps (less (as ++ sx)) pre.length (pre ++ rest).length k = RF.shP pre (st0 sx k) := fun k => by
    have h := stepsP ep l0 (by omega) k
    rw [← er] at h
    rw [List.length_append, show rest.length = sx.length by omega]
    exact h
  have w : ∀ k, ((fin0 (pre ++ rest) pre.length (pre ++ rest).length).stps (less (as ++ sx)) pre.length (pre ++ rest).length k).wt = (st0 sx k).wt.map fun q => (pre.length + q.1, pre.length + q.2) := fun k => by
    rw [st]
    rfl
  have hw0 : (st0 sx N).wt = none := by
    rw [w] at hw
    cases e : (st0 sx N).wt with
    | none => rfl
    | some q => rw [e] at hw; cases hw
  have hb0 : Be sx N := fun i hi z => hbe i hi (by rw [w, z]; rfl)
  obtain ⟨d1, d2, d3, _, _⟩ := due_end (as := as) (sx := sx) l0 (by omega) hw0 hb0 rfl
  obtain ⟨r1, r2, r3⟩ := rl_eq (by rw [List.length_append]; omega) (by rw [List.length_append]; omega) d1 d2 d3
  rw [List.length_append] at r3
  rw [st N, show rl (as ++ sx) pre.length = (st0 sx N).pl by rw [ep]; exact r1, List.length_append]
  have u : RF.Up (kx sx) sx.length (st0 sx N) := by
    rcases st0_hon l0 N with h | h | h | h | h | h
    · exact h.2.1
    · rw [h.2.2.2.2.2] at hw0; cases hw0
    · rw [h.2.2.2.2.2.2.1] at hw0; cases hw0
    · rw [h.2.2.2] at hw0; cases hw0
    · rw [h.2.2.2.1] at hw0; cases hw0
    · rw [h.2.2.2] at hw0; cases hw0
  refine ⟨rfl, r2, by omega, fun i h1 h2 => ?_⟩
  obtain ⟨j, rfl⟩ : ∃ j, i = pre.length + j := ⟨i - pre.length, by omega⟩
  have len := u.len
  show (RF.shRowP pre (st0 sx N).row).getD (pre.length + j) 0 = _
  rw [RF.getD_shP (by omega)]
  have h := u.raw j (by omega) (by omega)
  have h : (st0 sx N).row.getD j 0 = j := h
  rw [h]
def pos (ns : List Int) : Nat → Nat
  | 0 => 0
  | k + 1 => pos ns k + rl ns (pos ns k)
def lensK (ns : List Int) (k : Nat) : List Nat := (List.range k).map fun i => rl ns (pos ns i)
theorem lensK_next (ns : List Int) (k : Nat) : lensK ns (k + 1) = lensK ns k ++ [rl ns (pos ns k)] := by
  unfold lensK
  rw [List.range_succ, List.map_append]
  rfl
theorem lensK_len (ns : List Int) (k : Nat) : (lensK ns k).length = k := by
  unfold lensK
  rw [List.length_map, List.length_range]
/-- k runs are all -/
def Whole (ns : List Int) (k : Nat) : Prop := pos ns k = ns.length ∧ ∀ j, j < k → pos ns j < ns.length
theorem whole_uniq {ns : List Int} {k l : Nat} (a : Whole ns k) (b : Whole ns l) : k = l := by
  rcases Nat.lt_trichotomy k l with h | h | h
  · have := b.2 k h
    have := a.1
    omega
  · exact h
  · have := a.2 l h
    have := b.1
    omega
def spLens7 : Sp := fun vs H Q _ => ∃ (p : Addr) (ns : List Int), vs = [.ref p] ∧ KeysAt H p ns ∧ ns.length ≤ 2000 ∧
  ∀ (l : Addr) (k : Nat) (H' : Hp), Whole ns k → k ≤ 2000 → Same H H' → H l = none → H' l = some (.lst (nV (lensK ns k))) → Q (.ref l) H'
section
variable {P : Program} {w : World} {K : PySem.W.Frag} {mg : Str → Option Value} {base : Heap} {a : Ad} {d : Fd}
theorem ok_run_lengths (T : Txt K mg a d) : FnOk P w K mg base CX0 10 a.run_lengths d.run_lengths P_run_lengths spLens7 := by
  have G_check_keys : FnOk P w K mg base CX0 2 a.check_keys d.check_keys P_check_keys spCheckKeysN := ok_check_keys T
  have G_RunFinder___init__ : FnOk P w K mg base CX0 5 a.RunFinder___init__ d.RunFinder___init__ P_RunFinder___init__ (spInit a.c_RunFinder) := ok_init T
  have G_ask_honestly : FnOk P w K mg base CX0 9 a.ask_honestly d.ask_honestly P_ask_honestly (spAsk a.c_RunFinder) := ok_asks T
  refine T.f_run_lengths.ok sc_run_lengths (fun vs H Q E h => ?_) (fun cdv A outer s0 H vs Q E hr h => ?_)
  · obtain ⟨p, ns, rfl, _⟩ := h
    rfl
  · obtain ⟨p, ns, rfl, hK, hl, q⟩ := h
    refine ⟨_, (pss_cons (ps_expr (pe_call (dvs := [.int 0, .int 2000]) G_check_keys (hr.mono (by decide)) (by rfl) T.g_check_keys T.k_check_keys T.b_check_keys_2.choose_spec.2 T.b_check_keys_2.choose_spec.1 pass0 (pa_cons (pv 0) pa_nil)))
    (pss_cons (ps_set (i := 1) sc_run_lengths.nd rfl (Or.inl rfl) (pe_listRg (by rfl) (by rfl) T.z_list (prg_1 (by rfl) T.z_range (pe_callB call_len_seq (by rfl) T.z_len PySem.boot_len (pa_cons (pv 0) pa_nil)))))
    (pss_cons (ps_set (i := 2) sc_run_lengths.nd rfl (Or.inl rfl) (pe_lst pa_nil))
    (pss_cons (ps_set (i := 3) sc_run_lengths.nd rfl (Or.inl rfl) pe_int)
    (pss_cons (ps_while PassesOwn.never (pt_cmpR op_lt (pv 3) (pe_callB call_len_seq (by rfl) T.z_len PySem.boot_len (pa_cons (pv 0) pa_nil)) (nomark _))
      (pss_cons (ps_set (i := 4) sc_run_lengths.nd rfl (Or.inl rfl) (pe_make T.mk_RunFinder G_RunFinder___init__ (hr.mono (by decide)) (by rfl) T.g_RunFinder T.b_RunFinder___init__ .nil pass0 (pa_cons (pv 1) (pa_cons (pv 3) (pa_cons (pe_callB call_len_seq (by rfl) T.z_len PySem.boot_len (pa_cons (pv 1) pa_nil)) pa_nil)))))
        (pss_cons (ps_expr (pe_call G_ask_honestly (hr.mono (by decide)) (by rfl) T.g_ask_honestly T.k_ask_honestly T.b_ask_honestly .nil pass0 (pa_cons (pv 4) (pa_cons (pv 0) pa_nil))))
        (pss_cons (ps_expr (pe_bm PySem.F.plainAttrs_list PySem.F.slot_list_append PySem.F.type_list_append mt_append (pv 2) (pa_cons (pe_fld (pv 4) rfl) pa_nil)))
        (pss_one (ps_aug (i := 3) sc_run_lengths.nd rfl (Or.inl rfl) (pe_fld (pv 4) rfl) ip_add))))))
    (pss_one (ps_ret (pv 2)))))))), ?_⟩
    have ek : (ns.map V.int).length = ns.length := List.length_map _
    have er : (List.range ns.length).length = ns.length := List.length_range
    refine ⟨_, rfl, p, ns, 0, 2000, rfl, hK, by omega, by omega, fun H1 s1 => ?_⟩
    have hK1 := hK.same s1
    have hS1 : SqL K H1 p (ns.map V.int) ∨ SqT K H1 p (ns.map V.int) := hK1.imp L2.sq_of L2.st_of
    refine ⟨_, rfl, p, _, rfl, hS1, _, rfl, by rw [ek]; exact rgOk_nat hl, fun r hrN => ?_⟩
    rw [ek, rg_nat]
    have s2 := same_upd (o := .lst (nV (List.range ns.length))) hrN
    have hr2 : upd H1 r (.lst (nV (List.range ns.length))) r = some (.lst (nV (List.range ns.length))) := upd_same
    have free : ∀ {H1 H' : Hp} {z : Addr}, Same H1 H' → H' z = none → H1 z = none := fun {H1 H' z} sm hz => by
      cases e : H1 z with
      | none => rfl
      | some o => rw [sm _ _ e] at hz; cases hz
    have hrH : H r = none := free s1 hrN
    have s12 := s1.trans s2
    have npr : p ≠ r := kfree hK hrH
    generalize upd H1 r (.lst (nV (List.range ns.length))) = H2 at s12 hr2 ⊢
    refine ⟨Nat.zero_le _, fun l hlN => ?_⟩
    have hlH : H l = none := free s12 hlN
    have npl : p ≠ l := kfree hK hlH
    have nrl : r ≠ l := fun e => by rw [← e, hr2] at hlN; cases hlN
    have s13 := s12.trans (same_upd (o := .lst []) hlN)
    have hr3 : upd H2 l (.lst []) r = some (.lst (nV (List.range ns.length))) := by rw [upd_ne nrl]; exact hr2
    have hl3 : upd H2 l (.lst []) l = some (.lst []) := upd_same
    generalize upd H2 l (.lst []) = H3 at s13 hr3 hl3 ⊢
    refine ⟨fun m σ H' => ∃ (k : Nat) (row : List Nat) (u : Option V), σ = [some (.ref p), some (.ref r), some (.ref l), some (.int (pos ns k : Int)), u] ∧ m = ns.length - pos ns k ∧ pos ns k ≤ ns.length ∧ k ≤ pos ns k ∧ (∀ j, j < k → pos ns j < ns.length) ∧ row.Perm (List.range ns.length) ∧ (∀ i, pos ns k ≤ i → i < ns.length → row.getD i 0 = i) ∧ H' r = some (.lst (nV row)) ∧ H' l = some (.lst (nV (lensK ns k))) ∧ Same H H',
      ⟨_, 0, List.range ns.length, none, rfl, rfl, Nat.zero_le _, Nat.le_refl _, fun j h => absurd h (Nat.not_lt_zero _), List.Perm.refl _, fun i _ hi => RF.range_gt hi, hr3, hl3, s13⟩, ?_⟩
    rintro m σ H4 ⟨k, row, u, rfl, rfl, hs, hks, hbel, pm, raw, hr4, hl4, s4⟩
    have hK4 := hK.same s4
    have hS4 : SqL K H4 p (ns.map V.int) ∨ SqT K H4 p (ns.map V.int) := hK4.imp L2.sq_of L2.st_of
    refine ⟨_, rfl, _, rfl, p, _, rfl, hS4, _, _, rfl, rfl, ?_⟩
    rw [ek]
    have lr : row.length = ns.length := by rw [pm.length_eq]; exact er
    by_cases hlt : pos ns k < ns.length
    · refine ⟨true, congrArg V.bl (decide_eq_true (by omega)), iteT ⟨_, fun _ _ h => h, ?_⟩⟩
      have hnx : pos ns (k + 1) = pos ns k + rl ns (pos ns k) := rfl
      have lnx := lensK_next ns k
      have llk := lensK_len ns k
      have hbel2 : ∀ j, j < k + 1 → pos ns j < ns.length := fun j hj => by
        by_cases e : j = k
        · rw [e]; exact hlt
        · exact hbel j (by omega)
      generalize hsk : pos ns k = s at hs hks raw hlt hnx lnx ⊢
      refine ⟨_, rfl, _, rfl, _, rfl, r, _, rfl, .inl (L2.sq_of hr4), ?_⟩
      intro x dx hx hdx nxd
      have nxr : x ≠ r := fun e => by rw [e, hr4] at hx; cases hx
      have nxl : x ≠ l := fun e => by rw [e, hl4] at hx; cases hx
      have xH : H x = none := free s4 hx
      have s5 : Same H4 (upd (upd H4 dx (.own x)) x (.ins a.c_RunFinder dx [])) := (same_upd hdx).trans (same_upd (by rw [upd_ne nxd.symm]; exact hx))
      have hxi : upd (upd H4 dx (.own x)) x (.ins a.c_RunFinder dx []) x = some (.ins a.c_RunFinder dx []) := upd_same
      generalize upd (upd H4 dx (.own x)) x (.ins a.c_RunFinder dx []) = H5 at s5 hxi ⊢
      refine ⟨x, dx, r, s, row.length, row, by rw [List.length_map]; rfl, hxi, s5 _ _ hr4, nxr, by omega, Nat.le_refl _, by omega, fun H6 F6 fr6 => ⟨rfl, ?_⟩⟩
      have nxp : p ≠ x := kfree hK4 hx
      have hK6 : KeysAt H6 p ns := (hK4.same s5).imp (fr6 _ _ nxp npr) (fr6 _ _ nxp npr)
      refine ⟨_, rfl, _, rfl, x, p, r, s, ns, row, rfl, hK6, F6, npr, by omega, by omega, pm, fun N ql H7 hwt hbe hN fr7 F7 qN Q7 => ?_⟩
      have GN : RF.Good s row.length row ((fin0 row s row.length).stps (less ns) s row.length N) := RF.Good.stps (less ns) (RF.Good.init (by omega) (Nat.le_refl _) (by omega)) N
      obtain ⟨c1, c2, c3, c4⟩ := behind hlt hl lr raw hwt hbe
      have hln := GN.le.1 hwt
      have b1 := GN.wf.sp; have b2 := GN.wf.pe; have b3 := GN.wf.er
      have pmN := GN.pm
      generalize (fin0 row s row.length).stps (less ns) s row.length N = f at hln b1 b2 b3 pmN F7 c1 c4 ⊢
      obtain ⟨_, dx7, wv7, hx7, hw7, hr7⟩ := id F7
      have hl7 : H7 l = some (.lst (nV (lensK ns k))) := fr7 _ _ nxl.symm nrl.symm (fr6 _ _ nxl.symm nrl.symm (s5 _ _ hl4))
      have e7 : lenV f.ln = .int ((rl ns s : Nat) : Int) := by
        rw [hln, c1, Nat.add_sub_cancel_left]
        rfl
      have S7 : Same H H7 := fun b o h => by
        have nx : b ≠ x := fun e => by rw [e, xH] at h; cases h
        have nr : b ≠ r := fun e => by rw [e, hrH] at h; cases h
        exact fr7 b o nx nr (fr6 b o nx nr (s5 _ _ (s4 _ _ h)))
      refine ⟨_, rfl, .inl ⟨rfl, _, L2.sq_of hl7⟩, _, rfl, x, a.c_RunFinder, dx7, _, _, rfl, hx7, T.cl_RunFinder, T.n_length, rfl, l, _, _, rfl, rfl, hl7, Nat.lt_of_le_of_lt (by rw [List.length_map]; omega : _ ≤ 2000) (by decide), ?_⟩
      have hx8 : upd H7 l (.lst (nV (lensK ns k) ++ [lenV f.ln])) x = some (.ins a.c_RunFinder dx7 (flds r s row.length f wv7)) := by rw [upd_ne nxl]; exact hx7
      have hr8 : upd H7 l (.lst (nV (lensK ns k) ++ [lenV f.ln])) r = some (.lst (nV f.row)) := by rw [upd_ne nrl]; exact hr7
      have hl8 : upd H7 l (.lst (nV (lensK ns k) ++ [lenV f.ln])) l = some (.lst (nV (lensK ns (k + 1)))) := by
        rw [upd_same, e7, lnx]
        show _ = some (HO.lst (List.map _ (_ ++ _)))
        rw [List.map_append]
        rfl
      have S8 : Same H (upd H7 l (.lst (nV (lensK ns k) ++ [lenV f.ln]))) := fun b o h => by
        rw [upd_ne (fun e => by rw [e, hlH] at h; cases h)]
        exact S7 b o h
      refine ⟨_, rfl, _, rfl, x, a.c_RunFinder, dx7, _, _, rfl, hx8, T.cl_RunFinder, T.n_length, rfl, (s : Int), ((rl ns s : Nat) : Int), rfl, e7, ?_⟩
      have e9 : (s : Int) + ((rl ns s : Nat) : Int) = (pos ns (k + 1) : Int) := by omega
      refine ⟨ns.length - pos ns (k + 1), by omega, k + 1, f.row, _, congrArg (fun z : Int => [some (V.ref p), some (V.ref r), some (V.ref l), some (V.int z), some (V.ref x)]) e9, rfl, by omega, by omega, hbel2, pmN.trans pm, fun i h1 h2 => c4 i (by omega) h2, hr8, hl8, S8⟩
    · refine ⟨false, congrArg V.bl (decide_eq_false (by omega)), iteF ?_⟩
      exact ⟨_, rfl, q l k H4 ⟨by omega, hbel⟩ (by omega) s4 hlH hl4⟩
end

end K07

namespace K07
open PySem PySem.Spec PyProof.Rows L2
def spDue (TT : List (Addr × Str)) : Sp := fun vs H Q _ => ∃ (p : Addr) (b : Nat) (ns : List Int), vs = [.ref p, .int (b : Int)] ∧ H p = some (.lst (ns.map V.int)) ∧ b < ns.length ∧ ns.length ≤ 2000 ∧ LamX.Tabs TT H ∧
  ∀ (N ln : Nat) (t il ql : Addr) (H' : Hp), (finN ns b N).wt = none → (∀ i, i < N → (finN ns b i).wt ≠ none) → (finN ns b N).ln = some ln → LamX.ExtN H H' → LamX.Tabs TT H' →
    H' t = some (.tup [.int (ln : Int), .ref il, .ref ql]) → H' il = some (.lst (nV (((finN ns b N).row.drop b).take ln))) → QAt H' ql (askN ns b N) → Q (.ref t) H'
theorem rg_from (b n : Nat) : rgV (b : Int) ((b + n : Nat) : Int) = nV ((List.range n).map fun i => b + i) := by
  unfold rgV
  rw [show (((b + n : Nat) : Int) - (b : Int)).toNat = n by omega]
  show _ = ((List.range n).map _).map _
  rw [List.map_map]
  exact List.map_congr_left fun i _ => congrArg V.int (by show _ = (((b + i : Nat)) : Int); omega)
theorem push_q {H0 H : Hp} {D t : Addr} {ts : List V} {qs : List (Nat × Nat)} {i j : Nat} (s : Same H0 H) (hD : H0 D = none) (hts : H D = some (.lst ts)) (hq : QAt H D qs) (ht : H t = none) :
    upd H t (.tup [.int (i : Int), .int (j : Int)]) D = some (.lst ts) ∧ QAt (upd (upd H t (.tup [.int (i : Int), .int (j : Int)])) D (.lst (ts ++ [.ref t]))) D (qs ++ [(i, j)]) ∧ Same H0 (upd (upd H t (.tup [.int (i : Int), .int (j : Int)])) D (.lst (ts ++ [.ref t]))) := by
  have s1 := same_upd (o := .tup [.int (i : Int), .int (j : Int)]) ht
  refine ⟨s1 _ _ hts, QAt.push (s1 _ _ hts) (hq.same s1) ⟨t, rfl, upd_same⟩, fun b o e => ?_⟩
  rw [upd_ne (ne_of_none e hD)]
  exact s1 _ _ (s _ _ e)
theorem QAt.more {H H' : Hp} {D : Addr} {ts vs : List V} {qs ps : List (Nat × Nat)} (hts : H D = some (.lst ts)) (hq : QAt H D qs) (kp : ∀ t i j, H t = some (.tup [.int i, .int j]) → H' t = some (.tup [.int i, .int j])) (hD : H' D = some (.lst (ts ++ vs))) (hv : vs.length = ps.length)
    (hp : ∀ (i : Nat) (v : V) (q : Nat × Nat), vs[i]? = some v → ps[i]? = some q → PairAt H' v q) : QAt H' D (qs ++ ps) := by
  obtain ⟨xs, h1, h2, h3⟩ := hq
  have e1 : xs = ts := HO.lst.inj (Option.some.inj (h1.symm.trans hts))
  subst e1
  refine ⟨_, hD, by rw [List.length_append, List.length_append, h2, hv], fun i v q a b => ?_⟩
  rcases Nat.lt_or_ge i xs.length with c | c
  · rw [List.getElem?_append_left c] at a
    rw [List.getElem?_append_left (by omega)] at b
    exact (h3 i v q a b).keep kp
  · rw [List.getElem?_append_right c] at a
    rw [List.getElem?_append_right (by omega), ← h2] at b
    exact hp _ v q a b
theorem tabs_put {TT : List (Addr × Str)} {H : Hp} {D : Addr} {xs : List V} {o : HO} (t : LamX.Tabs TT H) (hs : H D = some (.lst xs)) : LamX.Tabs TT (upd H D o) := fun p hp => by
  obtain ⟨ps, h1, h2, h3⟩ := t p hp
  refine ⟨ps, ?_, h2, fun pos cv hc => ?_⟩
  · rw [upd_ne (fun e => by rw [e, hs] at h1; cases h1)]
    exact h1
  · obtain ⟨c, e1, e2⟩ := h3 pos cv hc
    refine ⟨c, e1, ?_⟩
    rw [upd_ne (fun e => ?_)]
    · exact e2
    · rw [e, hs] at e2
      have e3 := Option.some.inj e2
      unfold LamX.CodeO at e3
      cases e3
/-- one more question, where tables may have grown -/
theorem push_qN {TT : List (Addr × Str)} {H0 H : Hp} {D t : Addr} {ts : List V} {qs : List (Nat × Nat)} {i j : Nat} (s : LamX.ExtN H0 H) (tt : LamX.Tabs TT H) (hD : H0 D = none) (hts : H D = some (.lst ts)) (hq : QAt H D qs) (ht : H t = none) :
    upd H t (.tup [.int (i : Int), .int (j : Int)]) D = some (.lst ts) ∧ QAt (upd (upd H t (.tup [.int (i : Int), .int (j : Int)])) D (.lst (ts ++ [.ref t]))) D (qs ++ [(i, j)]) ∧ LamX.ExtN H0 (upd (upd H t (.tup [.int (i : Int), .int (j : Int)])) D (.lst (ts ++ [.ref t]))) ∧
    LamX.Tabs TT (upd (upd H t (.tup [.int (i : Int), .int (j : Int)])) D (.lst (ts ++ [.ref t]))) ∧ ∀ b o, b ≠ D → H b = some o → upd (upd H t (.tup [.int (i : Int), .int (j : Int)])) D (.lst (ts ++ [.ref t])) b = some o := by
  have s1 := same_upd (o := .tup [.int (i : Int), .int (j : Int)]) ht
  refine ⟨s1 _ _ hts, QAt.push (s1 _ _ hts) (hq.same s1) ⟨t, rfl, upd_same⟩, fun b o e n => ?_, tabs_put (tt.ext s1) (s1 _ _ hts), fun b o n e => ?_⟩
  · rw [upd_ne (ne_of_none e hD)]
    exact s1 _ _ (s _ _ e n)
  · rw [upd_ne n]
    exact s1 _ _ e
theorem sq_len (b : Nat) (qs : List (Nat × Nat)) : (sq b qs).length = qs.length := List.length_map _
theorem rgOk_from {b n : Nat} (h : b + n ≤ 2000) : RgOk (b : Int) ((b + n : Nat) : Int) := ⟨by omega, by omega, by omega, by omega, by omega⟩
section
variable {P : Program} {w : World} {K : PySem.W.Frag} {mg : Str → Option Value} {base : Heap} {a : Ad} {d : Fd}
theorem ok_run_due (T : Txt K mg a d) (TB : LamX.TabB base mg a.lc_run_due a.lp_run_due) : FnOk P w K mg base CX0 3 a.run_due d.run_due P_run_due (spDue [(a.lp_run_due, lq_run_due)]) := by
  have G_lprefix : FnOk P w K mg base CX0 1 a.lprefix d.lprefix P_lprefix spPrefix := ok_prefix T
  refine T.f_run_due.okC T.lc_run_due sc_run_due (fun vs H Q E h => ?_) (fun A outer s0 H vs Q E hr h => ?_)
  · obtain ⟨p, b, ns, rfl, _⟩ := h
    rfl
  · obtain ⟨p, b, ns, rfl, hp, hb, hl, hT, q⟩ := h
    refine ⟨_, (pss_cons (ps_par (i := 2) (j := 3) rfl sc_run_due.nd rfl rfl (by decide) rfl rfl (pa_cons (pe_call G_lprefix (hr.mono (by decide)) (by rfl) T.g_lprefix T.k_lprefix T.b_lprefix .nil pass0 (pa_cons (pv 0) (pa_cons (pv 1) pa_nil))) (pa_cons (pe_callB call_len_seq (by rfl) T.z_len PySem.boot_len (pa_cons (pv 0) pa_nil)) pa_nil)) (by rfl))
    (pss_cons (ps_setLc (i := 4) (own := [("item", 5)]) (g := gName 5) (tt := tYes) rfl sc_run_due.nd rfl rfl (sw_true rfl rfl rfl (by decide +kernel)) (pi_range2 (by rfl) T.z_range (pa_cons (pe_op op_add (pv 1) pe_int) (pa_cons (pe_callB (call_min2 rfl) (by rfl) T.z_min (by decide +kernel) (pa_cons (pe_op op_add (pe_op op_add (pv 1) (pv 2)) pe_int) (pa_cons (pv 3) pa_nil))) pa_nil))) (blkOk_by (N := N_run_due) (sc := defScope s_run_due) (by decide +kernel)) (fun _ _ _ _ _ => pg_name (i := 5) sc_run_due.nd rfl (Or.inl rfl)) (fun _ _ _ _ _ => pts_nil) (fun _ _ _ _ _ => (pe_tup (pa_cons (pv 5) (pa_cons (pe_op op_sub (pv 5) pe_int) pa_nil)))))
    (C8.pss_cut (ps_if (pt_cmpR op_eq (pe_op op_add (pv 1) (pv 2)) (pv 3) (nomark _)) (pss_one (ps_ret (pe_tup (pa_cons (pv 2) (pa_cons (pe_listRg (by rfl) (by rfl) T.z_list (prg_2 (by rfl) T.z_range (pv 1) (pv 3))) (pa_cons (pv 4) pa_nil)))))) pss_nil)
    (C8.pss_cut (ps_if (pt_cmpR op_gt (pv 2) pe_int (nomark _)) (pss_cons (ps_expr (pe_bm PySem.F.plainAttrs_list PySem.F.slot_list_append PySem.F.type_list_append mt_append (pv 4) (pa_cons (pe_tup (pa_cons (pv 1) (pa_cons (pe_op op_sub (pe_op op_add (pv 1) (pv 2)) pe_int) pa_nil))) pa_nil)))
      (pss_one (ps_if (pt_cmpR op_lt (pe_ix ix_list (pv 0) (pv 1) (fun _ _ => rfl)) (pe_ix ix_list (pv 0) (pe_op op_sub (pe_op op_add (pv 1) (pv 2)) pe_int) (fun _ _ => rfl)) (nomark _)) (pss_one (ps_ret (pe_tup (pa_cons (pv 2) (pa_cons (pe_listRg (by rfl) (by rfl) T.z_list (prg_2 (by rfl) T.z_range (pv 1) (pe_op op_add (pv 1) (pv 2)))) (pa_cons (pv 4) pa_nil)))))) pss_nil))) pss_nil)
    (pss_cons (ps_set (i := 6) sc_run_due.nd rfl (Or.inl rfl) (pe_op op_add (pe_op op_add (pv 1) (pv 2)) pe_int))
    (C8.pss_cut (ps_while PassesOwn.never (PW.pt (pw_and (pt_cmpR op_lt (pv 6) (pv 3) (nomark _)) (pw_and1 (pt_cmpR op_le (pe_ix ix_list (pv 0) (pv 6) (fun _ _ => rfl)) (pe_ix ix_list (pv 0) (pe_op op_sub (pv 6) pe_int) (fun _ _ => rfl)) (nomark _)))))
      (pss_cons (ps_expr (pe_bm PySem.F.plainAttrs_list PySem.F.slot_list_append PySem.F.type_list_append mt_append (pv 4) (pa_cons (pe_tup (pa_cons (pv 6) (pa_cons (pe_op op_sub (pv 6) pe_int) pa_nil))) pa_nil)))
        (C8.pss_cut (ps_if (pt_cmpR op_eq (pe_ix ix_list (pv 0) (pv 6) (fun _ _ => rfl)) (pe_ix ix_list (pv 0) (pe_op op_sub (pv 6) pe_int) (fun _ _ => rfl)) (nomark _)) (pss_one (ps_expr (pe_bm PySem.F.plainAttrs_list PySem.F.slot_list_append PySem.F.type_list_append mt_append (pv 4) (pa_cons (pe_tup (pa_cons (pe_op op_sub (pv 6) pe_int) (pa_cons (pv 6) pa_nil))) pa_nil)))) pss_nil)
        (pss_one (ps_set (i := 6) sc_run_due.nd rfl (Or.inl rfl) (pe_op op_add (pv 6) pe_int))))))
    (C8.pss_cut (ps_if (pt_cmpR op_lt (pv 6) (pv 3) (nomark _)) (pss_one (ps_expr (pe_bm PySem.F.plainAttrs_list PySem.F.slot_list_extend PySem.F.type_list_extend mt_extend (pv 4) (pa_cons (pe_lst (pa_cons (pe_tup (pa_cons (pv 6) (pa_cons (pe_op op_sub (pv 6) pe_int) pa_nil))) (pa_cons (pe_tup (pa_cons (pe_op op_sub (pv 6) pe_int) (pa_cons (pv 6) pa_nil))) pa_nil))) pa_nil)))) pss_nil)
    (pss_cons (ps_set (i := 7) sc_run_due.nd rfl (Or.inl rfl) (pe_sortedK1 (q := lq_run_due) (j := 0) (hr.mono (by decide)) (by rfl) T.z_sorted (pa_cons (pe_listRg (by rfl) (by rfl) T.z_list (prg_2 (by rfl) T.z_range (pv 1) (pv 6))) pa_nil) TB rfl (show (envOfC "_law_run_due" (defScope s_run_due) 0 0 .none).qual ++ ("<lambda>" : Str) = lq_run_due from by decide +kernel) (show keyScB (defScope s_run_due) _ _ _ = true from by decide +kernel) rfl rfl (fun _ _ _ _ _ _ => rfl)))
    (pss_cons (ps_par (i := 8) (j := 9) rfl sc_run_due.nd rfl rfl (by decide) rfl rfl (pa_cons (pe_op op_sub (pe_op op_add (pv 1) (pv 2)) pe_int) (pa_cons pe_bl pa_nil)) (by rfl))
    (pss_cons (ps_for PassesOwn.never rfl (pi_range2 (by rfl) T.z_range (pa_cons (pv 6) (pa_cons (pv 3) pa_nil))) (pg_name (i := 5) sc_run_due.nd rfl (Or.inl rfl))
      (pss_one (ps_if (pt_val (pv 9)) (pss_cons (ps_expr (pe_bm PySem.F.plainAttrs_list PySem.F.slot_list_append PySem.F.type_list_append mt_append (pv 4) (pa_cons (pe_tup (pa_cons (pv 5) (pa_cons (pv 8) pa_nil))) pa_nil)))
          (pss_cons (ps_set (i := 9) sc_run_due.nd rfl (Or.inl rfl) (pe_cmpR op_ge (pe_ix ix_list (pv 0) (pv 5) (fun _ _ => rfl)) (pe_ix ix_list (pv 0) (pv 8) (fun _ _ => rfl)) (nomark _)))
          (pss_cons (ps_set (i := 7) sc_run_due.nd rfl (Or.inl rfl) (pe_op op_catS (pv 7) (pe_op op_rep (pe_lst (pa_cons (pv 5) pa_nil)) (pe_callTy call_int1 (by rfl) T.z_int (by decide +kernel) (pa_cons (pv 9) pa_nil)))))
          (pss_one (ps_set (i := 8) sc_run_due.nd rfl (Or.inl rfl) (pv 5)))))) pss_nil)))
    (pss_one (ps_ret (pe_tup (pa_cons (pe_callB call_len_seq (by rfl) T.z_len PySem.boot_len (pa_cons (pv 7) pa_nil)) (pa_cons (pv 7) (pa_cons (pv 4) pa_nil)))))))))))))))), ?_⟩
    obtain ⟨as, sx, rfl, rfl⟩ : ∃ as sx : List Int, ns = as ++ sx ∧ b = as.length := ⟨ns.take b, ns.drop b, (List.take_append_drop _ _).symm, by rw [List.length_take]; omega⟩
    have hnl : (as ++ sx).length = as.length + sx.length := List.length_append
    have ek : ((as ++ sx).map V.int).length = as.length + sx.length := by rw [List.length_map, hnl]
    have l0 : 0 < sx.length := by omega
    have hl2 : as.length + sx.length ≤ 2000 := by omega
    have hl3 : sx.length ≤ 2000 := by omega
    refine ⟨_, rfl, _, rfl, p, as ++ sx, as.length, rfl, hp, hb, hl, fun p1 hr1 => ?_⟩
    refine ⟨_, rfl, p, _, rfl, .inl (L2.sq_of hp), ?_⟩
    rw [ek]
    obtain ⟨p0, pn, hup, hnx⟩ := hr1
    rw [hnl] at pn hnx
    have hup : ∀ i, i + 1 < p1 → ¬ kx sx (i + 1) < kx sx i := fun i hi => by
      have := hup i hi
      rw [Nat.add_assoc, app_get, app_get] at this
      exact this
    have hnx : p1 = sx.length ∨ (p1 < sx.length ∧ kx sx p1 < kx sx (p1 - 1)) := by
      rcases hnx with h | h
      · exact .inl (by omega)
      · by_cases c : p1 = sx.length
        · exact .inl c
        · refine .inr ⟨by omega, ?_⟩
          rw [app_get, show as.length + p1 - 1 = as.length + (p1 - 1) by omega, app_get] at h
          exact h
    have ris := RF.rises_at (n := sx.length) (less_kx sx) (show p1 ≤ sx.length by omega) hup
    have be0 : ∀ j, j < p1 → Be sx j := fun j hj i hi => by
      rw [(ris i (by omega)).1.on (by omega)]
      exact Option.some_ne_none _
    have etup : ∀ i j : Nat, (as.length : Int) + (i : Int) = ((as.length + i : Nat) : Int) := fun i j => by omega
    have fin : ∀ (k m : Nat) (t il ql : Addr) (H' : Hp), (st0 sx k).wt = none → Be sx k → (st0 sx k).pl = m → LamX.ExtN H H' → LamX.Tabs [(a.lp_run_due, lq_run_due)] H' → H' t = some (.tup [.int (m : Int), .ref il, .ref ql]) →
        H' il = some (.lst (nV (((st0 sx k).row.take m).map fun i => as.length + i))) → QAt H' ql (sq as.length (as0 sx k)) → Q (.ref t) H' := fun k m t il ql H' h1 h2 h3 h4 h5 h6 h7 h8 => by
      obtain ⟨d1, d2, d3, d4, d5⟩ := due_end l0 hl2 h1 h2 h3
      exact q k m t il ql H' d1 d2 d3 h4 h5 h6 (by rw [d4]; exact h7) (by rw [d5]; exact h8)
    have key0 : ∀ i, i < sx.length → atI ((as ++ sx).map V.int) ((as.length + i : Nat) : Int) = some (.int (kx sx i)) := fun i hi => by
      rw [← app_get (as := as) (sx := sx) i]
      exact key_at (by omega)
    -- the rising ones
    refine ⟨_, _, rfl, ?_⟩
    refine ⟨_, rfl, _, _, rfl, rfl, _, rfl, _, rfl, _, _, rfl, rfl, _, _, rfl, rfl, _, rfl, _, _, rfl, _, _, rfl, ?_⟩
    obtain ⟨cnt, hcnt, emin⟩ : ∃ cnt : Nat, cnt = min p1 (sx.length - 1) ∧ (if ((as.length + sx.length : Nat) : Int) < (as.length : Int) + (p1 : Int) + 1 then ((as.length + sx.length : Nat) : Int) else (as.length : Int) + (p1 : Int) + 1) = ((as.length + 1 + cnt : Nat) : Int) := ⟨_, rfl, by split <;> omega⟩
    rw [emin]
    refine ⟨⟨by omega, by omega, by omega, by omega⟩, fun D hD => ?_⟩
    have ecn : (((as.length + 1 + cnt : Nat) : Int) - ((as.length : Int) + 1)).toNat = cnt := by omega
    refine lc_range (lo := (as.length : Int) + 1) (n := (((as.length + 1 + cnt : Nat) : Int) - ((as.length : Int) + 1)).toNat) (fun i H' => Same H H' ∧ QAt H' D (sq as.length ((List.range i).map fun j => (j + 1, j)))) ⟨same_upd hD, QAt.nil upd_same⟩ ?_ ?_
    · rintro i H1 hi ⟨s1, q1⟩
      rw [ecn] at hi
      refine ⟨rfl, _, rfl, _, rfl, _, _, rfl, rfl, by show 2 ≤ sizeLine; decide, fun tn htn => ?_⟩
      have e1 : (as.length : Int) + 1 + (i : Int) = ((as.length + (i + 1) : Nat) : Int) := by omega
      have e2 : (as.length : Int) + 1 + (i : Int) - 1 = ((as.length + i : Nat) : Int) := by omega
      dsimp only
      rw [e2, e1]
      obtain ⟨us, hus, lus, _⟩ := id q1
      have s2 := same_upd (o := .tup [.int ((as.length + (i + 1) : Nat) : Int), .int ((as.length + i : Nat) : Int)]) htn
      have hp2 : PairAt (upd H1 tn (.tup [.int ((as.length + (i + 1) : Nat) : Int), .int ((as.length + i : Nat) : Int)])) (.ref tn) (as.length + (i + 1), as.length + i) := ⟨tn, rfl, upd_same⟩
      have hus2 := s2 _ _ hus
      have hq2 := q1.same s2
      have s02 := s1.trans s2
      generalize upd H1 tn (.tup [.int ((as.length + (i + 1) : Nat) : Int), .int ((as.length + i : Nat) : Int)]) = H2 at hp2 hus2 hq2 s02 ⊢
      refine ⟨us, hus2, ?_, fun b o e => ?_, ?_⟩
      · rw [lus]
        show (List.map _ (List.map _ _)).length < _
        rw [List.length_map, List.length_map, List.length_range]
        exact Nat.lt_of_le_of_lt (by omega : i ≤ 2000) (by decide)
      · rw [upd_ne (ne_of_none e hD)]
        exact s02 _ _ e
      · rw [List.range_succ, List.map_append, sq_app]
        exact QAt.push hus2 hq2 hp2
    rintro H1 ⟨s1, q1⟩
    rw [ecn] at q1
    -- whether that is all
    refine ⟨fun σ' H' => H' = H1 ∧ p1 < sx.length ∧ ∃ u5 : Option V, σ' = [some (.ref p), some (.int (as.length : Int)), some (.int (p1 : Int)), some (.int ((as.length + sx.length : Nat) : Int)), some (.ref D), u5, none, none, none, none], ?_, ?_⟩
    · refine ⟨_, rfl, _, rfl, _, _, rfl, rfl, _, rfl, ?_⟩
      by_cases c : p1 = sx.length
      · refine ⟨rfl, true, congrArg V.bl (decide_eq_true (congrArg V.int (by omega))), iteT ?_⟩
        obtain ⟨r, ea⟩ := ris (p1 - 1) (by omega)
        refine ⟨_, rfl, _, rfl, _, rfl, _, _, rfl, rfl, rgOk_from (by omega), fun il hil => ⟨_, rfl, by show 3 ≤ sizeLine; decide, fun t ht => ?_⟩⟩
        rw [rg_from] at ht ⊢
        have ecp : cnt = p1 - 1 := by omega
        have s2 := same_upd (o := .lst (nV ((List.range sx.length).map fun i => as.length + i))) hil
        have s3 := same_upd (o := .tup [.int (p1 : Int), .ref il, .ref D]) ht
        refine fin (p1 - 1) p1 t il D _ (r.off (by omega)) (be0 _ (by omega)) (by rw [r.pl]; omega) (LamX.ExtN.of (s1.trans (s2.trans s3))) (hT.ext (s1.trans (s2.trans s3))) upd_same ?_ ?_
        · rw [r.row, List.take_of_length_le (by rw [List.length_range]; omega)]
          exact s3 _ _ upd_same
        · have q3 := (q1.same s2).same s3
          rw [ecp, ← ea] at q3
          exact q3
      · refine ⟨rfl, false, congrArg V.bl (decide_eq_false fun e => ?_), iteF ⟨rfl, by omega, _, rfl⟩⟩
        have := V.int.inj e
        omega
    rintro σ' H1 ⟨rfl, plt, u5, rfl⟩
    -- whether the first one is less
    have hnx : kx sx p1 < kx sx (p1 - 1) := by
      rcases hnx with h | h
      · omega
      · exact h.2
    have ecnt : cnt = p1 := by omega
    subst ecnt
    obtain ⟨r, ea⟩ := ris (cnt - 1) (by omega)
    have few : ∀ {k : Nat}, Be sx k → ∀ ts : List V, ts.length = (sq as.length (as0 sx k)).length → ts.length < sizeLine := fun {k} hb ts e => by
      have h := be_few l0 hl3 hb
      have h2 : (as0 sx k).length = k := RF.asks_len _ _
      rw [e, sq_len, h2]
      exact Nat.lt_of_le_of_lt h (by decide)
    refine ⟨fun σ' H' => ∃ (k : Nat) (u5 : Option V), σ' = [some (.ref p), some (.int (as.length : Int)), some (.int (cnt : Int)), some (.int ((as.length + sx.length : Nat) : Int)), some (.ref D), u5, none, none, none, none] ∧
      RF.Falls sx.length (cnt - 1) (cnt + 1) (st0 sx k) ∧ Be sx k ∧ QAt H' D (sq as.length (as0 sx k)) ∧ Same H H', ?_, ?_⟩
    · refine ⟨_, rfl, _, _, rfl, rfl, ?_⟩
      by_cases c : 1 < cnt
      · refine ⟨true, congrArg V.bl (decide_eq_true (by omega)), iteT ?_⟩
        obtain ⟨us, hus, lus, _⟩ := id q1
        obtain ⟨f1, f2, f3, f4⟩ := RF.fall_more (less_kx sx) r c plt hnx
        have e2 : cnt - 1 + 2 = cnt + 1 := by omega
        rw [e2] at f1 f3 f4
        have be1 : Be sx cnt := by
          have h := (be0 (cnt - 1) (by omega)).next (by rw [r.on (by omega)]; exact Option.some_ne_none _)
          rw [show cnt - 1 + 1 = cnt by omega] at h
          exact h
        have be2 : Be sx (cnt + 1) := be1.next (by rw [show cnt - 1 + 1 = cnt by omega] at f2; exact f2)
        have eq2 : sq as.length (as0 sx (cnt + 1)) = sq as.length ((List.range cnt).map fun j => (j + 1, j)) ++ [(as.length + 0, as.length + (cnt - 1))] := by
          show sq as.length (RF.asks _ _ _ _ _) = _
          rw [f1, sq_app, show (List.range cnt).map (fun j => (j + 1, j)) = (List.range (cnt - 1)).map (fun j => (j + 1, j)) ++ [(cnt, cnt - 1)] by
            conv => lhs; rw [show cnt = cnt - 1 + 1 by omega]
            rw [List.range_succ, List.map_append]
            show _ ++ [(cnt - 1 + 1, cnt - 1)] = _
            rw [show cnt - 1 + 1 = cnt by omega], sq_app, List.append_assoc, ea]
          rfl
        refine ⟨_, rfl, .inl ⟨rfl, _, L2.sq_of hus⟩, _, rfl, _, rfl, _, rfl, _, _, rfl, rfl, _, _, rfl, rfl, by show 2 ≤ sizeLine; decide, fun t ht => ?_⟩
        dsimp only
        rw [show (as.length : Int) + (cnt : Int) - 1 = ((as.length + (cnt - 1) : Nat) : Int) by omega]
        obtain ⟨a1, a2, a3⟩ := push_q (i := as.length + 0) (j := as.length + (cnt - 1)) s1 hD hus q1 ht
        refine ⟨D, _, _, rfl, rfl, a1, few be1 us (by rw [lus, sq_len, sq_len, List.length_map, List.length_range, show (as0 sx cnt).length = cnt from RF.asks_len _ _]), ?_⟩
        rw [← eq2] at a2
        generalize upd (upd H1 t (.tup [.int ((as.length + 0 : Nat) : Int), .int ((as.length + (cnt - 1) : Nat) : Int)])) D (.lst (us ++ [.ref t])) = H2 at a2 a3
        have hp2 := a3 _ _ hp
        refine ⟨_, rfl, _, rfl, p, _, _, _, rfl, rfl, L2.sq_of hp2, key0 0 l0, _, rfl, _, rfl, _, rfl, _, _, rfl, rfl, _, _, rfl, rfl, p, _, _, .int (kx sx (cnt - 1)), rfl, rfl, L2.sq_of hp2, ?_, _, _, rfl, rfl, ?_⟩
        · rw [show (as.length : Int) + (cnt : Int) - 1 = ((as.length + (cnt - 1) : Nat) : Int) by omega]
          exact key0 _ (by omega)
        by_cases e : kx sx 0 < kx sx (cnt - 1)
        · refine ⟨true, congrArg V.bl (decide_eq_true e), iteT ?_⟩
          obtain ⟨g1, g2, g3⟩ := f3 e
          have ep : (as.length : Int) + (cnt : Int) = ((as.length + cnt : Nat) : Int) := by omega
          refine ⟨_, rfl, _, rfl, _, rfl, _, rfl, _, _, rfl, rfl, _, _, rfl, rfl, by rw [ep]; exact rgOk_from (by omega), fun il hil => ⟨_, rfl, by show 3 ≤ sizeLine; decide, fun t ht => ?_⟩⟩
          rw [ep, rg_from] at ht ⊢
          have s3 := same_upd (o := .lst (nV ((List.range cnt).map fun i => as.length + i))) hil
          have s4 := same_upd (o := .tup [.int (cnt : Int), .ref il, .ref D]) ht
          refine fin (cnt + 1) cnt t il D _ g1 be2 g2 (LamX.ExtN.of (a3.trans (s3.trans s4))) (hT.ext (a3.trans (s3.trans s4))) upd_same ?_ ((a2.same s3).same s4)
          rw [g3, List.take_range, Nat.min_eq_left (by omega)]
          exact s4 _ _ upd_same
        · refine ⟨false, congrArg V.bl (decide_eq_false e), iteF ?_⟩
          exact ⟨cnt + 1, _, rfl, f4 e, be2, a2, a3⟩
      · refine ⟨false, congrArg V.bl (decide_eq_false (by omega)), iteF ?_⟩
        have e1 : cnt = 1 := by omega
        subst e1
        obtain ⟨f1, f2⟩ := RF.fall_one (less_kx sx) r (by omega) hnx
        refine ⟨_, _, rfl, f1, (be0 0 (by omega)).next (by rw [r.on (by omega)]; exact Option.some_ne_none _), ?_, s1⟩
        show QAt H1 D (sq as.length (RF.asks _ _ _ _ _))
        rw [f2, ea]
        exact q1
    rintro σ' H2 ⟨k, u5, rfl, hF, hbe, q2, s2⟩
    -- falling
    refine ⟨_, rfl, _, rfl, _, _, rfl, rfl, _, _, rfl, rfl, ?_⟩
    refine ⟨fun σ' H' => ∃ (k P : Nat) (u5 : Option V), σ' = [some (.ref p), some (.int (as.length : Int)), some (.int (cnt : Int)), some (.int ((as.length + sx.length : Nat) : Int)), some (.ref D), u5, some (.int ((as.length + P : Nat) : Int)), none, none, none] ∧
      RF.Falls sx.length (cnt - 1) P (st0 sx k) ∧ Be sx k ∧ QAt H' D (sq as.length (as0 sx k)) ∧ Same H H' ∧ (P < sx.length → kx sx (P - 1) < kx sx P), ?_, ?_⟩
    · refine ⟨fun m σ H' => ∃ (k P : Nat) (u5 : Option V), σ = [some (.ref p), some (.int (as.length : Int)), some (.int (cnt : Int)), some (.int ((as.length + sx.length : Nat) : Int)), some (.ref D), u5, some (.int ((as.length + P : Nat) : Int)), none, none, none] ∧ m = sx.length - P ∧ cnt < P ∧
        RF.Falls sx.length (cnt - 1) P (st0 sx k) ∧ Be sx k ∧ QAt H' D (sq as.length (as0 sx k)) ∧ Same H H', ⟨_, k, cnt + 1, u5, rfl, rfl, by omega, hF, hbe, q2, s2⟩, ?_⟩
      rintro m σ H' ⟨k, P, u5, rfl, rfl, cP, hF, hbe, q3, s3⟩
      have hp3 := s3 _ _ hp
      refine ⟨_, rfl, _, rfl, _, _, rfl, rfl, ?_⟩
      by_cases c : P < sx.length
      · refine ⟨true, congrArg V.bl (decide_eq_true (by omega)), iteT ?_⟩
        have e1 : ((as.length + P : Nat) : Int) - 1 = ((as.length + (P - 1) : Nat) : Int) := by omega
        have kl : atI ((as ++ sx).map V.int) (((as.length + P : Nat) : Int) - 1) = some (.int (kx sx (P - 1))) := by
          rw [e1]
          exact key0 _ (by omega)
        refine ⟨_, rfl, _, rfl, p, _, _, _, rfl, rfl, L2.sq_of hp3, key0 P c, _, rfl, _, rfl, _, _, rfl, rfl, p, _, _, _, rfl, rfl, L2.sq_of hp3, kl, _, _, rfl, rfl, ?_⟩
        by_cases e : kx sx P ≤ kx sx (P - 1)
        · refine ⟨true, congrArg V.bl (decide_eq_true e), iteT ⟨_, fun _ _ h => h, ?_⟩⟩
          obtain ⟨us, hus, lus, _⟩ := id q3
          refine ⟨_, rfl, .inl ⟨rfl, _, L2.sq_of hus⟩, _, rfl, _, rfl, _, _, rfl, rfl, by show 2 ≤ sizeLine; decide, fun t ht => ?_⟩
          dsimp only
          rw [e1]
          obtain ⟨a1, a2, a3⟩ := push_q (i := as.length + P) (j := as.length + (P - 1)) s3 hD hus q3 ht
          refine ⟨D, _, _, rfl, rfl, a1, few hbe us lus, ?_⟩
          have hw := RF.falls_wt hF c
          have be1 : Be sx (k + 1) := hbe.next (by rw [show (st0 sx k).wt = some (P, P - 1) from hw]; exact Option.some_ne_none _)
          have a2 : QAt (upd (upd H' t (.tup [.int ((as.length + P : Nat) : Int), .int ((as.length + (P - 1) : Nat) : Int)])) D (.lst (us ++ [.ref t]))) D (sq as.length (as0 sx (k + 1))) := by
            show QAt _ D (sq as.length (RF.asks _ _ _ _ _))
            rw [RF.asks_next hw, sq_app]
            exact a2
          generalize upd (upd H' t (.tup [.int ((as.length + P : Nat) : Int), .int ((as.length + (P - 1) : Nat) : Int)])) D (.lst (us ++ [.ref t])) = H4 at a2 a3
          have hp4 := a3 _ _ hp
          refine ⟨fun σ' H' => ∃ (k : Nat) (u5 : Option V), σ' = [some (.ref p), some (.int (as.length : Int)), some (.int (cnt : Int)), some (.int ((as.length + sx.length : Nat) : Int)), some (.ref D), u5, some (.int ((as.length + P : Nat) : Int)), none, none, none] ∧
            RF.Falls sx.length (cnt - 1) (P + 1) (st0 sx k) ∧ Be sx k ∧ QAt H' D (sq as.length (as0 sx k)) ∧ Same H H', ?_, ?_⟩
          · refine ⟨_, rfl, _, rfl, p, _, _, _, rfl, rfl, L2.sq_of hp4, key0 P c, _, rfl, _, rfl, _, _, rfl, rfl, p, _, _, _, rfl, rfl, L2.sq_of hp4, kl, rfl, ?_⟩
            by_cases g : kx sx P < kx sx (P - 1)
            · refine ⟨false, congrArg V.bl (decide_eq_false fun e => ?_), iteF ?_⟩
              · have := V.int.inj e
                omega
              · exact ⟨k + 1, _, rfl, (RF.falls_less (less_kx sx) hF c g).1, be1, a2, a3⟩
            · have g2 : kx sx P = kx sx (P - 1) := by omega
              refine ⟨true, congrArg V.bl (decide_eq_true (congrArg V.int g2)), iteT ?_⟩
              obtain ⟨f1, f2, f3, _⟩ := RF.falls_not (less_kx sx) hF c g
              obtain ⟨us, hus, lus, _⟩ := id a2
              refine ⟨_, rfl, .inl ⟨rfl, _, L2.sq_of hus⟩, _, rfl, _, _, rfl, rfl, _, rfl, by show 2 ≤ sizeLine; decide, fun t ht => ?_⟩
              dsimp only
              rw [e1]
              obtain ⟨b1, b2, b3⟩ := push_q (i := as.length + (P - 1)) (j := as.length + P) a3 hD hus a2 ht
              refine ⟨D, _, _, rfl, rfl, b1, few be1 us lus, ?_⟩
              refine ⟨k + 2, _, rfl, f3 (by omega), be1.next f2, ?_, b3⟩
              show QAt _ D (sq as.length (RF.asks _ _ _ _ _))
              have f1' : as0 sx (k + 2) = as0 sx (k + 1) ++ [(P - 1, P)] := by
                show RF.asks _ _ _ _ _ = RF.asks _ _ _ _ _ ++ _
                rw [f1, RF.asks_next hw, List.append_assoc]
                rfl
              rw [show RF.asks (less sx) 0 sx.length (RF.init (List.range sx.length) 0 sx.length) (k + 2) = as0 sx (k + 1) ++ [(P - 1, P)] from f1', sq_app]
              exact b2
          rintro σ' H5 ⟨k2, u5, rfl, hF2, hbe2, q5, s5⟩
          refine ⟨_, rfl, _, _, rfl, rfl, ?_⟩
          exact ⟨_, by omega, k2, P + 1, _, rfl, rfl, by omega, hF2, hbe2, q5, s5⟩
        · refine ⟨false, congrArg V.bl (decide_eq_false e), iteF ?_⟩
          exact ⟨k, P, _, rfl, hF, hbe, q3, s3, fun _ => by omega⟩
      · refine ⟨false, congrArg V.bl (decide_eq_false (by omega)), iteF (iteF ?_)⟩
        exact ⟨k, P, _, rfl, hF, hbe, q3, s3, fun h => absurd h c⟩
    rintro σ' H3 ⟨k, P, u5, rfl, hF, hbe, q3, s3, hst⟩
    -- its end
    refine ⟨fun σ' H' => ∃ (k : Nat) (u5 : Option V), σ' = [some (.ref p), some (.int (as.length : Int)), some (.int (cnt : Int)), some (.int ((as.length + sx.length : Nat) : Int)), some (.ref D), u5, some (.int ((as.length + P : Nat) : Int)), none, none, none] ∧
      RF.Goes sx.length P (cnt - 1) (st0 sx k).row (st0 sx k) ∧ Be sx k ∧ QAt H' D (sq as.length (as0 sx k)) ∧ Same H H', ?_, ?_⟩
    · refine ⟨_, rfl, _, rfl, _, _, rfl, rfl, ?_⟩
      by_cases c : P < sx.length
      · refine ⟨true, congrArg V.bl (decide_eq_true (by omega)), iteT ?_⟩
        have e1 : ((as.length + P : Nat) : Int) - 1 = ((as.length + (P - 1) : Nat) : Int) := by
          have : 0 < P := by
            obtain ⟨g, _, _, _, _, _, _, b, be, _⟩ := hF
            omega
          omega
        have hk := hst c
        obtain ⟨f1, f2, _, f4⟩ := RF.falls_not (less_kx sx) hF c (by omega)
        have hw := RF.falls_wt hF c
        have be1 : Be sx (k + 1) := hbe.next (by rw [show (st0 sx k).wt = some (P, P - 1) from hw]; exact Option.some_ne_none _)
        obtain ⟨us, hus, lus, _⟩ := id q3
        refine ⟨_, rfl, .inl ⟨rfl, _, L2.sq_of hus⟩, _, rfl, _, rfl, _, _, rfl, rfl, by show 2 ≤ sizeLine; decide, fun t ht => ⟨_, rfl, _, _, rfl, rfl, _, rfl, by show 2 ≤ sizeLine; decide, fun t2 ht2 => ⟨by show 2 ≤ sizeLine; decide, fun l hl => ?_⟩⟩⟩
        dsimp only at ht2 hl ⊢
        rw [e1] at ht2 hl ⊢
        have s4 := same_upd (o := .tup [.int ((as.length + P : Nat) : Int), .int ((as.length + (P - 1) : Nat) : Int)]) ht
        have p4 : PairAt (upd H3 t (.tup [.int ((as.length + P : Nat) : Int), .int ((as.length + (P - 1) : Nat) : Int)])) (.ref t) (as.length + P, as.length + (P - 1)) := ⟨t, rfl, upd_same⟩
        generalize upd H3 t (.tup [.int ((as.length + P : Nat) : Int), .int ((as.length + (P - 1) : Nat) : Int)]) = H4 at s4 p4 ht2 hl ⊢
        have s5 := same_upd (o := .tup [.int ((as.length + (P - 1) : Nat) : Int), .int ((as.length + P : Nat) : Int)]) ht2
        have p5 : PairAt (upd H4 t2 (.tup [.int ((as.length + (P - 1) : Nat) : Int), .int ((as.length + P : Nat) : Int)])) (.ref t2) (as.length + (P - 1), as.length + P) := ⟨t2, rfl, upd_same⟩
        have p45 := p4.keep fun t i j => s5 t _
        generalize upd H4 t2 (.tup [.int ((as.length + (P - 1) : Nat) : Int), .int ((as.length + P : Nat) : Int)]) = H5 at s5 p5 p45 hl ⊢
        have s6 := same_upd (o := .lst [.ref t, .ref t2]) hl
        have p46 := p45.keep fun t i j => s6 t _
        have p56 := p5.keep fun t i j => s6 t _
        have hl6 : upd H5 l (.lst [.ref t, .ref t2]) l = some (.lst [.ref t, .ref t2]) := upd_same
        generalize upd H5 l (.lst [.ref t, .ref t2]) = H6 at s6 p46 p56 hl6 ⊢
        have s36 := s4.trans (s5.trans s6)
        have hus6 := s36 _ _ hus
        have kp7 : ∀ z i j, H6 z = some (.tup [.int i, .int j]) → upd H6 D (.lst (us ++ [.ref t, .ref t2])) z = some (.tup [.int i, .int j]) := fun z i j h => by
          rw [upd_ne (ne_of h hus6 fun e => by cases e)]
          exact h
        refine ⟨D, l, _, _, rfl, rfl, hus6, hl6, ?_, ?_⟩
        · have h := few be1 (us ++ [.ref t]) (by rw [List.length_append, lus, sq_len, sq_len, show (as0 sx k).length = k from RF.asks_len _ _, show (as0 sx (k + 1)).length = k + 1 from RF.asks_len _ _]; rfl)
          rw [List.length_append] at h
          exact h
        · refine ⟨k + 2, _, rfl, f4 hk, be1.next f2, ?_, fun b o e => ?_⟩
          · show QAt _ D (sq as.length (RF.asks _ _ _ _ _))
            rw [f1, sq_app]
            refine QAt.more hus6 (q3.same s36) kp7 upd_same rfl fun i v q hv hq => ?_
            match i, hv, hq with
            | 0, hv, hq =>
              cases hv
              cases hq
              exact p46.keep kp7
            | 1, hv, hq =>
              cases hv
              cases hq
              exact p56.keep kp7
            | i + 2, hv, hq => simp at hv
          · rw [upd_ne (ne_of_none e hD)]
            exact s36 _ _ (s3 _ _ e)
      · refine ⟨false, congrArg V.bl (decide_eq_false (by omega)), iteF ?_⟩
        exact ⟨k, _, rfl, RF.falls_end hF c, hbe, q3, s3⟩
    rintro σ' H7 ⟨k2, u5, rfl, hG, hbe2, q7, s7⟩
    -- the stable order of these
    have Pn := hG.pn
    have G2 := st0_good l0 hl3 k2
    have stb := RF.goes_stab hG (st0_hon l0 k2) G2.pm
    have lR := hG.len
    have raw := hG.raw
    generalize (st0 sx k2).row = R at hG stb lR raw
    refine ⟨_, rfl, _, rfl, _, _, rfl, rfl, rgOk_from (by omega), fun r hr => ?_⟩
    rw [rg_from]
    have s8 := same_upd (o := .lst (nV ((List.range P).map fun i => as.length + i))) hr
    have hr8 : upd H7 r (.lst (nV ((List.range P).map fun i => as.length + i))) r = some (.lst (((List.range P).map fun (i : Nat) => ((as.length + i : Nat) : Int)).map V.int)) := by
      refine upd_same.trans ?_
      show some (HO.lst (List.map _ (List.map _ _))) = some (HO.lst (List.map _ (List.map _ _)))
      rw [List.map_map, List.map_map]
      rfl
    have q8 := q7.same s8
    have s08 := s7.trans s8
    generalize upd H7 r (.lst (nV ((List.range P).map fun i => as.length + i))) = H8 at s8 hr8 q8 s08 ⊢
    refine ⟨hT.ext s08, r, p, _, as ++ sx, rfl, rfl, L2.sq_of hr8, L2.sq_of (s08 _ _ hp), fun n hn => ?_, fun H9 fr eN T9 frN => ?_⟩
    · obtain ⟨i, hi, rfl⟩ := List.mem_map.mp hn
      have := List.mem_range.mp hi
      omega
    rw [merge_from, (stab_merge (kx sx) P).uniq stb]
    have e9 : ((R.take P).map fun (i : Nat) => ((as.length + i : Nat) : Int)).map V.int = nV ((R.take P).map fun i => as.length + i) := by
      show List.map _ (List.map _ _) = List.map _ (List.map _ _)
      rw [List.map_map, List.map_map]
      rfl
    rw [e9]
    have e09 : LamX.ExtN H H9 := (LamX.ExtN.of s08).trans eN
    have s10 := same_upd (o := .lst (nV ((R.take P).map fun i => as.length + i))) frN
    have nfr : fr ≠ D := fun e => by
      obtain ⟨us, hus, _⟩ := q8
      rw [e, eN _ _ hus fun ps z => by cases z] at frN
      cases frN
    have q9 : QAt H9 D (sq as.length (as0 sx k2)) := q8.keep (fun x hx => by
      obtain ⟨us, hus, _⟩ := q8
      rw [hus] at hx
      cases hx
      exact eN _ _ hus fun ps z => by cases z) fun t i j ht => eN _ _ ht fun ps z => by cases z
    have q10 := q9.same s10
    have e10 := e09.trans (LamX.ExtN.of s10)
    have T10 := T9.ext s10
    have hfr : upd H9 fr (.lst (nV ((R.take P).map fun i => as.length + i))) fr = some (.lst (nV ((R.take P).map fun i => as.length + i))) := upd_same
    generalize upd H9 fr (.lst (nV ((R.take P).map fun i => as.length + i))) = H10 at q10 e10 T10 hfr ⊢
    refine ⟨_, rfl, _, rfl, _, _, rfl, rfl, _, _, rfl, rfl, _, _, rfl, ?_⟩
    refine ⟨_, rfl, _, rfl, _, _, rfl, ⟨by omega, by omega, by omega, by omega⟩, ?_⟩
    have e11 : (as.length : Int) + (cnt : Int) - 1 = ((as.length + (cnt - 1) : Nat) : Int) := by omega
    have e12 : (((as.length + sx.length : Nat) : Int) - ((as.length + P : Nat) : Int)).toNat = sx.length - P := by omega
    rw [e12]
    refine for_range (lo := ((as.length + P : Nat) : Int)) (n := sx.length - P) (fun i σ H' => ∃ (k m lst : Nat) (u5 : Option V) (fr : Addr) (gb : Bool), σ = [some (.ref p), some (.int (as.length : Int)), some (.int (cnt : Int)), some (.int ((as.length + sx.length : Nat) : Int)), some (.ref D), u5, some (.int ((as.length + P : Nat) : Int)), some (.ref fr), some (.int ((as.length + lst : Nat) : Int)), some (.bl gb)] ∧
      Be sx k ∧ QAt H' D (sq as.length (as0 sx k)) ∧ fr ≠ D ∧ H' fr = some (.lst (nV ((R.take m).map fun i => as.length + i))) ∧ LamX.ExtN H H' ∧ LamX.Tabs [(a.lp_run_due, lq_run_due)] H' ∧ m ≤ sx.length ∧ lst < sx.length ∧
      ((gb = true ∧ m = P + i ∧ RF.Goes sx.length (P + i) lst R (st0 sx k)) ∨ (gb = false ∧ (st0 sx k).wt = none ∧ (st0 sx k).pl = m ∧ (st0 sx k).row = R)))
      ⟨k2, P, cnt - 1, u5, fr, true, by rw [← e11]; rfl, hbe2, q10, nfr, hfr, e10, T10, Pn, by omega, .inl ⟨rfl, rfl, hG⟩⟩ ?_ ?_
    · rintro i σ H11 hi ⟨k, m, lst, u5, fr, gb, rfl, hbe, q11, nfr, hfr, e11, T11, lm, ll, hor⟩
      have hp11 := e11 _ _ hp fun ps z => by cases z
      have ei : ((as.length + P : Nat) : Int) + (i : Int) = ((as.length + (P + i) : Nat) : Int) := by omega
      rw [ei]
      have lRm : ∀ m, m ≤ sx.length → (nV ((R.take m).map fun i => as.length + i)).length = m := fun m h => by
        rw [List.length_map, List.length_map, List.length_take]
        omega
      rcases hor with ⟨rfl, rfl, v⟩ | ⟨rfl, h1, h2, h3⟩
      · obtain ⟨us, hus, lus, _⟩ := id q11
        have hPi : P + i < sx.length := by omega
        obtain ⟨f1, f2, f3⟩ := RF.goes_next (less_kx sx) v hPi
        have hw := v.on hPi
        have be1 : Be sx (k + 1) := hbe.next (by rw [hw]; exact Option.some_ne_none _)
        refine ⟨_, rfl, true, rfl, iteT ⟨_, rfl, .inl ⟨rfl, _, L2.sq_of hus⟩, _, rfl, _, rfl, by show 2 ≤ sizeLine; decide, fun t ht => ?_⟩⟩
        obtain ⟨a1, a2, a3, a4, a5⟩ := push_qN (i := as.length + (P + i)) (j := as.length + lst) e11 T11 hD hus q11 ht
        refine ⟨D, _, _, rfl, rfl, a1, few hbe us lus, ?_⟩
        have a2 : QAt (upd (upd H11 t (.tup [.int ((as.length + (P + i) : Nat) : Int), .int ((as.length + lst : Nat) : Int)])) D (.lst (us ++ [.ref t]))) D (sq as.length (as0 sx (k + 1))) := by
          show QAt _ D (sq as.length (RF.asks _ _ _ _ _))
          rw [f1, sq_app]
          exact a2
        have hfr2 := a5 _ _ nfr hfr
        generalize upd (upd H11 t (.tup [.int ((as.length + (P + i) : Nat) : Int), .int ((as.length + lst : Nat) : Int)])) D (.lst (us ++ [.ref t])) = H12 at a2 a3 a4 hfr2
        have hp12 := a3 _ _ hp fun ps z => by cases z
        refine ⟨_, rfl, _, rfl, p, _, _, _, rfl, rfl, L2.sq_of hp12, key0 (P + i) hPi, _, rfl, _, rfl, p, _, _, _, rfl, rfl, L2.sq_of hp12, key0 lst ll, _, _, rfl, rfl, ?_⟩
        obtain ⟨ws, hws, _, _⟩ := id a2
        by_cases g : kx sx (P + i) < kx sx lst
        · rw [show (fun i j : Int => V.bl (decide (j ≤ i))) (kx sx (P + i)) (kx sx lst) = V.bl false from congrArg V.bl (decide_eq_false (by omega))]
          refine ⟨_, rfl, _, rfl, by show 1 ≤ sizeLine; decide, fun l hl => ⟨_, rfl, .inr ⟨_, rfl, l, _, _, rfl, rfl, upd_same, by decide, by decide, by show 1 * 0 ≤ sizeLine; decide, fun c hc => ?_⟩⟩⟩
          have s13 := (same_upd (o := .lst [.int ((as.length + (P + i) : Nat) : Int)]) hl).trans (same_upd (o := .lst []) hc)
          refine ⟨fr, c, _, _, rfl, rfl, L2.sq_of (s13 _ _ hfr2), L2.sq_of upd_same, ?_, fun c2 hc2 => ?_⟩
          · rw [lRm _ lm]
            exact Nat.le_of_lt (Nat.lt_of_le_of_lt (by show P + i + 0 ≤ 2000; omega) (by decide))
          refine ⟨_, rfl, ?_⟩
          have s14 := s13.trans (same_upd (o := .lst (nV ((R.take (P + i)).map fun i => as.length + i) ++ (List.replicate (0 : Int).toNat [V.int ((as.length + (P + i) : Nat) : Int)]).flatten)) hc2)
          obtain ⟨g1, g2, g3⟩ := f3 g
          refine ⟨k + 1, P + i, P + i, _, c2, false, rfl, be1, a2.same s14, fun e => ?_, ?_, a3.trans (LamX.ExtN.of s14), a4.ext s14, lm, hPi, .inr ⟨rfl, g1, g2, g3⟩⟩
          · rw [e] at hc2
            have h := (s13 _ _ hws).symm.trans hc2
            cases h
          · refine upd_same.trans ?_
            show some (HO.lst (_ ++ [])) = _
            rw [List.append_nil]
        · rw [show (fun i j : Int => V.bl (decide (j ≤ i))) (kx sx (P + i)) (kx sx lst) = V.bl true from congrArg V.bl (decide_eq_true (by omega))]
          refine ⟨_, rfl, _, rfl, by show 1 ≤ sizeLine; decide, fun l hl => ⟨_, rfl, .inr ⟨_, rfl, l, _, _, rfl, rfl, upd_same, by decide, by decide, by show 1 * 1 ≤ sizeLine; decide, fun c hc => ?_⟩⟩⟩
          have s13 := (same_upd (o := .lst [.int ((as.length + (P + i) : Nat) : Int)]) hl).trans (same_upd (o := .lst [.int ((as.length + (P + i) : Nat) : Int)]) hc)
          refine ⟨fr, c, _, _, rfl, rfl, L2.sq_of (s13 _ _ hfr2), L2.sq_of upd_same, ?_, fun c2 hc2 => ?_⟩
          · rw [lRm _ lm]
            exact Nat.le_of_lt (Nat.lt_of_le_of_lt (by show P + i + 1 ≤ 2000; omega) (by decide))
          refine ⟨_, rfl, ?_⟩
          have s14 := s13.trans (same_upd (o := .lst (nV ((R.take (P + i)).map fun i => as.length + i) ++ (List.replicate (1 : Int).toNat [V.int ((as.length + (P + i) : Nat) : Int)]).flatten)) hc2)
          refine ⟨k + 1, P + (i + 1), P + i, _, c2, true, rfl, be1, a2.same s14, fun e => ?_, ?_, a3.trans (LamX.ExtN.of s14), a4.ext s14, by omega, hPi, .inl ⟨rfl, rfl, f2 g⟩⟩
          · rw [e] at hc2
            have h := (s13 _ _ hws).symm.trans hc2
            cases h
          · refine upd_same.trans ?_
            have et : R.take (P + (i + 1)) = R.take (P + i) ++ [P + i] := by
              have h := raw (P + i) (by omega) hPi
              rw [List.getD_eq_getElem?_getD, List.getElem?_eq_getElem (by omega)] at h
              rw [← Nat.add_assoc, List.take_succ, List.getElem?_eq_getElem (by omega)]
              exact congrArg (fun z => R.take (P + i) ++ [z]) h
            rw [et, List.map_append]
            show some (HO.lst (_ ++ [V.int _])) = some (HO.lst (List.map _ (_ ++ [_])))
            rw [List.map_append]
            rfl
      · refine ⟨_, rfl, false, rfl, iteF ?_⟩
        exact ⟨k, m, lst, _, fr, false, rfl, hbe, q11, nfr, hfr, e11, T11, lm, ll, .inr ⟨rfl, h1, h2, h3⟩⟩
    · rintro σ H11 ⟨k, m, lst, u5, fr, gb, rfl, hbe, q11, nfr, hfr, e11, T11, lm, ll, hor⟩
      have lRm : (R.take m).length = m := by rw [List.length_take]; omega
      refine ⟨_, rfl, fr, _, rfl, .inl (L2.sq_of hfr), _, rfl, _, rfl, by show 3 ≤ sizeLine; decide, fun t ht => ?_⟩
      have s12 := same_upd (o := .tup [.int ((nV ((R.take m).map fun i => as.length + i)).length : Int), .ref fr, .ref D]) ht
      refine fin k m t fr D _ ?_ hbe ?_ (e11.trans (LamX.ExtN.of s12)) (T11.ext s12) ?_ ?_ (q11.same s12)
      · rcases hor with ⟨_, rfl, v⟩ | ⟨_, h, _⟩
        · exact v.off (by omega)
        · exact h
      · rcases hor with ⟨_, rfl, v⟩ | ⟨_, _, h, _⟩
        · exact v.pl
        · exact h
      · refine upd_same.trans ?_
        rw [List.length_map, List.length_map, lRm]
      · have er : (st0 sx k).row = R := by
          rcases hor with ⟨_, rfl, v⟩ | ⟨_, _, _, h⟩
          · exact v.row
          · exact h
        rw [er]
        exact s12 _ _ hfr
end

end K07

namespace K07
open PySem PySem.Spec PyProof.Rows L2
def spLengths (TT : List (Addr × Str)) : Sp := fun vs H Q _ => ∃ (p : Addr) (ns : List Int), vs = [.ref p] ∧ H p = some (.lst (ns.map V.int)) ∧ ns.length ≤ 2000 ∧ LamX.Tabs TT H ∧
  ∀ (l : Addr) (k : Nat) (H' : Hp), Whole ns k → k ≤ 2000 → H l = none → LamX.ExtN H H' → LamX.Tabs TT H' → H' l = some (.lst (nV (lensK ns k))) → Q (.ref l) H'
section
variable {P : Program} {w : World} {K : PySem.W.Frag} {mg : Str → Option Value} {base : Heap} {a : Ad} {d : Fd}
theorem ok_lengths (T : Txt K mg a d) (TB : LamX.TabB base mg a.lc_run_due a.lp_run_due) : FnOk P w K mg base CX0 4 a.lengths d.lengths P_lengths (spLengths [(a.lp_run_due, lq_run_due)]) := by
  have G_run_due : FnOk P w K mg base CX0 3 a.run_due d.run_due P_run_due (spDue [(a.lp_run_due, lq_run_due)]) := ok_run_due T TB
  refine T.f_lengths.ok sc_lengths (fun vs H Q E h => ?_) (fun cdv A outer s H vs Q E hr h => ?_)
  · obtain ⟨p, ns, rfl, _⟩ := h
    rfl
  · obtain ⟨p, ns, rfl, hp, hl, hT, q⟩ := h
    refine ⟨_, (pss_cons (ps_par (i := 1) (j := 2) rfl sc_lengths.nd rfl rfl (by decide) rfl rfl (pa_cons (pe_lst pa_nil) (pa_cons pe_int pa_nil)) (by rfl))
    (pss_cons (ps_for PassesOwn.never rfl (pi_range1 (by rfl) T.z_range (pa_cons (pe_callB call_len_seq (by rfl) T.z_len PySem.boot_len (pa_cons (pv 0) pa_nil)) pa_nil)) (pg_name (i := 3) sc_lengths.nd rfl (Or.inl rfl))
      (pss_one (ps_if (pt_cmpR op_lt (pv 2) (pe_callB call_len_seq (by rfl) T.z_len PySem.boot_len (pa_cons (pv 0) pa_nil)) (nomark _)) (pss_cons (ps_expr (pe_bm PySem.F.plainAttrs_list PySem.F.slot_list_append PySem.F.type_list_append mt_append (pv 1) (pa_cons (pe_ix ix_tup (pe_call G_run_due (hr.mono (by decide)) (by rfl) T.g_run_due T.k_run_due T.b_run_due .nil pass0 (pa_cons (pv 0) (pa_cons (pv 2) pa_nil))) pe_int (fun _ _ => rfl)) pa_nil)))
          (pss_one (ps_set (i := 2) sc_lengths.nd rfl (Or.inl rfl) (pe_op op_add (pv 2) (pe_ix ix_list (pv 1) (pe_un un_neg pe_int) (fun _ _ => rfl)))))) pss_nil)))
    (pss_one (ps_ret (pv 1))))), ?_⟩
    have ek : (ns.map V.int).length = ns.length := List.length_map _
    refine ⟨Nat.zero_le _, fun l hlN => ⟨_, _, rfl, ?_⟩⟩
    have s1 := same_upd (o := .lst []) hlN
    have hl1 : upd H l (.lst []) l = some (.lst (nV (lensK ns 0))) := upd_same
    have T1 := hT.ext s1
    generalize upd H l (.lst []) = H1 at s1 hl1 T1 ⊢
    refine ⟨_, rfl, p, _, rfl, .inl (L2.sq_of (s1 _ _ hp)), _, rfl, by rw [ek]; omega, by rw [ek]; omega, ?_⟩
    rw [ek]
    refine for_range (lo := 0) (n := ns.length) (fun i σ H' => ∃ (k : Nat) (u : Option V), σ = [some (.ref p), some (.ref l), some (.int (pos ns k : Int)), u] ∧ (∀ j, j < k → pos ns j < ns.length) ∧ pos ns k ≤ ns.length ∧ k ≤ pos ns k ∧ (k = i ∨ pos ns k = ns.length) ∧ H' l = some (.lst (nV (lensK ns k))) ∧ LamX.ExtN H H' ∧ LamX.Tabs [(a.lp_run_due, lq_run_due)] H')
      ⟨0, none, rfl, fun j h => absurd h (Nat.not_lt_zero _), Nat.zero_le _, Nat.le_refl _, .inl rfl, hl1, LamX.ExtN.of s1, T1⟩ ?_ ?_
    · rintro i σ H4 hi ⟨k, u, rfl, hbel, hs, hks, hor, hl4, e4, T4⟩
      have hp4 := e4 _ _ hp fun ps z => by cases z
      refine ⟨_, rfl, _, rfl, p, _, rfl, .inl (L2.sq_of hp4), _, _, rfl, rfl, ?_⟩
      rw [ek]
      by_cases c : pos ns k < ns.length
      · refine ⟨true, congrArg V.bl (decide_eq_true (by omega)), iteT ?_⟩
        refine ⟨_, rfl, .inl ⟨rfl, _, L2.sq_of hl4⟩, _, rfl, _, rfl, p, pos ns k, ns, rfl, hp4, c, hl, T4, fun N ln t il ql H5 hw hbe hln e5 T5 ht hil hq => ?_⟩
        obtain ⟨r1, r2, r3⟩ := rl_eq c hl hw hbe hln
        have hl5 := e5 _ _ hl4 fun ps z => by cases z
        refine ⟨t, _, 0, .int (ln : Int), rfl, rfl, L2.st_of ht, rfl, l, _, _, rfl, rfl, hl5, Nat.lt_of_le_of_lt (by rw [List.length_map, lensK_len]; omega : _ ≤ 2000) (by decide), ?_⟩
        have e6 : nV (lensK ns k) ++ [V.int (ln : Int)] = nV (lensK ns (k + 1)) := by
          rw [lensK_next, r1]
          show _ = List.map _ (_ ++ _)
          rw [List.map_append]
          rfl
        rw [e6]
        have hl6 : upd H5 l (.lst (nV (lensK ns (k + 1)))) l = some (.lst (nV (lensK ns (k + 1)))) := upd_same
        have e06 : LamX.ExtN H (upd H5 l (.lst (nV (lensK ns (k + 1))))) := fun b o e n => by
          rw [upd_ne (ne_of_none e hlN)]
          exact e5 _ _ (e4 _ _ e n) n
        have T6 : LamX.Tabs [(a.lp_run_due, lq_run_due)] (upd H5 l (.lst (nV (lensK ns (k + 1))))) := tabs_put T5 hl5
        generalize upd H5 l (.lst (nV (lensK ns (k + 1)))) = H6 at hl6 e06 T6 ⊢
        have el : atI (nV (lensK ns (k + 1))) (-1) = some (.int (ln : Int)) := by
          rw [← e6]
          exact atI_last _ _
        refine ⟨_, rfl, _, rfl, _, rfl, l, _, _, _, rfl, rfl, L2.sq_of hl6, el, _, _, rfl, rfl, ?_⟩
        have hnx : pos ns (k + 1) = pos ns k + ln := by rw [← r1]; rfl
        refine ⟨k + 1, _, congrArg (fun z : Int => [some (V.ref p), some (V.ref l), some (V.int z), some (V.int (0 + (i : Int)))]) (by omega : (pos ns k : Int) + (ln : Int) = (pos ns (k + 1) : Int)), fun j hj => ?_, by omega, by omega, .inl (by omega), hl6, e06, T6⟩
        by_cases e : j = k
        · rw [e]; exact c
        · exact hbel j (by omega)
      · refine ⟨false, congrArg V.bl (decide_eq_false (by omega)), iteF ?_⟩
        exact ⟨k, _, rfl, hbel, hs, hks, .inr (by omega), hl4, e4, T4⟩
    · rintro σ H4 ⟨k, u, rfl, hbel, hs, hks, hor, hl4, e4, T4⟩
      exact ⟨_, rfl, q l k H4 ⟨by omega, hbel⟩ (by omega) hlN e4 T4 hl4⟩
end

end K07

namespace K07
open PySem PySem.Spec PyProof.Rows L2
def spSource : Sp := fun vs H Q _ => ∃ c, vs = [.int c] ∧ ∀ p x y z, 0 ≤ x → H p = none → Q (.ref p) (upd H p (.lst [.int x, .int y, .int z]))
def spDraw : Sp := fun vs H Q _ => ∃ p b, vs = [.ref p, .int b] ∧ Src H p ∧ 0 < b ∧ b.natAbs < 2 ^ 100 ∧ ∀ v x y z : Int, 0 ≤ v → v < b → 0 ≤ x → Q (.int v) (upd H p (.lst [.int x, .int y, .int z]))
def spPick (K : PySem.W.Frag) : Sp := fun vs H Q _ => ∃ p r xs, vs = [.ref p, .ref r] ∧ Src H p ∧ r ≠ p ∧ SqL K H r xs ∧ 0 < xs.length ∧ xs.length < 2 ^ 60 ∧ ∀ (v : V) (H' : Hp), v ∈ xs → Dn p H H' → Q v H'
section
variable {P : Program} {w : World} {K : PySem.W.Frag} {mg : Str → Option Value} {base : Heap} {a : Ad} {d : Fd}
theorem ok_source (T : Txt K mg a d) : FnOk P w K mg base CX0 1 a.source d.source P_source spSource := by
  refine T.f_source.ok sc_source (fun vs H Q E h => ?_) (fun cdv A outer s H vs Q E hr h => ?_)
  · obtain ⟨c, rfl, _⟩ := h
    rfl
  · obtain ⟨c, rfl, q⟩ := h
    refine ⟨_, (pss_one (ps_ret (pe_lst (pa_cons (pe_op op_mul (pe_callB call_abs (by rfl) T.z_abs (by decide +kernel) (pa_cons (pv 0) pa_nil)) (pe_callTy call_int1 (by rfl) T.z_int (by decide +kernel) (pa_cons (pe_cmpR op_ge (pe_callB call_abs (by rfl) T.z_abs (by decide +kernel) (pa_cons (pv 0) pa_nil)) (pe_op op_powW pe_int pe_int) (nomark _)) pa_nil))) (pa_cons (pe_op op_mod (pe_callTy call_int1 (by rfl) T.z_int (by decide +kernel) (pa_cons (pv 0) pa_nil)) pe_int) (pa_cons pe_int pa_nil)))))), ?_⟩
    have nn : 0 ≤ (if c < 0 then -c else c) := by split <;> omega
    refine ⟨_, rfl, _, rfl, _, rfl, _, rfl, _, _, rfl, rfl, ⟨by decide, by decide⟩, _, _, rfl, rfl, .inr ⟨_, rfl, ?_⟩⟩
    have hb : ∀ k : Bool, (-(2 ^ 64) < (if k = true then (1 : Int) else 0) ∧ (if k = true then (1 : Int) else 0) < 2 ^ 64) ∧ 0 ≤ (if k = true then (1 : Int) else 0) := fun k => by cases k <;> decide
    exact ⟨_, _, rfl, rfl, .inr (hb _).1, _, rfl, .inl ⟨_, rfl, _, _, rfl, rfl, (by show (0 : Int) < 2147483587; decide), by show 3 ≤ sizeLine; decide, fun p hp => q p _ _ _ (Int.mul_nonneg nn (hb _).2) hp⟩⟩
theorem ok_draw (T : Txt K mg a d) : FnOk P w K mg base CX0 1 a.draw d.draw P_draw spDraw := by
  refine T.f_draw.ok sc_draw (fun vs H Q E h => ?_) (fun cdv A outer s H vs Q E hr h => ?_)
  · obtain ⟨p, b, rfl, _⟩ := h
    rfl
  · obtain ⟨p, b, rfl, ⟨x, y, z, x0, hp⟩, b0, b64, q⟩ := h
    refine ⟨_, (pss_cons (ps_if (pt_cmpR op_gt (pe_ix ix_list (pv 0) pe_int (fun _ _ => rfl)) pe_int (nomark _)) (pss_cons (ps_set (i := 2) sc_draw.nd rfl (Or.inl rfl) (pe_op op_mod (pe_callTy call_int1 (by rfl) T.z_int (by decide +kernel) (pa_cons (pe_ix ix_list (pv 0) pe_int (fun _ _ => rfl)) pa_nil)) (pv 1)))
      (pss_cons (ps_asg (pe_op op_fdivW (pe_ix ix_list (pv 0) pe_int (fun _ _ => rfl)) (pv 1)) (pg_sub (pv 0) pe_int set_list))
      (pss_one (ps_ret (pv 2))))) pss_nil)
    (pss_cons (ps_asg (pe_op op_add (pe_ix ix_list (pv 0) pe_int (fun _ _ => rfl)) pe_int) (pg_sub (pv 0) pe_int set_list))
    (pss_cons (ps_set (i := 3) sc_draw.nd rfl (Or.inl rfl) (pe_op op_mod (pe_callTy call_int1 (by rfl) T.z_int (by decide +kernel) (pa_cons (pe_op op_mul (pe_op op_add (pe_op op_add (pe_ix ix_list (pv 0) pe_int (fun _ _ => rfl)) (pe_op op_mul pe_int (pe_ix ix_list (pv 0) pe_int (fun _ _ => rfl)))) pe_int) pe_int) pa_nil)) pe_int))
    (pss_cons (ps_set (i := 3) sc_draw.nd rfl (Or.inl rfl) (pe_op op_mod (pe_callTy call_int1 (by rfl) T.z_int (by decide +kernel) (pa_cons (pe_op op_mul (pv 3) (pe_op op_add (pe_op op_add (pe_op op_fdivW (pv 3) pe_int) pe_int) (pe_ix ix_list (pv 0) pe_int (fun _ _ => rfl)))) pa_nil)) pe_int))
    (pss_one (ps_ret (pe_op op_mod (pe_callTy call_int1 (by rfl) T.z_int (by decide +kernel) (pa_cons (pe_op op_fdivW (pe_op op_mod (pe_callTy call_int1 (by rfl) T.z_int (by decide +kernel) (pa_cons (pe_op op_mul (pv 3) (pe_op op_add (pe_op op_fdivW (pv 3) pe_int) pe_int)) pa_nil)) pe_int) pe_int) pa_nil)) (pv 1)))))))), ?_⟩
    have hS := L2.sq_of (K := K) hp
    have g0 : atI [V.int x, V.int y, V.int z] 0 = some (.int x) := atI_nat (j := 0) rfl
    have g1 : atI [V.int x, V.int y, V.int z] 1 = some (.int y) := atI_nat (j := 1) rfl
    have g2 : atI [V.int x, V.int y, V.int z] 2 = some (.int z) := atI_nat (j := 2) rfl
    refine ⟨_, rfl, p, _, _, _, rfl, rfl, hS, g0, _, _, rfl, rfl, _, rfl, ite2 (fun _ => ?_) (fun _ => ?_)⟩
    · refine ⟨_, rfl, p, _, _, _, rfl, rfl, hS, g0, .inl ⟨_, rfl, _, rfl, _, _, rfl, rfl, b0, ?_⟩⟩
      refine ⟨_, rfl, p, _, _, _, rfl, rfl, hS, g0, _, rfl, _, _, rfl, rfl, wide_div b0 b64 (by decide) (by decide), ?_⟩
      refine ⟨_, rfl, p, _, _, 0, rfl, rfl, hp, rfl, ?_⟩
      exact ⟨_, rfl, q _ _ _ _ (mb x b0).1 (mb x b0).2 (Int.ediv_nonneg x0 (by omega))⟩
    · refine ⟨_, rfl, p, _, _, _, rfl, rfl, hS, g2, _, _, rfl, rfl, ?_⟩
      refine ⟨_, rfl, p, _, _, 2, rfl, rfl, hp, rfl, ?_⟩
      have hp' : upd H p (.lst ([V.int x, V.int y, V.int z].set 2 (.int (z + 1)))) p = some (.lst [V.int x, V.int y, V.int (z + 1)]) := upd_same
      have hS' := L2.sq_of (K := K) hp'
      have g1' : atI [V.int x, V.int y, V.int (z + 1)] 1 = some (.int y) := atI_nat (j := 1) rfl
      have g2' : atI [V.int x, V.int y, V.int (z + 1)] 2 = some (.int (z + 1)) := atI_nat (j := 2) rfl
      refine ⟨_, rfl, p, _, _, _, rfl, rfl, hS', g1', _, rfl, p, _, _, _, rfl, rfl, hS', g2', 52711, z + 1, rfl, rfl, .inl ⟨by decide, by decide⟩, _, _, rfl, rfl, _, _, rfl, rfl, _, _, rfl, rfl, .inr ⟨by decide, by decide⟩, .inl ⟨_, rfl, _, _, rfl, rfl, (by show (0 : Int) < 2147483629; decide), ?_⟩⟩
      have w1 : ∀ i : Int, CDivW i 1021 := fun i => wide_div (b := 64) (by decide) (by decide) (by decide) (by decide)
      have w2 : ∀ i : Int, CDivW i 2011 := fun i => wide_div (b := 64) (by decide) (by decide) (by decide) (by decide)
      have w3 : ∀ i : Int, CDivW i 3 := fun i => wide_div (b := 64) (by decide) (by decide) (by decide) (by decide)
      refine ⟨_, rfl, _, rfl, _, _, rfl, rfl, w1 _, _, _, rfl, rfl, _, rfl, p, _, _, _, rfl, rfl, hS', g2', _, _, rfl, rfl, _, _, rfl, rfl, .inl (mbw _ (c := 2147483629) (by decide) (by decide)), .inl ⟨_, rfl, _, _, rfl, rfl, (by show (0 : Int) < 2147483579; decide), ?_⟩⟩
      refine ⟨_, rfl, _, rfl, _, _, rfl, rfl, w2 _, _, _, rfl, rfl, _, _, rfl, rfl, .inl (mbw _ (c := 2147483579) (by decide) (by decide)), .inl ⟨_, rfl, _, _, rfl, rfl, (by show (0 : Int) < 2147483549; decide), _, _, rfl, rfl, w3 _, .inl ⟨_, rfl, _, rfl, _, _, rfl, rfl, b0, q _ _ _ _ (mb _ b0).1 (mb _ b0).2 x0⟩⟩⟩
theorem ok_pick (T : Txt K mg a d) : FnOk P w K mg base CX0 2 a.pick d.pick P_pick (spPick K) := by
  have G_draw : FnOk P w K mg base CX0 1 a.draw d.draw P_draw spDraw := ok_draw T
  refine T.f_pick.ok sc_pick (fun vs H Q E h => ?_) (fun cdv A outer s H vs Q E hr h => ?_)
  · obtain ⟨p, r, xs, rfl, _⟩ := h
    rfl
  · obtain ⟨p, r, xs, rfl, hs, ne, hx, l0, l1, q⟩ := h
    refine ⟨_, (pss_one (ps_ret (pe_ix ix_list (pv 1) (pe_call G_draw (hr.mono (by decide)) (by rfl) T.g_draw T.k_draw T.b_draw .nil pass0 (pa_cons (pv 0) (pa_cons (pe_callB call_len_seq (by rfl) T.z_len PySem.boot_len (pa_cons (pv 1) pa_nil)) pa_nil))) (fun _ _ => rfl)))), ?_⟩
    refine ⟨_, rfl, _, rfl, _, rfl, r, xs, rfl, .inl hx, p, _, rfl, hs, by omega, ?_, fun v x y z v0 v1 x0 => ?_⟩
    · have e : ((xs.length : Nat) : Int).natAbs = xs.length := Int.natAbs_natCast _
      rw [e]
      exact Nat.lt_trans l1 (by decide)
    · obtain ⟨i, rfl⟩ : ∃ i : Nat, v = (i : Int) := ⟨v.toNat, (Int.toNat_of_nonneg v0).symm⟩
      have hi : i < xs.length := by omega
      have gi : xs[i]? = some xs[i] := List.getElem?_eq_getElem hi
      exact ⟨r, xs, _, xs[i], rfl, rfl, SB.seq SB.put ne hx, atI_nat gi, q _ _ (List.getElem_mem hi) (.put x0)⟩
end

theorem ints_in {lo hi : Int} {v : V} : ∀ {xs : List V}, (xs.all fun v => match v with | .int i => decide (lo ≤ i) && decide (i ≤ hi) | _ => false) = true → v ∈ xs → ∃ i, v = .int i ∧ lo ≤ i ∧ i ≤ hi := by
  intro xs h hv
  have := List.all_eq_true.mp h v hv
  cases v with
  | int i =>
    rw [Bool.and_eq_true, decide_eq_true_eq, decide_eq_true_eq] at this
    exact ⟨i, rfl, this.1, this.2⟩
  | _ => cases this
theorem last_at {ms : List Int} (h : ms ≠ []) : ∃ z, atI (ms.map V.int) (-1) = some (.int z) := by
  rcases List.eq_nil_or_concat ms with e | ⟨m, z, e⟩
  · exact absurd e h
  · refine ⟨z, ?_⟩
    rw [e, List.concat_eq_append, List.map_append, List.map_singleton]
    exact atI_last _ _
theorem Dn.push {p l : Addr} {H H' : Hp} {o : HO} (hl : H l = none) (n : l ≠ p) (d : Dn p H H') : Dn p H (upd H' l o) := by
  refine ⟨fun b u nb e => ?_, d.2.upd n⟩
  rw [upd_ne (ne_of_none e hl)]
  exact d.1 b u nb e
def spKeys : Sp := fun vs H Q _ => ∃ (p : Addr) (n : Nat), vs = [.ref p, .int (n : Int)] ∧ Src H p ∧ n ≤ 90000 ∧ ∀ (r : Addr) (ms : List Int) (H' : Hp), ms.length = n → H r = none → Dn p H H' → H' r = some (.lst (ms.map V.int)) → Q (.ref r) H'
section
variable {P : Program} {w : World} {K : PySem.W.Frag} {mg : Str → Option Value} {base : Heap} {a : Ad} {d : Fd}
theorem ok_keys (T : Txt K mg a d) : FnOk P w K mg base CX0 3 a.keys d.keys P_keys spKeys := by
  have G_draw : FnOk P w K mg base CX0 1 a.draw d.draw P_draw spDraw := ok_draw T
  have G_pick : FnOk P w K mg base CX0 2 a.pick d.pick P_pick (spPick K) := ok_pick T
  refine T.f_keys.ok sc_keys (fun vs H Q E h => ?_) (fun cdv A outer s H vs Q E hr h => ?_)
  · obtain ⟨p, n, rfl, _⟩ := h
    rfl
  · obtain ⟨p, n, rfl, hs, hn, q⟩ := h
    refine ⟨_, (pss_cons (ps_set (i := 2) sc_keys.nd rfl (Or.inl rfl) (pe_call G_pick (hr.mono (by decide)) (by rfl) T.g_pick T.k_pick T.b_pick .nil pass0 (pa_cons (pv 0) (pa_cons (pe_lst (pa_cons pe_int (pa_cons pe_int (pa_cons pe_int (pa_cons pe_int (pa_cons pe_int (pa_cons (pe_op op_powW pe_int pe_int) pa_nil))))))) pa_nil))))
    (pss_cons (ps_par (i := 3) (j := 4) rfl sc_keys.nd rfl rfl (by decide) rfl rfl (pa_cons (pe_call G_draw (hr.mono (by decide)) (by rfl) T.g_draw T.k_draw T.b_draw .nil pass0 (pa_cons (pv 0) (pa_cons pe_int pa_nil))) (pa_cons (pe_lst pa_nil) pa_nil)) (by rfl))
    (pss_cons (ps_for PassesOwn.never rfl (pi_range1 (by rfl) T.z_range (pa_cons (pv 1) pa_nil)) (pg_name (i := 5) sc_keys.nd rfl (Or.inl rfl))
      (pss_one (ps_if (PW.pt (pw_or (pt_cmpR op_eq (pv 3) pe_int (nomark _)) (pw_or1 (pt_cmpR (op_eqD hr.units) (pv 4) (pe_lst pa_nil) (nomark _))))) (pss_one (ps_expr (pe_bm PySem.F.plainAttrs_list PySem.F.slot_list_append PySem.F.type_list_append mt_append (pv 4) (pa_cons (pe_op op_sub (pe_call G_draw (hr.mono (by decide)) (by rfl) T.g_draw T.k_draw T.b_draw .nil pass0 (pa_cons (pv 0) (pa_cons (pv 2) pa_nil))) (pe_op op_fdivW (pv 2) pe_int)) pa_nil)))) (pss_one (ps_if (pt_cmpR op_eq (pv 3) pe_int (nomark _)) (pss_one (ps_expr (pe_bm PySem.F.plainAttrs_list PySem.F.slot_list_append PySem.F.type_list_append mt_append (pv 4) (pa_cons (pe_op op_add (pe_ix ix_list (pv 4) (pe_un un_neg pe_int) (fun _ _ => rfl)) (pe_call G_pick (hr.mono (by decide)) (by rfl) T.g_pick T.k_pick T.b_pick .nil pass0 (pa_cons (pv 0) (pa_cons (pe_lst (pa_cons pe_int (pa_cons pe_int (pa_cons pe_int (pa_cons pe_int (pa_cons pe_int (pa_cons (pe_un un_neg pe_int) pa_nil))))))) pa_nil)))) pa_nil)))) (pss_one (ps_if (pt_cmpR op_eq (pv 3) pe_int (nomark _)) (pss_one (ps_expr (pe_bm PySem.F.plainAttrs_list PySem.F.slot_list_append PySem.F.type_list_append mt_append (pv 4) (pa_cons (pe_op op_sub (pe_ix ix_list (pv 4) (pe_un un_neg pe_int) (fun _ _ => rfl)) (pe_call G_pick (hr.mono (by decide)) (by rfl) T.g_pick T.k_pick T.b_pick .nil pass0 (pa_cons (pv 0) (pa_cons (pe_lst (pa_cons pe_int (pa_cons pe_int (pa_cons pe_int (pa_cons pe_int (pa_cons pe_int (pa_cons pe_int (pa_cons (pe_un un_neg pe_int) pa_nil)))))))) pa_nil)))) pa_nil)))) (pss_cons (ps_set (i := 6) sc_keys.nd rfl (Or.inl rfl) (pe_call G_pick (hr.mono (by decide)) (by rfl) T.g_pick T.k_pick T.b_pick .nil pass0 (pa_cons (pv 0) (pa_cons (pe_lst (pa_cons pe_int (pa_cons pe_int (pa_cons pe_int (pa_cons (pe_un un_neg pe_int) (pa_cons (pe_un un_neg pe_int) pa_nil)))))) pa_nil))))
              (pss_one (ps_expr (pe_bm PySem.F.plainAttrs_list PySem.F.slot_list_append PySem.F.type_list_append mt_append (pv 4) (pa_cons (pe_op op_add (pe_ix ix_list (pv 4) (pe_un un_neg pe_int) (fun _ _ => rfl)) (pe_op op_mul (pv 6) (pe_op op_add pe_int (pe_call G_draw (hr.mono (by decide)) (by rfl) T.g_draw T.k_draw T.b_draw .nil pass0 (pa_cons (pv 0) (pa_cons pe_int pa_nil)))))) pa_nil))))))))))))
    (pss_one (ps_ret (pv 4)))))), ?_⟩
    refine ⟨_, rfl, _, _, rfl, rfl, ⟨by decide, by decide⟩, by show 6 ≤ sizeLine; decide, fun r0 hr0 => ?_⟩
    refine ⟨p, r0, _, rfl, hs.new hr0, hs.ne hr0, L2.sq_of upd_same, by show 0 < 6; decide, by show 6 < 2 ^ 60; decide, fun wv H1 hwv d1 => ?_⟩
    obtain ⟨wide, rfl, wl, wh⟩ := ints_in (lo := 1) (hi := 100000000000000000000) (by decide +kernel) hwv
    have w0 : 0 < wide := by omega
    have w1 : wide.natAbs < 2 ^ 100 := by omega
    have wd2 : CDivW wide 2 := wide_div (b := 64) (by decide) (by decide) (by decide) (by decide)
    have dn1 : Dn p H H1 := ((Dn.refl hs).new hr0).trans d1
    refine ⟨_, rfl, p, 4, rfl, dn1.2, by decide, by decide, fun way x y z y0 y1 x0 => ?_⟩
    have dn2 : Dn p H _ := dn1.trans (.put (x := x) (y := y) (z := z) x0)
    refine ⟨Nat.zero_le _, fun l hlN => ⟨_, _, rfl, ?_⟩⟩
    have nlp : l ≠ p := dn2.2.ne hlN
    have lH : H l = none := dn2.free hlN
    have dn3 := dn2.new (o := .lst []) hlN
    have hl3 : upd (upd H1 p (.lst [.int x, .int y, .int z])) l (.lst []) l = some (.lst (([] : List Int).map V.int)) := upd_same
    generalize upd (upd H1 p (.lst [.int x, .int y, .int z])) l (.lst []) = H3 at dn3 hl3 ⊢
    refine ⟨_, rfl, n, rfl, by omega, by omega, for_range (lo := 0) (n := n) (fun i σ H' => ∃ (ms : List Int) (u v : Option V), σ = [some (.ref p), some (.int (n : Int)), some (.int wide), some (.int way), some (.ref l), u, v] ∧ ms.length = i ∧ Dn p H H' ∧ H' l = some (.lst (ms.map V.int))) ⟨[], none, none, rfl, rfl, dn3, hl3⟩ ?_ ?_⟩
    · rintro i σ H4 hi ⟨ms, u, v, rfl, hm, d4, hl4⟩
      refine ⟨_, rfl, rfl, _, rfl, ?_⟩
      by_cases hw : way = 0
      · rw [decide_eq_true (congrArg V.int hw)]
        refine iteT (B := True) (iteT ?_)
        refine ⟨_, rfl, .inl ⟨rfl, _, L2.sq_of hl4⟩, _, rfl, _, rfl, p, wide, rfl, (d4).2, w0, w1, fun v x y z v0 v1 x0 => ?_⟩
        have dv := (d4).trans (Dn.put (x := x) (y := y) (z := z) x0)
        have hlv := (Dn.put (p := p) (H := _) (x := x) (y := y) (z := z) x0).1 _ _ nlp hl4
        refine ⟨_, rfl, _, _, rfl, rfl, wd2, _, _, rfl, rfl, l, _, _, rfl, rfl, hlv, by rw [List.length_map]; exact Nat.lt_of_le_of_lt (by omega : ms.length ≤ 90000) (by decide), ms ++ [v - wide / 2], _, _, rfl, by simp [hm], Dn.push lH nlp dv, ?_⟩
        rw [map_snoc]
        exact upd_same
      · rw [decide_eq_false (fun e => hw (V.int.inj e))]
        refine iteF ⟨_, rfl, Nat.zero_le _, fun e he => ⟨_, .list [], dp_ints (L2.sq_of (same_upd he _ _ hl4)), .lst (L2.sq_of upd_same) .nil, shaped_ints _, by decide, _, rfl, ?_⟩⟩
        have d5 := d4.new (o := .lst []) he
        have hl5 : upd H4 e (.lst []) l = some (.lst (ms.map V.int)) := same_upd he _ _ hl4
        generalize upd H4 e (.lst []) = H5 at d5 hl5 ⊢
        refine ite2 (fun c => ?_) (fun c => ?_)
        · refine ⟨_, rfl, .inl ⟨rfl, _, L2.sq_of hl5⟩, _, rfl, _, rfl, p, wide, rfl, (d5).2, w0, w1, fun v x y z v0 v1 x0 => ?_⟩
          have dv := (d5).trans (Dn.put (x := x) (y := y) (z := z) x0)
          have hlv := (Dn.put (p := p) (H := _) (x := x) (y := y) (z := z) x0).1 _ _ nlp hl5
          refine ⟨_, rfl, _, _, rfl, rfl, wd2, _, _, rfl, rfl, l, _, _, rfl, rfl, hlv, by rw [List.length_map]; exact Nat.lt_of_le_of_lt (by omega : ms.length ≤ 90000) (by decide), ms ++ [v - wide / 2], _, _, rfl, by simp [hm], Dn.push lH nlp dv, ?_⟩
          rw [map_snoc]
          exact upd_same
        · have ne : ms ≠ [] := fun e2 => c (by rw [e2]; rfl)
          obtain ⟨zl, gl⟩ := last_at ne
          refine ⟨_, rfl, rfl, _, rfl, ite2 (fun _ => ?_) (fun _ => ?_)⟩
          · refine ⟨_, rfl, .inl ⟨rfl, _, L2.sq_of hl5⟩, _, rfl, _, rfl, l, _, _, _, rfl, rfl, L2.sq_of hl5, gl, _, rfl, _, rfl, by show 6 ≤ sizeLine; decide, fun r hr => ?_⟩
            refine ⟨p, r, _, rfl, d5.2.new hr, d5.2.ne hr, L2.sq_of upd_same, by show 0 < 6; decide, by show 6 < 2 ^ 60; decide, fun kv H6 hkv d6 => ?_⟩
            obtain ⟨k, rfl, _, _⟩ := ints_in (lo := -1) (hi := 2) (by decide +kernel) hkv
            have d7 := (d5.new hr).trans d6
            have hl7 := d6.1 _ _ nlp (same_upd hr _ _ hl5)
            refine ⟨_, _, rfl, rfl, l, _, _, rfl, rfl, hl7, by rw [List.length_map]; exact Nat.lt_of_le_of_lt (by omega : ms.length ≤ 90000) (by decide), ms ++ [zl + k], _, _, rfl, by simp [hm], Dn.push lH nlp d7, ?_⟩
            rw [map_snoc]
            exact upd_same
          refine ⟨_, rfl, rfl, _, rfl, ite2 (fun _ => ?_) (fun _ => ?_)⟩
          · refine ⟨_, rfl, .inl ⟨rfl, _, L2.sq_of hl5⟩, _, rfl, _, rfl, l, _, _, _, rfl, rfl, L2.sq_of hl5, gl, _, rfl, _, rfl, by show 7 ≤ sizeLine; decide, fun r hr => ?_⟩
            refine ⟨p, r, _, rfl, d5.2.new hr, d5.2.ne hr, L2.sq_of upd_same, by show 0 < 7; decide, by show 7 < 2 ^ 60; decide, fun kv H6 hkv d6 => ?_⟩
            obtain ⟨k, rfl, _, _⟩ := ints_in (lo := -1) (hi := 2) (by decide +kernel) hkv
            have d7 := (d5.new hr).trans d6
            have hl7 := d6.1 _ _ nlp (same_upd hr _ _ hl5)
            refine ⟨_, _, rfl, rfl, l, _, _, rfl, rfl, hl7, by rw [List.length_map]; exact Nat.lt_of_le_of_lt (by omega : ms.length ≤ 90000) (by decide), ms ++ [zl - k], _, _, rfl, by simp [hm], Dn.push lH nlp d7, ?_⟩
            rw [map_snoc]
            exact upd_same
          refine ⟨_, rfl, _, rfl, _, rfl, by show 5 ≤ sizeLine; decide, fun r hr => ?_⟩
          refine ⟨p, r, _, rfl, d5.2.new hr, d5.2.ne hr, L2.sq_of upd_same, by show 0 < 5; decide, by show 5 < 2 ^ 60; decide, fun kv H6 hkv d6 => ?_⟩
          obtain ⟨k, rfl, k0, k1⟩ := ints_in (lo := -1) (hi := 1) (by decide +kernel) hkv
          have d7 := (d5.new hr).trans d6
          have hl7 := d6.1 _ _ nlp (same_upd hr _ _ hl5)
          refine ⟨_, rfl, .inl ⟨rfl, _, L2.sq_of hl7⟩, _, rfl, _, rfl, l, _, _, _, rfl, rfl, L2.sq_of hl7, gl, _, rfl, _, rfl, p, 2, rfl, d7.2, by decide, by decide, fun v x y z v0 v1 x0 => ?_⟩
          have d8 := d7.trans (.put (x := x) (y := y) (z := z) x0)
          have hl8 := (Dn.put (p := p) (H := H6) (x := x) (y := y) (z := z) x0).1 _ _ nlp hl7
          refine ⟨_, _, rfl, rfl, _, _, rfl, rfl, .inl ⟨by omega, by omega⟩, _, _, rfl, rfl, l, _, _, rfl, rfl, hl8, by rw [List.length_map]; exact Nat.lt_of_le_of_lt (by omega : ms.length ≤ 90000) (by decide), ms ++ [zl + k * (1 + v)], _, _, rfl, by simp [hm], Dn.push lH nlp d8, ?_⟩
          rw [map_snoc]
          exact upd_same
    · rintro σ H4 ⟨ms, u, v, rfl, hm, d4, hl4⟩
      exact ⟨_, rfl, q l ms H4 hm lH d4 hl4⟩
end

end K07

namespace K07
open PySem PySem.Spec PyProof.Rows L2
theorem dp_nats7 {K : PySem.W.Frag} {H : Hp} {p : Addr} {row : List Nat} (h : H p = some (.lst (nV row))) : Dp K H (.ref p) (.list ((row.map fun (i : Nat) => (i : Int)).map PyData.int)) := dp_ints (by rw [← nV_map]; exact L2.sq_of h)
theorem lens_sum (ns : List Int) : ∀ k, ((lensK ns k).map fun (i : Nat) => (i : Int)).sum = (pos ns k : Int)
  | 0 => rfl
  | k + 1 => by
    rw [lensK_next, List.map_append, List.sum_append, lens_sum ns k]
    show (pos ns k : Int) + ([((rl ns (pos ns k) : Nat) : Int)] : List Int).sum = ((pos ns k + rl ns (pos ns k) : Nat) : Int)
    simp
theorem lensK_take (ns : List Int) {j k : Nat} (h : j ≤ k) : (lensK ns k).take j = lensK ns j := by
  unfold lensK
  rw [← List.map_take, List.take_range, Nat.min_eq_left h]
theorem lensK_get (ns : List Int) {j k : Nat} (h : j < k) : (lensK ns k).getD j 0 = rl ns (pos ns j) := by
  unfold lensK
  rw [List.getD_eq_getElem?_getD, List.getElem?_map, List.getElem?_range h]
  rfl
/-- all but the source and the tables stays -/
def DnT (sp : Addr) (H H' : Hp) : Prop := (∀ b o, b ≠ sp → (∀ ps, o ≠ HO.tbl ps) → H b = some o → H' b = some o) ∧ Src H' sp
theorem DnT.refl {sp : Addr} {H : Hp} (h : Src H sp) : DnT sp H H := ⟨fun _ _ _ _ h => h, h⟩
theorem DnT.trans {sp : Addr} {H H1 H2 : Hp} (a : DnT sp H H1) (b : DnT sp H1 H2) : DnT sp H H2 := ⟨fun x o n t h => b.1 x o n t (a.1 x o n t h), b.2⟩
theorem DnT.of {sp : Addr} {H H1 : Hp} (a : Dn sp H H1) : DnT sp H H1 := ⟨fun b o n _ h => a.1 b o n h, a.2⟩
theorem DnT.ext {sp : Addr} {H H1 H2 : Hp} (a : DnT sp H H1) (e : LamX.ExtN H1 H2) : DnT sp H H2 := ⟨fun b o n t h => e _ _ (a.1 b o n t h) t, by
  obtain ⟨x, y, z, h0, h⟩ := a.2
  exact ⟨x, y, z, h0, e _ _ h fun ps z => by cases z⟩⟩
theorem tabs_dn {TT : List (Addr × Str)} {H H' : Hp} {sp : Addr} (t : LamX.Tabs TT H) (hs : Src H sp) (d : Dn sp H H') : LamX.Tabs TT H' := fun p hp => by
  obtain ⟨x, y, z, _, hs⟩ := hs
  obtain ⟨ps, h1, h2, h3⟩ := t p hp
  refine ⟨ps, d.1 _ _ (fun e => by rw [e, hs] at h1; cases h1) h1, h2, fun pos cv hc => ?_⟩
  obtain ⟨c, e1, e2⟩ := h3 pos cv hc
  refine ⟨c, e1, d.1 _ _ (fun e => ?_) e2⟩
  rw [e, hs] at e2
  have e3 := Option.some.inj e2
  unfold LamX.CodeO at e3
  cases e3
def spRight7 (TT : List (Addr × Str)) : Sp := fun vs H Q _ => ∃ (sp p : Addr) (ns : List Int), vs = [.ref sp, .ref p] ∧ Src H sp ∧ p ≠ sp ∧ H p = some (.lst (ns.map V.int)) ∧ ns.length ≤ 2000 ∧ LamX.Tabs TT H ∧ ∀ H', DnT sp H H' → LamX.Tabs TT H' → Q (.bl true) H'
section
variable {P : Program} {w : World} {K : PySem.W.Frag} {mg : Str → Option Value} {base : Heap} {a : Ad} {d : Fd}
theorem ok_right (T : Txt K mg a d) (TB : LamX.TabB base mg a.lc_run_due a.lp_run_due) : FnOk P w K mg base CX0 11 a.right d.right P_right (spRight7 [(a.lp_run_due, lq_run_due)]) := by
  have G_draw : FnOk P w K mg base CX0 1 a.draw d.draw P_draw spDraw := ok_draw T
  have G_lengths : FnOk P w K mg base CX0 4 a.lengths d.lengths P_lengths (spLengths [(a.lp_run_due, lq_run_due)]) := ok_lengths T TB
  have G_run_of : FnOk P w K mg base CX0 10 a.run_of d.run_of P_run_of spRunOf := ok_run_of T
  have G_run_lengths : FnOk P w K mg base CX0 10 a.run_lengths d.run_lengths P_run_lengths spLens7 := ok_run_lengths T
  refine T.f_right.ok sc_right (fun vs H Q E h => ?_) (fun cdv A outer s H vs Q E hr h => ?_)
  · obtain ⟨sp, p, ns, rfl, _⟩ := h
    rfl
  · obtain ⟨sp, p, ns, rfl, hs, nps, hp, hl, hT, q⟩ := h
    refine ⟨_, (pss_cons (ps_par (i := 2) (j := 3) rfl sc_right.nd rfl rfl (by decide) rfl rfl (pa_cons (pe_call G_lengths (hr.mono (by decide)) (by rfl) T.g_lengths T.k_lengths T.b_lengths .nil pass0 (pa_cons (pv 1) pa_nil)) (pa_cons (pe_callTy call_list_of (by rfl) T.z_list (by decide +kernel) (pa_cons (pv 1) pa_nil)) pa_nil)) (by rfl))
    (pss_cons (ps_set (i := 4) sc_right.nd rfl (Or.inl rfl) (pe_call G_run_lengths (hr.mono (by decide)) (by rfl) T.g_run_lengths T.k_run_lengths T.b_run_lengths .nil pass0 (pa_cons (pv 1) pa_nil)))
    (C8.pss_cut (ps_if (PW.pt (pw_or (pt_cmpR (op_neD hr.units) (pv 4) (pv 2) (nomark _)) (pw_or (pt_cmpR (op_neD hr.units) (pe_call G_run_lengths (hr.mono (by decide)) (by rfl) T.g_run_lengths T.k_run_lengths T.b_run_lengths .nil pass0 (pa_cons (pe_callTy call_tuple_of (by rfl) T.z_tuple (by decide +kernel) (pa_cons (pv 1) pa_nil)) pa_nil)) (pv 2) (nomark _)) (pw_or (pt_cmpR op_ne (pe_callB (cr_sumLT rfl) (by rfl) T.z_sum (by decide +kernel) (pa_cons (pv 4) pa_nil)) (pe_callB call_len_seq (by rfl) T.z_len PySem.boot_len (pa_cons (pv 1) pa_nil)) (nomark _)) (pw_or1 (pt_cmpR (op_neD hr.units) (pv 1) (pv 3) (nomark _))))))) (pss_one (ps_ret pe_bl)) pss_nil)
    (pss_cons (ps_expr (pe_bm PySem.F.plainAttrs_list PySem.F.slot_list_append PySem.F.type_list_append mt_append (pv 4) (pa_cons pe_int pa_nil)))
    (C8.pss_cut (ps_if (pt_cmpR (op_neD hr.units) (pv 2) (pe_lst pa_nil) (nomark _)) (pss_cons (ps_set (i := 5) sc_right.nd rfl (Or.inl rfl) (pe_call G_draw (hr.mono (by decide)) (by rfl) T.g_draw T.k_draw T.b_draw .nil pass0 (pa_cons (pv 0) (pa_cons (pe_callB call_len_seq (by rfl) T.z_len PySem.boot_len (pa_cons (pv 2) pa_nil)) pa_nil))))
      (pss_one (ps_if (pt_cmpR op_ne (pe_ix ix_tup (pe_call G_run_of (hr.mono (by decide)) (by rfl) T.g_run_of T.k_run_of T.b_run_of .nil pass0 (pa_cons (pv 1) (pa_cons (pe_callB (cr_sumLT rfl) (by rfl) T.z_sum (by decide +kernel) (pa_cons (pe_slice sl_list (pv 2) po_none (po_some (pv 5))) pa_nil)) pa_nil))) pe_int (fun _ _ => rfl)) (pe_ix ix_list (pv 2) (pv 5) (fun _ _ => rfl)) (nomark _)) (pss_one (ps_ret pe_bl)) pss_nil))) pss_nil)
    (pss_one (ps_ret (pe_cmpR (op_eqD hr.units) (pe_callN0 G_run_lengths (hr.mono (by decide)) (by rfl) T.g_run_lengths T.k_run_lengths T.kn_run_lengths_0_keys pass0 (pk_cons (pv 1) pk_nil)) (pv 2) (nomark _))))))))), ?_⟩
    have ek : (ns.map V.int).length = ns.length := List.length_map _
    refine ⟨_, rfl, p, ns, rfl, hp, hl, hT, fun l k H1 hW hk lN e1 T1 hl1 => ?_⟩
    have hp1 := e1 _ _ hp fun ps z => by cases z
    refine ⟨_, rfl, p, _, rfl, .inl (L2.sq_of hp1), fun st hst => ⟨_, _, rfl, ?_⟩⟩
    have s2 := same_upd (o := .lst (ns.map V.int)) hst
    have hst2 : upd H1 st (.lst (ns.map V.int)) st = some (.lst (ns.map V.int)) := upd_same
    have hl2 := s2 _ _ hl1
    have hp2 := s2 _ _ hp1
    have d2 : DnT sp H (upd H1 st (.lst (ns.map V.int))) := ((DnT.refl hs).ext e1).ext (.of s2)
    have T2 := T1.ext s2
    generalize upd H1 st (.lst (ns.map V.int)) = H2 at hst2 hl2 hp2 d2 T2 ⊢
    refine ⟨_, rfl, p, ns, rfl, .inl hp2, hl, fun l2 k2 H3 hW2 _ s3 l2N hl3 => ?_⟩
    obtain rfl := whole_uniq hW2 hW
    refine ⟨fun σ' H' => σ' = [some (.ref sp), some (.ref p), some (.ref l), some (.ref st), some (.ref l2), none] ∧ Same H3 H', ?_, ?_⟩
    · refine ⟨_, rfl, _, rfl, _, _, dp_nats7 hl3, dp_nats7 (s3 _ _ hl2), shaped_ints _, shaped_ints _, false, by rw [eqv_lists, decide_eq_true rfl]; rfl, iteF ?_⟩
      refine ⟨_, rfl, p, _, rfl, .inl ⟨L2.sq_of (s3 _ _ hp2), fun tp htp => ?_⟩⟩
      have s4 := same_upd (o := .tup (ns.map V.int)) htp
      have htp4 : upd H3 tp (.tup (ns.map V.int)) tp = some (.tup (ns.map V.int)) := upd_same
      generalize upd H3 tp (.tup (ns.map V.int)) = H4 at s4 htp4 ⊢
      refine ⟨tp, ns, rfl, .inr htp4, hl, fun l5 k5 H5 hW5 _ s5 l5N hl5 => ?_⟩
      obtain rfl := whole_uniq hW5 hW2
      have s35 := s4.trans s5
      refine ⟨_, rfl, _, _, dp_nats7 hl5, dp_nats7 (s35 _ _ (s3 _ _ hl2)), shaped_ints _, shaped_ints _, false, by rw [eqv_lists, decide_eq_true rfl]; rfl, iteF ?_⟩
      have hsum : (((lensK ns k5).map fun (i : Nat) => (i : Int)).sum : Int) = (((ns.map V.int).length : Nat) : Int) := by rw [lens_sum, hW5.1, ek]
      refine ⟨_, rfl, l2, (lensK ns k5).map fun (i : Nat) => (i : Int), rfl, .inl (by rw [← nV_map]; exact L2.sq_of (s35 _ _ hl3)), _, rfl, p, _, rfl, .inl (L2.sq_of (s35 _ _ (s3 _ _ hp2))), rfl, false, by rw [hsum, decide_eq_true rfl]; rfl, iteF ?_⟩
      refine ⟨_, rfl, _, rfl, _, _, dp_ints (L2.sq_of (s35 _ _ (s3 _ _ hp2))), dp_ints (L2.sq_of (s35 _ _ (s3 _ _ hst2))), shaped_ints _, shaped_ints _, false, by rw [eqv_lists, decide_eq_true rfl]; rfl, iteF ?_⟩
      exact ⟨rfl, s35⟩
    rintro σ' H4 ⟨rfl, s4⟩
    have hl4 := s4 _ _ hl3
    refine ⟨_, rfl, .inl ⟨rfl, _, L2.sq_of hl4⟩, l2, _, _, rfl, rfl, hl4, Nat.lt_of_le_of_lt (by rw [List.length_map, lensK_len]; omega : _ ≤ 2000) (by decide), ?_⟩
    have s24 := s3.trans s4
    have s25 : ∀ b o, H2 b = some o → upd H4 l2 (.lst (nV (lensK ns k2) ++ [.int 0])) b = some o := fun b o e => by
      rw [upd_ne (ne_of_none e l2N)]
      exact s24 _ _ e
    have T5 : LamX.Tabs [(a.lp_run_due, lq_run_due)] (upd H4 l2 (.lst (nV (lensK ns k2) ++ [.int 0]))) := tabs_put (T2.ext s24) hl4
    generalize upd H4 l2 (.lst (nV (lensK ns k2) ++ [.int 0])) = H5 at s25 T5 ⊢
    have s25 : Same H2 H5 := s25
    have d5 := d2.ext (.of s25)
    refine ⟨fun σ' H' => (∃ u : Option V, σ' = [some (.ref sp), some (.ref p), some (.ref l), some (.ref st), some (.ref l2), u]) ∧ DnT sp H H' ∧ LamX.Tabs [(a.lp_run_due, lq_run_due)] H' ∧ H' p = some (.lst (ns.map V.int)) ∧ H' l = some (.lst (nV (lensK ns k2))), ?_, ?_⟩
    · refine ⟨_, rfl, Nat.zero_le _, fun z hz => ?_⟩
      have s6 := same_upd (o := .lst []) hz
      have hz6 : upd H5 z (.lst []) z = some (.lst (([] : List Int).map V.int)) := upd_same
      have d6 := d5.ext (.of s6)
      have T6 := T5.ext s6
      generalize upd H5 z (.lst []) = H6 at s6 hz6 d6 T6 ⊢
      have hl6 := s6 _ _ (s25 _ _ hl2)
      have hp6 := s6 _ _ (s25 _ _ hp2)
      refine ⟨_, _, dp_nats7 hl6, dp_ints (L2.sq_of hz6), shaped_ints _, shaped_ints _, ?_⟩
      rw [eqv_lists]
      by_cases c : k2 = 0
      · subst c
        exact ⟨false, rfl, iteF ⟨⟨_, rfl⟩, d6, T6, hp6, hl6⟩⟩
      · have ne : ((lensK ns k2).map fun (i : Nat) => (i : Int)) ≠ [] := fun e => c (by
          have h := congrArg List.length e
          rw [List.length_map, lensK_len] at h
          exact h)
        refine ⟨true, by rw [decide_eq_false ne]; rfl, iteT ?_⟩
        refine ⟨_, rfl, _, rfl, l, _, rfl, .inl (L2.sq_of hl6), sp, _, rfl, d6.2, by rw [List.length_map, lensK_len]; omega, by rw [List.length_map, lensK_len]; omega, fun v x y z v0 v1 x0 => ?_⟩
        rw [List.length_map, lensK_len] at v1
        obtain ⟨j, rfl⟩ : ∃ j : Nat, v = (j : Int) := ⟨v.toNat, (Int.toNat_of_nonneg v0).symm⟩
        have hj : j < k2 := by omega
        have nlsp : l ≠ sp := hs.ne lN
        have d7 : Dn sp H6 (upd H6 sp (.lst [.int x, .int y, .int z])) := .put x0
        have T7 := tabs_dn T6 d6.2 d7
        have hl7 := d7.1 _ _ nlsp hl6
        have hp7 := d7.1 _ _ nps hp6
        have d07 := d6.trans (.of d7)
        generalize upd H6 sp (.lst [.int x, .int y, .int z]) = H7 at T7 hl7 hp7 d07 ⊢
        refine ⟨_, rfl, _, rfl, _, rfl, _, rfl, l, _, rfl, L2.sq_of hl7, fun c hc => ?_⟩
        have ec : cutV (nV (lensK ns k2)) none (some (j : Int)) = nV (lensK ns j) := by
          rw [cut_take, ← List.map_take, lensK_take ns (by omega)]
        rw [ec]
        have s8 := same_upd (o := .lst (nV (lensK ns j))) hc
        have hc8 : upd H7 c (.lst (nV (lensK ns j))) c = some (.lst (nV (lensK ns j))) := upd_same
        generalize upd H7 c (.lst (nV (lensK ns j))) = H8 at s8 hc8 ⊢
        refine ⟨c, (lensK ns j).map fun (i : Nat) => (i : Int), rfl, .inl (by rw [← nV_map]; exact L2.sq_of hc8), ?_⟩
        rw [lens_sum]
        refine ⟨p, pos ns j, ns, rfl, .inl (s8 _ _ hp7), hW2.2 j hj, hl, fun N ln t il ql H9 hw hbe few hln s9 ht tN ilN qlN niq hil hq => ?_⟩
        obtain ⟨r1, _, _⟩ := rl_eq (hW2.2 j hj) hl hw hbe hln
        have s79 := s8.trans s9
        have eg : atI (nV (lensK ns k2)) (j : Int) = some (.int (ln : Int)) := by
          rw [nV_get (by rw [lensK_len]; exact hj), lensK_get ns hj, r1]
        refine ⟨t, _, 0, .int (ln : Int), rfl, rfl, L2.st_of ht, rfl, _, rfl, _, rfl, l, _, _, _, rfl, rfl, L2.sq_of (s79 _ _ hl7), eg, rfl, false, by rw [decide_eq_true rfl]; rfl, iteF ?_⟩
        exact ⟨⟨_, rfl⟩, d07.ext (.of s79), T7.ext s79, s79 _ _ hp7, s79 _ _ hl7⟩
    rintro σ' H6 ⟨⟨u, rfl⟩, d6, T6, hp6, hl6⟩
    refine ⟨_, rfl, rfl, p, ns, rfl, .inl hp6, hl, fun l7 k7 H7 hW7 _ s7 l7N hl7 => ?_⟩
    obtain rfl := whole_uniq hW7 hW2
    refine ⟨_, rfl, _, _, dp_nats7 hl7, dp_nats7 (s7 _ _ hl6), shaped_ints _, shaped_ints _, ?_⟩
    rw [eqv_lists, decide_eq_true rfl]
    exact q H7 (d6.ext (.of s7)) (T6.ext s7)
end

end K07

namespace K07
open PySem PySem.Spec PyProof.Rows L2
theorem whole_one {ms : List Int} {N : Nat} (l0 : 0 < ms.length) (hl : ms.length ≤ 2000) (hw : (st0 ms N).wt = none) (hb : Be ms N) (hp : (st0 ms N).pl = ms.length) : Whole ms 1 ∧ lensK ms 1 = [ms.length] := by
  obtain ⟨d1, d2, d3, _, _⟩ := due_end (as := []) (sx := ms) l0 (by show 0 + ms.length ≤ 2000; omega) hw hb hp
  obtain ⟨r, _, _⟩ := rl_eq (ns := ms) (s := 0) l0 hl d1 d2 d3
  refine ⟨⟨?_, fun j hj => ?_⟩, ?_⟩
  · show 0 + rl ms 0 = ms.length
    omega
  · obtain rfl : j = 0 := by omega
    exact l0
  · rw [lensK_next]
    show [] ++ [rl ms 0] = _
    rw [r]
    rfl
theorem whole_up {ms : List Int} (l0 : 0 < ms.length) (hl : ms.length ≤ 2000) (h : ∀ i, i + 1 < ms.length → ¬ kx ms (i + 1) < kx ms i) : Whole ms 1 ∧ lensK ms 1 = [ms.length] := by
  have ris := RF.rises_at (less_kx ms) (Nat.le_refl _) h
  obtain ⟨r, _⟩ := ris (ms.length - 1) (by omega)
  refine whole_one (N := ms.length - 1) l0 hl (r.off (by omega)) (fun i hi => ?_) (by rw [r.pl]; omega)
  rw [(ris i (by omega)).1.on (by omega)]
  exact Option.some_ne_none _
theorem whole_dn {ms : List Int} (l0 : 1 < ms.length) (hl : ms.length ≤ 2000) (h : ∀ i, i + 1 < ms.length → kx ms (i + 1) < kx ms i) : Whole ms 1 ∧ lensK ms 1 = [ms.length] := by
  have ris := RF.rises_at (n := ms.length) (p := 1) (less_kx ms) (by omega) (fun i hi => absurd hi (by omega))
  obtain ⟨r, _⟩ := ris 0 (by omega)
  have fal : ∀ P, 2 ≤ P → P ≤ ms.length → RF.Falls ms.length 0 P (st0 ms (P - 1)) ∧ Be ms (P - 1) := by
    intro P
    induction P with
    | zero => intro h2; omega
    | succ P ih =>
      intro h2 hP
      by_cases c : P = 1
      · subst c
        exact ⟨(RF.fall_one (less_kx ms) r l0 (h 0 l0)).1, fun i hi => by
          obtain rfl : i = 0 := by omega
          rw [r.on l0]
          exact Option.some_ne_none _⟩
      · obtain ⟨f, b⟩ := ih (by omega) (by omega)
        have hk := h (P - 1) (by omega)
        rw [show P - 1 + 1 = P by omega] at hk
        have g := (RF.falls_less (less_kx ms) f (by omega) hk).1
        have b2 := b.next (by rw [RF.falls_wt f (by omega)]; exact Option.some_ne_none _)
        rw [show P - 1 + 1 = P by omega] at g b2
        exact ⟨g, b2⟩
  obtain ⟨f, b⟩ := fal ms.length (by omega) (Nat.le_refl _)
  have g := RF.falls_end f (by omega)
  exact whole_one (N := ms.length - 1) (by omega) hl (g.off (by omega)) b g.pl
theorem whole_nil : Whole [] 0 := ⟨rfl, fun j h => absurd h (Nat.not_lt_zero _)⟩
theorem whole_two {ns : List Int} {x y : Nat} (r0 : rl ns 0 = x) (r1 : rl ns x = y) (h0 : 0 < ns.length) (h1 : x < ns.length) (h2 : x + y = ns.length) : Whole ns 2 ∧ lensK ns 2 = [x, y] := by
  have p1 : pos ns 1 = x := by
    show 0 + rl ns 0 = x
    omega
  have p2 : pos ns 2 = x + y := by
    show pos ns 1 + rl ns (pos ns 1) = x + y
    rw [p1, r1]
  refine ⟨⟨p2.trans h2, fun j hj => ?_⟩, ?_⟩
  · match j, hj with
    | 0, _ => exact h0
    | 1, _ => rw [p1]; exact h1
    | j + 2, hj => omega
  · rw [lensK_next, lensK_next, p1, r1]
    show [] ++ [rl ns 0] ++ [y] = _
    rw [r0]
    rfl
theorem whole_four : Whole [1, 0, 1, 0] 2 ∧ lensK [1, 0, 1, 0] 2 = [3, 1] :=
  whole_two (rl_eq (ns := [1, 0, 1, 0]) (s := 0) (N := 5) (m := 3) (by decide) (by decide) (by decide +kernel) (by decide +kernel) (by decide +kernel)).1
    (rl_eq (ns := [1, 0, 1, 0]) (s := 3) (N := 0) (m := 1) (by decide) (by decide) (by decide +kernel) (by decide +kernel) (by decide +kernel)).1 (by decide) (by decide) (by decide)
def spLaw (K : PySem.W.Frag) (TT : List (Addr × Str)) : Sp := fun vs H Q _ => ∃ (a : Addr) (ns : List Int), vs = [.ref a] ∧ SqL K H a (ns.map V.int) ∧ ns.length ≤ 63 ∧ LamX.Tabs TT H ∧ ∀ H', Q (.bl true) H'
theorem cells_int {ns : List Int} {lo hi : Option Int} {x : V} (h : x ∈ cutV (ns.map V.int ++ [V.int 0]) lo hi) : ∃ c, x = .int c := by
  have h := cut_mem h
  rw [List.mem_append] at h
  rcases h with h | h
  · obtain ⟨c, _, e⟩ := List.mem_map.mp h
    exact ⟨c, e.symm⟩
  · exact ⟨0, List.mem_singleton.mp h⟩
theorem neg_get {ms : List Int} {i : Nat} (hi : i < ms.length) : kx (ms.map fun z => 0 - z) i = 0 - kx ms i := by
  show (ms.map fun z => 0 - z).getD i 0 = 0 - ms.getD i 0
  rw [List.getD_eq_getElem?_getD, List.getD_eq_getElem?_getD, List.getElem?_map, List.getElem?_eq_getElem hi]
  rfl
section
variable {P : Program} {w : World} {K : PySem.W.Frag} {mg : Str → Option Value} {base : Heap} {a : Ad} {d : Fd}
theorem ok_law (T : Txt K mg a d) (TB : LamX.TabB base mg a.lc_run_due a.lp_run_due) : FnOk P w K mg base CX0 12 a.law d.law P_law (spLaw K [(a.lp_run_due, lq_run_due)]) := by
  have G_source : FnOk P w K mg base CX0 1 a.source d.source P_source spSource := ok_source T
  have G_draw : FnOk P w K mg base CX0 1 a.draw d.draw P_draw spDraw := ok_draw T
  have G_keys : FnOk P w K mg base CX0 3 a.keys d.keys P_keys spKeys := ok_keys T
  have G_run_lengths : FnOk P w K mg base CX0 10 a.run_lengths d.run_lengths P_run_lengths spLens7 := ok_run_lengths T
  have G_right : FnOk P w K mg base CX0 11 a.right d.right P_right (spRight7 [(a.lp_run_due, lq_run_due)]) := ok_right T TB
  refine T.f_law.ok sc_law (fun vs H Q E h => ?_) (fun cdv A outer s H vs Q E hr h => ?_)
  · obtain ⟨p, n, rfl, _⟩ := h
    rfl
  · obtain ⟨sc, ns, rfl, hS, hlen, hT, q⟩ := h
    refine ⟨_, (pss_cons (ps_for PassesOwn.never rfl (pi_list (pe_slice sl_list (pe_op op_catS (pv 0) (pe_lst (pa_cons pe_int pa_nil))) po_none (po_some pe_int))) (pg_name (i := 1) sc_law.nd rfl (Or.inl rfl))
      (pss_cons (ps_set (i := 2) sc_law.nd rfl (Or.inr rfl) (pe_call G_source (hr.mono (by decide)) (by rfl) T.g_source T.k_source T.b_source .nil pass0 (pa_cons (pv 1) pa_nil)))
        (pss_cons (ps_for PassesOwn.never rfl (pi_tup (pe_tup (pa_cons pe_int (pa_cons pe_int (pa_cons pe_int pa_nil))))) (pg_name (i := 3) sc_law.nd rfl (Or.inl rfl))
          (pss_one (ps_if (pt_not (pt_val (pe_call G_right (hr.mono (by decide)) (by rfl) T.g_right T.k_right T.b_right .nil pass0 (pa_cons (pv 2) (pa_cons (pe_call G_keys (hr.mono (by decide)) (by rfl) T.g_keys T.k_keys T.b_keys .nil pass0 (pa_cons (pv 2) (pa_cons (pe_call G_draw (hr.mono (by decide)) (by rfl) T.g_draw T.k_draw T.b_draw .nil pass0 (pa_cons (pv 2) (pa_cons (pe_op op_add (pv 3) pe_int) pa_nil))) pa_nil))) pa_nil))))) (pss_one (ps_ret pe_bl)) pss_nil)))
        (pss_cons (ps_set (i := 4) sc_law.nd rfl (Or.inl rfl) (pe_op op_add pe_int (pe_call G_draw (hr.mono (by decide)) (by rfl) T.g_draw T.k_draw T.b_draw .nil pass0 (pa_cons (pv 2) (pa_cons pe_int pa_nil)))))
        (pss_cons (ps_setLc (i := 5) (own := [("place", 6)]) (g := gName 6) (tt := tYes) rfl sc_law.nd rfl rfl (sw_true rfl rfl rfl (by decide +kernel)) (pi_range1 (by rfl) T.z_range (pa_cons (pv 4) pa_nil)) (blkOk_by (N := N_law) (sc := defScope s_law) (by decide +kernel)) (fun _ _ _ _ _ => pg_name (i := 6) sc_law.nd rfl (Or.inl rfl)) (fun _ _ _ _ _ => pts_nil) (fun _ _ _ _ _ => (pe_op op_add (pe_op op_mul pe_int (pv 6)) (pe_call G_draw (hr.mono (by decide)) (by rfl) T.g_draw T.k_draw T.b_draw .nil pass0 (pa_cons (pv 2) (pa_cons pe_int pa_nil))))))
        (pss_cons (ps_setLc (i := 7) (own := [("one", 8)]) (g := gName 8) (tt := tYes) rfl sc_law.nd rfl rfl (sw_true rfl rfl rfl (by decide +kernel)) (pi_list (pv 5)) (blkOk_by (N := N_law) (sc := defScope s_law) (by decide +kernel)) (fun _ _ _ _ _ => pg_name (i := 8) sc_law.nd rfl (Or.inl rfl)) (fun _ _ _ _ _ => pts_nil) (fun _ _ _ _ _ => (pe_op op_sub pe_int (pv 8))))
        (pss_cons (ps_setLc (i := 9) (own := [("place", 6)]) (g := gName 6) (tt := tYes) rfl sc_law.nd rfl rfl (sw_true rfl rfl rfl (by decide +kernel)) (pi_range2 (by rfl) T.z_range (pa_cons pe_int (pa_cons (pe_op op_add (pv 4) pe_int) pa_nil))) (blkOk_by (N := N_law) (sc := defScope s_law) (by decide +kernel)) (fun _ _ _ _ _ => pg_name (i := 6) sc_law.nd rfl (Or.inl rfl)) (fun _ _ _ _ _ => pts_nil) (fun _ _ _ _ _ => (pe_op op_mul (pv 6) (pe_ix (show IxR _ (rIxL K) from ix_list) (pe_lst (pa_cons pe_int (pa_cons (pe_un un_neg pe_int) pa_nil))) (pe_op op_mod (pe_callTy call_int1 (by rfl) T.z_int (by decide +kernel) (pa_cons (pv 6) pa_nil)) pe_int) (fun _ _ => rfl)))))
        (pss_cons (ps_if (PW.pt (pw_or (pt_cmpR (op_neD hr.units) (pe_call G_run_lengths (hr.mono (by decide)) (by rfl) T.g_run_lengths T.k_run_lengths T.b_run_lengths .nil pass0 (pa_cons (pv 5) pa_nil)) (pe_lst (pa_cons (pv 4) pa_nil)) (nomark _)) (pw_or1 (pt_cmpR (op_neD hr.units) (pe_call G_run_lengths (hr.mono (by decide)) (by rfl) T.g_run_lengths T.k_run_lengths T.b_run_lengths .nil pass0 (pa_cons (pv 7) pa_nil)) (pe_lst (pa_cons (pv 4) pa_nil)) (nomark _))))) (pss_one (ps_ret pe_bl)) pss_nil)
        (pss_one (ps_for PassesOwn.never rfl (pi_tup (pe_tup (pa_cons (pv 9) (pa_cons (pe_op op_catS (pv 5) (pv 7)) (pa_cons (pe_op op_catS (pv 7) (pv 5)) pa_nil))))) (pg_name (i := 10) sc_law.nd rfl (Or.inl rfl))
          (pss_one (ps_if (pt_not (pt_val (pe_call G_right (hr.mono (by decide)) (by rfl) T.g_right T.k_right T.b_right .nil pass0 (pa_cons (pv 2) (pa_cons (pv 10) pa_nil))))) (pss_one (ps_ret pe_bl)) pss_nil))))))))))))
    (pss_one (ps_ret (pe_and (pe_cmpR (op_eqD hr.units) (pe_call G_run_lengths (hr.mono (by decide)) (by rfl) T.g_run_lengths T.k_run_lengths T.b_run_lengths .nil pass0 (pa_cons (pe_lst pa_nil) pa_nil)) (pe_lst pa_nil) (nomark _)) (pe_one (pe_cmpR (op_eqD hr.units) (pe_call G_run_lengths (hr.mono (by decide)) (by rfl) T.g_run_lengths T.k_run_lengths T.b_run_lengths .nil pass0 (pa_cons (pe_lst (pa_cons pe_int (pa_cons pe_int (pa_cons pe_int (pa_cons pe_int pa_nil))))) pa_nil)) (pe_lst (pa_cons pe_int (pa_cons pe_int pa_nil))) (nomark _))))))), ?_⟩
    have sz : (ns.map V.int).length + 1 ≤ sizeLine := by
      rw [List.length_map]
      exact Nat.le_trans (by omega) (by decide : 64 ≤ sizeLine)
    refine ⟨_, rfl, by show 1 ≤ sizeLine; decide, fun b2 hb2 => ⟨sc, b2, _, _, rfl, rfl, (same_upd hb2).seq hS, L2.sq_of upd_same, sz, fun c2 hc2 => ?_⟩⟩
    refine ⟨3, rfl, c2, _, rfl, L2.sq_of upd_same, fun e he => ⟨e, rfl, ⟨_, L2.sq_of upd_same⟩, ?_⟩⟩
    have TE : LamX.Tabs [(a.lp_run_due, lq_run_due)] (upd (upd (upd H b2 (.lst [.int 0])) c2 (.lst (ns.map V.int ++ [V.int 0]))) e (.lst (cutV (ns.map V.int ++ [V.int 0]) none (some 3)))) := ((hT.ext (same_upd hb2)).ext (same_upd hc2)).ext (same_upd he)
    generalize hHe : upd (upd (upd H b2 (.lst [.int 0])) c2 (.lst (ns.map V.int ++ [V.int 0]))) e (.lst (cutV (ns.map V.int ++ [V.int 0]) none (some 3))) = He at TE ⊢
    have hE : He e = some (.lst (cutV (ns.map V.int ++ [V.int 0]) none (some 3))) := by
      rw [← hHe]
      exact upd_same
    refine for_list (K := K) (a := e) (xs := cutV (ns.map V.int ++ [V.int 0]) none (some 3)) (fun i σ H' => (∃ (u1 u2 u3 u4 u5 u6 u7 u8 u9 u10 : Option V), σ = [some (.ref sc), u1, u2, u3, u4, u5, u6, u7, u8, u9, u10]) ∧ LamX.ExtN He H' ∧ LamX.Tabs [(a.lp_run_due, lq_run_due)] H')
      ⟨⟨_, _, _, _, _, _, _, _, _, _, rfl⟩, LamX.ExtN.refl _, TE⟩ (fun i σ H' _ h => L2.sq_of (h.2.1 _ _ hE fun ps z => by cases z)) ?_ ?_
    · rintro i y σ H2 hy ⟨⟨u1, u2, u3, u4, u5, u6, u7, u8, u9, u10, rfl⟩, sm, T2⟩
      obtain ⟨cell, rfl⟩ := cells_int (List.mem_of_getElem? hy)
      refine ⟨_, rfl, cell, rfl, fun p x y z x0 hp => ?_⟩
      have sm1 : LamX.ExtN He (upd H2 p (.lst [.int x, .int y, .int z])) := sm.trans (LamX.ExtN.of (same_upd hp))
      have sr1 : Src (upd H2 p (.lst [.int x, .int y, .int z])) p := .put x0
      have T3 := T2.ext (same_upd (o := .lst [.int x, .int y, .int z]) hp)
      have fp : ∀ b o, (∀ ps, o ≠ HO.tbl ps) → He b = some o → b ≠ p := fun b o n h z => by
        have h2 := sm _ _ h n
        rw [z, hp] at h2
        cases h2
      generalize upd H2 p (.lst [.int x, .int y, .int z]) = H3 at sm1 sr1 T3 ⊢
      have sDn : ∀ {H4 : Hp}, DnT p H3 H4 → LamX.ExtN He H4 := fun d b o e n => d.1 b o (fp b o n e) n (sm1 _ _ e n)
      -- drawn keys
      refine ⟨by show 3 ≤ sizeLine; decide, fun tt htt => ⟨tt, rfl, ⟨_, L2.st_of upd_same⟩, ?_⟩⟩
      have s4 := same_upd (o := .tup [.int 5, .int 40, .int 400]) htt
      have htt4 : upd H3 tt (.tup [.int 5, .int 40, .int 400]) tt = some (.tup [.int 5, .int 40, .int 400]) := upd_same
      have d4 : DnT p H3 (upd H3 tt (.tup [.int 5, .int 40, .int 400])) := (DnT.refl sr1).ext (.of s4)
      have T4 := T3.ext s4
      have ntt : tt ≠ p := sr1.ne htt
      generalize upd H3 tt (.tup [.int 5, .int 40, .int 400]) = H4 at htt4 d4 T4 ⊢
      have num : ∀ (i : Nat) (y : V), ([V.int 5, V.int 40, V.int 400] : List V)[i]? = some y → ∃ c : Int, y = V.int c ∧ 0 < c ∧ c ≤ 400 := by
        intro i y hy
        match i, hy with
        | 0, hy => exact ⟨5, (Option.some.inj hy).symm, by decide, by decide⟩
        | 1, hy => exact ⟨40, (Option.some.inj hy).symm, by decide, by decide⟩
        | 2, hy => exact ⟨400, (Option.some.inj hy).symm, by decide, by decide⟩
        | i + 3, hy => simp at hy
      refine for_tup (K := K) (a := tt) (xs := [V.int 5, V.int 40, V.int 400]) (fun i σ H' => (∃ (u3 u4 u5 u6 u7 u8 u9 u10 : Option V), σ = [some (.ref sc), some (.int cell), some (.ref p), u3, u4, u5, u6, u7, u8, u9, u10]) ∧ DnT p H4 H' ∧ LamX.Tabs [(a.lp_run_due, lq_run_due)] H')
        ⟨⟨_, _, _, _, _, _, _, _, rfl⟩, DnT.refl d4.2, T4⟩ (fun i σ H' _ h => L2.st_of (h.2.1.1 _ _ ntt (fun ps z => by cases z) htt4)) ?_ ?_
      · rintro i y σ H5 hy ⟨⟨u3, u4, u5, u6, u7, u8, u9, u10, rfl⟩, d5, T5⟩
        obtain ⟨c, rfl, c0, c1⟩ := num i y hy
        refine ⟨_, rfl, _, rfl, _, rfl, _, rfl, _, _, rfl, rfl, p, _, rfl, d5.2, by omega, by omega, fun v x y z v0 v1 x0 => ?_⟩
        obtain ⟨n, rfl⟩ : ∃ j : Nat, v = (j : Int) := ⟨v.toNat, (Int.toNat_of_nonneg v0).symm⟩
        have d6 : Dn p H5 (upd H5 p (.lst [.int x, .int y, .int z])) := .put x0
        generalize upd H5 p (.lst [.int x, .int y, .int z]) = H6 at d6 ⊢
        refine ⟨p, n, rfl, d6.2, by omega, fun gp ms H7 lm gpN d7' hg7 => ?_⟩
        have d7 := d6.trans d7'
        exact ⟨p, gp, ms, rfl, d7.2, d6.2.ne gpN, hg7, by omega, tabs_dn T5 d5.2 d7, fun H8 d8 T8 => ⟨true, rfl, iteF ⟨⟨_, _, _, _, _, _, _, _, rfl⟩, (d5.trans (.of d7)).trans d8, T8⟩⟩⟩
      rintro σ H5 ⟨⟨u3, u4, u5, u6, u7, u8, u9, u10, rfl⟩, d5, T5⟩
      have d35 := d4.trans d5
      -- rising ones
      refine ⟨_, rfl, p, 40, rfl, d5.2, by decide, by decide, fun v x y z v0 v1 x0 => ?_⟩
      obtain ⟨n, rfl⟩ : ∃ j : Nat, v = (j : Int) := ⟨v.toNat, (Int.toNat_of_nonneg v0).symm⟩
      have d6 : Dn p H5 (upd H5 p (.lst [.int x, .int y, .int z])) := .put x0
      have T6 := tabs_dn T5 d5.2 d6
      generalize upd H5 p (.lst [.int x, .int y, .int z]) = H6 at d6 T6 ⊢
      have d36 := d35.trans (.of d6)
      refine ⟨_, _, rfl, rfl, ?_⟩
      obtain ⟨size, hsz⟩ : ∃ size : Nat, size = 2 + n := ⟨_, rfl⟩
      have ev : (fun i j : Int => V.int (i + j)) 2 (n : Int) = V.int (size : Int) := congrArg V.int (by omega)
      rw [ev]
      have hs2 : 2 ≤ size := by omega
      have hs42 : size ≤ 42 := by omega
      refine ⟨_, rfl, (size : Int), rfl, by omega, by omega, fun D hD => ?_⟩
      have nDp : D ≠ p := d6.2.ne hD
      refine lc_range (lo := 0) (n := (size : Int).toNat) (fun i H' => ∃ ms : List Int, ms.length = i ∧ (∀ j, j < i → 3 * (j : Int) ≤ ms.getD j 0 ∧ ms.getD j 0 < 3 * (j : Int) + 3) ∧ Dn p H6 H' ∧ H' D = some (.lst (ms.map V.int))) ⟨[], rfl, fun j h => absurd h (Nat.not_lt_zero _), (Dn.refl d6.2).new hD, upd_same⟩ ?_ ?_
      · rintro i H7 hi ⟨ms, lms, bms, d7, h7⟩
        refine ⟨rfl, _, rfl, _, _, rfl, rfl, .inl ⟨by decide, by decide⟩, _, rfl, p, 3, rfl, d7.2, by decide, by decide, fun v x y z v0 v1 x0 => ⟨_, _, rfl, rfl, ?_⟩⟩
        have d8 : Dn p H7 (upd H7 p (.lst [.int x, .int y, .int z])) := .put x0
        have h8 := d8.1 _ _ nDp h7
        have d68 := d7.trans d8
        generalize upd H7 p (.lst [.int x, .int y, .int z]) = H8 at d68 h8 ⊢
        refine ⟨_, h8, ?_, ms ++ [3 * (0 + (i : Int)) + v], by rw [List.length_append, lms]; rfl, fun j hj => ?_, ?_, ?_⟩
        · rw [List.length_map, lms]
          exact Nat.lt_of_le_of_lt (by omega : i ≤ 2000) (by decide)
        · by_cases c : j < ms.length
          · rw [List.getD_eq_getElem?_getD, List.getElem?_append_left c, ← List.getD_eq_getElem?_getD]
            exact bms j (by omega)
          · rw [List.getD_eq_getElem?_getD, List.getElem?_append_right (by omega), show j - ms.length = 0 by omega]
            show 3 * (j : Int) ≤ 3 * (0 + (i : Int)) + v ∧ 3 * (0 + (i : Int)) + v < 3 * (j : Int) + 3
            omega
        · exact ⟨fun b o nb e => by
            rw [upd_ne (ne_of_none e hD)]
            exact d68.1 b o nb e, d68.2.upd nDp⟩
        · rw [map_snoc]
          exact upd_same
      rintro H7 ⟨ms, lms, bms, d7, h7⟩
      rw [Int.toNat_natCast] at lms bms
      -- turned ones
      refine ⟨_, rfl, D, rfl, ⟨_, L2.sq_of h7⟩, fun D2 hD2 => ?_⟩
      have nDp2 : D2 ≠ p := d7.2.ne hD2
      refine lc_list (K := K) (a := D) (xs := ms.map V.int) (fun j H' => Same H7 H' ∧ H' D2 = some (.lst (((ms.take j).map fun z => 0 - z).map V.int))) ⟨same_upd hD2, upd_same⟩ (fun j H' _ h => L2.sq_of (h.1 _ _ h7)) ?_ ?_
      · rintro j v H8 hv ⟨s8, h8⟩
        obtain ⟨z, hz, rfl⟩ : ∃ z, ms[j]? = some z ∧ v = .int z := by
          rw [List.getElem?_map] at hv
          cases e : ms[j]? with
          | none => rw [e] at hv; cases hv
          | some z => rw [e] at hv; exact ⟨z, rfl, (Option.some.inj hv).symm⟩
        refine ⟨rfl, _, rfl, _, _, rfl, rfl, _, h8, ?_, fun b o e => ?_, ?_⟩
        · rw [List.length_map, List.length_map, List.length_take]
          exact Nat.lt_of_le_of_lt (by omega : _ ≤ 2000) (by decide)
        · rw [upd_ne (ne_of_none e hD2)]
          exact s8 _ _ e
        · rw [upd_same, List.take_succ, hz, List.map_append, List.map_append]
          rfl
      rintro H8 ⟨s8, h8⟩
      rw [List.length_map, List.take_of_length_le (Nat.le_refl _)] at h8
      -- swings
      refine ⟨_, rfl, _, _, rfl, rfl, _, _, rfl, ⟨by decide, by decide, by omega, by omega⟩, fun D3 hD3 => ?_⟩
      have h78 := s8 _ _ h7
      refine lc_range (lo := 1) (n := (((size : Int) + 1) - 1).toNat) (fun i H' => ∃ ks : List Int, ks.length = i ∧ Same H8 H' ∧ H' D3 = some (.lst (ks.map V.int))) ⟨[], rfl, same_upd hD3, upd_same⟩ ?_ ?_
      · rintro i H9 hi ⟨ks, lks, s9, h9⟩
        refine ⟨rfl, _, rfl, _, rfl, by show 2 ≤ sizeLine; decide, fun l hl => ?_⟩
        have s10 := s9.trans (same_upd (o := .lst [.int 1, .int (-1)]) hl)
        have h10 := same_upd (o := .lst [.int 1, .int (-1)]) hl _ _ h9
        have hl10 : upd H9 l (.lst [.int 1, .int (-1)]) l = some (.lst [.int 1, .int (-1)]) := upd_same
        generalize upd H9 l (.lst [.int 1, .int (-1)]) = H10 at s10 h10 hl10 ⊢
        obtain ⟨g, hg, hgb⟩ : ∃ g : Int, atI [V.int 1, V.int (-1)] ((1 + (i : Int)) % 2) = some (.int g) ∧ (-(2 ^ 64) < g ∧ g < 2 ^ 64) := by
          have h : (1 + (i : Int)) % 2 = 0 ∨ (1 + (i : Int)) % 2 = 1 := by omega
          rcases h with h | h <;> rw [h]
          · exact ⟨1, rfl, by decide⟩
          · exact ⟨-1, rfl, by decide⟩
        refine ⟨_, rfl, .inl ⟨_, rfl, _, _, rfl, rfl, by show (0 : Int) < 2; decide, l, _, _, .int g, rfl, rfl, L2.sq_of hl10, hg, _, _, rfl, rfl, .inr hgb, _, h10, ?_, ks ++ [(1 + (i : Int)) * g], by rw [List.length_append, lks]; rfl, fun b o e => ?_, ?_⟩⟩
        · rw [List.length_map, lks]
          exact Nat.lt_of_le_of_lt (by omega : i ≤ 2000) (by decide)
        · rw [upd_ne (ne_of_none e hD3)]
          exact s10 _ _ e
        · rw [map_snoc]
          exact upd_same
      rintro H9 ⟨ks, lks, s9, h9⟩
      have hD9 := s9 _ _ h78
      have hT9 := s9 _ _ h8
      have lneg : (ms.map fun z => 0 - z).length = size := by rw [List.length_map, lms]
      obtain ⟨wu, lu⟩ := whole_up (ms := ms) (by omega) (by omega) fun i hi => by
        have h1 := (bms i (by omega)).2
        have h2 := (bms (i + 1) (by omega)).1
        show ¬ ms.getD (i + 1) 0 < ms.getD i 0
        omega
      obtain ⟨wd, ld⟩ := whole_dn (ms := ms.map fun z => 0 - z) (by omega) (by omega) fun i hi => by
        rw [neg_get (by omega), neg_get (by omega)]
        have h1 := (bms i (by omega)).2
        have h2 := (bms (i + 1) (by omega)).1
        show 0 - ms.getD (i + 1) 0 < 0 - ms.getD i 0
        omega
      have e1 : ([ms.length].map fun (i : Nat) => (i : Int)) = [(size : Int)] := by rw [lms]; rfl
      have e2 : ([(ms.map fun z => 0 - z).length].map fun (i : Nat) => (i : Int)) = [(size : Int)] := by rw [lneg]; rfl
      refine ⟨_, rfl, D, ms, rfl, .inl hD9, by omega, fun l k H10 hW _ s10 lN hl10 => ?_⟩
      obtain rfl := whole_uniq hW wu
      rw [lu] at hl10
      refine ⟨_, rfl, by show 1 ≤ sizeLine; decide, fun z hz => ?_⟩
      have s11 := same_upd (o := .lst [.int (size : Int)]) hz
      have hz11 : upd H10 z (.lst [.int (size : Int)]) z = some (.lst ([(size : Int)].map V.int)) := upd_same
      generalize upd H10 z (.lst [.int (size : Int)]) = H11 at s11 hz11 ⊢
      have s9_11 := s10.trans s11
      refine ⟨_, _, dp_nats7 (s11 _ _ hl10), dp_ints (L2.sq_of hz11), shaped_ints _, shaped_ints _, false, by rw [eqv_lists, decide_eq_true e1]; rfl, iteF ?_⟩
      refine ⟨_, rfl, D2, _, rfl, .inl (s9_11 _ _ hT9), by omega, fun l k H12 hW _ s12 lN hl12 => ?_⟩
      obtain rfl := whole_uniq hW wd
      rw [ld] at hl12
      refine ⟨_, rfl, by show 1 ≤ sizeLine; decide, fun z hz => ?_⟩
      have s13 := same_upd (o := .lst [.int (size : Int)]) hz
      have hz13 : upd H12 z (.lst [.int (size : Int)]) z = some (.lst ([(size : Int)].map V.int)) := upd_same
      generalize upd H12 z (.lst [.int (size : Int)]) = H13 at s13 hz13 ⊢
      have s9_13 := s9_11.trans (s12.trans s13)
      refine ⟨_, _, dp_nats7 (s13 _ _ hl12), dp_ints (L2.sq_of hz13), shaped_ints _, shaped_ints _, false, by rw [eqv_lists, decide_eq_true e2]; rfl, iteF ?_⟩
      -- all three
      have big : (1000 : Nat) ≤ sizeLine := by decide
      have lm1 : (ms.map V.int).length = ms.length := List.length_map _
      have lm2 : ((ms.map fun z => 0 - z).map V.int).length = ms.length := by rw [List.length_map, List.length_map]
      refine ⟨_, rfl, _, rfl, _, rfl, D, D2, _, _, rfl, rfl, L2.sq_of (s9_13 _ _ hD9), L2.sq_of (s9_13 _ _ hT9), by omega, fun c hc => ?_⟩
      rw [← List.map_append]
      have s14 := same_upd (o := .lst ((ms ++ ms.map fun z => 0 - z).map V.int)) hc
      have hc14 : upd H13 c (.lst ((ms ++ ms.map fun z => 0 - z).map V.int)) c = some (.lst ((ms ++ ms.map fun z => 0 - z).map V.int)) := upd_same
      generalize upd H13 c (.lst ((ms ++ ms.map fun z => 0 - z).map V.int)) = H14 at s14 hc14 ⊢
      refine ⟨_, rfl, _, rfl, D2, D, _, _, rfl, rfl, L2.sq_of (s14 _ _ (s9_13 _ _ hT9)), L2.sq_of (s14 _ _ (s9_13 _ _ hD9)), by omega, fun c' hc' => ?_⟩
      rw [← List.map_append]
      have s15 := same_upd (o := .lst (((ms.map fun z => 0 - z) ++ ms).map V.int)) hc'
      have hc15 : upd H14 c' (.lst (((ms.map fun z => 0 - z) ++ ms).map V.int)) c' = some (.lst (((ms.map fun z => 0 - z) ++ ms).map V.int)) := upd_same
      generalize upd H14 c' (.lst (((ms.map fun z => 0 - z) ++ ms).map V.int)) = H15 at s15 hc15 ⊢
      refine ⟨by show 3 ≤ sizeLine; decide, fun tt htt => ⟨tt, rfl, ⟨_, L2.st_of upd_same⟩, ?_⟩⟩
      have s16 := same_upd (o := .tup [.ref D3, .ref c, .ref c']) htt
      have htt16 : upd H15 tt (.tup [.ref D3, .ref c, .ref c']) tt = some (.tup [.ref D3, .ref c, .ref c']) := upd_same
      generalize upd H15 tt (.tup [.ref D3, .ref c, .ref c']) = H16 at s16 htt16 ⊢
      have s7_16 : Same H7 H16 := (s8.trans s9).trans (s9_13.trans (s14.trans (s15.trans s16)))
      have d16 : DnT p H3 H16 := (d36.trans (.of d7)).ext (.of s7_16)
      have T16 : LamX.Tabs [(a.lp_run_due, lq_run_due)] H16 := (tabs_dn T6 d6.2 d7).ext s7_16
      have src9 : Src H9 p := d7.2.same (s8.trans s9)
      have src13 : Src H13 p := src9.same s9_13
      have src14 : Src H14 p := src13.same s14
      have src15 : Src H15 p := src14.same s15
      have src8 : Src H8 p := d7.2.same s8
      have num3 : ∀ (i : Nat) (y : V), ([V.ref D3, V.ref c, V.ref c'] : List V)[i]? = some y → ∃ (z : Addr) (zs : List Int), y = V.ref z ∧ z ≠ p ∧ H16 z = some (.lst (zs.map V.int)) ∧ zs.length ≤ 2000 := by
        intro i y hy
        match i, hy with
        | 0, hy => exact ⟨D3, ks, (Option.some.inj hy).symm, src8.ne hD3, s16 _ _ (s15 _ _ (s14 _ _ (s9_13 _ _ h9))), by omega⟩
        | 1, hy => exact ⟨c, _, (Option.some.inj hy).symm, src13.ne hc, s16 _ _ (s15 _ _ hc14), by rw [List.length_append]; omega⟩
        | 2, hy => exact ⟨c', _, (Option.some.inj hy).symm, src14.ne hc', s16 _ _ hc15, by rw [List.length_append]; omega⟩
        | i + 3, hy => simp at hy
      refine for_tup (K := K) (a := tt) (xs := [V.ref D3, V.ref c, V.ref c']) (fun i σ H' => (∃ (u3 u4 u5 u6 u7 u8 u9 u10 : Option V), σ = [some (.ref sc), some (.int cell), some (.ref p), u3, u4, u5, u6, u7, u8, u9, u10]) ∧ DnT p H16 H' ∧ LamX.Tabs [(a.lp_run_due, lq_run_due)] H')
        ⟨⟨_, _, _, _, _, _, _, _, rfl⟩, DnT.refl d16.2, T16⟩ (fun i σ H' _ h => L2.st_of (h.2.1.1 _ _ (src15.ne htt) (fun ps z => by cases z) htt16)) ?_ ?_
      · rintro i y σ H17 hy ⟨⟨u3, u4, u5, u6, u7, u8, u9, u10, rfl⟩, d17, T17⟩
        obtain ⟨z, zs, rfl, nz, hz, lz⟩ := num3 i y hy
        exact ⟨_, rfl, _, rfl, p, z, zs, rfl, d17.2, nz, d17.1 _ _ nz (fun ps z => by cases z) hz, lz, T17, fun H18 d18 T18 => ⟨true, rfl, iteF ⟨⟨_, _, _, _, _, _, _, _, rfl⟩, d17.trans d18, T18⟩⟩⟩
      · rintro σ H17 ⟨⟨u3, u4, u5, u6, u7, u8, u9, u10, rfl⟩, d17, T17⟩
        exact ⟨⟨_, _, _, _, _, _, _, _, _, _, rfl⟩, sDn (d16.trans d17), T17⟩
    · rintro σ H2 ⟨⟨u1, u2, u3, u4, u5, u6, u7, u8, u9, u10, rfl⟩, sm, T2⟩
      refine ⟨Nat.zero_le _, fun l1 hl1 => ?_⟩
      have h1 : upd H2 l1 (.lst []) l1 = some (.lst (([] : List Int).map V.int)) := upd_same
      generalize upd H2 l1 (.lst []) = H3 at h1 ⊢
      refine ⟨l1, [], rfl, .inl h1, by decide, fun l k H4 hW _ s4 lN hl4 => ?_⟩
      obtain rfl := whole_uniq hW whole_nil
      have hl4 : H4 l = some (.lst (nV [])) := hl4
      refine ⟨Nat.zero_le _, fun z hz => ?_⟩
      have s5 := same_upd (o := .lst []) hz
      have hz5 : upd H4 z (.lst []) z = some (.lst (([] : List Int).map V.int)) := upd_same
      generalize upd H4 z (.lst []) = H5 at s5 hz5 ⊢
      refine ⟨_, _, dp_nats7 (s5 _ _ hl4), dp_ints (L2.sq_of hz5), shaped_ints _, shaped_ints _, ?_⟩
      rw [eqv_lists]
      refine ⟨true, by rw [decide_eq_true (show ([] : List Nat).map (fun (i : Nat) => (i : Int)) = [] from rfl)], iteT ?_⟩
      refine ⟨by show 4 ≤ sizeLine; decide, fun l2 hl2 => ?_⟩
      have h2 : upd H5 l2 (.lst [.int 1, .int 0, .int 1, .int 0]) l2 = some (.lst (([1, 0, 1, 0] : List Int).map V.int)) := upd_same
      generalize upd H5 l2 (.lst [.int 1, .int 0, .int 1, .int 0]) = H6 at h2 ⊢
      refine ⟨l2, [1, 0, 1, 0], rfl, .inl h2, by decide, fun l k H7 hW _ s7 lN hl7 => ?_⟩
      obtain rfl := whole_uniq hW whole_four.1
      rw [whole_four.2] at hl7
      refine ⟨by show 2 ≤ sizeLine; decide, fun z hz => ?_⟩
      have s8 := same_upd (o := .lst [.int 3, .int 1]) hz
      have hz8 : upd H7 z (.lst [.int 3, .int 1]) z = some (.lst (([3, 1] : List Int).map V.int)) := upd_same
      generalize upd H7 z (.lst [.int 3, .int 1]) = H8 at s8 hz8 ⊢
      refine ⟨_, _, dp_nats7 (s8 _ _ hl7), dp_ints (L2.sq_of hz8), shaped_ints _, shaped_ints _, ?_⟩
      rw [eqv_lists, decide_eq_true (show [3, 1].map (fun (i : Nat) => (i : Int)) = [3, 1] from rfl)]
      exact q H8
end

end K07

namespace K07
open PySem PySem.Spec PyProof.Rows L2
theorem all_mk {l : PySem.W.OpenLaw} {w : World} {K : PySem.W.Frag} {h : Heap} {mg : Str → Option Value} {fa f0 f1 f2 f3 f4 f5 f6 f7 f8 f9 f10 f11 f12 f13 f14 f15 f16 f17 f18 f19 f20 f21 f22 f23 f24 f25 f26 f27 f28 f29 C_RunFinder : Addr} {t_ALL_EQUAL t_FALLING t_RISING t_RISING_ON t_STILL_EQUAL : Tok} {lc_run_due lp_run_due : Addr} (X : K.In h) (G : h.Ns mainGlobals mg) (hfa : mg "law" = some (.ref fa)) (tb_run_due : h.get? lp_run_due = some (PySem.W.tabObj #[]))
    {od0 an0 od1 an1 od2 an2 od3 an3 od4 an4 od5 an5 od6 an6 od7 an7 od8 an8 od9 an9 od10 an10 od11 an11 od12 an12 od13 an13 od14 an14 od15 an15 od16 an16 od17 an17 od18 an18 od19 an19 od20 an20 od21 an21 od22 an22 od23 an23 od24 an24 od25 an25 od26 an26 od27 an27 od28 an28 od29 an29 : Option Addr} {sl0 sl1 sl2 sl3 sl4 sl5 sl6 sl7 sl8 sl9 sl10 sl11 sl12 sl13 sl14 sl15 sl16 sl17 sl18 sl19 sl20 sl21 sl22 sl23 sl24 sl25 sl26 sl27 sl28 sl29 : Array (Option Value)} {oc0 kV0 dc0 pm0 cd0 ct0 oc1 kV1 dc1 pm1 cd1 ct1 oc2 kV2 dc2 pm2 cd2 ct2 oc3 kV3 dc3 pm3 cd3 ct3 oc4 kV4 dc4 pm4 cd4 ct4 oc5 kV5 dc5 pm5 cd5 ct5 oc6 kV6 dc6 pm6 cd6 ct6 oc7 kV7 dc7 pm7 cd7 ct7 oc8 kV8 dc8 pm8 cd8 ct8 oc9 kV9 dc9 pm9 cd9 ct9 oc10 kV10 dc10 pm10 cd10 ct10 oc11 kV11 dc11 pm11 cd11 ct11 oc12 kV12 dc12 pm12 cd12 ct12 oc13 kV13 dc13 pm13 cd13 ct13 oc14 kV14 dc14 pm14 cd14 ct14 oc15 kV15 dc15 pm15 cd15 ct15 oc16 kV16 dc16 pm16 cd16 ct16 oc17 kV17 dc17 pm17 cd17 ct17 oc18 kV18 dc18 pm18 cd18 ct18 oc19 kV19 dc19 pm19 cd19 ct19 oc20 kV20 dc20 pm20 cd20 ct20 oc21 kV21 dc21 pm21 cd21 ct21 oc22 kV22 dc22 pm22 cd22 ct22 oc23 kV23 dc23 pm23 cd23 ct23 oc24 kV24 dc24 pm24 cd24 ct24 oc25 kV25 dc25 pm25 cd25 ct25 oc26 kV26 dc26 pm26 cd26 ct26 oc27 kV27 dc27 pm27 cd27 ct27 oc28 kV28 dc28 pm28 cd28 ct28 oc29 kV29 dc29 pm29 cd29 ct29 : Value}
    {T3 : Addr} {odT3 : Option Addr} {oT3 : Value} {nT3 : Nat} {slT3 : Array (Option Value)} {uT3_0 : Tok} {uT3_1 : Tok}
    {T4 : Addr} {odT4 : Option Addr} {oT4 : Value} {nT4 : Nat} {slT4 : Array (Option Value)} 
    (a0 : PySem.W.nsIn K mainGlobals "ask_honestly" = some (some (.ref f0))) (l0 : K.lookup f0 = some ⟨oc0, od0, .func (PySem.W.fnOf "ask_honestly" "ask_honestly" (defArgs s_ask_honestly) (defBody s_ask_honestly) (defScope s_ask_honestly) .none kV0 dc0 pm0 an0 cd0 ct0), sl0⟩) (c0 : PySem.W.codeIn K cd0 "ask_honestly" = true) (k0 : PySem.W.keepIn K (.ref f0) = true)
    (a1 : PySem.W.nsIn K mainGlobals "is_integer" = some (some (.ref f1))) (l1 : K.lookup f1 = some ⟨oc1, od1, .func (PySem.W.fnOf "is_integer" "is_integer" (defArgs s_is_integer) (defBody s_is_integer) (defScope s_is_integer) .none kV1 dc1 pm1 an1 cd1 ct1), sl1⟩) (c1 : PySem.W.codeIn K cd1 "is_integer" = true) (k1 : PySem.W.keepIn K (.ref f1) = true)
    (a2 : PySem.W.nsIn K mainGlobals "is_within" = some (some (.ref f2))) (l2 : K.lookup f2 = some ⟨oc2, od2, .func (PySem.W.fnOf "is_within" "is_within" (defArgs s_is_within) (defBody s_is_within) (defScope s_is_within) .none kV2 dc2 pm2 an2 cd2 ct2), sl2⟩) (c2 : PySem.W.codeIn K cd2 "is_within" = true) (k2 : PySem.W.keepIn K (.ref f2) = true)
    (a3 : PySem.W.nsIn K mainGlobals "check_keys" = some (some (.ref f3))) (l3 : K.lookup f3 = some ⟨oc3, od3, .func (PySem.W.fnOf "check_keys" "check_keys" (defArgs s_check_keys) (defBody s_check_keys) (defScope s_check_keys) (.ref T3) kV3 dc3 pm3 an3 cd3 ct3), sl3⟩) (c3 : PySem.W.codeIn K cd3 "check_keys" = true) (k3 : PySem.W.keepIn K (.ref f3) = true)
    (t3 : K.lookup T3 = some ⟨oT3, odT3, .seq #[.int 0 uT3_0, .int 2000 uT3_1] nT3, slT3⟩)
    (a4 : PySem.W.nsIn K mainGlobals "check_number" = some (some (.ref f4))) (l4 : K.lookup f4 = some ⟨oc4, od4, .func (PySem.W.fnOf "check_number" "check_number" (defArgs s_check_number) (defBody s_check_number) (defScope s_check_number) (.ref T4) kV4 dc4 pm4 an4 cd4 ct4), sl4⟩) (c4 : PySem.W.codeIn K cd4 "check_number" = true) (k4 : PySem.W.keepIn K (.ref f4) = true)
    (t4 : K.lookup T4 = some ⟨oT4, odT4, .seq #[.none] nT4, slT4⟩)
    (a5 : PySem.W.findIn K (.ref C_RunFinder) "__init__" = some (some (.ref f5))) (i5 : PySem.W.isFn K (.ref f5) = true) (l5 : K.lookup f5 = some ⟨oc5, od5, .func (PySem.W.fnOf "__init__" "RunFinder.__init__" (defArgs s_RunFinder___init__) (defBody s_RunFinder___init__) (defScope s_RunFinder___init__) .none kV5 dc5 pm5 an5 cd5 ct5), sl5⟩) (c5 : PySem.W.codeIn K cd5 "RunFinder.__init__" = true) (k5 : PySem.W.keepIn K (.ref f5) = true)
    (a6 : PySem.W.findIn K (.ref C_RunFinder) "take" = some (some (.ref f6))) (i6 : PySem.W.isFn K (.ref f6) = true) (l6 : K.lookup f6 = some ⟨oc6, od6, .func (PySem.W.fnOf "take" "RunFinder.take" (defArgs s_RunFinder_take) (defBody s_RunFinder_take) (defScope s_RunFinder_take) .none kV6 dc6 pm6 an6 cd6 ct6), sl6⟩) (c6 : PySem.W.codeIn K cd6 "RunFinder.take" = true) (k6 : PySem.W.keepIn K (.ref f6) = true)
    (a7 : PySem.W.findIn K (.ref C_RunFinder) "_take_rising" = some (some (.ref f7))) (i7 : PySem.W.isFn K (.ref f7) = true) (l7 : K.lookup f7 = some ⟨oc7, od7, .func (PySem.W.fnOf "_take_rising" "RunFinder._take_rising" (defArgs s_RunFinder__take_rising) (defBody s_RunFinder__take_rising) (defScope s_RunFinder__take_rising) .none kV7 dc7 pm7 an7 cd7 ct7), sl7⟩) (c7 : PySem.W.codeIn K cd7 "RunFinder._take_rising" = true) (k7 : PySem.W.keepIn K (.ref f7) = true)
    (a8 : PySem.W.findIn K (.ref C_RunFinder) "_take_all_equal" = some (some (.ref f8))) (i8 : PySem.W.isFn K (.ref f8) = true) (l8 : K.lookup f8 = some ⟨oc8, od8, .func (PySem.W.fnOf "_take_all_equal" "RunFinder._take_all_equal" (defArgs s_RunFinder__take_all_equal) (defBody s_RunFinder__take_all_equal) (defScope s_RunFinder__take_all_equal) .none kV8 dc8 pm8 an8 cd8 ct8), sl8⟩) (c8 : PySem.W.codeIn K cd8 "RunFinder._take_all_equal" = true) (k8 : PySem.W.keepIn K (.ref f8) = true)
    (a9 : PySem.W.findIn K (.ref C_RunFinder) "_begin_falling" = some (some (.ref f9))) (i9 : PySem.W.isFn K (.ref f9) = true) (l9 : K.lookup f9 = some ⟨oc9, od9, .func (PySem.W.fnOf "_begin_falling" "RunFinder._begin_falling" (defArgs s_RunFinder__begin_falling) (defBody s_RunFinder__begin_falling) (defScope s_RunFinder__begin_falling) .none kV9 dc9 pm9 an9 cd9 ct9), sl9⟩) (c9 : PySem.W.codeIn K cd9 "RunFinder._begin_falling" = true) (k9 : PySem.W.keepIn K (.ref f9) = true)
    (a10 : PySem.W.findIn K (.ref C_RunFinder) "_take_falling" = some (some (.ref f10))) (i10 : PySem.W.isFn K (.ref f10) = true) (l10 : K.lookup f10 = some ⟨oc10, od10, .func (PySem.W.fnOf "_take_falling" "RunFinder._take_falling" (defArgs s_RunFinder__take_falling) (defBody s_RunFinder__take_falling) (defScope s_RunFinder__take_falling) .none kV10 dc10 pm10 an10 cd10 ct10), sl10⟩) (c10 : PySem.W.codeIn K cd10 "RunFinder._take_falling" = true) (k10 : PySem.W.keepIn K (.ref f10) = true)
    (a11 : PySem.W.findIn K (.ref C_RunFinder) "_take_still_equal" = some (some (.ref f11))) (i11 : PySem.W.isFn K (.ref f11) = true) (l11 : K.lookup f11 = some ⟨oc11, od11, .func (PySem.W.fnOf "_take_still_equal" "RunFinder._take_still_equal" (defArgs s_RunFinder__take_still_equal) (defBody s_RunFinder__take_still_equal) (defScope s_RunFinder__take_still_equal) .none kV11 dc11 pm11 an11 cd11 ct11), sl11⟩) (c11 : PySem.W.codeIn K cd11 "RunFinder._take_still_equal" = true) (k11 : PySem.W.keepIn K (.ref f11) = true)
    (a12 : PySem.W.findIn K (.ref C_RunFinder) "_make_rising" = some (some (.ref f12))) (i12 : PySem.W.isFn K (.ref f12) = true) (l12 : K.lookup f12 = some ⟨oc12, od12, .func (PySem.W.fnOf "_make_rising" "RunFinder._make_rising" (defArgs s_RunFinder__make_rising) (defBody s_RunFinder__make_rising) (defScope s_RunFinder__make_rising) .none kV12 dc12 pm12 an12 cd12 ct12), sl12⟩) (c12 : PySem.W.codeIn K cd12 "RunFinder._make_rising" = true) (k12 : PySem.W.keepIn K (.ref f12) = true)
    (a13 : PySem.W.findIn K (.ref C_RunFinder) "_take_rising_on" = some (some (.ref f13))) (i13 : PySem.W.isFn K (.ref f13) = true) (l13 : K.lookup f13 = some ⟨oc13, od13, .func (PySem.W.fnOf "_take_rising_on" "RunFinder._take_rising_on" (defArgs s_RunFinder__take_rising_on) (defBody s_RunFinder__take_rising_on) (defScope s_RunFinder__take_rising_on) .none kV13 dc13 pm13 an13 cd13 ct13), sl13⟩) (c13 : PySem.W.codeIn K cd13 "RunFinder._take_rising_on" = true) (k13 : PySem.W.keepIn K (.ref f13) = true)
    (a14 : PySem.W.findIn K (.ref C_RunFinder) "_go_on" = some (some (.ref f14))) (i14 : PySem.W.isFn K (.ref f14) = true) (l14 : K.lookup f14 = some ⟨oc14, od14, .func (PySem.W.fnOf "_go_on" "RunFinder._go_on" (defArgs s_RunFinder__go_on) (defBody s_RunFinder__go_on) (defScope s_RunFinder__go_on) .none kV14 dc14 pm14 an14 cd14 ct14), sl14⟩) (c14 : PySem.W.codeIn K cd14 "RunFinder._go_on" = true) (k14 : PySem.W.keepIn K (.ref f14) = true)
    (a15 : PySem.W.findIn K (.ref C_RunFinder) "_ask_about_place" = some (some (.ref f15))) (i15 : PySem.W.isFn K (.ref f15) = true) (l15 : K.lookup f15 = some ⟨oc15, od15, .func (PySem.W.fnOf "_ask_about_place" "RunFinder._ask_about_place" (defArgs s_RunFinder__ask_about_place) (defBody s_RunFinder__ask_about_place) (defScope s_RunFinder__ask_about_place) .none kV15 dc15 pm15 an15 cd15 ct15), sl15⟩) (c15 : PySem.W.codeIn K cd15 "RunFinder._ask_about_place" = true) (k15 : PySem.W.keepIn K (.ref f15) = true)
    (a16 : PySem.W.findIn K (.ref C_RunFinder) "_finish" = some (some (.ref f16))) (i16 : PySem.W.isFn K (.ref f16) = true) (l16 : K.lookup f16 = some ⟨oc16, od16, .func (PySem.W.fnOf "_finish" "RunFinder._finish" (defArgs s_RunFinder__finish) (defBody s_RunFinder__finish) (defScope s_RunFinder__finish) .none kV16 dc16 pm16 an16 cd16 ct16), sl16⟩) (c16 : PySem.W.codeIn K cd16 "RunFinder._finish" = true) (k16 : PySem.W.keepIn K (.ref f16) = true)
    (a17 : PySem.W.findIn K (.ref C_RunFinder) "_turn_equal" = some (some (.ref f17))) (i17 : PySem.W.isFn K (.ref f17) = true) (l17 : K.lookup f17 = some ⟨oc17, od17, .func (PySem.W.fnOf "_turn_equal" "RunFinder._turn_equal" (defArgs s_RunFinder__turn_equal) (defBody s_RunFinder__turn_equal) (defScope s_RunFinder__turn_equal) .none kV17 dc17 pm17 an17 cd17 ct17), sl17⟩) (c17 : PySem.W.codeIn K cd17 "RunFinder._turn_equal" = true) (k17 : PySem.W.keepIn K (.ref f17) = true)
    (a18 : PySem.W.findIn K (.ref C_RunFinder) "_turn" = some (some (.ref f18))) (i18 : PySem.W.isFn K (.ref f18) = true) (l18 : K.lookup f18 = some ⟨oc18, od18, .func (PySem.W.fnOf "_turn" "RunFinder._turn" (defArgs s_RunFinder__turn) (defBody s_RunFinder__turn) (defScope s_RunFinder__turn) .none kV18 dc18 pm18 an18 cd18 ct18), sl18⟩) (c18 : PySem.W.codeIn K cd18 "RunFinder._turn" = true) (k18 : PySem.W.keepIn K (.ref f18) = true)
    (a19 : PySem.W.nsIn K mainGlobals "run_of" = some (some (.ref f19))) (l19 : K.lookup f19 = some ⟨oc19, od19, .func (PySem.W.fnOf "run_of" "run_of" (defArgs s_run_of) (defBody s_run_of) (defScope s_run_of) .none kV19 dc19 pm19 an19 cd19 ct19), sl19⟩) (c19 : PySem.W.codeIn K cd19 "run_of" = true) (k19 : PySem.W.keepIn K (.ref f19) = true)
    (a20 : PySem.W.nsIn K mainGlobals "run_lengths" = some (some (.ref f20))) (l20 : K.lookup f20 = some ⟨oc20, od20, .func (PySem.W.fnOf "run_lengths" "run_lengths" (defArgs s_run_lengths) (defBody s_run_lengths) (defScope s_run_lengths) .none kV20 dc20 pm20 an20 cd20 ct20), sl20⟩) (c20 : PySem.W.codeIn K cd20 "run_lengths" = true) (k20 : PySem.W.keepIn K (.ref f20) = true)
    (a21 : PySem.W.nsIn K mainGlobals "_law_source" = some (some (.ref f21))) (l21 : K.lookup f21 = some ⟨oc21, od21, .func (PySem.W.fnOf "_law_source" "_law_source" (defArgs s_source) (defBody s_source) (defScope s_source) .none kV21 dc21 pm21 an21 cd21 ct21), sl21⟩) (c21 : PySem.W.codeIn K cd21 "_law_source" = true) (k21 : PySem.W.keepIn K (.ref f21) = true)
    (a22 : PySem.W.nsIn K mainGlobals "_law_draw" = some (some (.ref f22))) (l22 : K.lookup f22 = some ⟨oc22, od22, .func (PySem.W.fnOf "_law_draw" "_law_draw" (defArgs s_draw) (defBody s_draw) (defScope s_draw) .none kV22 dc22 pm22 an22 cd22 ct22), sl22⟩) (c22 : PySem.W.codeIn K cd22 "_law_draw" = true) (k22 : PySem.W.keepIn K (.ref f22) = true)
    (a23 : PySem.W.nsIn K mainGlobals "_law_pick" = some (some (.ref f23))) (l23 : K.lookup f23 = some ⟨oc23, od23, .func (PySem.W.fnOf "_law_pick" "_law_pick" (defArgs s_pick) (defBody s_pick) (defScope s_pick) .none kV23 dc23 pm23 an23 cd23 ct23), sl23⟩) (c23 : PySem.W.codeIn K cd23 "_law_pick" = true) (k23 : PySem.W.keepIn K (.ref f23) = true)
    (a24 : PySem.W.nsIn K mainGlobals "_law_keys" = some (some (.ref f24))) (l24 : K.lookup f24 = some ⟨oc24, od24, .func (PySem.W.fnOf "_law_keys" "_law_keys" (defArgs s_keys) (defBody s_keys) (defScope s_keys) .none kV24 dc24 pm24 an24 cd24 ct24), sl24⟩) (c24 : PySem.W.codeIn K cd24 "_law_keys" = true) (k24 : PySem.W.keepIn K (.ref f24) = true)
    (a25 : PySem.W.nsIn K mainGlobals "_law_prefix" = some (some (.ref f25))) (l25 : K.lookup f25 = some ⟨oc25, od25, .func (PySem.W.fnOf "_law_prefix" "_law_prefix" (defArgs s_lprefix) (defBody s_lprefix) (defScope s_lprefix) .none kV25 dc25 pm25 an25 cd25 ct25), sl25⟩) (c25 : PySem.W.codeIn K cd25 "_law_prefix" = true) (k25 : PySem.W.keepIn K (.ref f25) = true)
    (a26 : PySem.W.nsIn K mainGlobals "_law_run_due" = some (some (.ref f26))) (l26 : K.lookup f26 = some ⟨oc26, od26, .func (PySem.W.fnOf "_law_run_due" "_law_run_due" (defArgs s_run_due) (defBody s_run_due) (defScope s_run_due) .none kV26 dc26 pm26 an26 cd26 ct26), sl26⟩) (c26 : PySem.W.codeIn K cd26 "_law_run_due" = true) (k26 : PySem.W.keepIn K (.ref f26) = true)
    (a27 : PySem.W.nsIn K mainGlobals "_law_lengths" = some (some (.ref f27))) (l27 : K.lookup f27 = some ⟨oc27, od27, .func (PySem.W.fnOf "_law_lengths" "_law_lengths" (defArgs s_lengths) (defBody s_lengths) (defScope s_lengths) .none kV27 dc27 pm27 an27 cd27 ct27), sl27⟩) (c27 : PySem.W.codeIn K cd27 "_law_lengths" = true) (k27 : PySem.W.keepIn K (.ref f27) = true)
    (a28 : PySem.W.nsIn K mainGlobals "_law_right" = some (some (.ref f28))) (l28 : K.lookup f28 = some ⟨oc28, od28, .func (PySem.W.fnOf "_law_right" "_law_right" (defArgs s_right) (defBody s_right) (defScope s_right) .none kV28 dc28 pm28 an28 cd28 ct28), sl28⟩) (c28 : PySem.W.codeIn K cd28 "_law_right" = true) (k28 : PySem.W.keepIn K (.ref f28) = true)
    (a29 : PySem.W.nsIn K mainGlobals "law" = some (some (.ref f29))) (l29 : K.lookup f29 = some ⟨oc29, od29, .func (PySem.W.fnOf "law" "law" (defArgs s_law) (defBody s_law) (defScope s_law) .none kV29 dc29 pm29 an29 cd29 ct29), sl29⟩) (c29 : PySem.W.codeIn K cd29 "law" = true) (k29 : PySem.W.keepIn K (.ref f29) = true)
    (v_ALL_EQUAL : PySem.W.nsIn K mainGlobals "ALL_EQUAL" = some (some (.int 2 t_ALL_EQUAL)))
    (v_FALLING : PySem.W.nsIn K mainGlobals "FALLING" = some (some (.int 3 t_FALLING)))
    (v_RISING : PySem.W.nsIn K mainGlobals "RISING" = some (some (.int 1 t_RISING)))
    (v_RISING_ON : PySem.W.nsIn K mainGlobals "RISING_ON" = some (some (.int 5 t_RISING_ON)))
    (v_STILL_EQUAL : PySem.W.nsIn K mainGlobals "STILL_EQUAL" = some (some (.int 4 t_STILL_EQUAL)))
    (z_abs : PySem.W.nsIn K mainGlobals "abs" = some none)
    (z_bool : PySem.W.nsIn K mainGlobals "bool" = some none)
    (z_enumerate : PySem.W.nsIn K mainGlobals "enumerate" = some none)
    (z_int : PySem.W.nsIn K mainGlobals "int" = some none)
    (z_isinstance : PySem.W.nsIn K mainGlobals "isinstance" = some none)
    (z_len : PySem.W.nsIn K mainGlobals "len" = some none)
    (z_list : PySem.W.nsIn K mainGlobals "list" = some none)
    (z_min : PySem.W.nsIn K mainGlobals "min" = some none)
    (z_range : PySem.W.nsIn K mainGlobals "range" = some none)
    (z_sorted : PySem.W.nsIn K mainGlobals "sorted" = some none)
    (z_sum : PySem.W.nsIn K mainGlobals "sum" = some none)
    (z_tuple : PySem.W.nsIn K mainGlobals "tuple" = some none)
    (aC_RunFinder : PySem.W.nsIn K mainGlobals "RunFinder" = some (some (.ref C_RunFinder)))
    (pg_RunFinder : PySem.W.plainGet K C_RunFinder Str.empty = true)
    (hd_RunFinder : PySem.W.hasDictIn K C_RunFinder = true)
    (po_RunFinder : PySem.W.plainOver K C_RunFinder = true)
    (sa_RunFinder : PySem.W.findIn K (.ref C_RunFinder) "__setattr__" = some (some (.builtin "object.__setattr__")))
    (mk_RunFinder : PySem.W.makesIn K C_RunFinder = true)
    (kc_RunFinder : PySem.W.keepIn K (.ref C_RunFinder) = true)
    (n_row : PySem.W.findIn K (.ref C_RunFinder) "row" = some none)
    (n_start : PySem.W.findIn K (.ref C_RunFinder) "start" = some none)
    (n_end : PySem.W.findIn K (.ref C_RunFinder) "end" = some none)
    (n_place : PySem.W.findIn K (.ref C_RunFinder) "place" = some none)
    (n_equal : PySem.W.findIn K (.ref C_RunFinder) "equal" = some none)
    (n_step : PySem.W.findIn K (.ref C_RunFinder) "step" = some none)
    (n_waiting : PySem.W.findIn K (.ref C_RunFinder) "waiting" = some none)
    (n_length : PySem.W.findIn K (.ref C_RunFinder) "length" = some none)
    (le_run_due : cd26 = .ref lc_run_due) (lh_run_due : PySem.W.codeHdIn K lc_run_due lp_run_due = true) (ln_run_due : K.lookup lp_run_due = none)
    : ∃ fd : FuncData, (K.lookup lp_run_due = none ∧ PySem.W.CodeHd h lc_run_due lp_run_due) ∧ (∀ (s : Shared) (v : Value), BindsTo s fd ⟨[v], []⟩ [("script", v)]) ∧ ∀ base : Heap, K.In base → base.Ns mainGlobals mg → LamX.TabB base mg lc_run_due lp_run_due → FnOk l.prog w K mg base CX0 12 fa fd ["script"] (spLaw K [(lp_run_due, lq_run_due)]) := by
  have e : fa = f29 := by
    have e := hfa.symm.trans (PySem.W.mg_of X G a29)
    cases e
    rfl
  have F0 := fun_mk (st := s_ask_honestly) l0 c0 k0
  have B0 := F0.binds (ps := P_ask_honestly) fun _ _ _ _ _ _ us hl => match us, hl with | [_, _], _ => rfl
  have F1 := fun_mk (st := s_is_integer) l1 c1 k1
  have B1 := F1.binds (ps := P_is_integer) fun _ _ _ _ _ _ us hl => match us, hl with | [_], _ => rfl
  have F2 := fun_mk (st := s_is_within) l2 c2 k2
  have B2 := F2.binds (ps := P_is_within) fun _ _ _ _ _ _ us hl => match us, hl with | [_, _, _], _ => rfl
  have F3 := funV_mk (st := s_check_keys) l3 c3
  have B3_0 := bindsV (st := s_check_keys) (dvs := [.int 0, .int 2000]) (its := [.int 0 uT3_0, .int 2000 uT3_1]) (ps := P_check_keys) l3 c3 k3 t3 (.cons ⟨_, rfl⟩ (.cons ⟨_, rfl⟩ .nil)) 3 2 (List.cons_ne_nil _ _) rfl fun _ _ _ _ _ _ _ us its h1 h2 => match us, its, h1, h2 with | [_, _, _], [_, _], _, _ => ⟨_, rfl, rfl⟩
  have B3_2 := bindsV (st := s_check_keys) (dvs := [.int 0, .int 2000]) (its := [.int 0 uT3_0, .int 2000 uT3_1]) (ps := P_check_keys) l3 c3 k3 t3 (.cons ⟨_, rfl⟩ (.cons ⟨_, rfl⟩ .nil)) 1 0 (List.cons_ne_nil _ _) rfl fun _ _ _ _ _ _ _ us its h1 h2 => match us, its, h1, h2 with | [_], [_, _], _, _ => ⟨_, rfl, rfl⟩
  obtain ⟨ds3, rds3, bds3⟩ := B3_0
  have F4 := funV_mk (st := s_check_number) l4 c4
  have B4_0 := bindsV (st := s_check_number) (dvs := [.non]) (its := [.none]) (ps := P_check_number) l4 c4 k4 t4 (.cons rfl .nil) 4 1 (List.cons_ne_nil _ _) rfl fun _ _ _ _ _ _ _ us its h1 h2 => match us, its, h1, h2 with | [_, _, _, _], [_], _, _ => ⟨_, rfl, rfl⟩
  obtain ⟨ds4, rds4, bds4⟩ := B4_0
  have F5 := fun_mk (st := s_RunFinder___init__) l5 c5 k5
  have B5 := F5.binds (ps := P_RunFinder___init__) fun _ _ _ _ _ _ us hl => match us, hl with | [_, _, _, _], _ => rfl
  have F6 := fun_mk (st := s_RunFinder_take) l6 c6 k6
  have B6 := F6.binds (ps := P_RunFinder_take) fun _ _ _ _ _ _ us hl => match us, hl with | [_, _], _ => rfl
  have F7 := fun_mk (st := s_RunFinder__take_rising) l7 c7 k7
  have B7 := F7.binds (ps := P_RunFinder__take_rising) fun _ _ _ _ _ _ us hl => match us, hl with | [_, _], _ => rfl
  have F8 := fun_mk (st := s_RunFinder__take_all_equal) l8 c8 k8
  have B8 := F8.binds (ps := P_RunFinder__take_all_equal) fun _ _ _ _ _ _ us hl => match us, hl with | [_, _], _ => rfl
  have F9 := fun_mk (st := s_RunFinder__begin_falling) l9 c9 k9
  have B9 := F9.binds (ps := P_RunFinder__begin_falling) fun _ _ _ _ _ _ us hl => match us, hl with | [_], _ => rfl
  have F10 := fun_mk (st := s_RunFinder__take_falling) l10 c10 k10
  have B10 := F10.binds (ps := P_RunFinder__take_falling) fun _ _ _ _ _ _ us hl => match us, hl with | [_, _], _ => rfl
  have F11 := fun_mk (st := s_RunFinder__take_still_equal) l11 c11 k11
  have B11 := F11.binds (ps := P_RunFinder__take_still_equal) fun _ _ _ _ _ _ us hl => match us, hl with | [_, _], _ => rfl
  have F12 := fun_mk (st := s_RunFinder__make_rising) l12 c12 k12
  have B12 := F12.binds (ps := P_RunFinder__make_rising) fun _ _ _ _ _ _ us hl => match us, hl with | [_], _ => rfl
  have F13 := fun_mk (st := s_RunFinder__take_rising_on) l13 c13 k13
  have B13 := F13.binds (ps := P_RunFinder__take_rising_on) fun _ _ _ _ _ _ us hl => match us, hl with | [_, _], _ => rfl
  have F14 := fun_mk (st := s_RunFinder__go_on) l14 c14 k14
  have B14 := F14.binds (ps := P_RunFinder__go_on) fun _ _ _ _ _ _ us hl => match us, hl with | [_], _ => rfl
  have F15 := fun_mk (st := s_RunFinder__ask_about_place) l15 c15 k15
  have B15 := F15.binds (ps := P_RunFinder__ask_about_place) fun _ _ _ _ _ _ us hl => match us, hl with | [_], _ => rfl
  have F16 := fun_mk (st := s_RunFinder__finish) l16 c16 k16
  have B16 := F16.binds (ps := P_RunFinder__finish) fun _ _ _ _ _ _ us hl => match us, hl with | [_], _ => rfl
  have F17 := fun_mk (st := s_RunFinder__turn_equal) l17 c17 k17
  have B17 := F17.binds (ps := P_RunFinder__turn_equal) fun _ _ _ _ _ _ us hl => match us, hl with | [_], _ => rfl
  have F18 := fun_mk (st := s_RunFinder__turn) l18 c18 k18
  have B18 := F18.binds (ps := P_RunFinder__turn) fun _ _ _ _ _ _ us hl => match us, hl with | [_, _], _ => rfl
  have F19 := fun_mk (st := s_run_of) l19 c19 k19
  have B19 := F19.binds (ps := P_run_of) fun _ _ _ _ _ _ us hl => match us, hl with | [_, _], _ => rfl
  have F20 := fun_mk (st := s_run_lengths) l20 c20 k20
  have B20 := F20.binds (ps := P_run_lengths) fun _ _ _ _ _ _ us hl => match us, hl with | [_], _ => rfl
  have F21 := fun_mk (st := s_source) l21 c21 k21
  have B21 := F21.binds (ps := P_source) fun _ _ _ _ _ _ us hl => match us, hl with | [_], _ => rfl
  have F22 := fun_mk (st := s_draw) l22 c22 k22
  have B22 := F22.binds (ps := P_draw) fun _ _ _ _ _ _ us hl => match us, hl with | [_, _], _ => rfl
  have F23 := fun_mk (st := s_pick) l23 c23 k23
  have B23 := F23.binds (ps := P_pick) fun _ _ _ _ _ _ us hl => match us, hl with | [_, _], _ => rfl
  have F24 := fun_mk (st := s_keys) l24 c24 k24
  have B24 := F24.binds (ps := P_keys) fun _ _ _ _ _ _ us hl => match us, hl with | [_, _], _ => rfl
  have F25 := fun_mk (st := s_lprefix) l25 c25 k25
  have B25 := F25.binds (ps := P_lprefix) fun _ _ _ _ _ _ us hl => match us, hl with | [_, _], _ => rfl
  have F26 := fun_mk (st := s_run_due) l26 c26 k26
  have B26 := F26.binds (ps := P_run_due) fun _ _ _ _ _ _ us hl => match us, hl with | [_, _], _ => rfl
  have F27 := fun_mk (st := s_lengths) l27 c27 k27
  have B27 := F27.binds (ps := P_lengths) fun _ _ _ _ _ _ us hl => match us, hl with | [_], _ => rfl
  have F28 := fun_mk (st := s_right) l28 c28 k28
  have B28 := F28.binds (ps := P_right) fun _ _ _ _ _ _ us hl => match us, hl with | [_, _], _ => rfl
  have F29 := fun_mk (st := s_law) l29 c29 k29
  have B29 := F29.binds (ps := P_law) fun _ _ _ _ _ _ us hl => match us, hl with | [_], _ => rfl
  have T : Txt K mg ⟨lc_run_due, lp_run_due, f0, f1, f2, f3, f4, f5, f6, f7, f8, f9, f10, f11, f12, f13, f14, f15, f16, f17, f18, f19, f20, f21, f22, f23, f24, f25, f26, f27, f28, f29, t_ALL_EQUAL, t_FALLING, t_RISING, t_RISING_ON, t_STILL_EQUAL, C_RunFinder⟩ ⟨_, _, _, _, _, _, _, _, _, _, _, _, _, _, _, _, _, _, _, _, _, _, _, _, _, _, _, _, _, _⟩ := ⟨PySem.W.mg_of X G a0, k0, F0, B0, PySem.W.mg_of X G a1, k1, F1, B1, PySem.W.mg_of X G a2, k2, F2, B2, PySem.W.mg_of X G a3, k3, F3, B3_2, Binds.none rds3 bds3, PySem.W.mg_of X G a4, k4, F4, Binds.none rds4 bds4, ⟨a5, i5, k5⟩, F5, B5, ⟨a6, i6, k6⟩, F6, B6, ⟨a7, i7, k7⟩, F7, B7, ⟨a8, i8, k8⟩, F8, B8, ⟨a9, i9, k9⟩, F9, B9, ⟨a10, i10, k10⟩, F10, B10, ⟨a11, i11, k11⟩, F11, B11, ⟨a12, i12, k12⟩, F12, B12, ⟨a13, i13, k13⟩, F13, B13, ⟨a14, i14, k14⟩, F14, B14, ⟨a15, i15, k15⟩, F15, B15, ⟨a16, i16, k16⟩, F16, B16, ⟨a17, i17, k17⟩, F17, B17, ⟨a18, i18, k18⟩, F18, B18, PySem.W.mg_of X G a19, k19, F19, B19, PySem.W.mg_of X G a20, k20, F20, B20, kbn_run_lengths_0_keys F20, PySem.W.mg_of X G a21, k21, F21, B21, PySem.W.mg_of X G a22, k22, F22, B22, PySem.W.mg_of X G a23, k23, F23, B23, PySem.W.mg_of X G a24, k24, F24, B24, PySem.W.mg_of X G a25, k25, F25, B25, PySem.W.mg_of X G a26, k26, F26, B26, PySem.W.mg_of X G a27, k27, F27, B27, PySem.W.mg_of X G a28, k28, F28, B28, PySem.W.mg_of X G a29, k29, F29, B29, le_run_due, PySem.W.mg_of X G v_ALL_EQUAL, PySem.W.mg_of X G v_FALLING, PySem.W.mg_of X G v_RISING, PySem.W.mg_of X G v_RISING_ON, PySem.W.mg_of X G v_STILL_EQUAL, PySem.W.mg_none_of X G z_abs, PySem.W.mg_none_of X G z_bool, PySem.W.mg_none_of X G z_enumerate, PySem.W.mg_none_of X G z_int, PySem.W.mg_none_of X G z_isinstance, PySem.W.mg_none_of X G z_len, PySem.W.mg_none_of X G z_list, PySem.W.mg_none_of X G z_min, PySem.W.mg_none_of X G z_range, PySem.W.mg_none_of X G z_sorted, PySem.W.mg_none_of X G z_sum, PySem.W.mg_none_of X G z_tuple, ⟨pg_RunFinder, hd_RunFinder, po_RunFinder, sa_RunFinder⟩, PySem.W.mg_of X G aC_RunFinder, ⟨mk_RunFinder, a5, i5, kc_RunFinder⟩, n_row, n_start, n_end, n_place, n_equal, n_step, n_waiting, n_length⟩
  exact ⟨_, ⟨ln_run_due, PySem.W.codeHd_of_K X lh_run_due⟩, fun s v => .of_eq rfl, fun base _ _ TB => by rw [e]; exact ok_law T TB⟩
end K07
open PySem PySem.W PyProof.Rows
set_option maxHeartbeats 0 in
theorem PySem.Challenge.cw_askedorder_k07_lengths_of_runs_holds : PySem.Challenge.rw_askedorder_k07_lengths_of_runs.Holds := by
  w_on; o_law; k_head; (case hw => w_witness2)
  k_fill
  refine LamX.walk_ofTs (l := PySem.Challenge.rw_askedorder_k07_lengths_of_runs) (n := 63) (k := 12) (x := "script") (CX := fun _ => L2.CX0) rfl (by decide) rfl ⟨rfl, by decide, by decide⟩ (fun w h Y => PySem.W.km_in_of Y) ?F (fun _ _ _ _ _ h => h)
  case F =>
    intro w mg fa h Y KX G hmg
    have hP := PySem.W.km_tabs_of Y _ (List.mem_cons_self ..)
    refine' Exists.elim (K07.all_mk KX G hmg hP ?a0 ?l0 ?c0 ?k0 ?a1 ?l1 ?c1 ?k1 ?a2 ?l2 ?c2 ?k2 ?a3 ?l3 ?c3 ?k3 ?t3 ?a4 ?l4 ?c4 ?k4 ?t4 ?a5 ?i5 ?l5 ?c5 ?k5 ?a6 ?i6 ?l6 ?c6 ?k6 ?a7 ?i7 ?l7 ?c7 ?k7 ?a8 ?i8 ?l8 ?c8 ?k8 ?a9 ?i9 ?l9 ?c9 ?k9 ?a10 ?i10 ?l10 ?c10 ?k10 ?a11 ?i11 ?l11 ?c11 ?k11 ?a12 ?i12 ?l12 ?c12 ?k12 ?a13 ?i13 ?l13 ?c13 ?k13 ?a14 ?i14 ?l14 ?c14 ?k14 ?a15 ?i15 ?l15 ?c15 ?k15 ?a16 ?i16 ?l16 ?c16 ?k16 ?a17 ?i17 ?l17 ?c17 ?k17 ?a18 ?i18 ?l18 ?c18 ?k18 ?a19 ?l19 ?c19 ?k19 ?a20 ?l20 ?c20 ?k20 ?a21 ?l21 ?c21 ?k21 ?a22 ?l22 ?c22 ?k22 ?a23 ?l23 ?c23 ?k23 ?a24 ?l24 ?c24 ?k24 ?a25 ?l25 ?c25 ?k25 ?a26 ?l26 ?c26 ?k26 ?a27 ?l27 ?c27 ?k27 ?a28 ?l28 ?c28 ?k28 ?a29 ?l29 ?c29 ?k29 ?v_ALL_EQUAL ?v_FALLING ?v_RISING ?v_RISING_ON ?v_STILL_EQUAL ?z_abs ?z_bool ?z_enumerate ?z_int ?z_isinstance ?z_len ?z_list ?z_min ?z_range ?z_sorted ?z_sum ?z_tuple ?aC_RunFinder ?pg_RunFinder ?hd_RunFinder ?po_RunFinder ?sa_RunFinder ?mk_RunFinder ?kc_RunFinder ?n_row ?n_start ?n_end ?n_place ?n_equal ?n_step ?n_waiting ?n_length ?le_run_due ?lh_run_due ?ln_run_due) ?zz
    (case aC_RunFinder => k_is); (case a0 => k_is); (case l0 => k_is); (case c0 => k_is); (case k0 => k_is); (case a1 => k_is)
    (case l1 => k_is); (case c1 => k_is); (case k1 => k_is); (case a2 => k_is); (case l2 => k_is); (case c2 => k_is)
    (case k2 => k_is); (case a3 => k_is); (case l3 => k_is); (case c3 => k_is); (case k3 => k_is); (case t3 => k_is)
    (case a4 => k_is); (case l4 => k_is); (case c4 => k_is); (case k4 => k_is); (case t4 => k_is); (case a5 => k_is)
    (case i5 => k_is); (case l5 => k_is); (case c5 => k_is); (case k5 => k_is); (case a6 => k_is); (case i6 => k_is)
    (case l6 => k_is); (case c6 => k_is); (case k6 => k_is); (case a7 => k_is); (case i7 => k_is); (case l7 => k_is)
    (case c7 => k_is); (case k7 => k_is); (case a8 => k_is); (case i8 => k_is); (case l8 => k_is); (case c8 => k_is)
    (case k8 => k_is); (case a9 => k_is); (case i9 => k_is); (case l9 => k_is); (case c9 => k_is); (case k9 => k_is)
    (case a10 => k_is); (case i10 => k_is); (case l10 => k_is); (case c10 => k_is); (case k10 => k_is); (case a11 => k_is)
    (case i11 => k_is); (case l11 => k_is); (case c11 => k_is); (case k11 => k_is); (case a12 => k_is); (case i12 => k_is)
    (case l12 => k_is); (case c12 => k_is); (case k12 => k_is); (case a13 => k_is); (case i13 => k_is); (case l13 => k_is)
    (case c13 => k_is); (case k13 => k_is); (case a14 => k_is); (case i14 => k_is); (case l14 => k_is); (case c14 => k_is)
    (case k14 => k_is); (case a15 => k_is); (case i15 => k_is); (case l15 => k_is); (case c15 => k_is); (case k15 => k_is)
    (case a16 => k_is); (case i16 => k_is); (case l16 => k_is); (case c16 => k_is); (case k16 => k_is); (case a17 => k_is)
    (case i17 => k_is); (case l17 => k_is); (case c17 => k_is); (case k17 => k_is); (case a18 => k_is); (case i18 => k_is)
    (case l18 => k_is); (case c18 => k_is); (case k18 => k_is); (case a19 => k_is); (case l19 => k_is); (case c19 => k_is)
    (case k19 => k_is); (case a20 => k_is); (case l20 => k_is); (case c20 => k_is); (case k20 => k_is); (case a21 => k_is)
    (case l21 => k_is); (case c21 => k_is); (case k21 => k_is); (case a22 => k_is); (case l22 => k_is); (case c22 => k_is)
    (case k22 => k_is); (case a23 => k_is); (case l23 => k_is); (case c23 => k_is); (case k23 => k_is); (case a24 => k_is)
    (case l24 => k_is); (case c24 => k_is); (case k24 => k_is); (case a25 => k_is); (case l25 => k_is); (case c25 => k_is)
    (case k25 => k_is); (case a26 => k_is); (case l26 => k_is); (case c26 => k_is); (case k26 => k_is); (case a27 => k_is)
    (case l27 => k_is); (case c27 => k_is); (case k27 => k_is); (case a28 => k_is); (case l28 => k_is); (case c28 => k_is)
    (case k28 => k_is); (case a29 => k_is); (case l29 => k_is); (case c29 => k_is); (case k29 => k_is); (case v_ALL_EQUAL => k_is)
    (case v_FALLING => k_is); (case v_RISING => k_is); (case v_RISING_ON => k_is); (case v_STILL_EQUAL => k_is); (case z_abs => k_is); (case z_bool => k_is)
    (case z_enumerate => k_is); (case z_int => k_is); (case z_isinstance => k_is); (case z_len => k_is); (case z_list => k_is); (case z_min => k_is)
    (case z_range => k_is); (case z_sorted => k_is); (case z_sum => k_is); (case z_tuple => k_is); (case pg_RunFinder => k_is); (case hd_RunFinder => k_is)
    (case po_RunFinder => k_is); (case sa_RunFinder => k_is); (case mk_RunFinder => k_is); (case kc_RunFinder => k_is); (case n_row => k_is); (case n_start => k_is)
    (case n_end => k_is); (case n_place => k_is); (case n_equal => k_is); (case n_step => k_is); (case n_waiting => k_is); (case n_length => k_is)
    (case le_run_due => exact rfl); (case lh_run_due => kernel_rfl); (case ln_run_due => kernel_rfl)
    case zz =>
    rintro fd ⟨⟨n1, n2⟩, hb, hF⟩
    exact ⟨fd, [(_, _)], K07.spLaw _ [(_, K07.lq_run_due)], fun p hp => by rw [List.mem_singleton.mp hp]; exact hP, fun p hp => by rw [List.mem_singleton.mp hp]; exact n1, fun p hp => by rw [List.mem_singleton.mp hp]; exact n2, hb, fun H a ns hl _ ht hS => ⟨a, ns, rfl, hS, hl, fun p hp => by rw [List.mem_singleton.mp hp]; exact LamX.TabS.nil (ht _ (List.mem_singleton.mpr rfl)), fun _ => rfl⟩, fun base hK hN TB => hF base hK hN (TB _ (List.mem_singleton.mpr rfl))⟩


