import PyProof.Rows.All
import Wide.All
import OpenK.AllK
import Wide.FinOn
import HandS.ForMost
import HandS.ForExc
import HandS.Wide
import HandS.IsInst
import HandS.Style
import HandS.Evl
import KE.GoesEnum
import HandS.SortRule
import HandS.SortInts
import HandS.Defaults
import HandS.WordsDict
import HandS.Conv
import HandS.More
import HandS.ExcInit
import HandS.WordsExc
import HandS.ExcField
import HandS.ExcOwn
import HandS.TupAny
import HandS.WideBits
import HandS.SetFor
import HandS.Iter
import KE.SortKeyHeap
import KE.KSortKey
import HandS.Lambda
import HandS.Nested
import HandS.SortKw
import HandS.CallLocal
import HandS.TryMany
import KE.KDflt
import KE.KExcIs
import HandS.ExcIs
import HandS.WideMore
import PyProof.ReprRoads
import PyProof.FitsInt
import PyProof.Rows.RegStrFacts
import PyProof.ReprLen
import HandS.EndTab
import PyProof.ReprBulk
import HandS.DictComp
import HandS.Dict
import PyProof.MaxThree
import HandS.Small
import HandS.Star
import HandS.TupMul
import HandS.Text
import HandS.Codes
import HandS.Zip
import KE.KNestM
import PySem.Challenge.RW_askedorder_k80_what_follows
set_option Elab.async false
set_option linter.all false
set_option maxRecDepth 100000
set_option maxHeartbeats 8000000
namespace L2
open PySem PySem.Spec PyProof.Rows
/-! ### own rules: list + list of lists that are only read, powers, repr of a bool, calls by keywords alone -/
def rCatS (K : PySem.W.Frag) : R2 := fun x y H Q => ∃ l b xs zs, x = .ref l ∧ y = .ref b ∧ SqL K H l xs ∧ SqL K H b zs ∧ xs.length + zs.length ≤ sizeLine ∧ ∀ p, H p = none → Q (.ref p) (upd H p (.lst (xs ++ zs)))
theorem op_catS {X : Cx} : OpR X (binaryOp .Add) (rCatS X.K) := by
  intro pins s σ H x y v u Q I rx ry h
  obtain ⟨l, b, xs, zs, rfl, rfl, hH, hB, hz, q⟩ := h
  cases rx
  cases ry
  obtain ⟨its, r, pl, hl⟩ := I.list hH
  obtain ⟨its2, r2, pl2, hl2⟩ := I.list hB
  have e1 := r.length
  have e2 := r2.length
  obtain ⟨⟨cls, dd, data, sl⟩, n, ho, hc, hdd, hd⟩ := pl
  obtain ⟨⟨cls2, dd2, data2, sl2⟩, n2, ho2, hc2, hdd2, hd2⟩ := pl2
  simp only at hc hd hc2 hd2
  subst hc hd hc2 hd2
  have e : its.toArray ++ its2.toArray = (its ++ its2).toArray := by simp
  refine concat_meets ⟨_, ho, rfl⟩ ⟨_, ho2, rfl⟩ noFill_list_add seq_list_add PySem.F.slot_list_add PySem.F.entry_list_add (PySem.F.args_list_add_2 _ _) (list_addW l b its.toArray its2.toArray n n2 dd dd2 sl sl2 (by simp only [List.size_toArray]; omega)) ⟨ho, ho2, ?_⟩
  rw [e]
  exact ⟨.ref _, _, I.lnew (t' := s.toks) (r.append r2) (by rw [List.length_append]; omega), rfl, q _ I.fresh⟩
def CPowW (i j : Int) : Prop := 0 ≤ j ∧ (Builtin.Int.intBits i : Int) * j ≤ 2 ^ 27
theorem op_powW {X : Cx} : OpR X (binaryOp .Pow) (rI CPowW fun i j => .int (i ^ j.toNat)) := opI fun _ _ _ _ _ _ _ hc q => pow_int hc.1 hc.2 q
theorem call_repr_bool {X : Cx} : CallR X (.builtin "repr") (fun xs H Q => ∃ b, xs = [.bl b] ∧ Q (.str (if b then "True" else "False")) H) := by
  intro pins s σ H xs us Q I r h
  obtain ⟨b, rfl, q⟩ := h
  obtain ⟨u, rfl, r1⟩ := vals1 r
  cases r1
  exact PySem.P.repr_of_bool ⟨.str _, H, I.tok _, ⟨_, rfl⟩, q⟩
/-- f(k = v, ..), keywords alone -/
def tCallK0 (sp : Sp) (gV : List V → List V → List V) (E : XK) (tk : TA) : TE := fun σ H Q => tk σ H fun zs H2 => sp (gV [] zs) H2 Q E
theorem pe_callK0 {X : Cx} {CX : CXT} {k : Nat} {f : Addr} {fd : FuncData} {ps ks : List Str} {sp : Sp} {E : XK} {x : Str} {p pos : Pos} {kws : List Keyword} {tk : TA} {g : List Value → List Value → List Value} {gV : List V → List V → List V}
    (F : FnOk X.prog X.w X.K X.mg X.base CX k f fd ps sp) (hr : Room k X.A) (hg : Gl X x) (hm : X.mg x = some (.ref f)) (hk : PySem.W.keepIn X.K (.ref f) = true) (hb : KBinds X.K fd ps ks g gV) (hx : Passes CX X E)
    (hkw : PK X kws tk) (hall : (backToKw pos (keywordEach kws X.env)).all (·.1.isSome) = true := by rfl) (hks : (backToKw pos (keywordEach kws X.env)).filterMap (·.1) = ks := by rfl)
    (hdb : (x == ("__debug__" : Str)) = false := by decide)
    (hpl : ((backTo pos (starEach [] X.env)).any (·.1) || (backToKw pos (keywordEach kws X.env)).any (·.1.isNone)) = false := by rfl) :
    PE X (.Call (.Name x p) [] kws pos) (tCallK0 sp gV E tk) := by
  refine ⟨fun pins s σ H Q I h => ?_⟩
  refine wpAny_Call_Name_kw (ld_glob I hg hm ?_ hdb)
  refine PySem.W.callWith_KW0 (h₀ := X.base) I.ok.mod.kin hk hall ?_ hpl
  refine thn (hkw.run pos pins s σ H _ I h) fun ws s2 ⟨zs, H2, I2, rz, q2⟩ => ⟨I2.kIn, ?_⟩
  rw [hks]
  exact run_fnk F hr hb hx I2 .nil rz q2
/-! ### heaps: all but one address -/
/-- all that was tracked, but at p, is as it was -/
def SB (p : Addr) (H H' : Hp) : Prop := ∀ b o, b ≠ p → H b = some o → H' b = some o
theorem SB.refl (p : Addr) (H : Hp) : SB p H H := fun _ _ _ h => h
theorem SB.trans {p : Addr} {H H1 H2 : Hp} (a : SB p H H1) (b : SB p H1 H2) : SB p H H2 := fun c o n h => b c o n (a c o n h)
theorem SB.new {p q : Addr} {H : Hp} {o : HO} (h : H q = none) : SB p H (upd H q o) := fun b u n e => by
  rw [upd_ne (ne_of_none e h)]
  exact e
theorem SB.put {p : Addr} {H : Hp} {o : HO} : SB p H (upd H p o) := fun b u n e => by
  rw [upd_ne n]
  exact e
theorem SB.of {p : Addr} {H H' : Hp} (a : Same H H') : SB p H H' := fun c o _ h => a c o h
theorem SB.seq {p : Addr} {K : PySem.W.Frag} {H H' : Hp} {a : Addr} {xs : List V} (e : SB p H H') (n : a ≠ p) (h : SqL K H a xs) : SqL K H' a xs := by
  rcases h with (h | ⟨o, h⟩) | h
  · exact .inl (.inl (e _ _ n h))
  · exact .inl (.inr ⟨o, e _ _ n h⟩)
  · exact .inr h
theorem SB.tup {p : Addr} {K : PySem.W.Frag} {H H' : Hp} {a : Addr} {xs : List V} (e : SB p H H') (n : a ≠ p) (h : SqT K H a xs) : SqT K H' a xs := by
  rcases h with (h | ⟨o, h⟩) | h
  · exact .inl (.inl (e _ _ n h))
  · exact .inl (.inr ⟨o, e _ _ n h⟩)
  · exact .inr h
/-- what is free behind was free before, but at p -/
theorem SB.free {p : Addr} {H H' : Hp} (e : SB p H H') {l : Addr} (n : l ≠ p) (h : H' l = Option.none) : H l = Option.none := by
  cases q : H l with
  | none => rfl
  | some o =>
    rw [e l o n q] at h
    cases h
theorem same_upd {H : Hp} {p : Addr} {o : HO} (h : H p = none) : Same H (upd H p o) := fun b x e => by
  rw [upd_ne (ne_of_none e h)]
  exact e
theorem Same.tupS {K : PySem.W.Frag} {H H' : Hp} {a : Addr} {xs : List V} (e : Same H H') (h : SqT K H a xs) : SqT K H' a xs := by
  rcases h with (h | ⟨o, h⟩) | h
  · exact .inl (.inl (e _ _ h))
  · exact .inl (.inr ⟨o, e _ _ h⟩)
  · exact .inr h
theorem sq_of {K : PySem.W.Frag} {H : Hp} {a : Addr} {xs : List V} (h : H a = some (.lst xs)) : SqL K H a xs := .inl (.inl h)
theorem st_of {K : PySem.W.Frag} {H : Hp} {a : Addr} {xs : List V} (h : H a = some (.tup xs)) : SqT K H a xs := .inl (.inl h)
end L2
namespace L2
open PySem PySem.Spec PyProof.Rows
theorem for_iteL {K : PySem.W.Frag} {a : Addr} {xs : List V} {g : TG} {tb : TS} {D : Ends} {σ : St} {H : Hp} (Pv : Nat → St → Hp → Prop) (h0 : Pv 0 σ H) (hl : ∀ i σ H, i ≤ xs.length → Pv i σ H → SqL K H a xs)
    (hs : ∀ i x σ H T, xs[i]? = some x → Pv i σ H → H T = none → g (.ref T) σ (upd H T (.tup [.int (i : Nat), x])) fun σ2 H2 => tb { D with nx := Pv (i + 1), ct := Pv (i + 1), bk := D.nx } σ2 H2) (hd : ∀ σ H, Pv xs.length σ H → D.nx σ H) :
    ∃ W : Nat → Nat → St → Hp → Prop, (∃ m, W 0 m σ H) ∧ ∀ i m σ H, W i m σ H →
      ((Ite K a).stop i H ∧ D.nx σ H) ∨ ((Ite K a).go i H ∧ ∃ N : St → Hp → Prop, (∀ σ' H', N σ' H' → ∃ m', m' < m ∧ W (i + 1) m' σ' H') ∧ ∀ x H', (Ite K a).yld i H x H' → g x σ H' fun σ2 H2 => tb { D with nx := N, ct := N, bk := D.nx } σ2 H2) := by
  refine ⟨fun i m σ H => m = xs.length - i ∧ i ≤ xs.length ∧ Pv i σ H, ⟨xs.length, by simp, Nat.zero_le _, h0⟩, ?_⟩
  rintro i m σ H ⟨rfl, hi, p⟩
  have q := hl i σ H hi p
  by_cases hlt : i < xs.length
  · refine .inr ⟨⟨xs, xs[i], q, by simp [hlt]⟩, Pv (i + 1), fun σ' H' p' => ⟨xs.length - (i + 1), by omega, rfl, hlt, p'⟩, fun x H' y => ?_⟩
    obtain ⟨T, z, e, nT, eH, f⟩ := y
    subst e eH
    exact hs i z σ _ T (f xs q) p nT
  · have e : i = xs.length := by omega
    subst e
    exact .inl ⟨⟨xs, q, Nat.le_refl _⟩, hd σ H p⟩
end L2

namespace PySem
open Sem (wp)
theorem meets_enumerate_new0 {v : Value} {o : Obj} {H : Heap → Prop} (B : Begins v o H) :
    Meets (Builtin.«enumerate.__new__» ⟨[.type "enumerate", v], []⟩) (fun _ R s => H s.heap ∧
      R (.ok (.ret (.ref (s.heap.push o).objs.size))) { s with heap := (s.heap.push o).push { cls := .type "enumerate", data := .fields #[.none, .bool false, .ref s.heap.objs.size, rawInt 0, .none, .none] } }) :=
  .of_wp fun prog w A R s h => by
    obtain ⟨hp, g, d, tk, os⟩ := s; obtain ⟨h1, h⟩ := h
    have hsub := sub_enumerate
    have q1 : ∀ {A' : Around} {E : Value → Shared → Prop} {Q : Value → Shared → Prop}, Q (.ref hp.objs.size) ⟨hp.push o, g, d, tk, os⟩ → wpAny (model prog w) A' (pyIter v) Q E ⟨hp, g, d, tk, os⟩ :=
      fun q => B.iter prog w _ _ ⟨hp, g, d, tk, os⟩ _ h1 q
    wp_walk using q1
    refine wpAny_stack_any fun st => wpAny_pure ?_
    split
    · rename_i c _ _ _ _ _
      cases (c == Value.type "enumerate")
      · wp_walk using q1
        exact ⟨_, rfl, h⟩
      · wp_walk using q1
        exact ⟨_, rfl, h⟩
    · wp_walk using q1
      exact ⟨_, rfl, h⟩
theorem enum_begins0 {prog : Program} {w : World} {A : Around} {E : Value → Shared → Prop} {s : Shared} {v : Value} {o : Obj} {H : Heap → Prop} {Q : Value → Shared → Prop} (B : Begins v o H) (h1 : H s.heap)
    (h : ∀ h', IsEnum h' (s.heap.objs.size + 1) s.heap.objs.size 0 .none → h'.get? s.heap.objs.size = some o → h'.objs.size = s.heap.objs.size + 2 →
      (∀ b o, s.heap.get? b = some o → h'.get? b = some o) → Q (.ref (s.heap.objs.size + 1)) { s with heap := h' }) :
    wpAny (model prog w) A (call (.type "enumerate") [v]) Q E s := by
  refine callType_new F.called_enumerate (by decide) (F.typeCall_enumerate_1 _) (F.newCall_enumerate_1 _) (fun obj => F.args_object_init_2 obj _) F.entry_enumerate_new
    (meets_enumerate_new0 B) ⟨h1, ?_⟩
  have hz : (s.heap.push o).objs.size = s.heap.objs.size + 1 := Heap.size_push ..
  show _ ∧ _
  rw [hz]
  have he : IsEnum ((s.heap.push o).push { cls := .type "enumerate", data := .fields #[.none, .bool false, .ref s.heap.objs.size, rawInt 0, .none, .none] }) (s.heap.objs.size + 1) s.heap.objs.size 0 .none := by
    have := Heap.get?_push_size (s.heap.push o) (o := { cls := .type "enumerate", data := .fields #[.none, .bool false, .ref s.heap.objs.size, rawInt 0, .none, .none] }) rfl
    rw [hz] at this; exact this
  refine ⟨⟨_, he, rfl⟩, h _ he (Heap.get?_push_of_some _ (Heap.get?_push_size _ B.free)) (by rw [Heap.size_push, hz]) fun b o x => Heap.get?_push_of_some _ (Heap.get?_push_of_some _ x)⟩
end PySem
namespace L2
open PySem PySem.Spec PyProof.Rows
/-- the tuple at a, each item in a new pair -/
def IteT (K : PySem.W.Frag) (a : Addr) : It :=
  ⟨fun i H => ∃ (xs : List V) (x : V), SqT K H a xs ∧ xs[i]? = some x, fun i H v H' => ∃ T x, v = .ref T ∧ H T = none ∧ H' = upd H T (.tup [.int (i : Nat), x]) ∧ ∀ xs, SqT K H a xs → xs[i]? = some x, fun i H => ∃ xs : List V, SqT K H a xs ∧ xs.length ≤ i⟩
theorem turn_enumT {P : Program} {w : World} {K : PySem.W.Frag} {elts : List Expr} {kk : Nat} {tpos : Pos} (a e it : Addr) (hae : e ≠ a) (hai : a ≠ it) :
    Turn P w K (.Tuple elts kk tpos) (IteT K a) [e, it] e (fun i h => (∃ old, IsEnum h e it ((i : Nat) : Int) old) ∧ h.IsTupleIter it a i ∧ e ≠ it) where
  mem := by simp
  obj := fun i h st b hb => by
    obtain ⟨⟨old, he⟩, ⟨o, ho, hc, hd⟩, _⟩ := st
    have e' : b = e ∨ b = it := by simpa using hb
    rcases e' with z | z
    · rw [z]; exact ⟨_, he, fun v q => nomatch q⟩
    · rw [z]; exact ⟨o, ho, fun v q => by rw [hd] at q; cases q⟩
  keep := fun i h h' st k => let ⟨⟨old, he⟩, hi, hne⟩ := st; ⟨⟨old, k e (by simp) _ he⟩, hi.at fun o q => k it (by simp) o q, hne⟩
  item := by
    intro X hP hw hK hc i pins s σ H E I hf st hg
    subst hP hw hK
    obtain ⟨⟨old, he⟩, hit, hne⟩ := st
    obtain ⟨xs, x, hq, hx⟩ := hg
    obtain ⟨its, rv, p, hz⟩ := I.tuple hq
    obtain ⟨u, hu, ru⟩ := rv.get hx
    have hel : e < s.heap.objs.size := Heap.lt_size he
    have hil : it < s.heap.objs.size := by obtain ⟨_, q, _⟩ := hit; exact Heap.lt_size q
    have hlt : i < its.toArray.size := by
      have z := (List.getElem?_eq_some_iff.mp hu).1
      simpa using z
    refine wpAny_pyNext_enum_itemD (Draws.tuple (A := X.A.in1) (I.ok.hd hc) it a hai its.toArray) he ⟨hit, p⟩ hlt hne (by simp [hne, hae]) fun x' h' tk hP' ho hit' hT hsz hk => ?_
    have ex : x' = u := by
      have q : its.toArray[i]? = some u := by simpa using hu
      rw [q] at hP'
      exact (Option.some.inj hP').symm
    subst ex
    refine ⟨_, rfl, wpAny_letOwnedTupleGo_enum (s := { s with heap := h', toks := tk + 1 }) ho fun h'' he' sb => ?_⟩
    have hT2 : h''.get? s.heap.objs.size = some { cls := .type "tuple", data := .seq #[.int i tk, x'] } := (sb.2 _ (Nat.ne_of_gt hel)).trans hT
    have new : ObjOk X.prog X.w (upd H s.heap.objs.size (.tup [.int (i : Nat), x])) h'' s.heap.objs.size (.tup [.int (i : Nat), x]) :=
      ⟨by show 2 ≤ sizeLine; decide, [.int i tk, x'], .cons ⟨_, rfl⟩ (.cons ru .nil), ⟨_, hT2, rfl, _, rfl⟩⟩
    have I1 : Inv X pins σ (upd H s.heap.objs.size (.tup [.int (i : Nat), x])) { s with heap := h'', toks := tk + 1 } :=
      I.turnedNew (ch := [e, it]) (fun b ob hb q => (sb.2 b (fun z => hb (by simp [z]))).trans (hk b ob (fun z => hb (by simp [z])) (fun z => hb (by simp [z])) q)) hf (Nat.le_refl _) new
    refine ⟨.ref s.heap.objs.size, _, I1, rfl, ⟨_, x, rfl, I.hok.fresh (Nat.le_refl _), rfl, fun ys hy => by rw [I.tuple_inj hy hq]; exact hx⟩, ⟨⟨x', ?_⟩, hit'.1.at fun o q => (sb.2 it (Ne.symm hne)).trans q, hne⟩, fun b hb => ?_⟩
    · have e1 : ((i + 1 : Nat) : Int) = (i : Int) + 1 := by omega
      rw [e1]; exact he'
    · have hb' : b < s.heap.objs.size := by
        have e' : b = e ∨ b = it := by simpa using hb
        rcases e' with z | z
        · rw [z]; exact hel
        · rw [z]; exact hil
      rw [upd_ne (Nat.ne_of_lt hb')]
      exact (hf b hb).1
  done := by
    intro X hP hw hK hc i pins s σ H E I hf st hg
    subst hP hw hK
    obtain ⟨⟨old, he⟩, hit, hne⟩ := st
    obtain ⟨xs, hq, hx⟩ := hg
    obtain ⟨its, rv, p, hz⟩ := I.tuple hq
    obtain ⟨f0, f1, f2, f3, f4, f5⟩ := hf it (by simp)
    have hl := rv.length
    have hT : s.TypeIs (.ref e) "enumerate" := ⟨_, he, rfl⟩
    have hN : its.toArray[i]? = none := by simp; omega
    unfold pyNext
    refine wpAny_bind (wpAny_attempt (wpAny_callSpecial?_slot (name := Str.ofString "__next__") hT F.slot_enumerate_next
      (wpAny_call_entry F.slot_enumerate_next hT F.entry_enumerate_next ?_ (F.args_enumerate_next_1 _))))
    show wpAny _ _ (field (.ref e) 2 >>= _) _ _ _
    refine wpAny_bind (wpAny_field he rfl (x := .ref it) rfl ?_)
    refine wpAny_bind (wpAny_nextOf_tuple_end (I.ok.hd hc) hit p hN fun h' x he' hx' => ?_)
    obtain ⟨o, ho, hcc⟩ := hx'
    refine wpAny_bind (wpAny_isInstance (T := "StopIteration") (b := true) ⟨o, ho, hcc⟩ isSubtype_stop ?_)
    exact wpAny_pure ⟨rfl, I.turned (t' := s.toks) (fun b o hb q => he' b o hb q) f0 f1 f3 f4 f5⟩
  self := fun A i s Q E st h => let ⟨⟨_, he⟩, _⟩ := st; wpAny_pyIter_enum he h
/-- enumerate of a list or a tuple -/
def iEnumA (K : PySem.W.Frag) (ta : TA) : TI := fun σ H R => ta σ H fun vs H1 => ∃ a xs, vs = [.ref a] ∧ ((SqL K H1 a xs ∧ R (Ite K a) H1) ∨ (SqT K H1 a xs ∧ R (IteT K a) H1))
theorem pi_enumA {X : Cx} {e : Expr} {ta : TA} {p pos tpos : Pos} {elts : List Expr} {kk : Nat} (hg : Gl X "enumerate") (hm : X.mg "enumerate" = none) (ha : PA X [e] ta) (hs : starEach [e] X.env = [(false, eval e X.env)] := by rfl) :
    PI X (.Tuple elts kk tpos) (.Call (.Name "enumerate" p) [e] [] pos) (iEnumA X.K ta) := by
  refine ⟨fun pins s σ H R I h => ?_⟩
  refine Call_ (ld_blt I hg hm boot_enumerate (PyProof.Rows.callWith_type1 (thn (ha.run pos pins s σ H _ I h) fun us s1 ⟨vs, H1, I1, r1, q1⟩ => ?_) hs rfl))
  obtain ⟨a, xs, ex, q1⟩ := q1
  subst ex
  cases r1 with
  | cons r rr =>
    cases rr
    cases r
    have fp : ∀ b, b ∈ [s1.heap.objs.size + 1, s1.heap.objs.size] → s1.heap.objs.size ≤ b := fun b hb => by
      have e' : b = s1.heap.objs.size + 1 ∨ b = s1.heap.objs.size := by simpa using hb
      rcases e' with z | z
      · rw [z]; exact Nat.le_add_right _ _
      · rw [z]; exact Nat.le_refl _
    rcases q1 with ⟨hq, q⟩ | ⟨hq, q⟩
    · obtain ⟨its, rv, p', hz⟩ := I1.list hq
      refine call_enumerate_list p'.isList fun h' he hit hsz hk => wpAny_pyIter_enum he ?_
      have I2 : Inv X pins σ H1 { s1 with heap := h' } := I1.kept (t' := s1.toks) hk
      exact ⟨s1.heap.objs.size + 1, [s1.heap.objs.size + 1, s1.heap.objs.size], _, _, H1, rfl, I2, turn_enum a (s1.heap.objs.size + 1) s1.heap.objs.size, ⟨⟨.none, he⟩, hit, Nat.succ_ne_self _⟩, fun b hb => I1.fpOk (fp b hb) (I1.hok.fresh (fp b hb)), q⟩
    · obtain ⟨its, rv, p', hz⟩ := I1.tuple hq
      have hlt : a < s1.heap.objs.size := by
        obtain ⟨o, ho, _⟩ := id p'
        exact Heap.lt_size ho
      refine enum_begins0 (begins_tuple a its.toArray) p' fun h' he hit hsz hk => wpAny_pyIter_enum he ?_
      have I2 : Inv X pins σ H1 { s1 with heap := h' } := I1.kept (t' := s1.toks) hk
      exact ⟨s1.heap.objs.size + 1, [s1.heap.objs.size + 1, s1.heap.objs.size], _, _, H1, rfl, I2, turn_enumT a (s1.heap.objs.size + 1) s1.heap.objs.size (Nat.ne_of_gt (Nat.lt_succ_of_lt hlt)) (Nat.ne_of_lt hlt), ⟨⟨.none, he⟩, ⟨_, hit, rfl, rfl⟩, Nat.succ_ne_self _⟩, fun b hb => I1.fpOk (fp b hb) (I1.hok.fresh (fp b hb)), q⟩
end L2
namespace L2
open PySem PySem.Spec PyProof.Rows
theorem for_iteT {K : PySem.W.Frag} {a : Addr} {xs : List V} {g : TG} {tb : TS} {D : Ends} {σ : St} {H : Hp} (Pv : Nat → St → Hp → Prop) (h0 : Pv 0 σ H) (hl : ∀ i σ H, i ≤ xs.length → Pv i σ H → SqT K H a xs)
    (hs : ∀ i x σ H T, xs[i]? = some x → Pv i σ H → H T = none → g (.ref T) σ (upd H T (.tup [.int (i : Nat), x])) fun σ2 H2 => tb { D with nx := Pv (i + 1), ct := Pv (i + 1), bk := D.nx } σ2 H2) (hd : ∀ σ H, Pv xs.length σ H → D.nx σ H) :
    ∃ W : Nat → Nat → St → Hp → Prop, (∃ m, W 0 m σ H) ∧ ∀ i m σ H, W i m σ H →
      ((IteT K a).stop i H ∧ D.nx σ H) ∨ ((IteT K a).go i H ∧ ∃ N : St → Hp → Prop, (∀ σ' H', N σ' H' → ∃ m', m' < m ∧ W (i + 1) m' σ' H') ∧ ∀ x H', (IteT K a).yld i H x H' → g x σ H' fun σ2 H2 => tb { D with nx := N, ct := N, bk := D.nx } σ2 H2) := by
  refine ⟨fun i m σ H => m = xs.length - i ∧ i ≤ xs.length ∧ Pv i σ H, ⟨xs.length, by simp, Nat.zero_le _, h0⟩, ?_⟩
  rintro i m σ H ⟨rfl, hi, p⟩
  have q := hl i σ H hi p
  by_cases hlt : i < xs.length
  · refine .inr ⟨⟨xs, xs[i], q, by simp [hlt]⟩, Pv (i + 1), fun σ' H' p' => ⟨xs.length - (i + 1), by omega, rfl, hlt, p'⟩, fun x H' y => ?_⟩
    obtain ⟨T, z, e, nT, eH, f⟩ := y
    subst e eH
    exact hs i z σ _ T (f xs q) p nT
  · have e : i = xs.length := by omega
    subst e
    exact .inl ⟨⟨xs, q, Nat.le_refl _⟩, hd σ H p⟩
end L2

namespace L2
open PySem PySem.Spec PyProof.Rows
/-! ### sources of draws: a list of three ints, the first one from 0 on -/
def Src (H : Hp) (p : Addr) : Prop := ∃ x y z : Int, 0 ≤ x ∧ H p = some (.lst [.int x, .int y, .int z])
theorem Src.put {H : Hp} {p : Addr} {x y z : Int} (h : 0 ≤ x) : Src (upd H p (.lst [.int x, .int y, .int z])) p := ⟨x, y, z, h, upd_same⟩
theorem Src.ne {H : Hp} {p q : Addr} (h : Src H p) (n : H q = none) : q ≠ p := fun e => by
  obtain ⟨x, y, z, _, hp⟩ := h
  rw [← e, n] at hp
  cases hp
theorem Src.at {H H' : Hp} {p : Addr} (h : Src H p) (e : H' p = H p) : Src H' p := by
  obtain ⟨x, y, z, x0, hp⟩ := h
  exact ⟨x, y, z, x0, e.trans hp⟩
theorem Src.upd {H : Hp} {p q : Addr} {o : HO} (h : Src H p) (n : q ≠ p) : Src (L2.upd H q o) p := h.at (upd_ne (Ne.symm n))
theorem Src.new {H : Hp} {p q : Addr} {o : HO} (h : Src H p) (n : H q = none) : Src (L2.upd H q o) p := h.upd (h.ne n)
theorem Src.same {H H' : Hp} {p : Addr} (h : Src H p) (e : Same H H') : Src H' p := by
  obtain ⟨x, y, z, x0, hp⟩ := h
  exact ⟨x, y, z, x0, e _ _ hp⟩
/-- what a draw leaves: all but the source stands, the source is one -/
def Dn (p : Addr) (H H' : Hp) : Prop := SB p H H' ∧ Src H' p
theorem Dn.put {p : Addr} {H : Hp} {x y z : Int} (h : 0 ≤ x) : Dn p H (L2.upd H p (.lst [.int x, .int y, .int z])) := ⟨SB.put, .put h⟩
theorem Dn.trans {p : Addr} {H H1 H2 : Hp} (a : Dn p H H1) (b : Dn p H1 H2) : Dn p H H2 := ⟨a.1.trans b.1, b.2⟩
theorem Dn.new {p q : Addr} {H H' : Hp} {o : HO} (a : Dn p H H') (n : H' q = none) : Dn p H (L2.upd H' q o) := ⟨a.1.trans (SB.new n), a.2.new n⟩
theorem Dn.same {p : Addr} {H H' H2 : Hp} (a : Dn p H H') (e : Same H' H2) : Dn p H H2 := ⟨a.1.trans (SB.of e), a.2.same e⟩
theorem Dn.refl {p : Addr} {H : Hp} (h : Src H p) : Dn p H H := ⟨SB.refl p H, h⟩
/-- an address that is new behind a draw was new before -/
theorem Dn.free {p q : Addr} {H H' : Hp} (a : Dn p H H') (n : H' q = none) : H q = none := a.1.free (a.2.ne n) n
theorem map_snoc (ms : List Int) (v : Int) : ms.map V.int ++ [V.int v] = (ms ++ [v]).map V.int := by simp
theorem rep_flat (b : Int) : ∀ n : Nat, (List.replicate n [V.int b]).flatten = (List.replicate n b).map V.int
  | 0 => rfl
  | n + 1 => by
    rw [List.replicate_succ, List.replicate_succ, List.flatten_cons, rep_flat b n]
    rfl
theorem lt64 {c : Int} {x : Int} (h0 : 0 ≤ x) (h1 : x < c) (hc : c ≤ 2 ^ 63) : -(2 ^ 64) < x ∧ x < 2 ^ 64 := by omega
theorem mb (x : Int) {c : Int} (h : 0 < c) : 0 ≤ x % c ∧ x % c < c := ⟨Int.emod_nonneg _ (by omega), Int.emod_lt_of_pos _ h⟩
theorem mbw (x : Int) {c : Int} (h : 0 < c) (hc : c ≤ 2 ^ 63) : -(2 ^ 64) < x % c ∧ x % c < 2 ^ 64 := lt64 (mb x h).1 (mb x h).2 hc
/-- a comprehension over range(n) each of whose items is an int, reckoned by draws -/
theorem lc_ints {te : TE} {σ : L2.St} {H1 : Hp} {D p : Addr} {n j : Nat} {vs : List Nat} {Qd : Hp → Prop} (hn : n ≤ 1000000) (hs : Src H1 p) (hD : H1 D = none)
    (hw : ∀ v, wipe ((wipe σ vs).set j v) vs = wipe σ vs)
    (he : ∀ (k : Nat) (H3 : Hp) (R : VK), k < n → Dn p H1 H3 → (∀ (v : Int) (H4 : Hp), Dn p H3 H4 → R (.int v) H4) → te ((wipe σ vs).set j (some (.int (0 + (k : Nat))))) H3 R)
    (hd : ∀ (ms : List Int) (H' : Hp), ms.length = n → Dn p H1 H' → H' D = some (.lst (ms.map V.int)) → Qd H') :
    ∃ W : Nat → Nat → Hp → Prop, (∃ m, W 0 m (L2.upd H1 D (.lst []))) ∧ ∀ i m H, W i m H →
      ((Itr 0 n).stop i H ∧ Qd H) ∨ ((Itr 0 n).go i H ∧ ∃ Nx : Hp → Prop, (∀ H', Nx H' → ∃ m', m' < m ∧ W (i + 1) m' H') ∧ ∀ x H', (Itr 0 n).yld i H x H' → gName j x (wipe σ vs) H' fun σ2 H2 => wipe σ2 vs = wipe σ vs ∧ tYes σ2 H2 fun b H3 =>
        if b = true then te σ2 H3 fun y H4 => ∃ acc, H4 D = some (.lst acc) ∧ acc.length < sizeLine ∧ Nx (L2.upd H4 D (.lst (acc ++ [y]))) else Nx H3) := by
  have nD : D ≠ p := hs.ne hD
  refine lc_range (lo := 0) (n := n) (fun i H => ∃ ms : List Int, ms.length = i ∧ Dn p H1 H ∧ H D = some (.lst (ms.map V.int))) ⟨[], rfl, (Dn.refl hs).new hD, upd_same⟩ ?_ ?_
  · rintro i H hi ⟨ms, hl, dr, hh⟩
    refine ⟨hw _, ?_⟩
    refine he i H _ hi dr fun v H4 d4 => ?_
    have h4 := d4.1 _ _ nD hh
    refine ⟨_, h4, ?_, ms ++ [v], by simp [hl], ?_, ?_⟩
    · rw [List.length_map, hl]
      exact Nat.lt_of_le_of_lt (Nat.le_trans (Nat.le_of_lt hi) hn) (by decide)
    · have dd := dr.trans d4
      refine ⟨fun b o nb e => ?_, dd.2.upd nD⟩
      rw [upd_ne (ne_of_none e hD)]
      exact dd.1 b o nb e
    · rw [map_snoc]
      exact upd_same
  · rintro H ⟨ms, hl, dr, hh⟩
    exact hd ms H hl dr hh
end L2
namespace L2
open PySem PySem.Spec PyProof.Rows
theorem canLay_ints : ∀ ns : List Int, PyData.canLayAll0 (ns.map PyData.int) = true
  | [] => rfl
  | n :: r => by
    show (PyData.canLay0 (.int n) && PyData.canLayAll0 (r.map PyData.int)) = true
    rw [canLay_ints r]
    rfl
theorem depth_ints : ∀ ns : List Int, PyData.depthAll (ns.map PyData.int) = 0
  | [] => rfl
  | n :: r => by
    show max (PyData.depth (.int n)) (PyData.depthAll (r.map PyData.int)) = 0
    rw [depth_ints r]
    rfl
theorem shaped_ints (ns : List Int) : SeqAt.shaped (.list (ns.map PyData.int)) = true := by
  unfold SeqAt.shaped
  rw [Bool.and_eq_true]
  refine ⟨canLay_ints ns, decide_eq_true ?_⟩
  show PyData.depthAll (ns.map PyData.int) + 1 ≤ 64
  rw [depth_ints]
  decide
theorem eqv_ints (ns : List Int) : PyData.eqv (.list (ns.map PyData.int)) (.list (ns.map PyData.int)) = true := SeqAt.eqv_refl _ (SeqAt.canLay_of_shaped (shaped_ints ns))
theorem dpAll_ints {K : PySem.W.Frag} {H : Hp} : ∀ ns : List Int, DpAll K H (ns.map V.int) (ns.map PyData.int)
  | [] => .nil
  | n :: r => .cons (.int n) (dpAll_ints r)
theorem dp_ints {K : PySem.W.Frag} {H : Hp} {p : Addr} {ns : List Int} (h : SqL K H p (ns.map V.int)) : Dp K H (.ref p) (.list (ns.map PyData.int)) := .lst h (dpAll_ints ns)
theorem cut_mem {xs : List V} {lo hi : Option Int} {x : V} (h : x ∈ cutV xs lo hi) : x ∈ xs := List.mem_of_mem_drop (List.mem_of_mem_take h)
end L2

namespace L2
open PySem PySem.Spec PyProof.Rows
/-! ### stable orders: the items of 0 .. n - 1, by a number each, then by themselves -/
def Lx (f : Nat → Int) (i j : Nat) : Prop := f i < f j ∨ (f i = f j ∧ i < j)
theorem Lx.irr {f : Nat → Int} {i : Nat} : ¬ Lx f i i := fun h => by unfold Lx at h; omega
theorem Lx.asymm {f : Nat → Int} {i j : Nat} (h : Lx f i j) : ¬ Lx f j i := fun h' => by unfold Lx at h h'; omega
theorem Lx.trans {f : Nat → Int} {i j k : Nat} (h : Lx f i j) (h' : Lx f j k) : Lx f i k := by unfold Lx at *; omega
theorem Lx.tri (f : Nat → Int) (i j : Nat) : Lx f i j ∨ i = j ∨ Lx f j i := by unfold Lx; omega
structure Stab (f : Nat → Int) (n : Nat) (os : List Nat) : Prop where
  perm : os.Perm (List.range n)
  sort : os.Pairwise (Lx f)
/-- two rows of the same items that are sorted strictly are one -/
theorem sorted_uniq {α : Type} {R : α → α → Prop} (as : ∀ a b, R a b → ¬ R b a) : ∀ {xs ys : List α}, xs.Perm ys → xs.Pairwise R → ys.Pairwise R → xs = ys
  | [], ys, p, _, _ => (List.Perm.nil_eq p)
  | x :: xs, [], p, _, _ => absurd p.length_eq (by simp)
  | x :: xs, y :: ys, p, hx, hy => by
    have e : x = y := by
      have m1 : x ∈ y :: ys := p.mem_iff.mp (List.mem_cons_self ..)
      have m2 : y ∈ x :: xs := p.mem_iff.mpr (List.mem_cons_self ..)
      rcases List.mem_cons.mp m1 with e | m1
      · exact e
      · rcases List.mem_cons.mp m2 with e | m2
        · exact e.symm
        · exact absurd ((List.pairwise_cons.mp hx).1 y m2) (as _ _ ((List.pairwise_cons.mp hy).1 x m1))
    subst e
    rw [sorted_uniq as p.cons_inv (List.pairwise_cons.mp hx).2 (List.pairwise_cons.mp hy).2]
theorem Stab.uniq {f : Nat → Int} {n : Nat} {as bs : List Nat} (a : Stab f n as) (b : Stab f n bs) : as = bs := sorted_uniq (fun _ _ => Lx.asymm) (a.perm.trans b.perm.symm) a.sort b.sort
theorem Stab.len {f : Nat → Int} {n : Nat} {os : List Nat} (a : Stab f n os) : os.length = n := by
  rw [a.perm.length_eq, List.length_range]
theorem Stab.nodup {f : Nat → Int} {n : Nat} {os : List Nat} (a : Stab f n os) : os.Nodup := a.perm.nodup_iff.mpr List.nodup_range
theorem Stab.lt {f : Nat → Int} {n : Nat} {os : List Nat} (a : Stab f n os) {i : Nat} (h : i ∈ os) : i < n := List.mem_range.mp (a.perm.mem_iff.mp h)
/-- the order hangs on how the numbers stand to one another alone -/
theorem Stab.like {f g : Nat → Int} {n : Nat} {os : List Nat} (a : Stab f n os) (h : ∀ i j, i < n → j < n → (f i < f j ↔ g i < g j)) : Stab g n os := by
  refine ⟨a.perm, ?_⟩
  refine List.Pairwise.imp_of_mem ?_ a.sort
  intro i j hi hj l
  have h1 := h i j (a.lt hi) (a.lt hj)
  have h2 := h j i (a.lt hj) (a.lt hi)
  unfold Lx at *
  omega
/-- what an item counts: its key, with reverse its negative -/
def keyf (ks : List Int) (rev : Bool) (i : Nat) : Int := if rev then -(ks.getD i 0) else ks.getD i 0
/-- the row of items as values -/
abbrev nV (os : List Nat) : List V := os.map fun (i : Nat) => V.int (i : Int)
/-- pairs of the keys' numbers and the items, sorted, give the order -/
theorem stab_of_pairs {f : Nat → Int} {n : Nat} {ps : List (Int × Int)} (p : ps.Perm ((List.range n).map fun (i : Nat) => (f i, (i : Int)))) (s : ps.Pairwise fun x y => ¬ (y.1 < x.1 ∨ (y.1 = x.1 ∧ y.2 < x.2))) :
    ∃ os, Stab f n os ∧ ps = os.map fun (i : Nat) => (f i, (i : Int)) := by
  have hm : ∀ q ∈ ps, q = (f q.2.toNat, (q.2.toNat : Int)) := fun q hq => by
    obtain ⟨i, _, e⟩ := List.mem_map.mp (p.mem_iff.mp hq)
    subst e
    simp
  have e1 : ps = (ps.map fun q => q.2.toNat).map fun (i : Nat) => (f i, (i : Int)) := by
    rw [List.map_map]
    calc ps = ps.map id := (List.map_id ps).symm
      _ = _ := List.map_congr_left fun q hq => hm q hq
  have pm : (ps.map fun q => q.2.toNat).Perm (List.range n) := by
    have q := p.map fun q => q.2.toNat
    rw [List.map_map] at q
    have e : (List.range n).map ((fun q : Int × Int => q.2.toNat) ∘ fun (i : Nat) => (f i, (i : Int))) = List.range n := by
      calc _ = (List.range n).map id := List.map_congr_left fun i _ => by simp
        _ = _ := List.map_id _
    rw [e] at q
    exact q
  refine ⟨ps.map fun q => q.2.toNat, ⟨pm, ?_⟩, e1⟩
  have nd : (ps.map fun q => q.2.toNat).Nodup := pm.nodup_iff.mpr List.nodup_range
  have s2 : (ps.map fun q => q.2.toNat).Pairwise fun i j => ¬ (f j < f i ∨ (f j = f i ∧ j < i)) := by
    rw [e1, List.pairwise_map] at s
    refine s.imp ?_
    intro i j h
    omega
  exact (List.pairwise_and_iff.mpr ⟨s2, nd⟩).imp fun {i j} h => by
    obtain ⟨h1, h2⟩ := h
    unfold Lx
    omega
end L2
namespace L2
open PySem PySem.Spec PyProof.Rows
theorem pe_callN0 {X : Cx} {CX : CXT} {k : Nat} {f : Addr} {fd : FuncData} {ps ks : List Str} {sp : Sp} {E : XK} {x : Str} {p pos : Pos} {kws : List Keyword} {tk : TA} {g : List Value → List Value → List Value} {gV : List V → List V → List V}
    (F : FnOk X.prog X.w X.K X.mg X.base CX k f fd ps sp) (hr : Room k X.A) (hg : Gl X x) (hm : X.mg x = some (.ref f)) (hk : PySem.W.keepIn X.K (.ref f) = true) (hb : KBn X.K fd ps 0 ks g gV) (hx : Passes CX X E)
    (hkw : PK X kws tk) (hall : (backToKw pos (keywordEach kws X.env)).all (·.1.isSome) = true := by rfl) (hks : (backToKw pos (keywordEach kws X.env)).filterMap (·.1) = ks := by rfl)
    (hdb : (x == ("__debug__" : Str)) = false := by decide)
    (hpl : ((backTo pos (starEach [] X.env)).any (·.1) || (backToKw pos (keywordEach kws X.env)).any (·.1.isNone)) = false := by rfl) :
    PE X (.Call (.Name x p) [] kws pos) (fun σ H Q => tk σ H fun zs H2 => zs.length = ks.length ∧ sp (gV [] zs) H2 Q E) := by
  refine ⟨fun pins s σ H Q I h => ?_⟩
  refine wpAny_Call_Name_kw (ld_glob I hg hm ?_ hdb)
  refine PySem.W.callWith_KW0 (h₀ := X.base) I.ok.mod.kin hk hall ?_ hpl
  refine thn (hkw.run pos pins s σ H _ I h) fun ws s2 ⟨zs, H2, I2, rz, l2, q2⟩ => ⟨I2.kIn, ?_⟩
  rw [hks]
  exact run_fnN F hr hb hx I2 .nil rz rfl l2 q2
theorem lc_iteL {K : PySem.W.Frag} {a : Addr} {xs : List V} {g : TG} {tt : TT} {te : TE} {vs : List Nat} {σ : L2.St} {H1 : Hp} {D : Addr} {Qd : Hp → Prop} (Pv : Nat → Hp → Prop) (h0 : Pv 0 (upd H1 D (.lst []))) (hl : ∀ i H, i ≤ xs.length → Pv i H → SqL K H a xs)
    (hs : ∀ i x H T, xs[i]? = some x → Pv i H → H T = none → g (.ref T) (wipe σ vs) (upd H T (.tup [.int (i : Nat), x])) fun σ2 H2 => wipe σ2 vs = wipe σ vs ∧ tt σ2 H2 fun b H3 =>
      if b = true then te σ2 H3 fun y H4 => ∃ acc, H4 D = some (.lst acc) ∧ acc.length < sizeLine ∧ Pv (i + 1) (upd H4 D (.lst (acc ++ [y]))) else Pv (i + 1) H3) (hd : ∀ H, Pv xs.length H → Qd H) :
    ∃ W : Nat → Nat → Hp → Prop, (∃ m, W 0 m (upd H1 D (.lst []))) ∧ ∀ i m H, W i m H →
      ((Ite K a).stop i H ∧ Qd H) ∨ ((Ite K a).go i H ∧ ∃ Nx : Hp → Prop, (∀ H', Nx H' → ∃ m', m' < m ∧ W (i + 1) m' H') ∧ ∀ x H', (Ite K a).yld i H x H' → g x (wipe σ vs) H' fun σ2 H2 => wipe σ2 vs = wipe σ vs ∧ tt σ2 H2 fun b H3 =>
        if b = true then te σ2 H3 fun y H4 => ∃ acc, H4 D = some (.lst acc) ∧ acc.length < sizeLine ∧ Nx (upd H4 D (.lst (acc ++ [y]))) else Nx H3) := by
  refine ⟨fun i m H => m = xs.length - i ∧ i ≤ xs.length ∧ Pv i H, ⟨xs.length, by simp, Nat.zero_le _, h0⟩, ?_⟩
  rintro i m H ⟨rfl, hi, p⟩
  have q := hl i H hi p
  by_cases hlt : i < xs.length
  · refine .inr ⟨⟨xs, xs[i], q, by simp [hlt]⟩, Pv (i + 1), fun H' p' => ⟨xs.length - (i + 1), by omega, rfl, hlt, p'⟩, fun x H' y => ?_⟩
    obtain ⟨T, z, e, nT, eH, f⟩ := y
    subst e eH
    exact hs i z _ T (f xs q) p nT
  · have e : i = xs.length := by omega
    subst e
    exact .inl ⟨⟨xs, q, Nat.le_refl _⟩, hd H p⟩
theorem lc_iteT {K : PySem.W.Frag} {a : Addr} {xs : List V} {g : TG} {tt : TT} {te : TE} {vs : List Nat} {σ : L2.St} {H1 : Hp} {D : Addr} {Qd : Hp → Prop} (Pv : Nat → Hp → Prop) (h0 : Pv 0 (upd H1 D (.lst []))) (hl : ∀ i H, i ≤ xs.length → Pv i H → SqT K H a xs)
    (hs : ∀ i x H T, xs[i]? = some x → Pv i H → H T = none → g (.ref T) (wipe σ vs) (upd H T (.tup [.int (i : Nat), x])) fun σ2 H2 => wipe σ2 vs = wipe σ vs ∧ tt σ2 H2 fun b H3 =>
      if b = true then te σ2 H3 fun y H4 => ∃ acc, H4 D = some (.lst acc) ∧ acc.length < sizeLine ∧ Pv (i + 1) (upd H4 D (.lst (acc ++ [y]))) else Pv (i + 1) H3) (hd : ∀ H, Pv xs.length H → Qd H) :
    ∃ W : Nat → Nat → Hp → Prop, (∃ m, W 0 m (upd H1 D (.lst []))) ∧ ∀ i m H, W i m H →
      ((IteT K a).stop i H ∧ Qd H) ∨ ((IteT K a).go i H ∧ ∃ Nx : Hp → Prop, (∀ H', Nx H' → ∃ m', m' < m ∧ W (i + 1) m' H') ∧ ∀ x H', (IteT K a).yld i H x H' → g x (wipe σ vs) H' fun σ2 H2 => wipe σ2 vs = wipe σ vs ∧ tt σ2 H2 fun b H3 =>
        if b = true then te σ2 H3 fun y H4 => ∃ acc, H4 D = some (.lst acc) ∧ acc.length < sizeLine ∧ Nx (upd H4 D (.lst (acc ++ [y]))) else Nx H3) := by
  refine ⟨fun i m H => m = xs.length - i ∧ i ≤ xs.length ∧ Pv i H, ⟨xs.length, by simp, Nat.zero_le _, h0⟩, ?_⟩
  rintro i m H ⟨rfl, hi, p⟩
  have q := hl i H hi p
  by_cases hlt : i < xs.length
  · refine .inr ⟨⟨xs, xs[i], q, by simp [hlt]⟩, Pv (i + 1), fun H' p' => ⟨xs.length - (i + 1), by omega, rfl, hlt, p'⟩, fun x H' y => ?_⟩
    obtain ⟨T, z, e, nT, eH, f⟩ := y
    subst e eH
    exact hs i z _ T (f xs q) p nT
  · have e : i = xs.length := by omega
    subst e
    exact .inl ⟨⟨xs, q, Nat.le_refl _⟩, hd H p⟩
/-- rows of ints compared -/
theorem eqvAll_ints : ∀ xs ys : List Int, PyData.eqvAll (xs.map PyData.int) (ys.map PyData.int) = decide (xs = ys)
  | [], [] => rfl
  | [], _ :: _ => rfl
  | _ :: _, [] => rfl
  | x :: xs, y :: ys => by
    show (PyData.eqv (.int x) (.int y) && PyData.eqvAll (xs.map PyData.int) (ys.map PyData.int)) = _
    rw [eqvAll_ints xs ys]
    show (x == y && decide (xs = ys)) = _
    by_cases h1 : x = y
    · subst h1
      by_cases h2 : xs = ys
      · subst h2
        simp
      · simp [h2]
    · simp [h1]
theorem eqv_lists (xs ys : List Int) : PyData.eqv (.list (xs.map PyData.int)) (.list (ys.map PyData.int)) = decide (xs = ys) := eqvAll_ints xs ys
theorem nV_map (os : List Nat) : nV os = (os.map fun (i : Nat) => (i : Int)).map V.int := by
  unfold nV
  rw [List.map_map]
  rfl
theorem cast_inj {xs ys : List Nat} : (xs.map fun (i : Nat) => (i : Int)) = (ys.map fun (i : Nat) => (i : Int)) ↔ xs = ys := by
  constructor
  · intro h
    have h2 := congrArg (List.map Int.toNat) h
    rw [List.map_map, List.map_map] at h2
    have e : ∀ l : List Nat, l.map (Int.toNat ∘ fun (i : Nat) => (i : Int)) = l := fun l => by
      calc _ = l.map id := List.map_congr_left fun i _ => by simp
        _ = l := List.map_id l
    rw [e, e] at h2
    exact h2
  · intro h
    rw [h]
end L2
namespace L2
open PySem PySem.Spec PyProof.Rows
theorem cut_take (xs : List V) (k : Nat) : cutV xs none (some (k : Int)) = xs.take k := by
  unfold cutV
  rw [HT.sIx_none, HT.sIx_nat, List.drop_zero, Nat.sub_zero]
  by_cases h : k ≤ xs.length
  · rw [Nat.min_eq_left h]
  · rw [Nat.min_eq_right (by omega), List.take_of_length_le (Nat.le_refl _), List.take_of_length_le (by omega)]
theorem cut_drop (xs : List V) (k : Nat) : cutV xs (some (k : Int)) none = xs.drop k := by
  unfold cutV
  rw [HT.sIx_none, HT.sIx_nat]
  by_cases h : k ≤ xs.length
  · rw [Nat.min_eq_left h]
    exact List.take_of_length_le (by rw [List.length_drop]; exact Nat.le_refl _)
  · rw [Nat.min_eq_right (by omega), List.drop_of_length_le (Nat.le_refl _), List.drop_of_length_le (by omega), List.take_nil]
/-- an item is put in where all ahead are ahead of it and all behind behind it -/
theorem put_stab {f : Nat → Int} {i pl : Nat} {os : List Nat} (s : Stab f i os) (h1 : ∀ x ∈ os.take pl, Lx f x i) (h2 : ∀ x ∈ os.drop pl, Lx f i x) : Stab f (i + 1) (os.take pl ++ [i] ++ os.drop pl) := by
  have e : os.take pl ++ os.drop pl = os := List.take_append_drop pl os
  constructor
  · have p1 : (os.take pl ++ [i] ++ os.drop pl).Perm ((os.take pl ++ os.drop pl) ++ [i]) := by
      rw [List.append_assoc, List.append_assoc]
      exact List.Perm.append_left _ List.perm_append_comm
    rw [e] at p1
    refine p1.trans ?_
    rw [List.range_succ]
    exact s.perm.append_right [i]
  · have so := s.sort
    rw [← e, List.pairwise_append] at so
    rw [List.append_assoc, List.pairwise_append]
    refine ⟨so.1, List.pairwise_cons.mpr ⟨h2, so.2.1⟩, fun x hx y hy => ?_⟩
    rcases List.mem_cons.mp hy with rfl | hy
    · exact h1 x hx
    · exact so.2.2 x hx y hy
end L2

namespace L2
open PySem PySem.Spec PyProof.Rows
/-! ### o[lo:hi] = another list -/
def gSlice (to : TE) (tl th : TO) : TG := fun v σ H Q => to σ H fun o H1 => tl σ H1 fun lo H2 => th σ H2 fun hi H3 =>
  ∃ (l b : Addr) (xs ys : List V) (a c : Int), o = .ref l ∧ v = .ref b ∧ lo = some a ∧ hi = some c ∧ H3 l = some (.lst xs) ∧ H3 b = some (.lst ys) ∧ l ≠ b ∧ 0 ≤ a ∧ a ≤ c ∧ c ≤ xs.length ∧ xs.length + ys.length ≤ sizeLine ∧
    Q σ (upd H3 l (.lst (xs.take a.toNat ++ ys ++ xs.drop c.toNat)))
theorem part_int {u : Value} {i : Int} (h : IsPart u (some i)) : RelV (.int i) u := by
  cases h
  exact ⟨_, rfl⟩
theorem pg_slice {X : Cx} {o : Expr} {lo hi : Option Expr} {to : TE} {tl th : TO} {p2 pos : Pos} (ho : PE X o to) (hl : PO X lo tl) (hu : PO X hi th)
    (ha : ∀ v, assign (.Subscript o (.Slice lo hi none p2) pos) X.env v = (do
      let ov ← holding [v] (eval o X.env)
      let iv ← holding [v, ov] (eval (.Slice lo hi none p2) X.env)
      standAt pos
      holding [v, ov, iv] (setItem ov iv v)
      release [iv, v, ov] []) := by intro _; rfl) : PG X (.Subscript o (.Slice lo hi none p2) pos) (gSlice to tl th) := by
  refine ⟨fun pins s σ H v u Q I r h => ?_⟩
  rw [ha]
  refine wpAny_bind (wpAny_holding (thn (ho.run pins s σ H _ I h) fun ov s1 ⟨x, H1, I1, r1, q1⟩ => ?_))
  refine wpAny_bind (wpAny_holding (wpAny_Slice (thn (hl.run pins s1 σ H1 _ I1 q1) fun vl s2 ⟨l, H2, I2, pl, q2⟩ => thn (hu.run pins s2 σ H2 _ I2 q2) fun vu s3 ⟨w', H3, I3, pu, q3⟩ => ?_)))
  rw [evalPart_none]
  refine wpAny_pure ?_
  have I4 : Inv X pins σ H3 { s3 with heap := s3.heap.push { cls := .type "slice", data := .fields #[vl, vu, .none] } } := I3.kept (t' := s3.toks) fun b ob q => Heap.get?_push_of_some _ q
  obtain ⟨li, b, xs, ys, a, c, rfl, rfl, rfl, rfl, hX, hB, ne, h0, hac, hc, hz, q⟩ := q3
  cases r1
  cases r
  refine wpAny_bind (wpAny_standAt (wpAny_bind (wpAny_holding ?_)))
  refine set_slice I4 hX hB ne (Heap.IsSliceOf.new ..) (part_int pl) (part_int pu) h0 hac hc hz fun s5 I5 => ?_
  exact wpAny_release ⟨σ, _, I5, q⟩
end L2
namespace L2
open PySem PySem.Spec PyProof.Rows
/-! ### how a run is found: the state, step by step -/
structure RF where
  row : List Nat
  pl : Nat
  eq : Nat
  st : Nat
  wt : Option (Nat × Nat)
  ln : Option Nat
namespace RF
def turned (row : List Nat) (lo hi : Nat) : List Nat := row.take lo ++ ((row.drop lo).take (hi - lo)).reverse ++ row.drop hi
def turn (f : RF) (lo : Nat) : RF := { f with row := turned f.row lo f.pl }
def finish (s : Nat) (f : RF) : RF := { f with ln := some (f.pl - s), wt := none }
def turnEq (f : RF) : RF := if 0 < f.eq then { f.turn (f.pl - f.eq - 1) with eq := 0 } else f
def askUp (s e : Nat) (f : RF) : RF := if f.pl < e then { f with wt := some (f.row.getD f.pl 0, f.row.getD (f.pl - 1) 0) } else finish s f
def rise (s e : Nat) (f : RF) : RF := askUp s e { (turnEq f).turn s with st := 5 }
def ask (s e : Nat) (f : RF) : RF := if f.pl < e then { f with wt := some (f.row.getD f.pl 0, f.row.getD (f.pl - 1) 0) } else if f.st = 3 then rise s e f else finish s f
def goOn (s e : Nat) (f : RF) : RF := ask s e { f with pl := f.pl + 1 }
def fall (s e : Nat) (f : RF) : RF := goOn s e { f with st := 3 }
def take1 (s e : Nat) (b : Bool) (f : RF) : RF := if b = false then goOn s e f else if f.pl = s + 1 then fall s e f else { f with st := 2, wt := some (f.row.getD s 0, f.row.getD (f.pl - 1) 0) }
def take2 (s e : Nat) (b : Bool) (f : RF) : RF := if b = true then finish s f else fall s e (f.turn s)
def take3 (s e : Nat) (b : Bool) (f : RF) : RF := if b = true then goOn s e (turnEq f) else { f with st := 4, wt := some (f.row.getD (f.pl - 1) 0, f.row.getD f.pl 0) }
def take4 (s e : Nat) (b : Bool) (f : RF) : RF := if b = true then rise s e f else goOn s e { f with eq := f.eq + 1, st := 3 }
def take5 (s e : Nat) (b : Bool) (f : RF) : RF := if b = true then finish s f else goOn s e f
def take (s e : Nat) (b : Bool) (f : RF) : RF := if f.st = 1 then take1 s e b f else if f.st = 2 then take2 s e b f else if f.st = 3 then take3 s e b f else if f.st = 4 then take4 s e b f else take5 s e b f
def init (row : List Nat) (s e : Nat) : RF := ask s e { row := row, pl := s + 1, eq := 0, st := 1, wt := none, ln := none }
/-- what holds between the steps -/
structure WF (s e : Nat) (f : RF) : Prop where
  sp : s < f.pl
  pe : f.pl ≤ e
  er : e ≤ f.row.length
  eq : f.eq + s < f.pl
  rl : f.row.length ≤ 2000
theorem turned_len {row : List Nat} {lo hi : Nat} (h : lo ≤ hi) (h2 : hi ≤ row.length) : (turned row lo hi).length = row.length := by
  unfold turned
  rw [List.length_append, List.length_append, List.length_take, List.length_reverse, List.length_take, List.length_drop, List.length_drop]
  omega
variable {s e : Nat} {f : RF}
theorem WF.turn (w : WF s e f) {lo : Nat} (h : lo ≤ f.pl) : WF s e (f.turn lo) := by
  obtain ⟨a, b, c, d, g⟩ := w
  have l : (f.turn lo).row.length = f.row.length := turned_len h (by omega)
  exact ⟨a, b, by rw [l]; exact c, d, by rw [l]; exact g⟩
theorem WF.turnEq (w : WF s e f) : WF s e f.turnEq := by
  unfold RF.turnEq
  split
  · have w2 := w.turn (lo := f.pl - f.eq - 1) (by omega)
    exact ⟨w2.sp, w2.pe, w2.er, by show 0 + s < f.pl; have := w.sp; omega, w2.rl⟩
  · exact w
theorem turnEq_pl (f : RF) : f.turnEq.pl = f.pl := by
  unfold RF.turnEq
  split <;> rfl
theorem turnEq_st (f : RF) : f.turnEq.st = f.st := by
  unfold RF.turnEq
  split <;> rfl
end RF
def lenV : Option Nat → V
  | none => .non
  | some n => .int (n : Int)
def flds (r : Addr) (s e : Nat) (f : RF) (wv : V) : List (Str × V) :=
  [("row", .ref r), ("start", .int (s : Int)), ("end", .int (e : Int)), ("place", .int (f.pl : Int)), ("equal", .int (f.eq : Int)), ("step", .int (f.st : Int)), ("waiting", wv), ("length", lenV f.ln)]
def WaitAt (H : Hp) (wv : V) : Option (Nat × Nat) → Prop
  | none => wv = .non
  | some (i, j) => ∃ t, wv = .ref t ∧ H t = some (.tup [.int (i : Int), .int (j : Int)])
theorem WaitAt.keep {H H' : Hp} {wv : V} {o : Option (Nat × Nat)} (h : WaitAt H wv o) (k : ∀ t i j, H t = some (.tup [.int i, .int j]) → H' t = some (.tup [.int i, .int j])) : WaitAt H' wv o := by
  cases o with
  | none => exact h
  | some p =>
    obtain ⟨t, e, ht⟩ := h
    exact ⟨t, e, k _ _ _ ht⟩
theorem WaitAt.upd {H : Hp} {wv : V} {o : Option (Nat × Nat)} {x : Addr} {u v : HO} (h : WaitAt H wv o) (hx : H x = some u) (hn : ∀ i j, u ≠ .tup [.int i, .int j]) : WaitAt (L2.upd H x v) wv o :=
  h.keep fun t i j ht => by
    rw [upd_ne (ne_of ht hx (fun e => hn i j e.symm))]
    exact ht
/-- the finder at x, its row at r -/
def FAt (C : Addr) (H : Hp) (x r : Addr) (s e : Nat) (f : RF) : Prop := x ≠ r ∧ ∃ dx wv, H x = some (.ins C dx (flds r s e f wv)) ∧ WaitAt H wv f.wt ∧ H r = some (.lst (nV f.row))
/-- all but x and r stands -/
def Fr2 (x r : Addr) (H H' : Hp) : Prop := ∀ b o, b ≠ x → b ≠ r → H b = some o → H' b = some o
theorem Fr2.refl (x r : Addr) (H : Hp) : Fr2 x r H H := fun _ _ _ _ h => h
theorem Fr2.trans {x r : Addr} {H H1 H2 : Hp} (a : Fr2 x r H H1) (b : Fr2 x r H1 H2) : Fr2 x r H H2 := fun c o n m h => b c o n m (a c o n m h)
theorem Fr2.of {x r : Addr} {H H' : Hp} (a : Same H H') : Fr2 x r H H' := fun c o _ _ h => a c o h
theorem Fr2.putx {x r : Addr} {H : Hp} {u : HO} : Fr2 x r H (L2.upd H x u) := fun c o n _ h => by rw [upd_ne n]; exact h
theorem Fr2.putr {x r : Addr} {H : Hp} {u : HO} : Fr2 x r H (L2.upd H r u) := fun c o _ m h => by rw [upd_ne m]; exact h
theorem FAt.same {C : Addr} {H H' : Hp} {x r : Addr} {s e : Nat} {f : RF} (h : FAt C H x r s e f) (k : Same H H') : FAt C H' x r s e f := by
  obtain ⟨n, dx, wv, hx, hw, hr⟩ := h
  exact ⟨n, dx, wv, k _ _ hx, hw.keep (fun _ _ _ => k _ _), k _ _ hr⟩
end L2

namespace L2
open PySem PySem.Spec PyProof.Rows
theorem cut_mid (xs : List V) (a b : Nat) (h : a ≤ b) (hb : b ≤ xs.length) : cutV xs (some (a : Int)) (some (b : Int)) = (xs.drop a).take (b - a) := by
  unfold cutV
  rw [HT.sIx_nat, HT.sIx_nat, Nat.min_eq_left hb, Nat.min_eq_left (Nat.le_trans h hb)]
theorem nV_turned (row : List Nat) (lo hi : Nat) : (nV row).take lo ++ (((nV row).drop lo).take (hi - lo)).reverse ++ (nV row).drop hi = nV (RF.turned row lo hi) := by
  unfold RF.turned
  simp only [List.map_append, List.map_take, List.map_drop, List.map_reverse]
theorem nV_get {row : List Nat} {i : Nat} (h : i < row.length) : atI (nV row) (i : Int) = some (.int ((row.getD i 0 : Nat) : Int)) := by
  refine atI_nat ?_
  rw [List.getElem?_map, List.getElem?_eq_getElem h]
  simp [List.getD_eq_getElem?_getD, List.getElem?_eq_getElem h]
theorem FAt.put {C x r : Addr} {H : Hp} {s e : Nat} {f f' : RF} {dx : Addr} {wv wv' : V} (h : FAt C H x r s e f) (hx : H x = some (.ins C dx (flds r s e f wv))) (er : f'.row = f.row) (hw : WaitAt H wv' f'.wt) {w : List (Str × V)} (ew : w = flds r s e f' wv') :
    FAt C (upd H x (.ins C dx w)) x r s e f' := by
  obtain ⟨n, _, _, _, _, hr⟩ := h
  subst ew
  refine ⟨n, dx, wv', upd_same, hw.upd hx (fun i j e => by cases e), ?_⟩
  rw [upd_ne n.symm, er]
  exact hr
/-- an attribute is set -/
theorem FAt.set {C x r : Addr} {H : Hp} {s e : Nat} {f : RF} {dx : Addr} {wv : V} (h : FAt C H x r s e f) (hx : H x = some (.ins C dx (flds r s e f wv))) (f' : RF) (wv' : V) (er : f'.row = f.row) (hw : WaitAt H wv' f'.wt) {w : List (Str × V)} (ew : w = flds r s e f' wv') :
    FAt C (upd H x (.ins C dx w)) x r s e f' ∧ upd H x (.ins C dx w) x = some (.ins C dx (flds r s e f' wv')) ∧ Fr2 x r H (upd H x (.ins C dx w)) := by
  subst ew
  exact ⟨h.put hx er hw rfl, upd_same, Fr2.putx⟩
theorem FAt.wait {C x r : Addr} {H : Hp} {s e : Nat} {f : RF} {dx : Addr} {wv : V} (h : FAt C H x r s e f) (hx : H x = some (.ins C dx (flds r s e f wv))) : WaitAt H wv f.wt := by
  obtain ⟨_, dx2, wv2, hx2, hw, _⟩ := h
  rw [hx] at hx2
  have e1 : flds r s e f wv = flds r s e f wv2 := (HO.ins.inj (Option.some.inj hx2)).2.2
  have e3 : some wv = some wv2 := congrArg (fun l : List (Str × V) => l.lookup ("waiting" : Str)) e1
  rw [Option.some.inj e3]
  exact hw
theorem FAt.putRow {C x r : Addr} {H : Hp} {s e : Nat} {f : RF} (h : FAt C H x r s e f) {row : List Nat} {w : List V} (ew : w = nV row) :
    FAt C (upd H r (.lst w)) x r s e { f with row := row } := by
  obtain ⟨n, dx, wv, hx, hw, hr⟩ := h
  subst ew
  refine ⟨n, dx, wv, ?_, hw.upd hr (fun i j e => by cases e), upd_same⟩
  rw [upd_ne n]
  exact hx
def spF0 (C : Addr) (pre : Nat → Nat → RF → Prop) (fn : Nat → Nat → RF → RF) : Sp := fun vs H Q _ => ∃ (x r : Addr) (s e : Nat) (f : RF), vs = [.ref x] ∧ FAt C H x r s e f ∧ RF.WF s e f ∧ pre s e f ∧ ∀ H', FAt C H' x r s e (fn s e f) → Fr2 x r H H' → Q .non H'
def spG (C : Addr) (fn : Nat → Nat → RF → RF) : Sp := fun vs H Q _ => ∃ (x r : Addr) (s e : Nat) (f : RF), vs = [.ref x] ∧ FAt C H x r s e f ∧ RF.WF s e { f with pl := f.pl + 1 } ∧ ∀ H', FAt C H' x r s e (fn s e f) → Fr2 x r H H' → Q .non H'
def spInit (C : Addr) : Sp := fun vs H Q _ => ∃ (x dx r : Addr) (s e : Nat) (row : List Nat), vs = [.ref x, .ref r, .int (s : Int), .int (e : Int)] ∧ H x = some (.ins C dx []) ∧ H r = some (.lst (nV row)) ∧ x ≠ r ∧ s < e ∧ e ≤ row.length ∧ row.length ≤ 2000 ∧ ∀ H', FAt C H' x r s e (RF.init row s e) → Fr2 x r H H' → Q .non H'
def spF1 (C : Addr) (pre : Nat → Nat → RF → Prop) (fn : Nat → Nat → Bool → RF → RF) : Sp := fun vs H Q _ => ∃ (x r : Addr) (s e : Nat) (f : RF) (b : Bool), vs = [.ref x, .bl b] ∧ FAt C H x r s e f ∧ RF.WF s e f ∧ pre s e f ∧ ∀ H', FAt C H' x r s e (fn s e b f) → Fr2 x r H H' → Q .non H'
def spTurn (C : Addr) : Sp := fun vs H Q _ => ∃ (x r : Addr) (s e lo : Nat) (f : RF), vs = [.ref x, .int (lo : Int)] ∧ FAt C H x r s e f ∧ RF.WF s e f ∧ lo ≤ f.pl ∧ ∀ H', FAt C H' x r s e (f.turn lo) → Fr2 x r H H' → Q .non H'
theorem dnF {n m : Nat} (h : n ≠ m) : V.bl (decide (V.int (n : Int) = V.int (m : Int))) = .bl false := by
  refine congrArg V.bl (decide_eq_false fun e => h ?_)
  have := V.int.inj e
  omega
theorem dnT {n m : Nat} (h : n = m) : V.bl (decide (V.int (n : Int) = V.int (m : Int))) = .bl true := congrArg V.bl (decide_eq_true (by rw [h]))
def noP (_ _ : Nat) (_ : RF) : Prop := True
namespace RF
variable {s e : Nat} {f : RF}
theorem WF.rowSame (w : WF s e f) {f' : RF} (h1 : f'.row = f.row) (h2 : f'.pl = f.pl) (h3 : f'.eq = f.eq) : WF s e f' := by
  obtain ⟨a, b, c, d, g⟩ := w
  exact ⟨by rw [h2]; exact a, by rw [h2]; exact b, by rw [h1]; exact c, by rw [h2, h3]; exact d, by rw [h1]; exact g⟩
theorem WF.finish (w : WF s e f) : WF s e (f.finish s) := w.rowSame rfl rfl rfl
theorem WF.askUp (w : WF s e f) : WF s e (f.askUp s e) := by
  unfold RF.askUp
  split
  · exact w.rowSame rfl rfl rfl
  · exact w.finish
theorem WF.pre5 (w : WF s e f) : WF s e { ((RF.turnEq f).turn s : RF) with st := 5 } := by
  have w1 := w.turnEq
  exact (w1.turn (Nat.le_of_lt w1.sp)).rowSame rfl rfl rfl
theorem WF.rise (w : WF s e f) : WF s e (f.rise s e) := w.pre5.askUp
theorem WF.ask (w : WF s e f) : WF s e (f.ask s e) := by
  unfold RF.ask
  split
  · exact w.rowSame rfl rfl rfl
  · split
    · exact w.rise
    · exact w.finish
theorem WF.next (w : WF s e f) (h : f.pl < e) : WF s e { f with pl := f.pl + 1 } := by
  obtain ⟨a, b, c, d, g⟩ := w
  exact ⟨by show s < f.pl + 1; omega, h, c, by show f.eq + s < f.pl + 1; omega, g⟩
theorem WF.goOn (w : WF s e f) (h : f.pl < e) : WF s e (f.goOn s e) := (w.next h).ask
theorem WF.st (w : WF s e f) (k : Nat) : WF s e { f with st := k } := w.rowSame rfl rfl rfl
theorem WF.fall (w : WF s e f) (h : f.pl < e) : WF s e (f.fall s e) := (w.st 3).goOn h
theorem WF.eq1 (w : WF s e f) (h : f.pl < e) : WF s e { f with eq := f.eq + 1, pl := f.pl + 1, st := 3 } := by
  obtain ⟨a, b, c, d, g⟩ := w
  exact ⟨by show s < f.pl + 1; omega, h, c, by show f.eq + 1 + s < f.pl + 1; omega, g⟩
theorem WF.take (w : WF s e f) (h : f.pl < e) (b : Bool) : WF s e (f.take s e b) := by
  unfold RF.take
  split
  · unfold RF.take1
    split
    · exact w.goOn h
    · split
      · exact w.fall h
      · exact w.rowSame rfl rfl rfl
  · split
    · unfold RF.take2
      split
      · exact w.finish
      · exact (w.turn (Nat.le_of_lt w.sp)).fall h
    · split
      · unfold RF.take3
        split
        · exact w.turnEq.goOn (by rw [turnEq_pl]; exact h)
        · exact w.rowSame rfl rfl rfl
      · split
        · unfold RF.take4
          split
          · exact w.rise
          · exact (w.eq1 h).ask
        · unfold RF.take5
          split
          · exact w.finish
          · exact w.goOn h
/-- what waits is asked ahead of the end -/
def Ahead (e : Nat) (f : RF) : Prop := f.wt ≠ none → f.pl < e
theorem ahead_fin : Ahead e (f.finish s) := fun h => absurd rfl h
theorem ahead_askUp : Ahead e (f.askUp s e) := by
  unfold RF.askUp
  split
  · rename_i h
    exact fun _ => h
  · exact ahead_fin
theorem ahead_ask : Ahead e (f.ask s e) := by
  unfold RF.ask
  split
  · rename_i h
    exact fun _ => h
  · split
    · exact ahead_askUp
    · exact ahead_fin
theorem ahead_take (h : f.pl < e) (b : Bool) : Ahead e (f.take s e b) := by
  unfold RF.take
  split
  · unfold RF.take1
    split
    · exact ahead_ask
    · split
      · exact ahead_ask
      · exact fun _ => h
  · split
    · unfold RF.take2
      split
      · exact ahead_fin
      · exact ahead_ask
    · split
      · unfold RF.take3
        split
        · exact ahead_ask
        · exact fun _ => h
      · split
        · unfold RF.take4
          split
          · exact ahead_askUp
          · exact ahead_ask
        · unfold RF.take5
          split
          · exact ahead_fin
          · exact ahead_ask
end RF
end L2

namespace L2
open PySem PySem.Spec PyProof.Rows
namespace RF
variable {s e : Nat} {f : RF}
/-! rows stay rows of the same items -/
theorem turned_perm {row : List Nat} {lo hi : Nat} (h : lo ≤ hi) : (turned row lo hi).Perm row := by
  unfold turned
  have e1 : row = row.take lo ++ (row.drop lo).take (hi - lo) ++ row.drop hi := by
    have a1 : row.drop hi = (row.drop lo).drop (hi - lo) := by
      rw [List.drop_drop]
      congr 1
      omega
    rw [a1, List.append_assoc, List.take_append_drop, List.take_append_drop]
  have e2 : (row.take lo ++ ((row.drop lo).take (hi - lo)).reverse ++ row.drop hi).Perm (row.take lo ++ (row.drop lo).take (hi - lo) ++ row.drop hi) :=
    List.Perm.append_right _ (List.Perm.append_left _ (List.reverse_perm _))
  exact e2.trans (by rw [← e1])
theorem turn_perm (lo : Nat) (h : lo ≤ f.pl) : (f.turn lo).row.Perm f.row := turned_perm h
theorem turnEq_perm : f.turnEq.row.Perm f.row := by
  unfold RF.turnEq
  split
  · exact turned_perm (by omega)
  · exact List.Perm.refl _
theorem askUp_row : (f.askUp s e).row = f.row := by
  unfold RF.askUp
  split <;> rfl
theorem rise_perm (w : WF s e f) : (f.rise s e).row.Perm f.row := by
  unfold RF.rise
  rw [askUp_row]
  have w1 := w.turnEq
  exact (turn_perm s (Nat.le_of_lt w1.sp)).trans turnEq_perm
theorem ask_perm (w : WF s e f) : (f.ask s e).row.Perm f.row := by
  unfold RF.ask
  split
  · exact List.Perm.refl _
  · split
    · exact rise_perm w
    · exact List.Perm.refl _
theorem take_perm (w : WF s e f) (h : f.pl < e) (b : Bool) : (f.take s e b).row.Perm f.row := by
  unfold RF.take
  split
  · unfold RF.take1
    split
    · exact ask_perm (w.next h)
    · split
      · exact ask_perm ((w.st 3).next h)
      · exact List.Perm.refl _
  · split
    · unfold RF.take2
      split
      · exact List.Perm.refl _
      · exact (ask_perm (((w.turn (Nat.le_of_lt w.sp)).st 3).next h)).trans (turn_perm s (Nat.le_of_lt w.sp))
    · split
      · unfold RF.take3
        split
        · exact (ask_perm (w.turnEq.next (by rw [turnEq_pl]; exact h))).trans turnEq_perm
        · exact List.Perm.refl _
      · split
        · unfold RF.take4
          split
          · exact rise_perm w
          · exact ask_perm (w.eq1 h)
        · unfold RF.take5
          split
          · exact List.Perm.refl _
          · exact ask_perm (w.next h)
/-! a measure: how many questions may still come -/
def stw (k : Nat) : Nat := if k = 1 then 1 else if k = 3 then 2 else if k = 4 then 1 else 0
theorem stw_le (k : Nat) : stw k ≤ 2 := by
  unfold stw
  split
  · omega
  · split
    · omega
    · split <;> omega
def mu (e : Nat) (f : RF) : Nat := if f.wt = none then 0 else 1 + 3 * (e - f.pl) + stw f.st
theorem mu_le (e : Nat) (f : RF) : mu e f ≤ 1 + 3 * (e - f.pl) + stw f.st := by
  unfold mu
  split <;> omega
theorem mu_fin : mu e (f.finish s) = 0 := rfl
theorem mu_askUp : mu e (f.askUp s e) ≤ 1 + 3 * (e - f.pl) + stw f.st := by
  unfold RF.askUp
  split
  · exact mu_le e _
  · rw [mu_fin]
    omega
theorem rise_pl : (f.turnEq.turn s).pl = f.pl := turnEq_pl f
theorem mu_rise : mu e (f.rise s e) ≤ 1 + 3 * (e - f.pl) := by
  unfold RF.rise
  refine Nat.le_trans mu_askUp ?_
  show 1 + 3 * (e - (f.turnEq.turn s).pl) + 0 ≤ _
  rw [rise_pl]
  omega
theorem mu_ask : mu e (f.ask s e) ≤ 1 + 3 * (e - f.pl) + stw f.st := by
  unfold RF.ask
  split
  · exact mu_le e _
  · split
    · have := mu_rise (s := s) (e := e) (f := f)
      omega
    · rw [mu_fin]
      omega
theorem mu_goOn : mu e (f.goOn s e) ≤ 1 + 3 * (e - (f.pl + 1)) + stw f.st := mu_ask
theorem mu_fall : mu e (f.fall s e) ≤ 1 + 3 * (e - (f.pl + 1)) + 2 := mu_ask
theorem mu_take (hw : f.wt ≠ none) (h : f.pl < e) (b : Bool) : mu e (f.take s e b) < mu e f := by
  have h0 : mu e f = 1 + 3 * (e - f.pl) + stw f.st := by
    unfold mu
    rw [if_neg hw]
  rw [h0]
  unfold RF.take
  split
  · rename_i h1
    rw [show stw f.st = 1 by rw [h1]; rfl]
    unfold RF.take1
    split
    · have := mu_goOn (s := s) (e := e) (f := f)
      rw [show stw f.st = 1 by rw [h1]; rfl] at this
      omega
    · split
      · have := mu_fall (s := s) (e := e) (f := f)
        omega
      · have := mu_le e { f with st := 2, wt := some (f.row.getD s 0, f.row.getD (f.pl - 1) 0) }
        have e2 : stw ({ f with st := 2, wt := some (f.row.getD s 0, f.row.getD (f.pl - 1) 0) } : RF).st = 0 := rfl
        rw [e2] at this
        have e3 : ({ f with st := 2, wt := some (f.row.getD s 0, f.row.getD (f.pl - 1) 0) } : RF).pl = f.pl := rfl
        rw [e3] at this
        omega
  · split
    · rename_i h1
      unfold RF.take2
      split
      · rw [mu_fin]
        omega
      · have := mu_fall (s := s) (e := e) (f := f.turn s)
        have e3 : (f.turn s).pl = f.pl := rfl
        rw [e3] at this
        omega
    · split
      · rename_i h1
        rw [show stw f.st = 2 by rw [h1]; rfl]
        unfold RF.take3
        split
        · have := mu_goOn (s := s) (e := e) (f := f.turnEq)
          rw [turnEq_pl, turnEq_st, show stw f.st = 2 by rw [h1]; rfl] at this
          omega
        · have := mu_le e { f with st := 4, wt := some (f.row.getD (f.pl - 1) 0, f.row.getD f.pl 0) }
          have e2 : stw ({ f with st := 4, wt := some (f.row.getD (f.pl - 1) 0, f.row.getD f.pl 0) } : RF).st = 1 := rfl
          rw [e2] at this
          have e3 : ({ f with st := 4, wt := some (f.row.getD (f.pl - 1) 0, f.row.getD f.pl 0) } : RF).pl = f.pl := rfl
          rw [e3] at this
          omega
      · split
        · rename_i h1
          rw [show stw f.st = 1 by rw [h1]; rfl]
          unfold RF.take4
          split
          · have := mu_rise (s := s) (e := e) (f := f)
            omega
          · have := mu_goOn (s := s) (e := e) (f := { f with eq := f.eq + 1, st := 3 })
            have e2 : stw ({ f with eq := f.eq + 1, st := 3 } : RF).st = 2 := rfl
            rw [e2] at this
            have e3 : ({ f with eq := f.eq + 1, st := 3 } : RF).pl = f.pl := rfl
            rw [e3] at this
            omega
        · unfold RF.take5
          split
          · rw [mu_fin]
            omega
          · have := mu_goOn (s := s) (e := e) (f := f)
            omega
/-! what waits are two items of the row -/
def Two (f : RF) : Prop := ∀ q, f.wt = some q → ∃ k l, q = (f.row.getD k 0, f.row.getD l 0) ∧ k < f.row.length ∧ l < f.row.length ∧ k ≠ l
theorem two_none (h : f.wt = none) : Two f := fun q e => by rw [h] at e; cases e
theorem two_mk {f : RF} {k l : Nat} (h : f.wt = some (f.row.getD k 0, f.row.getD l 0)) (h1 : k < f.row.length) (h2 : l < f.row.length) (h3 : k ≠ l) : Two f := fun q e => by
  rw [h] at e
  exact ⟨k, l, (Option.some.inj e).symm, h1, h2, h3⟩
theorem two_up {f' : RF} (a : 0 < f'.pl) (c : e ≤ f'.row.length) : Two (f'.askUp s e) := by
  unfold RF.askUp
  split
  · rename_i h
    exact two_mk (k := f'.pl) (l := f'.pl - 1) rfl (by show f'.pl < f'.row.length; omega) (by show f'.pl - 1 < f'.row.length; omega) (by omega)
  · exact two_none rfl
theorem two_rise (w : WF s e f) : Two (f.rise s e) := by
  have w2 := w.pre5
  exact two_up (Nat.lt_of_le_of_lt (Nat.zero_le _) w2.sp) w2.er
theorem two_ask (w : WF s e f) : Two (f.ask s e) := by
  have := w.sp; have := w.er
  unfold RF.ask
  split
  · rename_i h
    exact two_mk (k := f.pl) (l := f.pl - 1) rfl (by show f.pl < f.row.length; omega) (by show f.pl - 1 < f.row.length; omega) (by omega)
  · split
    · exact two_rise w
    · exact two_none rfl
theorem two_take (w : WF s e f) (h : f.pl < e) (b : Bool) : Two (f.take s e b) := by
  have b1 := w.sp; have b2 := w.er
  unfold RF.take
  split
  · unfold RF.take1
    split
    · exact two_ask (w.next h)
    · split
      · exact two_ask ((w.st 3).next h)
      · exact two_mk (k := s) (l := f.pl - 1) rfl (by show s < f.row.length; omega) (by show f.pl - 1 < f.row.length; omega) (by omega)
  · split
    · unfold RF.take2
      split
      · exact two_none rfl
      · exact two_ask (((w.turn (Nat.le_of_lt w.sp)).st 3).next h)
    · split
      · unfold RF.take3
        split
        · exact two_ask (w.turnEq.next (by rw [turnEq_pl]; exact h))
        · exact two_mk (k := f.pl - 1) (l := f.pl) rfl (by show f.pl - 1 < f.row.length; omega) (by show f.pl < f.row.length; omega) (by omega)
      · split
        · unfold RF.take4
          split
          · exact two_rise w
          · exact two_ask (w.eq1 h)
        · unfold RF.take5
          split
          · exact two_none rfl
          · exact two_ask (w.next h)
/-! the length is there when nothing waits -/
def Len (s : Nat) (f : RF) : Prop := (f.wt = none → f.ln = some (f.pl - s)) ∧ (f.wt ≠ none → f.ln = none)
theorem len_fin : Len s (f.finish s) := ⟨fun _ => rfl, fun h => absurd rfl h⟩
theorem len_some {f : RF} {q : Nat × Nat} (h : f.wt = some q) (h2 : f.ln = none) : Len s f := ⟨fun e => (by rw [h] at e; cases e), fun _ => h2⟩
theorem turnEq_ln (f : RF) : f.turnEq.ln = f.ln := by
  unfold RF.turnEq
  split <;> rfl
theorem len_up {f' : RF} (h : f'.ln = none) : Len s (f'.askUp s e) := by
  unfold RF.askUp
  split
  · exact len_some rfl h
  · exact len_fin
theorem len_rise (h : f.ln = none) : Len s (f.rise s e) := len_up (by show f.turnEq.ln = none; rw [turnEq_ln]; exact h)
theorem len_ask {f : RF} (h : f.ln = none) : Len s (f.ask s e) := by
  unfold RF.ask
  split
  · exact len_some rfl h
  · split
    · exact len_rise h
    · exact len_fin
theorem len_take (h : f.ln = none) (b : Bool) : Len s (f.take s e b) := by
  unfold RF.take
  split
  · unfold RF.take1
    split
    · exact len_ask h
    · split
      · exact len_ask h
      · exact len_some rfl h
  · split
    · unfold RF.take2
      split
      · exact len_fin
      · exact len_ask h
    · split
      · unfold RF.take3
        split
        · exact len_ask (by show f.turnEq.ln = none; rw [turnEq_ln]; exact h)
        · exact len_some rfl h
      · split
        · unfold RF.take4
          split
          · exact len_rise h
          · exact len_ask h
        · unfold RF.take5
          split
          · exact len_fin
          · exact len_ask h
/-! all that holds while a run is found -/
structure Good (s e : Nat) (row0 : List Nat) (f : RF) : Prop where
  wf : WF s e f
  ah : Ahead e f
  pm : f.row.Perm row0
  tw : Two f
  le : Len s f
/-- an item of a row of all n -/
theorem item_lt {row row0 : List Nat} {n k : Nat} (h : row.Perm row0) (h0 : row0.Perm (List.range n)) (hk : k < row.length) : row.getD k 0 < n := by
  refine List.mem_range.mp ((h.trans h0).mem_iff.mp ?_)
  rw [List.getD_eq_getElem?_getD, List.getElem?_eq_getElem hk]
  exact List.getElem_mem hk
theorem Good.items {row0 : List Nat} {n : Nat} (g : Good s e row0 f) (h0 : row0.Perm (List.range n)) {q : Nat × Nat} (h : f.wt = some q) : q.1 < n ∧ q.2 < n ∧ q.1 ≠ q.2 := by
  obtain ⟨k, l, rfl, h1, h2, h3⟩ := g.tw q h
  refine ⟨item_lt g.pm h0 h1, item_lt g.pm h0 h2, fun e => h3 ?_⟩
  have nd : f.row.Nodup := (g.pm.trans h0).nodup_iff.mpr List.nodup_range
  have e2 : f.row.getD k 0 = f.row.getD l 0 := e
  rw [List.getD_eq_getElem?_getD, List.getD_eq_getElem?_getD, List.getElem?_eq_getElem h1, List.getElem?_eq_getElem h2] at e2
  exact (List.getElem_inj nd).mp e2
theorem Good.take {row0 : List Nat} (g : Good s e row0 f) (h : f.wt ≠ none) (b : Bool) : Good s e row0 (f.take s e b) :=
  ⟨g.wf.take (g.ah h) b, ahead_take (g.ah h) b, (take_perm g.wf (g.ah h) b).trans g.pm, two_take g.wf (g.ah h) b, len_take (g.le.2 h) b⟩
theorem Good.init {row : List Nat} (h1 : s < e) (h2 : e ≤ row.length) (h3 : row.length ≤ 2000) : Good s e row (RF.init row s e) := by
  have w : WF s e { row := row, pl := s + 1, eq := 0, st := 1, wt := none, ln := none } := ⟨by show s < s + 1; omega, by show s + 1 ≤ e; omega, h2, by show 0 + s < s + 1; omega, h3⟩
  exact ⟨w.ask, ahead_ask, ask_perm w, two_ask w, len_ask rfl⟩
/-- one question more, answered as ls says -/
def stp (ls : Nat × Nat → Bool) (s e : Nat) (f : RF) : RF := match f.wt with
  | none => f
  | some q => f.take s e (ls q)
def stps (ls : Nat × Nat → Bool) (s e : Nat) (f : RF) : Nat → RF
  | 0 => f
  | n + 1 => stp ls s e (stps ls s e f n)
theorem Good.stp {row0 : List Nat} (ls : Nat × Nat → Bool) (g : Good s e row0 f) : Good s e row0 (f.stp ls s e) := by
  unfold RF.stp
  split
  · exact g
  · rename_i q h
    exact g.take (by rw [h]; exact Option.some_ne_none _) _
theorem Good.stps {row0 : List Nat} (ls : Nat × Nat → Bool) (g : Good s e row0 f) : ∀ n, Good s e row0 (f.stps ls s e n)
  | 0 => g
  | n + 1 => (Good.stps ls g n).stp ls
theorem stps_next {ls : Nat × Nat → Bool} {n : Nat} {q : Nat × Nat} (h : (f.stps ls s e n).wt = some q) : f.stps ls s e (n + 1) = (f.stps ls s e n).take s e (ls q) := by
  show RF.stp ls s e (f.stps ls s e n) = _
  unfold RF.stp
  rw [h]
theorem stps_end {ls : Nat × Nat → Bool} {n : Nat} (h : (f.stps ls s e n).wt = none) : f.stps ls s e (n + 1) = f.stps ls s e n := by
  show RF.stp ls s e (f.stps ls s e n) = _
  unfold RF.stp
  rw [h]
theorem stps_stay {ls : Nat × Nat → Bool} {n : Nat} (h : (f.stps ls s e n).wt = none) : ∀ k, f.stps ls s e (n + k) = f.stps ls s e n
  | 0 => rfl
  | k + 1 => by
    have ih := stps_stay h k
    show RF.stps ls s e f ((n + k) + 1) = _
    rw [stps_end (by rw [ih]; exact h), ih]
/-- the first n questions -/
def asks (ls : Nat × Nat → Bool) (s e : Nat) (f : RF) (n : Nat) : List (Nat × Nat) := (List.range n).map fun i => ((f.stps ls s e i).wt).getD (0, 0)
theorem asks_len (ls : Nat × Nat → Bool) (n : Nat) : (f.asks ls s e n).length = n := by
  unfold asks
  rw [List.length_map, List.length_range]
theorem asks_next {ls : Nat × Nat → Bool} {n : Nat} {q : Nat × Nat} (h : (f.stps ls s e n).wt = some q) : f.asks ls s e (n + 1) = f.asks ls s e n ++ [q] := by
  unfold asks
  rw [List.range_succ, List.map_append, List.map_singleton, h]
  rfl
theorem asks_at {ls : Nat × Nat → Bool} {n i : Nat} (h : i < n) : (f.asks ls s e n)[i]? = some (((f.stps ls s e i).wt).getD (0, 0)) := by
  unfold asks
  rw [List.getElem?_map, List.getElem?_range h]
  rfl
end RF
/-- by the keys -/
def less (ns : List Int) (q : Nat × Nat) : Bool := decide (ns.getD q.1 0 < ns.getD q.2 0)
/-- questions, tuples of two items each, in a list -/
def PairAt (H : Hp) (v : V) (q : Nat × Nat) : Prop := ∃ t, v = .ref t ∧ H t = some (.tup [.int (q.1 : Int), .int (q.2 : Int)])
def QAt (H : Hp) (l : Addr) (qs : List (Nat × Nat)) : Prop := ∃ ts : List V, H l = some (.lst ts) ∧ ts.length = qs.length ∧ ∀ (i : Nat) (v : V) (q : Nat × Nat), ts[i]? = some v → qs[i]? = some q → PairAt H v q
theorem PairAt.keep {H H' : Hp} {v : V} {q : Nat × Nat} (h : PairAt H v q) (k : ∀ t i j, H t = some (.tup [.int i, .int j]) → H' t = some (.tup [.int i, .int j])) : PairAt H' v q := by
  obtain ⟨t, e, g⟩ := h
  exact ⟨t, e, k _ _ _ g⟩
theorem QAt.keep {H H' : Hp} {l : Addr} {qs : List (Nat × Nat)} (h : QAt H l qs) (kl : ∀ x, H l = some x → H' l = some x) (k : ∀ t i j, H t = some (.tup [.int i, .int j]) → H' t = some (.tup [.int i, .int j])) : QAt H' l qs := by
  obtain ⟨ts, g, n, a⟩ := h
  exact ⟨ts, kl _ g, n, fun i v q h1 h2 => (a i v q h1 h2).keep k⟩
theorem QAt.same {H H' : Hp} {l : Addr} {qs : List (Nat × Nat)} (h : QAt H l qs) (k : Same H H') : QAt H' l qs := h.keep (fun _ => k _ _) (fun _ _ _ => k _ _)
theorem QAt.nil {H : Hp} {l : Addr} (h : H l = some (.lst [])) : QAt H l [] := ⟨[], h, rfl, fun i v q h1 => by simp at h1⟩
theorem QAt.push {H : Hp} {l : Addr} {qs : List (Nat × Nat)} {ts : List V} (h : H l = some (.lst ts)) (hq : QAt H l qs) {v : V} {q : Nat × Nat} (hv : PairAt H v q) : QAt (upd H l (.lst (ts ++ [v]))) l (qs ++ [q]) := by
  obtain ⟨ts', g, n, a⟩ := hq
  rw [h] at g
  cases g
  have k : ∀ t i j, H t = some (.tup [.int i, .int j]) → upd H l (.lst (ts ++ [v])) t = some (.tup [.int i, .int j]) := fun t i j ht => by
    rw [upd_ne (ne_of ht h (fun e => by cases e))]
    exact ht
  refine ⟨ts ++ [v], upd_same, by simp [n], fun i v' q' h1 h2 => ?_⟩
  by_cases hi : i < ts.length
  · rw [List.getElem?_append_left hi] at h1
    rw [List.getElem?_append_left (by omega)] at h2
    exact (a i v' q' h1 h2).keep k
  · rw [List.getElem?_append_right (by omega)] at h1
    rw [List.getElem?_append_right (by omega)] at h2
    have e0 : i - ts.length = 0 := by
      cases e1 : i - ts.length with
      | zero => rfl
      | succ m =>
        rw [e1] at h1
        simp at h1
    have e0' : i - qs.length = 0 := by omega
    rw [e0] at h1
    rw [e0'] at h2
    cases h1
    cases h2
    exact hv.keep k
end L2

namespace L2
open PySem PySem.Spec PyProof.Rows
/-! ### the law's own walk -/
structure WS where
  row : List Nat
  pl : Nat
  eq : Nat
  st : Nat
namespace WS
def fallRow (w : WS) : List Nat := RF.turned (if 0 < w.eq then RF.turned w.row (w.pl - w.eq - 1) w.pl else w.row) 0 w.pl
def fall (w : WS) : WS := { w with row := fallRow w }
def ans (b : Bool) (w : WS) : WS :=
  if w.st = 1 ∧ b = true then { w with st := if 1 < w.pl then 2 else 3, pl := w.pl + (if w.pl = 1 then 1 else 0) }
  else if w.st = 2 ∧ b = true then { w with st := 0 }
  else if w.st = 2 then { w with row := RF.turned w.row 0 w.pl, st := 3, pl := w.pl + 1 }
  else if w.st = 3 ∧ b = true then { w with row := if 0 < w.eq then RF.turned w.row (w.pl - w.eq - 1) w.pl else w.row, eq := 0, pl := w.pl + 1 }
  else if w.st = 3 then { w with st := 4 }
  else if w.st = 4 ∧ b = true then { w with row := fallRow w, st := 5 }
  else if w.st = 4 then { w with st := 3, eq := w.eq + 1, pl := w.pl + 1 }
  else if b = true then { w with st := 0 }
  else { w with pl := w.pl + 1 }
def lk (size : Nat) (w : WS) : Option (Nat × Nat) :=
  if w.st = 2 then some (w.row.getD 0 0, w.row.getD (w.pl - 1) 0)
  else if w.st = 4 then some (w.row.getD (w.pl - 1) 0, w.row.getD w.pl 0)
  else if w.pl < size then some (w.row.getD w.pl 0, w.row.getD (w.pl - 1) 0) else none
/-- the walk's state behind a look that finds no question -/
def past (size : Nat) (w : WS) : WS := if w.st = 3 then { w with row := fallRow w, st := 5 } else { w with st := 0 }
/-- how the walk stands to the finder: 3 a question waits, 2 and 1 and 0 the end is told in so many turns -/
def At (size : Nat) (w : WS) (f : RF) : Nat → Prop
  | 3 => ∃ q, f.wt = some q ∧ w.row = f.row ∧ w.pl = f.pl ∧ w.st = f.st ∧ 1 ≤ w.st ∧ w.st ≤ 5 ∧ (w.st ≠ 5 → w.eq = f.eq) ∧ lk size w = some q
  | 2 => f.wt = none ∧ w.st = 3 ∧ size ≤ w.pl ∧ w.pl = f.pl ∧ fallRow w = f.row
  | 1 => f.wt = none ∧ (w.st = 1 ∨ w.st = 5) ∧ size ≤ w.pl ∧ w.pl = f.pl ∧ w.row = f.row
  | 0 => f.wt = none ∧ w.st = 0 ∧ w.pl = f.pl ∧ w.row = f.row
  | _ => False
theorem at_ask {size : Nat} {w : WS} {f : RF} (h1 : w.row = f.row) (h2 : w.pl = f.pl) (h3 : w.st = f.st) (h4 : w.st = 1 ∨ w.st = 3 ∨ w.st = 5) (h5 : w.st ≠ 5 → w.eq = f.eq) : ∃ t, t ≤ 3 ∧ At size w (f.ask 0 size) t := by
  unfold RF.ask
  by_cases hp : f.pl < size
  · rw [if_pos hp]
    refine ⟨3, Nat.le_refl _, _, rfl, h1, h2, h3, by omega, by omega, h5, ?_⟩
    unfold lk
    rw [if_neg (by omega), if_neg (by omega), if_pos (by omega), h1, h2]
  · rw [if_neg hp]
    by_cases h : f.st = 3
    · rw [if_pos h]
      have e1 : f.rise 0 size = RF.finish 0 { (f.turnEq.turn 0 : RF) with st := 5 } := by
        unfold RF.rise RF.askUp
        rw [if_neg (by show ¬ f.turnEq.pl < size; rw [RF.turnEq_pl]; exact hp)]
      rw [e1]
      refine ⟨2, by omega, rfl, by omega, by omega, ?_, ?_⟩
      · show w.pl = f.turnEq.pl
        rw [RF.turnEq_pl, h2]
      · show fallRow w = RF.turned f.turnEq.row 0 f.turnEq.pl
        rw [RF.turnEq_pl]
        unfold fallRow RF.turnEq
        rw [h1, h2, h5 (by omega)]
        by_cases h0 : 0 < f.eq
        · rw [if_pos h0, if_pos h0]
          rfl
        · rw [if_neg h0, if_neg h0]
    · rw [if_neg h]
      exact ⟨1, by omega, rfl, by omega, by omega, h2, h1⟩
theorem at_ans {size : Nat} {w : WS} {f : RF} (hf : 0 < f.pl) (h : At size w f 3) (b : Bool) : ∃ t, t ≤ 3 ∧ At size (w.ans b) (f.take 0 size b) t := by
  obtain ⟨q, hq, h1, h2, h3, h4, h5, h6, h7⟩ := h
  unfold ans RF.take
  by_cases s1 : w.st = 1
  · rw [if_pos (show f.st = 1 by omega)]
    unfold RF.take1
    cases b with
    | false =>
      rw [if_neg (by simp), if_neg (by simp), if_neg (by omega), if_neg (by simp), if_neg (by omega), if_neg (by simp), if_neg (by omega), if_neg (by simp), if_pos rfl]
      exact at_ask (w := { w with pl := w.pl + 1 }) (f := { f with pl := f.pl + 1 }) h1 (by show w.pl + 1 = f.pl + 1; omega) h3 (.inl s1) h6
    | true =>
      rw [if_pos ⟨s1, rfl⟩, if_neg (show ¬ (true = false) by decide)]
      by_cases hp : f.pl = 0 + 1
      · rw [if_pos hp, if_neg (show ¬ 1 < w.pl by omega), if_pos (show w.pl = 1 by omega)]
        exact at_ask (w := { w with st := 3, pl := w.pl + 1 }) (f := { f with st := 3, pl := f.pl + 1 }) h1 (by show w.pl + 1 = f.pl + 1; omega) rfl (.inr (.inl rfl)) (fun _ => h6 (by omega))
      · rw [if_neg hp, if_pos (show 1 < w.pl by omega), if_neg (show ¬ w.pl = 1 by omega)]
        refine ⟨3, Nat.le_refl _, _, rfl, h1, h2, rfl, by show 1 ≤ 2; omega, by show 2 ≤ 5; omega, fun _ => h6 (by omega), ?_⟩
        unfold lk
        rw [if_pos rfl, h1, Nat.add_zero, h2]
  rw [if_neg (fun e => s1 e.1), if_neg (show ¬ f.st = 1 by omega)]
  by_cases s2 : w.st = 2
  · rw [if_pos (show f.st = 2 by omega)]
    unfold RF.take2
    cases b with
    | true =>
      rw [if_pos ⟨s2, rfl⟩, if_pos rfl]
      exact ⟨0, by omega, rfl, rfl, h2, h1⟩
    | false =>
      rw [if_neg (by simp), if_pos s2, if_neg (by simp)]
      exact at_ask (w := { w with row := RF.turned w.row 0 w.pl, st := 3, pl := w.pl + 1 }) (f := { (f.turn 0 : RF) with st := 3, pl := (f.turn 0).pl + 1 }) (by show RF.turned w.row 0 w.pl = RF.turned f.row 0 f.pl; rw [h1, h2]) (by show w.pl + 1 = f.pl + 1; omega) rfl (.inr (.inl rfl)) (fun _ => h6 (by omega))
  rw [if_neg (fun e => s2 e.1), if_neg s2, if_neg (show ¬ f.st = 2 by omega)]
  by_cases s3 : w.st = 3
  · rw [if_pos (show f.st = 3 by omega)]
    unfold RF.take3
    cases b with
    | true =>
      rw [if_pos ⟨s3, rfl⟩, if_pos rfl]
      refine at_ask (w := { w with row := if 0 < w.eq then RF.turned w.row (w.pl - w.eq - 1) w.pl else w.row, eq := 0, pl := w.pl + 1 }) (f := { (f.turnEq : RF) with pl := f.turnEq.pl + 1 }) ?_ (by show w.pl + 1 = f.turnEq.pl + 1; rw [RF.turnEq_pl, h2]) (by show w.st = f.turnEq.st; rw [RF.turnEq_st, h3]) (.inr (.inl s3)) (fun _ => ?_)
      · show (if 0 < w.eq then RF.turned w.row (w.pl - w.eq - 1) w.pl else w.row) = f.turnEq.row
        unfold RF.turnEq
        rw [h1, h2, h6 (by omega)]
        by_cases h0 : 0 < f.eq
        · rw [if_pos h0, if_pos h0]
          rfl
        · rw [if_neg h0, if_neg h0]
      · show 0 = f.turnEq.eq
        unfold RF.turnEq
        by_cases h0 : 0 < f.eq
        · rw [if_pos h0]
        · rw [if_neg h0]
          omega
    | false =>
      rw [if_neg (by simp), if_pos s3, if_neg (by simp)]
      refine ⟨3, Nat.le_refl _, _, rfl, h1, h2, rfl, by show 1 ≤ 4; omega, by show 4 ≤ 5; omega, fun _ => h6 (by omega), ?_⟩
      unfold lk
      rw [if_neg (by show ¬ 4 = 2; decide), if_pos rfl, h1, h2]
  rw [if_neg (fun e => s3 e.1), if_neg s3, if_neg (show ¬ f.st = 3 by omega)]
  by_cases s4 : w.st = 4
  · rw [if_pos (show f.st = 4 by omega)]
    unfold RF.take4
    cases b with
    | true =>
      rw [if_pos ⟨s4, rfl⟩, if_pos rfl]
      have e1 : f.rise 0 size = RF.ask 0 size { (f.turnEq.turn 0 : RF) with st := 5 } := by
        unfold RF.rise RF.askUp RF.ask
        rw [if_neg (show ¬ ({ (f.turnEq.turn 0 : RF) with st := 5 } : RF).st = 3 by show ¬ 5 = 3; decide)]
      rw [e1]
      refine at_ask (w := { w with row := fallRow w, st := 5 }) (f := { (f.turnEq.turn 0 : RF) with st := 5 }) ?_ (by show w.pl = f.turnEq.pl; rw [RF.turnEq_pl, h2]) rfl (.inr (.inr rfl)) (fun e => absurd rfl e)
      show fallRow w = RF.turned f.turnEq.row 0 f.turnEq.pl
      rw [RF.turnEq_pl]
      unfold fallRow RF.turnEq
      rw [h1, h2, h6 (by omega)]
      by_cases h0 : 0 < f.eq
      · rw [if_pos h0, if_pos h0]
        rfl
      · rw [if_neg h0, if_neg h0]
    | false =>
      rw [if_neg (by simp), if_pos s4, if_neg (by simp)]
      exact at_ask (w := { w with st := 3, eq := w.eq + 1, pl := w.pl + 1 }) (f := { f with eq := f.eq + 1, st := 3, pl := f.pl + 1 }) h1 (by show w.pl + 1 = f.pl + 1; omega) rfl (.inr (.inl rfl)) (fun _ => by show w.eq + 1 = f.eq + 1; rw [h6 (by omega)])
  rw [if_neg (fun e => s4 e.1), if_neg s4, if_neg (show ¬ f.st = 4 by omega)]
  unfold RF.take5
  cases b with
  | true =>
    rw [if_pos rfl, if_pos rfl]
    exact ⟨0, by omega, rfl, rfl, h2, h1⟩
  | false =>
    rw [if_neg (by simp), if_neg (by simp)]
    exact at_ask (w := { w with pl := w.pl + 1 }) (f := { f with pl := f.pl + 1 }) h1 (by show w.pl + 1 = f.pl + 1; omega) h3 (.inr (.inr (by show w.st = 5; omega))) h6
/-- what the walk keeps between its steps -/
structure Ok (w : WS) : Prop where
  p1 : 0 < w.pl
  pl : w.pl ≤ w.row.length
  eq : w.eq < w.pl
  rl : w.row.length ≤ 2000
theorem fallRow_len {w : WS} (o : Ok w) : (fallRow w).length = w.row.length := by
  have := o.pl; have := o.eq
  unfold fallRow
  by_cases h0 : 0 < w.eq
  · rw [if_pos h0]
    have l1 : (RF.turned w.row (w.pl - w.eq - 1) w.pl).length = w.row.length := RF.turned_len (by omega) o.pl
    rw [RF.turned_len (Nat.zero_le _) (by omega), l1]
  · rw [if_neg h0]
    exact RF.turned_len (Nat.zero_le _) o.pl
theorem Ok.past {w : WS} (o : Ok w) (size : Nat) : Ok (past size w) ∧ (WS.past size w).row.length = w.row.length := by
  obtain ⟨a, b, c, d⟩ := id o
  unfold WS.past
  split
  · have l := fallRow_len o
    exact ⟨⟨a, by show w.pl ≤ (fallRow w).length; omega, c, by show (fallRow w).length ≤ 2000; omega⟩, l⟩
  · exact ⟨⟨a, b, c, d⟩, rfl⟩
theorem Ok.ans {w : WS} (o : Ok w) (h : w.pl < w.row.length) (b : Bool) : Ok (w.ans b) ∧ (w.ans b).row.length = w.row.length := by
  obtain ⟨p1, p2, p3, p4⟩ := id o
  have lf := fallRow_len o
  have l0 : (RF.turned w.row 0 w.pl).length = w.row.length := RF.turned_len (Nat.zero_le _) p2
  have l1 : (if 0 < w.eq then RF.turned w.row (w.pl - w.eq - 1) w.pl else w.row).length = w.row.length := by
    split
    · exact RF.turned_len (by omega) p2
    · rfl
  unfold WS.ans
  split
  · refine ⟨⟨?_, ?_, ?_, p4⟩, rfl⟩
    · show 0 < w.pl + _
      omega
    · show w.pl + (if w.pl = 1 then 1 else 0) ≤ w.row.length
      split <;> omega
    · show w.eq < w.pl + _
      omega
  split
  · exact ⟨⟨p1, p2, p3, p4⟩, rfl⟩
  split
  · exact ⟨⟨by show 0 < w.pl + 1; omega, by show w.pl + 1 ≤ (RF.turned w.row 0 w.pl).length; omega, by show w.eq < w.pl + 1; omega, by show (RF.turned w.row 0 w.pl).length ≤ 2000; omega⟩, l0⟩
  split
  · exact ⟨⟨by show 0 < w.pl + 1; omega, by show w.pl + 1 ≤ (if 0 < w.eq then RF.turned w.row (w.pl - w.eq - 1) w.pl else w.row).length; omega, by show 0 < w.pl + 1; omega, by show (if 0 < w.eq then RF.turned w.row (w.pl - w.eq - 1) w.pl else w.row).length ≤ 2000; omega⟩, l1⟩
  split
  · exact ⟨⟨p1, p2, p3, p4⟩, rfl⟩
  split
  · exact ⟨⟨p1, by show w.pl ≤ (fallRow w).length; omega, p3, by show (fallRow w).length ≤ 2000; omega⟩, lf⟩
  split
  · exact ⟨⟨by show 0 < w.pl + 1; omega, by show w.pl + 1 ≤ w.row.length; omega, by show w.eq + 1 < w.pl + 1; omega, p4⟩, rfl⟩
  split
  · exact ⟨⟨p1, p2, p3, p4⟩, rfl⟩
  · exact ⟨⟨by show 0 < w.pl + 1; omega, by show w.pl + 1 ≤ w.row.length; omega, by show w.eq < w.pl + 1; omega, p4⟩, rfl⟩
end WS
namespace RF
/-- told the answers bs one after another -/
def fed (size : Nat) (bs : List Bool) : Nat → RF
  | 0 => RF.init (List.range size) 0 size
  | k + 1 => match (fed size bs k).wt with
    | none => fed size bs k
    | some _ => (fed size bs k).take 0 size (bs.getD k false)
theorem fed_next {size : Nat} {bs : List Bool} {k : Nat} {q : Nat × Nat} (h : (fed size bs k).wt = some q) : fed size bs (k + 1) = (fed size bs k).take 0 size (bs.getD k false) := by
  show (match (fed size bs k).wt with
    | none => fed size bs k
    | some _ => (fed size bs k).take 0 size (bs.getD k false)) = _
  rw [h]
theorem fed_end {size : Nat} {bs : List Bool} {k : Nat} (h : (fed size bs k).wt = none) : fed size bs (k + 1) = fed size bs k := by
  show (match (fed size bs k).wt with
    | none => fed size bs k
    | some _ => (fed size bs k).take 0 size (bs.getD k false)) = _
  rw [h]
theorem fed_stay {size : Nat} {bs : List Bool} {n : Nat} (h : (fed size bs n).wt = none) : ∀ k, fed size bs (n + k) = fed size bs n
  | 0 => rfl
  | k + 1 => by
    have ih := fed_stay h k
    show fed size bs ((n + k) + 1) = _
    rw [fed_end (by rw [ih]; exact h), ih]
theorem fed_good {size : Nat} (h1 : 0 < size) (h2 : size ≤ 2000) (bs : List Bool) : ∀ k, Good 0 size (List.range size) (fed size bs k)
  | 0 => Good.init h1 (by rw [List.length_range]; exact Nat.le_refl _) (by rw [List.length_range]; exact h2)
  | k + 1 => by
    have ih := fed_good h1 h2 bs k
    cases h : (fed size bs k).wt with
    | none => rw [fed_end h]; exact ih
    | some q => rw [fed_next h]; exact ih.take (by rw [h]; exact Option.some_ne_none _) _
def askB (size : Nat) (bs : List Bool) (n : Nat) : List (Nat × Nat) := (List.range n).map fun i => ((fed size bs i).wt).getD (0, 0)
theorem askB_len (size : Nat) (bs : List Bool) (n : Nat) : (askB size bs n).length = n := by
  unfold askB
  rw [List.length_map, List.length_range]
theorem askB_next {size : Nat} {bs : List Bool} {n : Nat} {q : Nat × Nat} (h : (fed size bs n).wt = some q) : askB size bs (n + 1) = askB size bs n ++ [q] := by
  unfold askB
  rw [List.range_succ, List.map_append, List.map_singleton, h]
  rfl
end RF
theorem QAt.ne {H : Hp} {l r : Addr} {qs : List (Nat × Nat)} {row : List Nat} (h : QAt H l qs) (hr : H r = some (.lst (nV row))) (n : row ≠ []) : r ≠ l := by
  intro e
  obtain ⟨ts, h1, h2, h3⟩ := h
  rw [← e, hr] at h1
  cases row with
  | nil => exact n rfl
  | cons x rest =>
    have e2 : ts = nV (x :: rest) := (HO.lst.inj (Option.some.inj h1)).symm
    cases qs with
    | nil => rw [e2] at h2; cases h2
    | cons q qs =>
      obtain ⟨t, e3, _⟩ := h3 0 (.int (x : Int)) q (by rw [e2]; rfl) rfl
      cases e3
end L2

namespace L2
open PySem PySem.Spec PyProof.Rows
namespace RF
/-! ### a run at s is a run at 0, moved by s -/
def shRow (s : Nat) (row : List Nat) : List Nat := List.range s ++ row.map (fun i => s + i)
def sh (s : Nat) (g : RF) : RF := { row := shRow s g.row, pl := s + g.pl, eq := g.eq, st := g.st, wt := g.wt.map (fun q => (s + q.1, s + q.2)), ln := g.ln }
variable {s size : Nat} {g : RF}
theorem shRow_len (s : Nat) (row : List Nat) : (shRow s row).length = s + row.length := by
  unfold shRow
  rw [List.length_append, List.length_range, List.length_map]
theorem shRow_range (s n : Nat) : shRow s (List.range n) = List.range (s + n) := by
  unfold shRow
  rw [List.range_add]
theorem turned_sh (s lo hi : Nat) (row : List Nat) : turned (shRow s row) (s + lo) (s + hi) = shRow s (turned row lo hi) := by
  unfold turned shRow
  have l : (List.range s).length = s := List.length_range
  have e1 : (List.range s ++ row.map (fun i => s + i)).take (s + lo) = List.range s ++ (row.take lo).map (fun i => s + i) := by
    rw [List.take_append, List.take_of_length_le (by omega), l, Nat.add_sub_cancel_left, List.map_take]
  have e2 : ∀ k, (List.range s ++ row.map (fun i => s + i)).drop (s + k) = (row.drop k).map (fun i => s + i) := fun k => by
    rw [List.drop_append, List.drop_of_length_le (by omega), l, Nat.add_sub_cancel_left, List.map_drop]
    rfl
  rw [e1, e2, e2, show s + hi - (s + lo) = hi - lo by omega]
  simp only [List.map_append, List.map_reverse, List.map_take, List.append_assoc]
theorem getD_sh {row : List Nat} {k : Nat} (h : k < row.length) : (shRow s row).getD (s + k) 0 = s + row.getD k 0 := by
  unfold shRow
  rw [List.getD_eq_getElem?_getD, List.getD_eq_getElem?_getD, List.getElem?_append_right (by rw [List.length_range]; omega), List.length_range, Nat.add_sub_cancel_left, List.getElem?_map, List.getElem?_eq_getElem h]
  rfl
theorem ext {f g : RF} (h1 : f.row = g.row) (h2 : f.pl = g.pl) (h3 : f.eq = g.eq) (h4 : f.st = g.st) (h5 : f.wt = g.wt) (h6 : f.ln = g.ln) : f = g := by
  cases f
  cases g
  cases h1
  cases h2
  cases h3
  cases h4
  cases h5
  cases h6
  rfl
theorem sh_turn (lo : Nat) : (sh s g).turn (s + lo) = sh s (g.turn lo) := ext (turned_sh s lo g.pl g.row) rfl rfl rfl rfl rfl
theorem sh_turnEq (w : WF 0 size g) : (sh s g).turnEq = sh s g.turnEq := by
  unfold RF.turnEq
  by_cases h : 0 < g.eq
  · have := w.eq
    rw [if_pos h, if_pos (show 0 < (sh s g).eq from h)]
    have e : (sh s g).pl - (sh s g).eq - 1 = s + (g.pl - g.eq - 1) := by show s + g.pl - g.eq - 1 = _; omega
    rw [e, sh_turn]
    rfl
  · rw [if_neg h, if_neg (show ¬ 0 < (sh s g).eq from h)]
theorem sh_fin : (sh s g).finish s = sh s (g.finish 0) := ext rfl rfl rfl rfl rfl (by show some (s + g.pl - s) = some (g.pl - 0); rw [Nat.add_sub_cancel_left]; rfl)
theorem sh_w {g' : RF} {k l : Nat} (h1 : k < g'.row.length) (h2 : l < g'.row.length) : ({ sh s g' with wt := some ((sh s g').row.getD (s + k) 0, (sh s g').row.getD (s + l) 0) } : RF) = sh s { g' with wt := some (g'.row.getD k 0, g'.row.getD l 0) } := by
  refine ext rfl rfl rfl rfl ?_ rfl
  show some ((shRow s g'.row).getD (s + k) 0, (shRow s g'.row).getD (s + l) 0) = some (s + g'.row.getD k 0, s + g'.row.getD l 0)
  rw [getD_sh h1, getD_sh h2]
theorem sh_up {g' : RF} (a : 0 < g'.pl) (c : size ≤ g'.row.length) : (sh s g').askUp s (s + size) = sh s (g'.askUp 0 size) := by
  unfold RF.askUp
  by_cases h : g'.pl < size
  · rw [if_pos h, if_pos (show (sh s g').pl < s + size by show s + g'.pl < s + size; omega)]
    have e : (sh s g').pl - 1 = s + (g'.pl - 1) := by show s + g'.pl - 1 = _; omega
    rw [e]
    exact sh_w (by omega) (by omega)
  · rw [if_neg h, if_neg (show ¬ (sh s g').pl < s + size by show ¬ s + g'.pl < s + size; omega)]
    exact sh_fin
theorem sh_rise (w : WF 0 size g) : (sh s g).rise s (s + size) = sh s (g.rise 0 size) := by
  unfold RF.rise
  have w2 := w.pre5
  have e : ({ ((sh s g).turnEq.turn s : RF) with st := 5 } : RF) = sh s { (g.turnEq.turn 0 : RF) with st := 5 } := by
    have e1 : (sh s g).turnEq.turn s = sh s (g.turnEq.turn 0) := by
      rw [sh_turnEq w]
      exact sh_turn 0
    rw [e1]
    rfl
  rw [e]
  exact sh_up (Nat.lt_of_le_of_lt (Nat.zero_le _) w2.sp) w2.er
theorem sh_ask (w : WF 0 size g) : (sh s g).ask s (s + size) = sh s (g.ask 0 size) := by
  have b1 := w.sp; have b2 := w.er
  unfold RF.ask
  by_cases h : g.pl < size
  · rw [if_pos h, if_pos (show (sh s g).pl < s + size by show s + g.pl < s + size; omega)]
    have e : (sh s g).pl - 1 = s + (g.pl - 1) := by show s + g.pl - 1 = _; omega
    rw [e]
    exact sh_w (by omega) (by omega)
  · rw [if_neg h, if_neg (show ¬ (sh s g).pl < s + size by show ¬ s + g.pl < s + size; omega)]
    by_cases h3 : g.st = 3
    · rw [if_pos h3, if_pos (show (sh s g).st = 3 from h3)]
      exact sh_rise w
    · rw [if_neg h3, if_neg (show ¬ (sh s g).st = 3 from h3)]
      exact sh_fin
theorem sh_goOn (w : WF 0 size { g with pl := g.pl + 1 }) : (sh s g).goOn s (s + size) = sh s (g.goOn 0 size) := by
  unfold RF.goOn
  rw [← sh_ask w]
  rfl
theorem sh_take (w : WF 0 size g) (h : g.pl < size) (b : Bool) : (sh s g).take s (s + size) b = sh s (g.take 0 size b) := by
  have b1 := w.sp; have b2 := w.er
  unfold RF.take
  show (if g.st = 1 then _ else if g.st = 2 then _ else if g.st = 3 then _ else if g.st = 4 then _ else _) = sh s (if g.st = 1 then _ else if g.st = 2 then _ else if g.st = 3 then _ else if g.st = 4 then _ else _)
  by_cases s1 : g.st = 1
  · rw [if_pos s1, if_pos s1]
    unfold RF.take1
    cases b with
    | false =>
      rw [if_pos rfl, if_pos rfl]
      exact sh_goOn (w.next h)
    | true =>
      rw [if_neg (show ¬ (true = false) by decide), if_neg (show ¬ (true = false) by decide)]
      by_cases hp : g.pl = 0 + 1
      · rw [if_pos hp, if_pos (show (sh s g).pl = s + 1 by show s + g.pl = s + 1; omega)]
        exact sh_goOn (g := { g with st := 3 }) ((w.st 3).next h)
      · rw [if_neg hp, if_neg (show ¬ (sh s g).pl = s + 1 by show ¬ s + g.pl = s + 1; omega)]
        have e : (sh s g).pl - 1 = s + (g.pl - 1) := by show s + g.pl - 1 = _; omega
        rw [e]
        exact sh_w (g' := { g with st := 2 }) (k := 0) (l := g.pl - 1) (by show 0 < g.row.length; omega) (by show g.pl - 1 < g.row.length; omega)
  rw [if_neg s1, if_neg s1]
  by_cases s2 : g.st = 2
  · rw [if_pos s2, if_pos s2]
    unfold RF.take2
    cases b with
    | true =>
      rw [if_pos rfl, if_pos rfl]
      exact sh_fin
    | false =>
      rw [if_neg (show ¬ (false = true) by decide), if_neg (show ¬ (false = true) by decide)]
      have e : (sh s g).turn s = sh s (g.turn 0) := sh_turn 0
      rw [e]
      exact sh_goOn (g := { (g.turn 0 : RF) with st := 3 }) (((w.turn (Nat.le_of_lt w.sp)).st 3).next h)
  rw [if_neg s2, if_neg s2]
  by_cases s3 : g.st = 3
  · rw [if_pos s3, if_pos s3]
    unfold RF.take3
    cases b with
    | true =>
      rw [if_pos rfl, if_pos rfl, sh_turnEq w]
      exact sh_goOn (w.turnEq.next (by rw [turnEq_pl]; exact h))
    | false =>
      rw [if_neg (show ¬ (false = true) by decide), if_neg (show ¬ (false = true) by decide)]
      have e : (sh s g).pl - 1 = s + (g.pl - 1) := by show s + g.pl - 1 = _; omega
      rw [e]
      exact sh_w (g' := { g with st := 4 }) (k := g.pl - 1) (l := g.pl) (by show g.pl - 1 < g.row.length; omega) (by show g.pl < g.row.length; omega)
  rw [if_neg s3, if_neg s3]
  by_cases s4 : g.st = 4
  · rw [if_pos s4, if_pos s4]
    unfold RF.take4
    cases b with
    | true =>
      rw [if_pos rfl, if_pos rfl]
      exact sh_rise w
    | false =>
      rw [if_neg (show ¬ (false = true) by decide), if_neg (show ¬ (false = true) by decide)]
      exact sh_goOn (g := { g with eq := g.eq + 1, st := 3 }) (w.eq1 h)
  rw [if_neg s4, if_neg s4]
  unfold RF.take5
  cases b with
  | true =>
    rw [if_pos rfl, if_pos rfl]
    exact sh_fin
  | false =>
    rw [if_neg (show ¬ (false = true) by decide), if_neg (show ¬ (false = true) by decide)]
    exact sh_goOn (w.next h)
theorem sh_init (h : 0 < size) (h2 : size ≤ 2000) : RF.init (List.range (s + size)) s (s + size) = sh s (RF.init (List.range size) 0 size) := by
  unfold RF.init
  have w : WF 0 size { row := List.range size, pl := 0 + 1, eq := 0, st := 1, wt := none, ln := none } := ⟨by show 0 < 0 + 1; omega, by show 0 + 1 ≤ size; omega, by show size ≤ (List.range size).length; rw [List.length_range]; exact Nat.le_refl _, by show 0 + 0 < 0 + 1; omega, by show (List.range size).length ≤ 2000; rw [List.length_range]; exact h2⟩
  rw [← sh_ask w]
  congr 1
  exact ext (shRow_range s size).symm rfl rfl rfl rfl rfl
/-! behind the place nothing has moved -/
def Tail (n : Nat) (f : RF) : Prop := ∀ k, f.pl ≤ k → f.row.drop k = (List.range n).drop k
theorem turned_tail {row : List Nat} {lo hi k : Nat} (h : lo ≤ hi) (h2 : hi ≤ row.length) (hk : hi ≤ k) : (turned row lo hi).drop k = row.drop k := by
  unfold turned
  have l : (row.take lo ++ ((row.drop lo).take (hi - lo)).reverse).length = hi := by
    rw [List.length_append, List.length_take, List.length_reverse, List.length_take, List.length_drop]
    omega
  rw [List.drop_append, List.drop_of_length_le (by omega), l, List.drop_drop, List.nil_append]
  congr 1
  omega
section
variable {n : Nat} {f : RF} {e : Nat}
theorem tail_turn {lo : Nat} (t : Tail n f) (h : lo ≤ f.pl) (h2 : f.pl ≤ f.row.length) : Tail n (f.turn lo) := fun k hk => (turned_tail h h2 hk).trans (t k hk)
theorem tail_turnEq (t : Tail n f) (h2 : f.pl ≤ f.row.length) : Tail n f.turnEq := by
  unfold RF.turnEq
  split
  · exact fun k hk => tail_turn t (by omega) h2 k hk
  · exact t
theorem tail_up (t : Tail n f) : Tail n (f.askUp s e) := by
  unfold RF.askUp
  split
  · exact t
  · exact t
theorem tail_rise (w : WF s e f) (t : Tail n f) : Tail n (f.rise s e) := by
  have w1 := w.turnEq
  have h2 : f.pl ≤ f.row.length := Nat.le_trans w.pe w.er
  have t1 : Tail n f.turnEq := tail_turnEq t h2
  exact tail_up (f := { (f.turnEq.turn s : RF) with st := 5 }) (tail_turn t1 (Nat.le_of_lt w1.sp) (Nat.le_trans w1.pe w1.er))
theorem tail_ask (w : WF s e f) (t : Tail n f) : Tail n (f.ask s e) := by
  unfold RF.ask
  split
  · exact t
  · split
    · exact tail_rise w t
    · exact t
theorem tail_next (t : Tail n f) : Tail n { f with pl := f.pl + 1 } := fun k hk => t k (Nat.le_of_succ_le hk)
theorem tail_take (w : WF s e f) (h : f.pl < e) (t : Tail n f) (b : Bool) : Tail n (f.take s e b) := by
  have h2 : f.pl ≤ f.row.length := Nat.le_trans w.pe w.er
  unfold RF.take
  split
  · unfold RF.take1
    split
    · exact tail_ask (w.next h) (tail_next t)
    · split
      · exact tail_ask ((w.st 3).next h) (tail_next t)
      · exact t
  · split
    · unfold RF.take2
      split
      · exact t
      · exact tail_ask (((w.turn (Nat.le_of_lt w.sp)).st 3).next h) (tail_next (tail_turn t (Nat.le_of_lt w.sp) h2))
    · split
      · unfold RF.take3
        split
        · exact tail_ask (w.turnEq.next (by rw [turnEq_pl]; exact h)) (tail_next (tail_turnEq t h2))
        · exact t
      · split
        · unfold RF.take4
          split
          · exact tail_rise w t
          · exact tail_ask (w.eq1 h) (tail_next t)
        · unfold RF.take5
          split
          · exact t
          · exact tail_ask (w.next h) (tail_next t)
end
theorem fed_tail {size : Nat} (h1 : 0 < size) (h2 : size ≤ 2000) (bs : List Bool) : ∀ k, Tail size (fed size bs k)
  | 0 => by
    have w : WF 0 size { row := List.range size, pl := 0 + 1, eq := 0, st := 1, wt := none, ln := none } := ⟨by show 0 < 0 + 1; omega, by show 0 + 1 ≤ size; omega, by show size ≤ (List.range size).length; rw [List.length_range]; exact Nat.le_refl _, by show 0 + 0 < 0 + 1; omega, by show (List.range size).length ≤ 2000; rw [List.length_range]; exact h2⟩
    exact tail_ask w (fun k _ => rfl)
  | k + 1 => by
    have ih := fed_tail h1 h2 bs k
    have g := fed_good h1 h2 bs k
    cases h : (fed size bs k).wt with
    | none => rw [fed_end h]; exact ih
    | some q => rw [fed_next h]; exact tail_take g.wf (g.ah (by rw [h]; exact Option.some_ne_none _)) ih _
theorem fed_congr {size : Nat} {bs cs : List Bool} : ∀ {k : Nat}, (∀ i, i < k → bs.getD i false = cs.getD i false) → fed size bs k = fed size cs k
  | 0, _ => rfl
  | k + 1, h => by
    have ih := fed_congr (size := size) (k := k) (fun i hi => h i (by omega))
    cases e : (fed size bs k).wt with
    | none => rw [fed_end e, fed_end (by rw [← ih]; exact e), ih]
    | some q => rw [fed_next e, fed_next (q := q) (by rw [← ih]; exact e), ih, h k (by omega)]
/-- the steps by the keys are the steps by their answers, moved -/
theorem stps_fed {ls : Nat × Nat → Bool} {s size N : Nat} (h1 : 0 < size) (h2 : size ≤ 2000) (hw : ∀ i, i < N → ((RF.init (List.range (s + size)) s (s + size)).stps ls s (s + size) i).wt ≠ none) :
    ∀ k, k ≤ N → (RF.init (List.range (s + size)) s (s + size)).stps ls s (s + size) k = sh s (fed size (((RF.init (List.range (s + size)) s (s + size)).asks ls s (s + size) N).map ls) k)
  | 0, _ => sh_init h1 h2
  | k + 1, hk => by
    have ih := stps_fed h1 h2 hw k (by omega)
    cases e : ((RF.init (List.range (s + size)) s (s + size)).stps ls s (s + size) k).wt with
    | none => exact absurd e (hw k (by omega))
    | some q =>
      rw [stps_next e]
      rw [ih] at e
      have e0 : ∃ q0, (fed size (((RF.init (List.range (s + size)) s (s + size)).asks ls s (s + size) N).map ls) k).wt = some q0 := by
        cases e1 : (fed size (((RF.init (List.range (s + size)) s (s + size)).asks ls s (s + size) N).map ls) k).wt with
        | none =>
          exfalso
          have e2 : (sh s (fed size (((RF.init (List.range (s + size)) s (s + size)).asks ls s (s + size) N).map ls) k)).wt = none := by
            show Option.map _ _ = none
            rw [e1]
            rfl
          rw [e2] at e
          cases e
        | some q0 => exact ⟨q0, rfl⟩
      obtain ⟨q0, e0⟩ := e0
      have g := fed_good h1 h2 (((RF.init (List.range (s + size)) s (s + size)).asks ls s (s + size) N).map ls) k
      rw [fed_next e0, ih, ← sh_take g.wf (g.ah (by rw [e0]; exact Option.some_ne_none _))]
      congr 1
      rw [List.getD_eq_getElem?_getD, List.getElem?_map, asks_at (by omega), ih, e]
      rfl
theorem range_drop (k n : Nat) (h : k ≤ n) : (List.range n).drop k = (List.range (n - k)).map (fun i => k + i) := by
  have e : List.range n = List.range k ++ (List.range (n - k)).map (fun i => k + i) := by
    rw [← List.range_add]
    congr 1
    omega
  rw [e, List.drop_append, List.drop_of_length_le (by rw [List.length_range]; exact Nat.le_refl _), List.length_range, Nat.sub_self]
  rfl
/-- the whole row, told by what lies ahead, the run and the rest -/
theorem row_split {s size : Nat} {g : RF} (w : WF 0 size g) (t : Tail size g) : (sh s g).row = List.range s ++ ((sh s g).row.drop s).take g.pl ++ (List.range (size - g.pl)).map (fun i => s + g.pl + i) := by
  have l : (List.range s).length = s := List.length_range
  have e1 : (sh s g).row.drop s = g.row.map (fun i => s + i) := by
    show (List.range s ++ g.row.map (fun i => s + i)).drop s = _
    rw [List.drop_append, List.drop_of_length_le (by omega), l, Nat.sub_self]
    rfl
  rw [e1, List.append_assoc]
  show List.range s ++ g.row.map (fun i => s + i) = _
  congr 1
  have e2 : g.row = g.row.take g.pl ++ (List.range (size - g.pl)).map (fun i => g.pl + i) := by
    rw [← range_drop _ _ w.pe, ← t _ (Nat.le_refl _), List.take_append_drop]
  rw [← List.map_take]
  conv => lhs; rw [e2]
  rw [List.map_append, List.map_map]
  congr 1
  exact List.map_congr_left fun i _ => by show s + (g.pl + i) = s + g.pl + i; omega
end RF
end L2

namespace L2
open PySem PySem.Spec PyProof.Rows
/-! ### for over a list or a tuple -/
section
variable {X : Cx} {tg : Expr} {pins : List (Addr × Obj)} {σ : L2.St} {H : Hp} {s : Shared} {a : Addr} {xs : List V} {R : It → Hp → Prop}
theorem lone_fresh (I : Inv X pins σ H s) : ∀ b ∈ [s.heap.objs.size], FpOk X pins H b := fun b hb => by
  rw [List.mem_singleton.mp hb]
  exact I.fpOk (Nat.le_refl _) (I.hok.fresh (Nat.le_refl _))
theorem walk_list (I : Inv X pins σ H s) (h : SqL X.K H a xs) (q : R (Itl X.K a) H) : wpAny (model X.prog X.w) X.A (pyIter (.ref a)) (PIE X pins σ tg R) X.xe s := by
  obtain ⟨items, _, isl, _⟩ := I.list h
  exact wpAny_pyIter_list isl.isList ⟨_, [_], _, _, H, rfl, I.kept (t' := s.toks) (fun _ _ e => Heap.get?_push_of_some _ e), turn_list a _, ⟨_, Heap.get?_push_size _ rfl, rfl, rfl⟩, lone_fresh I, q⟩
theorem walk_tup (I : Inv X pins σ H s) (h : SqT X.K H a xs) (q : R (Itt X.K a) H) : wpAny (model X.prog X.w) X.A (pyIter (.ref a)) (PIE X pins σ tg R) X.xe s := by
  obtain ⟨items, _, ist, _⟩ := I.tuple h
  have ist' : s.heap.IsTuple a items.toArray := ist
  exact wpAny_pyIter_tuple ist' ⟨_, [_], _, _, H, rfl, I.kept (t' := s.toks) (fun _ _ e => Heap.get?_push_of_some _ e), turn_tuple a _, ⟨_, Heap.get?_push_size _ rfl, rfl, rfl⟩, lone_fresh I, q⟩
def iLT (K : PySem.W.Frag) (tl : TE) : TI := fun σ H R => tl σ H fun x H1 => ∃ (a : Addr) (xs : List V), x = .ref a ∧ ((SqL K H1 a xs ∧ R (Itl K a) H1) ∨ (SqT K H1 a xs ∧ R (Itt K a) H1))
theorem pi_lt {l : Expr} {tl : TE} (hl : PE X l tl) : PI X tg l (iLT X.K tl) :=
  ⟨fun pins s σ H R I h => thn (hl.run pins s σ H _ I h) fun v s1 ⟨x, H1, I1, r1, a, xs, e, q⟩ => by
    subst e
    cases r1
    rcases q with ⟨hs, q⟩ | ⟨hs, q⟩
    · exact walk_list I1 hs q
    · exact walk_tup I1 hs q⟩
end
/-- for over the entries, whichever of the two it is -/
theorem for_lt {K : PySem.W.Frag} {a : Addr} {xs : List V} {g : TG} {tb : TS} {D : Ends} {σ : L2.St} {H : Hp} (Pv : Nat → L2.St → Hp → Prop) (h0 : Pv 0 σ H) (h : (∀ i σ' H', Pv i σ' H' → SqL K H' a xs) ∨ (∀ i σ' H', Pv i σ' H' → SqT K H' a xs))
    (hs : ∀ i x σ H, xs[i]? = some x → Pv i σ H → g x σ H fun σ2 H2 => tb { D with nx := Pv (i + 1), ct := Pv (i + 1), bk := D.nx } σ2 H2) (hd : ∀ σ H, Pv xs.length σ H → D.nx σ H) :
    (SqL K H a xs ∧ ∃ W : Nat → Nat → L2.St → Hp → Prop, (∃ m, W 0 m σ H) ∧ ∀ i m σ H, W i m σ H →
      ((Itl K a).stop i H ∧ D.nx σ H) ∨ ((Itl K a).go i H ∧ ∃ N : L2.St → Hp → Prop, (∀ σ' H', N σ' H' → ∃ m', m' < m ∧ W (i + 1) m' σ' H') ∧ ∀ x H', (Itl K a).yld i H x H' → g x σ H' fun σ2 H2 => tb { D with nx := N, ct := N, bk := D.nx } σ2 H2)) ∨
    (SqT K H a xs ∧ ∃ W : Nat → Nat → L2.St → Hp → Prop, (∃ m, W 0 m σ H) ∧ ∀ i m σ H, W i m σ H →
      ((Itt K a).stop i H ∧ D.nx σ H) ∨ ((Itt K a).go i H ∧ ∃ N : L2.St → Hp → Prop, (∀ σ' H', N σ' H' → ∃ m', m' < m ∧ W (i + 1) m' σ' H') ∧ ∀ x H', (Itt K a).yld i H x H' → g x σ H' fun σ2 H2 => tb { D with nx := N, ct := N, bk := D.nx } σ2 H2)) := by
  rcases h with h | h
  · exact .inl ⟨h _ _ _ h0, for_list Pv h0 (fun i σ' H' _ p => h i σ' H' p) hs hd⟩
  · exact .inr ⟨h _ _ _ h0, for_tup Pv h0 (fun i σ' H' _ p => h i σ' H' p) hs hd⟩
theorem rg_nat (n : Nat) : rgV 0 (n : Int) = nV (List.range n) := by
  unfold rgV
  rw [show ((n : Int) - 0).toNat = n by omega]
  exact List.map_congr_left fun i _ => congrArg V.int (by omega)
theorem rgOk_nat {n : Nat} (h : n ≤ 2000) : RgOk 0 (n : Int) := ⟨by omega, by omega, by omega, by omega, by omega⟩
end L2

namespace L2
open PySem PySem.Spec PyProof.Rows
namespace RF
/-- given the answers bs one after another, from any state on -/
def gv (s e : Nat) (f : RF) (bs : List Bool) : Nat → RF
  | 0 => f
  | k + 1 => match (gv s e f bs k).wt with
    | none => gv s e f bs k
    | some _ => (gv s e f bs k).take s e (bs.getD k false)
theorem gv_next {s e : Nat} {f : RF} {bs : List Bool} {k : Nat} {q : Nat × Nat} (h : (gv s e f bs k).wt = some q) : gv s e f bs (k + 1) = (gv s e f bs k).take s e (bs.getD k false) := by
  show (match (gv s e f bs k).wt with
    | none => gv s e f bs k
    | some _ => (gv s e f bs k).take s e (bs.getD k false)) = _
  rw [h]
theorem gv_end {s e : Nat} {f : RF} {bs : List Bool} {k : Nat} (h : (gv s e f bs k).wt = none) : gv s e f bs (k + 1) = gv s e f bs k := by
  show (match (gv s e f bs k).wt with
    | none => gv s e f bs k
    | some _ => (gv s e f bs k).take s e (bs.getD k false)) = _
  rw [h]
theorem gv_good {s e : Nat} {f : RF} {row : List Nat} (g : Good s e row f) (bs : List Bool) : ∀ k, Good s e row (gv s e f bs k)
  | 0 => g
  | k + 1 => by
    have ih := gv_good g bs k
    cases h : (gv s e f bs k).wt with
    | none => rw [gv_end h]; exact ih
    | some q => rw [gv_next h]; exact ih.take (by rw [h]; exact Option.some_ne_none _) _
def gvq (s e : Nat) (f : RF) (bs : List Bool) (n : Nat) : List (Nat × Nat) := (List.range n).map fun i => ((gv s e f bs i).wt).getD (0, 0)
theorem gvq_len (s e : Nat) (f : RF) (bs : List Bool) (n : Nat) : (gvq s e f bs n).length = n := by
  unfold gvq
  rw [List.length_map, List.length_range]
theorem gvq_next {s e : Nat} {f : RF} {bs : List Bool} {n : Nat} {q : Nat × Nat} (h : (gv s e f bs n).wt = some q) : gvq s e f bs (n + 1) = gvq s e f bs n ++ [q] := by
  unfold gvq
  rw [List.range_succ, List.map_append, List.map_singleton, h]
  rfl
theorem gv_fed (size : Nat) (bs : List Bool) : ∀ k, gv 0 size (RF.init (List.range size) 0 size) bs k = fed size bs k
  | 0 => rfl
  | k + 1 => by
    have ih := gv_fed size bs k
    cases h : (fed size bs k).wt with
    | none => rw [fed_end h, gv_end (by rw [ih]; exact h), ih]
    | some q => rw [fed_next h, gv_next (by rw [ih]; exact h), ih]
theorem gvq_ask (size : Nat) (bs : List Bool) (n : Nat) : gvq 0 size (RF.init (List.range size) 0 size) bs n = askB size bs n := by
  unfold gvq askB
  exact List.map_congr_left fun i _ => by rw [gv_fed]
theorem gv_stps {s e : Nat} {f : RF} {ls : Nat × Nat → Bool} {bs : List Bool} : ∀ {k : Nat}, (∀ i q, i < k → (f.stps ls s e i).wt = some q → bs.getD i false = ls q) → gv s e f bs k = f.stps ls s e k
  | 0, _ => rfl
  | k + 1, h => by
    have ih := gv_stps (k := k) fun i q hi hq => h i q (by omega) hq
    cases hw : (f.stps ls s e k).wt with
    | none => rw [stps_end hw, gv_end (by rw [ih]; exact hw), ih]
    | some q => rw [stps_next hw, gv_next (by rw [ih]; exact hw), ih, h k q (by omega) hw]
end RF
/-- answers: a list or a tuple of bools -/
def AnsAt (H : Hp) (p : Addr) (bs : List Bool) : Prop := H p = some (.lst (bs.map V.bl)) ∨ H p = some (.tup (bs.map V.bl))
theorem AnsAt.same {H H' : Hp} {p : Addr} {bs : List Bool} (e : Same H H') (h : AnsAt H p bs) : AnsAt H' p bs := h.imp (e _ _) (e _ _)
theorem ans_item {bs : List Bool} {i : Nat} {x : V} (h : (bs.map V.bl)[i]? = some x) : ∃ z, bs[i]? = some z ∧ x = .bl z := by
  rw [List.getElem?_map] at h
  cases e : bs[i]? with
  | none => rw [e] at h; cases h
  | some z => rw [e] at h; exact ⟨z, rfl, (Option.some.inj h).symm⟩
theorem AnsAt.free {H : Hp} {p z : Addr} {bs : List Bool} (h : AnsAt H p bs) (n : H z = none) : p ≠ z := fun e => by
  rw [← e] at n
  rcases h with h | h
  · rw [h] at n; cases n
  · rw [h] at n; cases n
end L2

namespace L2
open PySem PySem.Spec PyProof.Rows
namespace RF
/-! ### how many questions there may be: two less than twice the items -/
variable {e : Nat} {f : RF}
def ph (st pl n : Nat) : Nat := if st = 5 then n else if st = 4 then 2 * n else if st = 3 then 2 * n + 1 else if st = 2 then 2 * n else if pl = 1 then 2 * n else 2 * n + 1
def phi (e : Nat) (f : RF) : Nat := if f.wt = none then 0 else ph f.st f.pl (e - f.pl)
theorem phi_none (h : f.wt = none) : phi e f = 0 := if_pos h
theorem phi_some {q : Nat × Nat} (h : f.wt = some q) : phi e f = ph f.st f.pl (e - f.pl) := if_neg (by rw [h]; exact Option.some_ne_none _)
theorem phi_ask {f : RF} {b : Nat} (h : f.pl < e → ph f.st f.pl (e - f.pl) ≤ b) : phi e (f.ask 0 e) ≤ b := by
  unfold RF.ask
  split
  · rename_i hp
    rw [phi_some (q := (f.row.getD f.pl 0, f.row.getD (f.pl - 1) 0)) rfl]
    exact h hp
  · rename_i hp
    split
    · have : phi e (f.rise 0 e) = 0 := by
        unfold RF.rise RF.askUp
        rw [if_neg (by show ¬ f.turnEq.pl < e; rw [turnEq_pl]; exact hp)]
        exact phi_none rfl
      omega
    · rw [phi_none (f := f.finish 0) rfl]
      exact Nat.zero_le _
theorem phi_take {q : Nat × Nat} (hw : f.wt = some q) (h0 : 0 < f.pl) (h : f.pl < e) (hs : 1 ≤ f.st ∧ f.st ≤ 5) (b : Bool) : phi e (f.take 0 e b) < phi e f := by
  rw [phi_some hw]
  unfold RF.take
  by_cases s1 : f.st = 1
  · rw [if_pos s1]
    have hb : ph f.st f.pl (e - f.pl) = if f.pl = 1 then 2 * (e - f.pl) else 2 * (e - f.pl) + 1 := by rw [s1]; rfl
    unfold RF.take1
    split
    · have : phi e (f.goOn 0 e) ≤ 2 * (e - f.pl) - 1 := phi_ask fun hp => by
        have hp' : f.pl + 1 < e := hp
        show ph f.st (f.pl + 1) (e - (f.pl + 1)) ≤ _
        rw [s1]
        show (if f.pl + 1 = 1 then 2 * (e - (f.pl + 1)) else 2 * (e - (f.pl + 1)) + 1) ≤ _
        rw [if_neg (by omega)]
        omega
      rw [hb]
      split <;> omega
    · split
      · rename_i hp1
        have : phi e (f.fall 0 e) ≤ 2 * (e - f.pl) - 1 := phi_ask fun hp => by
          have hp' : f.pl + 1 < e := hp
          show 2 * (e - (f.pl + 1)) + 1 ≤ _
          omega
        rw [hb, if_pos (by omega)]
        omega
      · rename_i hp1
        rw [phi_some (f := { f with st := 2, wt := some (f.row.getD 0 0, f.row.getD (f.pl - 1) 0) }) rfl, hb, if_neg (by omega)]
        show 2 * (e - f.pl) < _
        omega
  rw [if_neg s1]
  by_cases s2 : f.st = 2
  · rw [if_pos s2]
    have hb : ph f.st f.pl (e - f.pl) = 2 * (e - f.pl) := by rw [s2]; rfl
    unfold RF.take2
    split
    · rw [phi_none (f := f.finish 0) rfl, hb]
      omega
    · have : phi e ((f.turn 0).fall 0 e) ≤ 2 * (e - f.pl) - 1 := phi_ask fun hp => by
        have hp' : f.pl + 1 < e := hp
        show 2 * (e - (f.pl + 1)) + 1 ≤ _
        omega
      rw [hb]
      omega
  rw [if_neg s2]
  by_cases s3 : f.st = 3
  · rw [if_pos s3]
    have hb : ph f.st f.pl (e - f.pl) = 2 * (e - f.pl) + 1 := by rw [s3]; rfl
    unfold RF.take3
    split
    · have : phi e (f.turnEq.goOn 0 e) ≤ 2 * (e - f.pl) - 1 := phi_ask fun hp => by
        have hp' : f.turnEq.pl + 1 < e := hp
        rw [turnEq_pl] at hp'
        show ph f.turnEq.st (f.turnEq.pl + 1) (e - (f.turnEq.pl + 1)) ≤ _
        rw [turnEq_st, turnEq_pl, s3]
        show 2 * (e - (f.pl + 1)) + 1 ≤ _
        omega
      rw [hb]
      omega
    · rw [phi_some (f := { f with st := 4, wt := some (f.row.getD (f.pl - 1) 0, f.row.getD f.pl 0) }) rfl, hb]
      show 2 * (e - f.pl) < _
      omega
  rw [if_neg s3]
  by_cases s4 : f.st = 4
  · rw [if_pos s4]
    have hb : ph f.st f.pl (e - f.pl) = 2 * (e - f.pl) := by rw [s4]; rfl
    unfold RF.take4
    split
    · have e1 : f.rise 0 e = RF.ask 0 e { (f.turnEq.turn 0 : RF) with st := 5 } := by
        unfold RF.rise RF.askUp RF.ask
        rw [if_neg (show ¬ ({ (f.turnEq.turn 0 : RF) with st := 5 } : RF).st = 3 by show ¬ 5 = 3; decide)]
      have : phi e (f.rise 0 e) ≤ e - f.pl := by
        rw [e1]
        exact phi_ask fun hp => by
          show e - f.turnEq.pl ≤ _
          rw [turnEq_pl]
          exact Nat.le_refl _
      rw [hb]
      omega
    · have : phi e (({ f with eq := f.eq + 1, st := 3 } : RF).goOn 0 e) ≤ 2 * (e - f.pl) - 1 := phi_ask fun hp => by
        have hp' : f.pl + 1 < e := hp
        show 2 * (e - (f.pl + 1)) + 1 ≤ _
        omega
      rw [hb]
      omega
  rw [if_neg s4]
  have s5 : f.st = 5 := by omega
  have hb : ph f.st f.pl (e - f.pl) = e - f.pl := by rw [s5]; rfl
  unfold RF.take5
  split
  · rw [phi_none (f := f.finish 0) rfl, hb]
    omega
  · have : phi e (f.goOn 0 e) ≤ e - f.pl - 1 := phi_ask fun hp => by
      have hp' : f.pl + 1 < e := hp
      show ph f.st (f.pl + 1) (e - (f.pl + 1)) ≤ _
      rw [s5]
      show e - (f.pl + 1) ≤ _
      omega
    rw [hb]
    omega
/-- the step is one of the five -/
def St5 (f : RF) : Prop := 1 ≤ f.st ∧ f.st ≤ 5
theorem st5_ask {f : RF} (h : St5 f) : St5 (f.ask 0 e) := by
  unfold RF.ask
  split
  · exact h
  · split
    · unfold RF.rise RF.askUp
      split
      · exact ⟨by show 1 ≤ 5; decide, by show 5 ≤ 5; decide⟩
      · exact ⟨by show 1 ≤ 5; decide, by show 5 ≤ 5; decide⟩
    · exact h
theorem st5_rise : St5 (f.rise 0 e) := by
  unfold RF.rise RF.askUp
  split
  · exact ⟨by show 1 ≤ 5; decide, by show 5 ≤ 5; decide⟩
  · exact ⟨by show 1 ≤ 5; decide, by show 5 ≤ 5; decide⟩
theorem st5_three {f : RF} (h : f.st = 3) : St5 f := ⟨by omega, by omega⟩
theorem st5_take (h : St5 f) (b : Bool) : St5 (f.take 0 e b) := by
  unfold RF.take
  split
  · unfold RF.take1
    split
    · exact st5_ask h
    · split
      · exact st5_ask (st5_three rfl)
      · exact ⟨by show 1 ≤ 2; decide, by show 2 ≤ 5; decide⟩
  · split
    · unfold RF.take2
      split
      · exact h
      · exact st5_ask (st5_three rfl)
    · split
      · rename_i h3
        unfold RF.take3
        split
        · exact st5_ask (st5_three (by show f.turnEq.st = 3; rw [turnEq_st]; exact h3))
        · exact ⟨by show 1 ≤ 4; decide, by show 4 ≤ 5; decide⟩
      · split
        · unfold RF.take4
          split
          · exact st5_rise
          · exact st5_ask (st5_three rfl)
        · unfold RF.take5
          split
          · exact h
          · exact st5_ask h
theorem fed_st5 {size : Nat} {bs : List Bool} : ∀ k, St5 (fed size bs k)
  | 0 => st5_ask ⟨by show 1 ≤ 1; decide, by show 1 ≤ 5; decide⟩
  | k + 1 => by
    have ih := fed_st5 (size := size) (bs := bs) k
    cases h : (fed size bs k).wt with
    | none => rw [fed_end h]; exact ih
    | some q => rw [fed_next h]; exact st5_take ih _
theorem phi_zero {size : Nat} {bs : List Bool} (h : 0 < size) : phi size (fed size bs 0) ≤ 2 * (size - 1) := phi_ask fun hp => by
  show (if 0 + 1 = 1 then 2 * (size - (0 + 1)) else 2 * (size - (0 + 1)) + 1) ≤ _
  rw [if_pos rfl]
  omega
theorem fed_phi {size : Nat} (h1 : 0 < size) (h2 : size ≤ 2000) (bs : List Bool) : ∀ k, (∀ i, i < k → (fed size bs i).wt ≠ none) → k + phi size (fed size bs k) ≤ 2 * (size - 1)
  | 0, _ => by
    have := phi_zero (bs := bs) h1
    omega
  | k + 1, h => by
    have ih := fed_phi h1 h2 bs k (fun i hi => h i (by omega))
    have g := fed_good h1 h2 bs k
    cases e0 : (fed size bs k).wt with
    | none => exact absurd e0 (h k (by omega))
    | some q =>
      have := phi_take e0 g.wf.sp (g.ah (by rw [e0]; exact Option.some_ne_none _)) (fed_st5 k) (bs.getD k false)
      rw [← fed_next e0] at this
      omega
/-- at most two questions less than twice the items -/
theorem fed_few {size : Nat} (h1 : 0 < size) (h2 : size ≤ 2000) (bs : List Bool) {k : Nat} (h : ∀ i, i < k → (fed size bs i).wt ≠ none) : k ≤ 2 * (size - 1) := by
  have := fed_phi h1 h2 bs k h
  omega
/-- a run of two items, where there are two -/
def Long (e : Nat) (f : RF) : Prop := 2 ≤ f.pl ∨ (f.pl = 1 ∧ f.st = 1 ∧ f.wt ≠ none) ∨ e ≤ 1
theorem ask_pl {f : RF} : (f.ask 0 e).pl = f.pl := by
  unfold RF.ask
  split
  · rfl
  · split
    · unfold RF.rise RF.askUp
      split
      · exact turnEq_pl f
      · exact turnEq_pl f
    · rfl
theorem go_pl {f : RF} : f.pl ≤ (f.goOn 0 e).pl := by
  have e1 : (f.goOn 0 e).pl = f.pl + 1 := ask_pl
  omega
theorem fall_pl {f : RF} : f.pl ≤ (f.fall 0 e).pl := by
  have e1 : (f.fall 0 e).pl = f.pl + 1 := ask_pl
  omega
theorem take_pl (b : Bool) : f.pl ≤ (f.take 0 e b).pl := by
  unfold RF.take
  split
  · unfold RF.take1
    split
    · exact go_pl
    · split
      · exact fall_pl
      · exact Nat.le_refl _
  · split
    · unfold RF.take2
      split
      · exact Nat.le_refl _
      · exact fall_pl (f := f.turn 0)
    · split
      · unfold RF.take3
        split
        · refine Nat.le_trans (Nat.le_succ _) (Nat.le_of_eq ?_)
          have e1 : (f.turnEq.goOn 0 e).pl = f.turnEq.pl + 1 := ask_pl
          rw [e1, turnEq_pl]
        · exact Nat.le_refl _
      · split
        · unfold RF.take4
          split
          · have e1 : (f.rise 0 e).pl = f.pl := by
              unfold RF.rise RF.askUp
              split
              · exact turnEq_pl f
              · exact turnEq_pl f
            exact Nat.le_of_eq e1.symm
          · exact go_pl (f := { f with eq := f.eq + 1, st := 3 })
        · unfold RF.take5
          split
          · exact Nat.le_refl _
          · exact go_pl
theorem fed_long {size : Nat} {bs : List Bool} : ∀ k, Long size (fed size bs k)
  | 0 => by
    by_cases h : size ≤ 1
    · exact .inr (.inr h)
    · refine .inr (.inl ⟨ask_pl, ?_, ?_⟩)
      · show (RF.ask 0 size _).st = 1
        unfold RF.ask
        rw [if_pos (by show 0 + 1 < size; omega)]
      · show (RF.ask 0 size _).wt ≠ none
        unfold RF.ask
        rw [if_pos (by show 0 + 1 < size; omega)]
        exact Option.some_ne_none _
  | k + 1 => by
    have ih := fed_long (size := size) (bs := bs) k
    cases h : (fed size bs k).wt with
    | none => rw [fed_end h]; exact ih
    | some q =>
      rw [fed_next h]
      rcases ih with ih | ⟨i1, i2, _⟩ | ih
      · exact .inl (Nat.le_trans ih (take_pl _))
      · refine .inl ?_
        unfold RF.take
        rw [if_pos i2]
        unfold RF.take1
        rw [if_pos (show (fed size bs k).pl = 0 + 1 by omega)]
        split
        · have e1 : ((fed size bs k).goOn 0 size).pl = (fed size bs k).pl + 1 := ask_pl
          omega
        · have e1 : ((fed size bs k).fall 0 size).pl = (fed size bs k).pl + 1 := ask_pl
          omega
      · exact .inr (.inr ih)
theorem fed_two {size : Nat} (h1 : 0 < size) (h2 : size ≤ 2000) {bs : List Bool} {k : Nat} (h : (fed size bs k).wt = none) : min 2 size ≤ (fed size bs k).pl := by
  have g := (fed_good h1 h2 bs k).wf.sp
  rcases fed_long (size := size) (bs := bs) k with l | ⟨_, _, l⟩ | l
  · omega
  · exact absurd h l
  · omega
end RF
end L2

namespace L2
open PySem PySem.Spec PyProof.Rows
/-! ### what told_run tells, as data -/
def pD (q : Nat × Nat) : PyData := .tuple [.int (q.1 : Int), .int (q.2 : Int)]
def lnD : Option Nat → PyData
  | none => .none
  | some n => .int (n : Int)
def toldD (ln : Option Nat) (row : List Nat) (qs : List (Nat × Nat)) : PyData := .tuple [lnD ln, .list ((row.map fun (i : Nat) => (i : Int)).map PyData.int), .list (qs.map pD)]
theorem canLay_pairs : ∀ qs : List (Nat × Nat), PyData.canLayAll0 (qs.map pD) = true
  | [] => rfl
  | q :: r => by
    show (PyData.canLay0 (pD q) && PyData.canLayAll0 (r.map pD)) = true
    rw [canLay_pairs r]
    rfl
theorem depth_pairs : ∀ qs : List (Nat × Nat), PyData.depthAll (qs.map pD) ≤ 1
  | [] => Nat.zero_le _
  | q :: r => by
    show max (PyData.depth (pD q)) (PyData.depthAll (r.map pD)) ≤ 1
    have h1 : PyData.depth (pD q) = 1 := rfl
    have h2 := depth_pairs r
    omega
theorem shaped_told (ln : Option Nat) (row : List Nat) (qs : List (Nat × Nat)) : SeqAt.shaped (toldD ln row qs) = true := by
  unfold SeqAt.shaped
  rw [Bool.and_eq_true]
  constructor
  · show (PyData.canLay0 (lnD ln) && (PyData.canLayAll0 ((row.map fun (i : Nat) => (i : Int)).map PyData.int) && (PyData.canLayAll0 (qs.map pD) && true))) = true
    rw [canLay_ints, canLay_pairs]
    cases ln <;> rfl
  · refine decide_eq_true ?_
    show max (PyData.depth (lnD ln)) (max (PyData.depthAll ((row.map fun (i : Nat) => (i : Int)).map PyData.int) + 1) (max (PyData.depthAll (qs.map pD) + 1) 0)) + 1 ≤ 64
    have h1 : PyData.depth (lnD ln) = 0 := by cases ln <;> rfl
    have h2 := depth_pairs qs
    rw [depth_ints, h1]
    omega
theorem eqv_told (ln : Option Nat) (row : List Nat) (qs : List (Nat × Nat)) : PyData.eqv (toldD ln row qs) (toldD ln row qs) = true := SeqAt.eqv_refl _ (SeqAt.canLay_of_shaped (shaped_told ln row qs))
theorem dpAll_pairs {K : PySem.W.Frag} {H : Hp} : ∀ {ts : List V} {qs : List (Nat × Nat)}, ts.length = qs.length → (∀ (i : Nat) (v : V) (q : Nat × Nat), ts[i]? = some v → qs[i]? = some q → PairAt H v q) → DpAll K H ts (qs.map pD)
  | [], [], _, _ => .nil
  | v :: ts, q :: qs, hl, h => by
    obtain ⟨t, e, ht⟩ := h 0 v q rfl rfl
    subst e
    refine .cons (.tup (L2.st_of ht) (.cons (.int _) (.cons (.int _) .nil))) (dpAll_pairs (by simpa using hl) fun i v' q' h1 h2 => h (i + 1) v' q' h1 h2)
theorem dp_told {K : PySem.W.Frag} {H : Hp} {t r l : Addr} {ln : Option Nat} {row : List Nat} {qs : List (Nat × Nat)} (ht : H t = some (.tup [lenV ln, .ref r, .ref l])) (hr : H r = some (.lst (nV row))) (hq : QAt H l qs) : Dp K H (.ref t) (toldD ln row qs) := by
  obtain ⟨ts, h1, h2, h3⟩ := hq
  refine .tup (L2.st_of ht) (.cons ?_ (.cons ?_ (.cons (.lst (L2.sq_of h1) (dpAll_pairs h2 h3)) .nil)))
  · cases ln with
    | none => exact .non
    | some n => exact .int _
  · exact dp_ints (by rw [← nV_map]; exact L2.sq_of hr)
/-- a sorted row of the same ints is one -/
theorem sorted_one : ∀ {a b : List Int}, a.Perm b → a.Pairwise (· ≤ ·) → b.Pairwise (· ≤ ·) → a = b
  | [], b, p, _, _ => (List.nil_perm.mp p).symm
  | x :: a, b, p, ha, hb => by
    cases b with
    | nil => exact absurd p.length_eq (by simp)
    | cons y b =>
      have ha' := List.pairwise_cons.mp ha
      have hb' := List.pairwise_cons.mp hb
      have e : x = y := by
        have h1 : x ∈ y :: b := p.mem_iff.mp List.mem_cons_self
        have h2 : y ∈ x :: a := p.mem_iff.mpr List.mem_cons_self
        rcases List.mem_cons.mp h1 with h1 | h1
        · exact h1
        · rcases List.mem_cons.mp h2 with h2 | h2
          · exact h2.symm
          · have := hb'.1 x h1
            have := ha'.1 y h2
            omega
      subst e
      rw [sorted_one (List.perm_cons x |>.mp p) ha'.2 hb'.2]
theorem range_sorted (n : Nat) : ((List.range n).map fun (i : Nat) => (i : Int)).Pairwise (· ≤ ·) := by
  rw [List.pairwise_map]
  exact List.Pairwise.imp (fun h => by omega) (List.pairwise_lt_range (n := n))
end L2

namespace L2
open PySem PySem.Spec PyProof.Rows
/-! ### placing: the state, step by step -/
structure PF where
  row : List Nat
  pl : Nat
  lo : Nat
  hi : Nat
  mid : Nat
  wt : Option (Nat × Nat)
namespace PF
def moved (row : List Nat) (lo pl : Nat) : List Nat := row.take lo ++ row.getD pl 0 :: ((row.drop lo).take (pl - lo) ++ row.drop (pl + 1))
def askM (f : PF) : PF := { f with mid := (f.lo + f.hi) / 2, wt := some (f.row.getD f.pl 0, f.row.getD ((f.lo + f.hi) / 2) 0) }
def begin (e : Nat) (f : PF) : PF := if f.pl < e then askM { f with lo := 0, hi := f.pl, wt := none } else { f with wt := none }
def put (e : Nat) (f : PF) : PF := begin e { f with row := moved f.row f.lo f.pl, pl := f.pl + 1 }
def half (b : Bool) (f : PF) : PF := if b = true then { f with hi := f.mid } else { f with lo := f.mid + 1 }
def take (e : Nat) (b : Bool) (f : PF) : PF := if (half b f).lo < (half b f).hi then askM (half b f) else put e (half b f)
def init (row : List Nat) (e rd : Nat) : PF := begin e { row := row, pl := max rd 1, lo := 0, hi := 0, mid := 0, wt := none }
/-- amid an item -/
structure Act (e : Nat) (f : PF) : Prop where
  pe : f.pl < e
  hp : f.hi ≤ f.pl
  lh : f.lo < f.hi
  md : f.mid = (f.lo + f.hi) / 2
  wq : f.wt = some (f.row.getD f.pl 0, f.row.getD f.mid 0)
structure Good (e : Nat) (row0 : List Nat) (f : PF) : Prop where
  len : f.row.length = e
  e64 : e ≤ 64
  p1 : 1 ≤ f.pl
  pm : f.row.Perm row0
  act : f.wt ≠ none → Act e f
  fin : f.wt = none → e ≤ f.pl
theorem moved_perm {row : List Nat} {lo pl : Nat} (h1 : lo ≤ pl) (h2 : pl < row.length) : (moved row lo pl).Perm row := by
  have e1 : row.take lo ++ ((row.drop lo).take (pl - lo) ++ row.getD pl 0 :: row.drop (pl + 1)) = row := by
    have a1 : row.drop pl = row.getD pl 0 :: row.drop (pl + 1) := by
      rw [List.drop_eq_getElem_cons h2]
      simp [List.getD_eq_getElem?_getD, List.getElem?_eq_getElem h2]
    have a2 : (row.drop lo).drop (pl - lo) = row.drop pl := by
      rw [List.drop_drop]
      congr 1
      omega
    rw [← a1, ← a2, List.take_append_drop, List.take_append_drop]
  unfold moved
  refine List.Perm.trans ?_ (List.Perm.of_eq e1)
  refine List.Perm.append_left _ ?_
  exact List.perm_middle.symm
theorem moved_len {row : List Nat} {lo pl : Nat} (h1 : lo ≤ pl) (h2 : pl < row.length) : (moved row lo pl).length = row.length := (moved_perm h1 h2).length_eq
theorem Good.begin {e : Nat} {row0 : List Nat} {f : PF} (l : f.row.length = e) (h64 : e ≤ 64) (p : 1 ≤ f.pl) (pm : f.row.Perm row0) : Good e row0 (begin e f) := by
  unfold PF.begin
  by_cases h : f.pl < e
  · rw [if_pos h]
    exact ⟨l, h64, p, pm, fun _ => ⟨h, Nat.le_refl _, p, rfl, rfl⟩, fun z => by cases z⟩
  · rw [if_neg h]
    exact ⟨l, h64, p, pm, fun z => absurd rfl z, fun _ => by show e ≤ f.pl; omega⟩
theorem Good.put {e : Nat} {row0 : List Nat} {f : PF} (l : f.row.length = e) (h64 : e ≤ 64) (h1 : f.lo ≤ f.pl) (h2 : f.pl < e) (pm : f.row.Perm row0) : Good e row0 (put e f) :=
  Good.begin (by show (moved f.row f.lo f.pl).length = e; rw [moved_len h1 (by omega)]; exact l) h64 (by show 1 ≤ f.pl + 1; omega) ((moved_perm h1 (by omega)).trans pm)
theorem half_row (b : Bool) (f : PF) : (half b f).row = f.row := by unfold half; split <;> rfl
theorem half_pl (b : Bool) (f : PF) : (half b f).pl = f.pl := by unfold half; split <;> rfl
theorem half_in {e : Nat} {f : PF} (a : Act e f) (b : Bool) : (half b f).lo ≤ (half b f).hi ∧ (half b f).hi ≤ f.pl := by
  have h1 := a.hp; have h2 := a.lh; have h3 := a.md
  unfold half
  split
  · exact ⟨by show f.lo ≤ f.mid; omega, by show f.mid ≤ f.pl; omega⟩
  · exact ⟨by show f.mid + 1 ≤ f.hi; omega, h1⟩
theorem Good.take {e : Nat} {row0 : List Nat} {f : PF} (g : Good e row0 f) (h : f.wt ≠ none) (b : Bool) : Good e row0 (take e b f) := by
  have a := g.act h
  obtain ⟨i1, i2⟩ := half_in a b
  unfold PF.take
  split
  · rename_i hl
    exact ⟨by show (half b f).row.length = e; rw [half_row]; exact g.len, g.e64, by show 1 ≤ (half b f).pl; rw [half_pl]; exact g.p1, by show (half b f).row.Perm row0; rw [half_row]; exact g.pm,
      fun _ => ⟨by show (half b f).pl < e; rw [half_pl]; exact a.pe, by show (half b f).hi ≤ (half b f).pl; rw [half_pl]; exact i2, hl, rfl, rfl⟩, fun z => by cases z⟩
  · exact Good.put (by rw [half_row]; exact g.len) g.e64 (by rw [half_pl]; omega) (by rw [half_pl]; exact a.pe) (by rw [half_row]; exact g.pm)
theorem Good.init {row : List Nat} {e rd : Nat} (l : row.length = e) (h64 : e ≤ 64) : Good e row (init row e rd) := Good.begin l h64 (Nat.le_max_right _ _) (List.Perm.refl _)
/-- by the keys -/
def stp (ls : Nat × Nat → Bool) (e : Nat) (f : PF) : PF := match f.wt with
  | none => f
  | some q => f.take e (ls q)
def stps (ls : Nat × Nat → Bool) (e : Nat) (f : PF) : Nat → PF
  | 0 => f
  | n + 1 => stp ls e (stps ls e f n)
theorem stps_next {ls : Nat × Nat → Bool} {e : Nat} {f : PF} {n : Nat} {q : Nat × Nat} (h : (f.stps ls e n).wt = some q) : f.stps ls e (n + 1) = (f.stps ls e n).take e (ls q) := by
  show PF.stp ls e (f.stps ls e n) = _
  unfold PF.stp
  rw [h]
theorem stps_end {ls : Nat × Nat → Bool} {e : Nat} {f : PF} {n : Nat} (h : (f.stps ls e n).wt = none) : f.stps ls e (n + 1) = f.stps ls e n := by
  show PF.stp ls e (f.stps ls e n) = _
  unfold PF.stp
  rw [h]
theorem Good.stps {e : Nat} {row0 : List Nat} {f : PF} (ls : Nat × Nat → Bool) (g : Good e row0 f) : ∀ n, Good e row0 (f.stps ls e n)
  | 0 => g
  | n + 1 => by
    have ih := Good.stps ls g n
    cases h : (f.stps ls e n).wt with
    | none => rw [stps_end h]; exact ih
    | some q => rw [stps_next h]; exact ih.take (by rw [h]; exact Option.some_ne_none _) _
def asks (ls : Nat × Nat → Bool) (e : Nat) (f : PF) (n : Nat) : List (Nat × Nat) := (List.range n).map fun i => ((f.stps ls e i).wt).getD (0, 0)
theorem asks_len (ls : Nat × Nat → Bool) (e : Nat) (f : PF) (n : Nat) : (f.asks ls e n).length = n := by
  unfold asks
  rw [List.length_map, List.length_range]
theorem asks_next {ls : Nat × Nat → Bool} {e : Nat} {f : PF} {n : Nat} {q : Nat × Nat} (h : (f.stps ls e n).wt = some q) : f.asks ls e (n + 1) = f.asks ls e n ++ [q] := by
  unfold asks
  rw [List.range_succ, List.map_append, List.map_singleton, h]
  rfl
theorem asks_at {ls : Nat × Nat → Bool} {e : Nat} {f : PF} {n i : Nat} (h : i < n) : (f.asks ls e n)[i]? = some (((f.stps ls e i).wt).getD (0, 0)) := by
  unfold asks
  rw [List.getElem?_map, List.getElem?_range h]
  rfl
/-- by answers of any kind -/
def gv (e : Nat) (f : PF) (bs : List Bool) : Nat → PF
  | 0 => f
  | k + 1 => match (gv e f bs k).wt with
    | none => gv e f bs k
    | some _ => (gv e f bs k).take e (bs.getD k false)
theorem gv_next {e : Nat} {f : PF} {bs : List Bool} {k : Nat} {q : Nat × Nat} (h : (gv e f bs k).wt = some q) : gv e f bs (k + 1) = (gv e f bs k).take e (bs.getD k false) := by
  show (match (gv e f bs k).wt with
    | none => gv e f bs k
    | some _ => (gv e f bs k).take e (bs.getD k false)) = _
  rw [h]
theorem gv_end {e : Nat} {f : PF} {bs : List Bool} {k : Nat} (h : (gv e f bs k).wt = none) : gv e f bs (k + 1) = gv e f bs k := by
  show (match (gv e f bs k).wt with
    | none => gv e f bs k
    | some _ => (gv e f bs k).take e (bs.getD k false)) = _
  rw [h]
theorem gv_stay {e : Nat} {f : PF} {bs : List Bool} {n : Nat} (h : (gv e f bs n).wt = none) : ∀ k, gv e f bs (n + k) = gv e f bs n
  | 0 => rfl
  | k + 1 => by
    have ih := gv_stay h k
    show gv e f bs ((n + k) + 1) = _
    rw [gv_end (by rw [ih]; exact h), ih]
theorem Good.gv {e : Nat} {row0 : List Nat} {f : PF} (g : Good e row0 f) (bs : List Bool) : ∀ k, Good e row0 (gv e f bs k)
  | 0 => g
  | k + 1 => by
    have ih := Good.gv g bs k
    cases h : (PF.gv e f bs k).wt with
    | none => rw [gv_end h]; exact ih
    | some q => rw [gv_next h]; exact ih.take (by rw [h]; exact Option.some_ne_none _) _
def gvq (e : Nat) (f : PF) (bs : List Bool) (n : Nat) : List (Nat × Nat) := (List.range n).map fun i => ((gv e f bs i).wt).getD (0, 0)
theorem gvq_len (e : Nat) (f : PF) (bs : List Bool) (n : Nat) : (gvq e f bs n).length = n := by
  unfold gvq
  rw [List.length_map, List.length_range]
theorem gvq_next {e : Nat} {f : PF} {bs : List Bool} {n : Nat} {q : Nat × Nat} (h : (gv e f bs n).wt = some q) : gvq e f bs (n + 1) = gvq e f bs n ++ [q] := by
  unfold gvq
  rw [List.range_succ, List.map_append, List.map_singleton, h]
  rfl
theorem gv_congr {e : Nat} {f : PF} {bs cs : List Bool} : ∀ {k : Nat}, (∀ i, i < k → bs.getD i false = cs.getD i false) → gv e f bs k = gv e f cs k
  | 0, _ => rfl
  | k + 1, h => by
    have ih := gv_congr (e := e) (f := f) (k := k) fun i hi => h i (by omega)
    cases hw : (gv e f bs k).wt with
    | none => rw [gv_end hw, gv_end (by rw [← ih]; exact hw), ih]
    | some q => rw [gv_next hw, gv_next (q := q) (by rw [← ih]; exact hw), ih, h k (by omega)]
theorem gv_stps {e : Nat} {f : PF} {ls : Nat × Nat → Bool} {bs : List Bool} : ∀ {k : Nat}, (∀ i q, i < k → (f.stps ls e i).wt = some q → bs.getD i false = ls q) → gv e f bs k = f.stps ls e k
  | 0, _ => rfl
  | k + 1, h => by
    have ih := gv_stps (k := k) fun i q hi hq => h i q (by omega) hq
    cases hw : (f.stps ls e k).wt with
    | none => rw [stps_end hw, gv_end (by rw [ih]; exact hw), ih]
    | some q => rw [stps_next hw, gv_next (q := q) (by rw [ih]; exact hw), ih, h k q (by omega) hw]
/-! how many questions -/
def bl (m : Nat) : Nat := if m = 0 then 0 else m.log2 + 1
theorem bl_half {m m' : Nat} (h : 0 < m) (h2 : m' ≤ m / 2) : bl m' + 1 ≤ bl m := by
  unfold bl
  rw [if_neg (by omega : m ≠ 0)]
  by_cases e : m' = 0
  · rw [if_pos e]
    omega
  · rw [if_neg e]
    have a1 : 2 ^ m'.log2 ≤ m' := Nat.log2_self_le e
    have : m'.log2 + 1 ≤ m.log2 := (Nat.le_log2 (by omega)).mpr (by rw [Nat.pow_succ]; omega)
    omega
theorem bl_63 {m : Nat} (h : m ≤ 63) : bl m ≤ 6 := by
  unfold bl
  split
  · omega
  · rename_i e
    have : m.log2 < 6 := (Nat.log2_lt e).mpr (by omega)
    omega
def phi (e : Nat) (f : PF) : Nat := if f.wt = none then 0 else bl (f.hi - f.lo) + 6 * (e - 1 - f.pl)
theorem phi_begin {e : Nat} {f : PF} (h64 : e ≤ 64) (h : 1 ≤ f.pl) : phi e (begin e f) ≤ 6 * (e - f.pl) := by
  unfold PF.begin
  by_cases hp : f.pl < e
  · rw [if_pos hp]
    unfold phi
    rw [if_neg (by intro z; cases z)]
    show bl (f.pl - 0) + 6 * (e - 1 - f.pl) ≤ _
    have := bl_63 (m := f.pl - 0) (by omega)
    omega
  · rw [if_neg hp]
    unfold phi
    rw [if_pos rfl]
    omega
theorem phi_take {e : Nat} {row0 : List Nat} {f : PF} (g : Good e row0 f) (h : f.wt ≠ none) (b : Bool) : phi e (take e b f) + 1 ≤ phi e f := by
  have a := g.act h
  have h1 := a.hp; have h2 := a.lh; have h3 := a.md; have h4 := a.pe; have h5 := g.e64
  have e1 : phi e f = bl (f.hi - f.lo) + 6 * (e - 1 - f.pl) := by unfold phi; rw [if_neg h]
  have hb : 1 ≤ bl (f.hi - f.lo) := by unfold bl; rw [if_neg (by omega)]; omega
  rw [e1]
  unfold PF.take
  split
  · rename_i hl
    have e2 : phi e (askM (half b f)) = bl ((half b f).hi - (half b f).lo) + 6 * (e - 1 - (half b f).pl) := by
      unfold phi
      rw [if_neg (by intro z; cases z)]
      rfl
    rw [e2, half_pl]
    have : bl ((half b f).hi - (half b f).lo) + 1 ≤ bl (f.hi - f.lo) := by
      refine bl_half (by omega) ?_
      unfold half
      split
      · show f.mid - f.lo ≤ _; omega
      · show f.hi - (f.mid + 1) ≤ _; omega
    omega
  · have : phi e (put e (half b f)) ≤ 6 * (e - ((half b f).pl + 1)) := phi_begin (f := { half b f with row := moved (half b f).row (half b f).lo (half b f).pl, pl := (half b f).pl + 1 }) h5 (by show 1 ≤ (half b f).pl + 1; omega)
    rw [half_pl] at this
    omega
theorem phi_init {row : List Nat} {e rd : Nat} (h64 : e ≤ 64) : phi e (init row e rd) ≤ 6 * (e - 1) := by
  have := phi_begin (e := e) (f := { row := row, pl := max rd 1, lo := 0, hi := 0, mid := 0, wt := none }) h64 (Nat.le_max_right _ _)
  have h2 : 1 ≤ max rd 1 := Nat.le_max_right _ _
  show phi e (begin e _) ≤ _
  refine Nat.le_trans this ?_
  show 6 * (e - max rd 1) ≤ 6 * (e - 1)
  omega
theorem phi_gv {e : Nat} {row0 : List Nat} {f : PF} (g : Good e row0 f) (bs : List Bool) : ∀ k, (∀ i, i < k → (gv e f bs i).wt ≠ none) → k + phi e (gv e f bs k) ≤ phi e f
  | 0, _ => by show 0 + phi e f ≤ phi e f; omega
  | k + 1, h => by
    have ih := phi_gv g bs k fun i hi => h i (by omega)
    have hk := h k (by omega)
    obtain ⟨q, hq⟩ := Option.ne_none_iff_exists'.mp hk
    have := phi_take (g.gv bs k) hk (bs.getD k false)
    rw [gv_next hq]
    omega
theorem few {row : List Nat} {e rd : Nat} {bs : List Bool} (l : row.length = e) (h64 : e ≤ 64) {k : Nat} (h : ∀ i, i < k → (gv e (init row e rd) bs i).wt ≠ none) : k ≤ 6 * (e - 1) := by
  have h1 := phi_gv (Good.init (rd := rd) l h64) bs k h
  have h2 := phi_init (row := row) (e := e) (rd := rd) h64
  omega
theorem Good.pmRange {e n : Nat} {row : List Nat} {f : PF} (g : Good e row f) (pm : row.Perm (List.range n)) : Good e (List.range n) f := ⟨g.len, g.e64, g.p1, g.pm.trans pm, g.act, g.fin⟩
theorem Good.items {e n : Nat} {f : PF} (g : Good e (List.range n) f) {q : Nat × Nat} (h : f.wt = some q) : q.1 < n ∧ q.2 < n ∧ q.1 ≠ q.2 := by
  have hne : f.wt ≠ none := by rw [h]; exact Option.some_ne_none _
  have a := g.act hne
  have h1 := a.hp; have h2 := a.lh; have h3 := a.md; have h4 := a.pe; have h5 := g.len
  rw [a.wq] at h
  have eq := (Option.some.inj h).symm
  subst eq
  have gd : ∀ i, i < f.row.length → f.row.getD i 0 = f.row[i]! := fun i hi => by simp [List.getD_eq_getElem?_getD, List.getElem?_eq_getElem hi, hi]
  have mem : ∀ i, i < f.row.length → f.row.getD i 0 < n := fun i hi => by
    have : f.row.getD i 0 ∈ f.row := by
      rw [List.getD_eq_getElem?_getD, List.getElem?_eq_getElem hi]
      exact List.getElem_mem hi
    exact List.mem_range.mp (g.pm.mem_iff.mp this)
  refine ⟨mem _ (by omega), mem _ (by omega), fun e0 => ?_⟩
  have nd : f.row.Nodup := g.pm.nodup_iff.mpr List.nodup_range
  have e1 : f.row[f.pl]'(by omega) = f.row[f.mid]'(by omega) := by
    have a1 : f.row.getD f.pl 0 = f.row[f.pl]'(by omega) := by rw [List.getD_eq_getElem?_getD, List.getElem?_eq_getElem (by omega)]; rfl
    have a2 : f.row.getD f.mid 0 = f.row[f.mid]'(by omega) := by rw [List.getD_eq_getElem?_getD, List.getElem?_eq_getElem (by omega)]; rfl
    rw [← a1, ← a2]
    exact e0
  have := (List.getElem_inj nd).mp e1
  omega
end PF
/-! ### the placer in the heap -/
def fldsP (r : Addr) (e : Nat) (f : PF) (wv : V) : List (Str × V) :=
  [("row", .ref r), ("start", .int 0), ("end", .int (e : Int)), ("place", .int (f.pl : Int)), ("low", .int (f.lo : Int)), ("high", .int (f.hi : Int)), ("middle", .int (f.mid : Int)), ("waiting", wv)]
def PAt (C : Addr) (H : Hp) (x r : Addr) (e : Nat) (f : PF) : Prop := x ≠ r ∧ ∃ dx wv, H x = some (.ins C dx (fldsP r e f wv)) ∧ WaitAt H wv f.wt ∧ H r = some (.lst (nV f.row))
theorem PAt.same {C : Addr} {H H' : Hp} {x r : Addr} {e : Nat} {f : PF} (h : PAt C H x r e f) (k : Same H H') : PAt C H' x r e f := by
  obtain ⟨n, dx, wv, hx, hw, hr⟩ := h
  exact ⟨n, dx, wv, k _ _ hx, hw.keep (fun _ _ _ => k _ _), k _ _ hr⟩
theorem PAt.set {C x r : Addr} {H : Hp} {e : Nat} {f : PF} {dx : Addr} {wv : V} (h : PAt C H x r e f) (hx : H x = some (.ins C dx (fldsP r e f wv))) (f' : PF) (wv' : V) (er : f'.row = f.row) (hw : WaitAt H wv' f'.wt) {w : List (Str × V)} (ew : w = fldsP r e f' wv') :
    PAt C (upd H x (.ins C dx w)) x r e f' ∧ upd H x (.ins C dx w) x = some (.ins C dx (fldsP r e f' wv')) ∧ Fr2 x r H (upd H x (.ins C dx w)) := by
  obtain ⟨n, _, _, _, _, hr⟩ := h
  subst ew
  refine ⟨⟨n, dx, wv', upd_same, hw.upd hx (fun i j e => by cases e), ?_⟩, upd_same, Fr2.putx⟩
  rw [upd_ne n.symm, er]
  exact hr
theorem PAt.putRow {C x r : Addr} {H : Hp} {e : Nat} {f : PF} (h : PAt C H x r e f) {row : List Nat} {w : List V} (ew : w = nV row) : PAt C (upd H r (.lst w)) x r e { f with row := row } := by
  obtain ⟨n, dx, wv, hx, hw, hr⟩ := h
  subst ew
  refine ⟨n, dx, wv, ?_, hw.upd hr (fun i j e => by cases e), upd_same⟩
  rw [upd_ne n]
  exact hx
end L2

namespace L2
open PySem PySem.Spec PyProof.Rows
/-! ### what placing tells, as data -/
def plD (b : Bool) (row : List Nat) (qs : List (Nat × Nat)) : PyData := .tuple [.bool b, .list ((row.map fun (i : Nat) => (i : Int)).map PyData.int), .list (qs.map pD)]
theorem shaped_pl (b : Bool) (row : List Nat) (qs : List (Nat × Nat)) : SeqAt.shaped (plD b row qs) = true := by
  unfold SeqAt.shaped
  rw [Bool.and_eq_true]
  constructor
  · show (PyData.canLay0 (.bool b) && (PyData.canLayAll0 ((row.map fun (i : Nat) => (i : Int)).map PyData.int) && (PyData.canLayAll0 (qs.map pD) && true))) = true
    rw [canLay_ints, canLay_pairs]
    rfl
  · refine decide_eq_true ?_
    show max (PyData.depth (.bool b)) (max (PyData.depthAll ((row.map fun (i : Nat) => (i : Int)).map PyData.int) + 1) (max (PyData.depthAll (qs.map pD) + 1) 0)) + 1 ≤ 64
    have h1 : PyData.depth (.bool b) = 0 := rfl
    have h2 := depth_pairs qs
    rw [depth_ints, h1]
    omega
theorem eqv_pl (b : Bool) (row : List Nat) (qs : List (Nat × Nat)) : PyData.eqv (plD b row qs) (plD b row qs) = true := SeqAt.eqv_refl _ (SeqAt.canLay_of_shaped (shaped_pl b row qs))
theorem dp_pl {K : PySem.W.Frag} {H : Hp} {t r l : Addr} {b : Bool} {row : List Nat} {qs : List (Nat × Nat)} (ht : H t = some (.tup [.bl b, .ref r, .ref l])) (hr : H r = some (.lst (nV row))) (hq : QAt H l qs) : Dp K H (.ref t) (plD b row qs) := by
  obtain ⟨ts, h1, h2, h3⟩ := hq
  exact .tup (L2.st_of ht) (.cons (.bl _) (.cons (dp_ints (by rw [← nV_map]; exact L2.sq_of hr)) (.cons (.lst (L2.sq_of h1) (dpAll_pairs h2 h3)) .nil)))
/-- taken out at one place, put in at another one -/
theorem ins_moved {row : List Nat} {lo pl : Nat} (h1 : lo ≤ pl) (h2 : pl < row.length) : ((nV row).eraseIdx pl).take lo ++ [.int ((row.getD pl 0 : Nat) : Int)] ++ ((nV row).eraseIdx pl).drop lo = nV (PF.moved row lo pl) := by
  have l1 : ((nV row).take pl).length = pl := by rw [List.length_take, List.length_map]; omega
  rw [List.eraseIdx_eq_take_drop_succ, List.take_append_of_le_length (by omega), List.drop_append_of_le_length (by omega), List.take_take, Nat.min_eq_left h1, List.drop_take]
  unfold PF.moved
  simp only [List.map_append, List.map_take, List.map_drop, List.map_cons, List.append_assoc, List.singleton_append]
namespace PF
theorem mid_eq {e : Nat} {f : PF} (a : Act e f) : f.lo + (f.hi - f.lo) / 2 = f.mid := by
  have h1 := a.lh; have h2 := a.md
  omega
/-- at the start of an item -/
def Fresh (f : PF) : Prop := f.wt ≠ none → f.lo = 0 ∧ f.hi = f.pl
theorem fresh_begin (e : Nat) (f : PF) : Fresh (begin e f) ∧ (begin e f).pl = f.pl ∧ (begin e f).row = f.row := by
  unfold PF.begin
  by_cases h : f.pl < e
  · rw [if_pos h]
    exact ⟨fun _ => ⟨rfl, rfl⟩, rfl, rfl⟩
  · rw [if_neg h]
    exact ⟨fun z => absurd rfl z, rfl, rfl⟩
theorem fresh_put (e : Nat) (f : PF) : Fresh (put e f) ∧ (put e f).pl = f.pl + 1 ∧ (put e f).row = moved f.row f.lo f.pl := fresh_begin e { f with row := moved f.row f.lo f.pl, pl := f.pl + 1 }
end PF
end L2

namespace L2
open PySem PySem.Spec PyProof.Rows
/-! ### Base.__init__(self, ..) where Base is a class of the program that has no own one -/
section
variable {X : Cx} {e : Expr} {es : List Expr} {ta : TA} {x : Str} {B : Addr} {p1 p2 pos : Pos}
theorem pe_baseinit {pl : Sem Bool} (hg : Gl X x) (hm : X.mg x = some (.ref B)) (rd1 : PySem.W.readsIn X.K B (.type "type") = true) (rd2 : PySem.W.specialIn X.K (.ref B) "__getattribute__" = some (some (.builtin "type.__getattribute__"))) (vV : PySem.W.findCls X.K (.ref B) (.type "type") "__init__" = some (.val (.builtin "ValueError.__init__"))) (ha : PA X (e :: es) ta)
    (hc : eval (.Call (.Attribute (.Name x p1) "__init__" p2) (e :: es) [] pos) X.env = (do
      let base ← eval (.Name x p1) X.env
      standAt p2.atName
      let (f, first) ← holding [base] (getMethod base "__init__" pl)
      callWith pos f first (backTo pos (starEach (e :: es) X.env)) (backToKw pos (keywordEach [] X.env))) := by rfl)
    (hdb : (x == ("__debug__" : Str)) = false := by decide) (he : starEach (e :: es) X.env = (false, eval e X.env) :: starEach es X.env := by rfl) (hpl : (backTo pos (starEach es X.env)).any (·.1) = false := by rfl) :
    PE X (.Call (.Attribute (.Name x p1) "__init__" p2) (e :: es) [] pos) (tVeI X.K ta) := by
  refine ⟨fun pins s σ H Q I h => PySem.W.methodCall_KW (ld_glob I hg hm ?_ hdb) hc⟩
  refine PySem.W.method_cls I.kIn rd2 (PySem.W.cls_value I.kIn rd1 vV (by decide +kernel) ?_)
  show wpAny _ _ (callWith pos (Value.builtin "ValueError.__init__") [] (backTo pos (starEach (e :: es) X.env)) []) _ _ _
  refine PyProof.Rows.callWith_method1 (thn (ha.run pos pins _ σ H _ (I.tok _) h) fun us s1 ⟨vs, H1, I1, rel, a, C, ws, ev, hl, T, ea, q⟩ => ?_) he hpl
  subst ev
  cases rel with
  | @cons _ w0 _ wr r0 rs =>
    have ew : w0 = Value.ref a := r0
    subst ew
    have short : wr.length ≤ sizeLine := by
      have := Paired.length rs
      rw [sizeLine_eq]
      omega
    exact oinit_ok T I1 ea short fun s' J => ⟨.non, H1, J, rfl, q⟩
end
/-! ### what the text says of an error's class, and of the class above -/
structure ExC (K : PySem.W.Frag) (mg : Str → Option Value) (C fI : Addr) (x f : Str) : Prop where
  g : mg x = some (.ref C)
  ox : OexC K C
  ii : PySem.W.findIn K (.ref C) "__init__" = some (some (.ref fI))
  ti : PySem.W.typeIn K (.ref fI) = some (.type "function")
  no : PySem.W.findIn K (.ref C) f = some none
  xf : XfC K C
  te : PySem.W.exmOne K (.ref C) (.ref C) = some true
structure ExB (K : PySem.W.Frag) (mg : Str → Option Value) (B : Addr) (x : Str) : Prop where
  g : mg x = some (.ref B)
  r1 : PySem.W.readsIn K B (.type "type") = true
  r2 : PySem.W.specialIn K (.ref B) "__getattribute__" = some (some (.builtin "type.__getattribute__"))
  vi : PySem.W.findCls K (.ref B) (.type "type") "__init__" = some (.val (.builtin "ValueError.__init__"))
theorem exm_own {K : PySem.W.Frag} {S : Addr} (h1 : PySem.W.subIn K (.ref S) (.type "BaseException") = some true) (h2 : PySem.W.isClsIn K S = true) (h3 : PySem.W.typeIn K (.ref S) = some (.type "type")) (h4 : PySem.W.subIn K (.ref S) (.ref S) = some true) :
    PySem.W.exmOne K (.ref S) (.ref S) = some true := by
  have h2' : (PySem.W.clsIn K S).isSome = true := h2
  unfold PySem.W.exmOne
  simp [PySem.W.kitCls, h1, h2', h3, h4]
theorem exC_mk {K : PySem.W.Frag} {h : Heap} {mg : Str → Option Value} {C B fI : Addr} {x f : Str} (X : K.In h) (G : h.Ns mainGlobals mg)
    {nm q : Str} {N : Addr} {bs : List Value} {sn : List Str} {sub : List Value} {ab : Bool} {col : Option Bool} {dd : Option Addr} {m0 m1 m2 m3 m5 : Option Value}
    (aC : PySem.W.nsIn K mainGlobals x = some (some (.ref C)))
    (xL : K.lookup C = some (excClassObj nm q C N bs [.ref B, .type "ValueError", .type "Exception", .type "BaseException", .type "object"] true sn sub ab col dd m0 m1 m2 m3 m5 "ValueError.__new__"))
    (sa : PySem.W.findIn K (.ref C) "__setattr__" = some (some (.builtin "object.__setattr__"))) (ga : PySem.W.findIn K (.ref C) "__getattribute__" = some (some (.builtin "BaseException.__getattribute__"))) (gg : PySem.W.findIn K (.ref C) "__getattr__" = some none)
    (nb : PySem.W.findIn K (.ref C) f = some none) (ii : PySem.W.findIn K (.ref C) "__init__" = some (some (.ref fI))) (ti : PySem.W.typeIn K (.ref fI) = some (.type "function")) (kC : PySem.W.keepIn K (.ref C) = true)
    (eC : PySem.W.subIn K (.ref C) (.type "BaseException") = some true) (tC : PySem.W.typeIn K (.ref C) = some (.type "type")) (hC : PySem.W.hasDictIn K C = true) (iC : PySem.W.isClsIn K C = true) (sC : PySem.W.subIn K (.ref C) (.ref C) = some true) :
    ExC K mg C fI x f :=
  ⟨PySem.W.mg_of X G aC, ⟨⟨_, _, _, _, _, _, _, _, _, _, _, _, _, _, _, xL, rfl⟩, sa, eC, tC, kC⟩, ii, ti, nb, ⟨ga, gg, eC, hC⟩, exm_own eC iC tC sC⟩
/-- what __init__ of such an error does: the value is kept under f -/
def spErr (C : Addr) (f : Str) : Sp := fun vs H Q _ => ∃ (e : Addr) (v : V), vs = [.ref e, v] ∧ H e = some (exo e C none) ∧ ∀ dx, H dx = none → dx ≠ e → Q .non (upd (upd H dx (exd dx [(f, v)])) e (exo e C (some dx)))
end L2

namespace L2
open PySem PySem.Spec PyProof.Rows
/-! ### a def that has defaults -/
structure FunV (K : PySem.W.Frag) (x qual : Str) (st : Stmt) (f : Addr) (fd : FuncData) : Prop where
  ex : ∃ (oc : Value) (od : Option Addr) (dV kV doc pm : Value) (an : Option Addr) (cdv ct : Value) (osl : Array (Option Value)),
    fd = PySem.W.fnOf x qual (defArgs st) (defBody st) (defScope st) dV kV doc pm an cdv ct ∧ K.lookup f = some ⟨oc, od, .func fd, osl⟩ ∧ PySem.W.codeIn K cdv qual = true
section
variable {P : Program} {w : World} {K : PySem.W.Frag} {mg : Str → Option Value} {base : Heap}
theorem FunV.ok {x qual : Str} {st : Stmt} {f : Addr} {fd : FuncData} {N ps : List Str} {k : Nat} {sp : Sp} (F : FunV K x qual st f fd) (S : FnScope N ps (defScope st)) (len : ∀ vs H Q E, sp vs H Q E → vs.length = ps.length)
    (hbody : ∀ (cdv : Value) (A : Around) (outer : List Env) (s : Shared) (H : Hp) (vs : List V) (Q : VK) (E : XK), Room k (A.deeper (envOfC qual (defScope st) s.heap.objs.size f cdv)) → sp vs H Q E →
      ∃ t, PSs (cxOf CX0 P w K mg base N qual (defScope st) f cdv A outer s H E).nox (defBody st) t ∧ t { nx := fun _ H' => Q .non H', rt := Q } (start N vs) H) : FnOk P w K mg base CX0 (k + 1) f fd ps sp := by
  obtain ⟨oc, od, dV, kV, doc, pm, an, cdv, ct, osl, rfl, lk, hcd⟩ := F.ex
  refine fn_of lk hcd S len fun A outer s H vs Q E hr hsp => ?_
  obtain ⟨t, h, q⟩ := hbody cdv A outer s H vs Q E hr hsp
  exact ⟨t, h.nox, q⟩
theorem FunV.okX {x qual : Str} {st : Stmt} {f : Addr} {fd : FuncData} {N ps : List Str} {k : Nat} {sp : Sp} (F : FunV K x qual st f fd) (S : FnScope N ps (defScope st)) (len : ∀ vs H Q E, sp vs H Q E → vs.length = ps.length)
    (hbody : ∀ (cdv : Value) (A : Around) (outer : List Env) (s : Shared) (H : Hp) (vs : List V) (Q : VK) (E : XK), Room k (A.deeper (envOfC qual (defScope st) s.heap.objs.size f cdv)) → sp vs H Q E →
      ∃ t, PSs (cxOf (L2.CX P w) P w K mg base N qual (defScope st) f cdv A outer s H E) (defBody st) t ∧ t { nx := fun _ H' => Q .non H', rt := Q } (start N vs) H) : FnOk P w K mg base (L2.CX P w) (k + 1) f fd ps sp := by
  obtain ⟨oc, od, dV, kV, doc, pm, an, cdv, ct, osl, rfl, lk, hcd⟩ := F.ex
  exact fn_of lk hcd S len fun A outer s H vs Q E hr hsp => hbody cdv A outer s H vs Q E hr hsp
theorem funV_mk {x qual : Str} {st : Stmt} {f : Addr} {oc : Value} {od an : Option Addr} {osl : Array (Option Value)} {dV kV doc pm cdv ct : Value} (l : K.lookup f = some ⟨oc, od, .func (PySem.W.fnOf x qual (defArgs st) (defBody st) (defScope st) dV kV doc pm an cdv ct), osl⟩)
    (c : PySem.W.codeIn K cdv qual = true) : FunV K x qual st f (PySem.W.fnOf x qual (defArgs st) (defBody st) (defScope st) dV kV doc pm an cdv ct) := ⟨oc, od, dV, kV, doc, pm, an, cdv, ct, osl, rfl, l, c⟩
/-- how the arguments bind where the last defaults fill up: dvs the defaults, j of them are written -/
theorem bindsV {x qual : Str} {st : Stmt} {f T : Addr} {oc oT : Value} {od odT an : Option Addr} {osl slT : Array (Option Value)} {kV doc pm cdv ct : Value} {its : List Value} {nT : Nat} {ps : List Str} {dvs : List V}
    (l : K.lookup f = some ⟨oc, od, .func (PySem.W.fnOf x qual (defArgs st) (defBody st) (defScope st) (.ref T) kV doc pm an cdv ct), osl⟩)
    (c : PySem.W.codeIn K cdv qual = true) (kp : PySem.W.keepIn K (.ref f) = true) (lT : K.lookup T = some ⟨oT, odT, .seq its.toArray nT, slT⟩) (rT : Vals dvs its) (n j : Nat) (hd : dvs ≠ []) (hn : n + (dvs.length - j) = ps.length)
    (h : ∀ (T : Addr) (kV doc pm : Value) (an : Option Addr) (cdv ct : Value) (us its : List Value), us.length = n → its.length = dvs.length →
      ∃ k, bindArgs (PySem.W.fnOf x qual (defArgs st) (defBody st) (defScope st) (.ref T) kV doc pm an cdv ct) ⟨us, []⟩ = seqItems? (.ref T) >>= k ∧ k (some its.toArray) = pure (ps.zip (us ++ its.drop j))) :
    ∃ ds, Vals (dvs.drop j) ds ∧ Binds K (PySem.W.fnOf x qual (defArgs st) (defBody st) (defScope st) (.ref T) kV doc pm an cdv ct) ps ds := by
  have F : FunD K x qual (defArgs st) (defBody st) (defScope st) dvs [] f _ := ⟨⟨_, _, _, _, _, _, _, _, _, _, rfl, l, c, .inr ⟨hd, T, _, its, nT, rfl, lT, rfl, rT⟩, .inl rfl⟩, kp⟩
  exact F.binds1 (ps := ps) n j hd hn h
theorem Binds.none {fd : FuncData} {ps : List Str} {ds : List Value} (r : Vals [] ds) (b : Binds K fd ps ds) : Binds K fd ps [] := by
  cases r
  exact b
end
end L2

namespace L2
open PySem PySem.Spec PyProof.Rows
namespace RF
/-- the rows of answers of one length that lead to no end before -/
def ended (size : Nat) (bs : List Bool) : Bool := (fed size bs bs.length).wt.isNone
def openR (size : Nat) : Nat → List (List Bool)
  | 0 => [[]]
  | g + 1 => (openR size g).flatMap fun bs => if ended size bs then [] else [bs ++ [false], bs ++ [true]]
/-- the ends that have been found -/
def fnd (size : Nat) : Nat → List (List Bool)
  | 0 => []
  | g + 1 => fnd size g ++ (openR size g).filter (ended size)
def lens (size : Nat) : List Nat := (fnd size (2 * size + 1)).map List.length
def nxt (size : Nat) (bs : List Bool) : List (List Bool) := if ended size bs then [] else [bs ++ [false], bs ++ [true]]
theorem openR_mem {n : Nat} : ∀ {g : Nat} {bs : List Bool}, bs ∈ openR n g → bs.length = g ∧ ∀ i, i < g → (fed n bs i).wt ≠ none
  | 0, bs, h => by
    rw [show bs = [] from List.mem_singleton.mp h]
    exact ⟨rfl, fun i h => absurd h (Nat.not_lt_zero _)⟩
  | g + 1, bs, h => by
    obtain ⟨cs, hc, hb⟩ := List.mem_flatMap.mp h
    obtain ⟨l1, l2⟩ := openR_mem hc
    have key : ∀ b : Bool, ended n cs = false → bs = cs ++ [b] → bs.length = g + 1 ∧ ∀ i, i < g + 1 → (fed n bs i).wt ≠ none := fun b hn e => by
      subst e
      refine ⟨by rw [List.length_append, l1]; rfl, fun i hi => ?_⟩
      have ec : fed n (cs ++ [b]) i = fed n cs i := fed_congr fun x hx => by
        rw [List.getD_eq_getElem?_getD, List.getD_eq_getElem?_getD, List.getElem?_append_left (by omega)]
      rw [ec]
      by_cases e : i = g
      · unfold ended at hn
        rw [l1, ← e] at hn
        intro z
        rw [z] at hn
        cases hn
      · exact l2 i (by omega)
    by_cases hn : ended n cs = true
    · rw [if_pos hn] at hb
      cases hb
    · rw [if_neg hn] at hb
      have hn : ended n cs = false := by
        cases e : ended n cs with
        | false => rfl
        | true => exact absurd e hn
      rcases List.mem_cons.mp hb with e | hb
      · exact key false hn e
      · exact key true hn (List.mem_singleton.mp hb)
theorem openR_last {n : Nat} (z0 : 0 < n) (z1 : n ≤ 2000) : openR n (2 * n + 1) = [] := by
  cases e : openR n (2 * n + 1) with
  | nil => rfl
  | cons bs r =>
    have h : bs ∈ openR n (2 * n + 1) := by rw [e]; exact List.mem_cons_self ..
    obtain ⟨_, h2⟩ := openR_mem h
    have := fed_few z0 z1 bs h2
    omega
theorem flat_le (n : Nat) : ∀ L : List (List Bool), (L.flatMap (nxt n)).length ≤ 2 * L.length
  | [] => Nat.le_refl _
  | bs :: r => by
    have ih := flat_le n r
    rw [List.flatMap_cons, List.length_append, List.length_cons]
    have : (nxt n bs).length ≤ 2 := by
      unfold nxt
      split
      · exact Nat.zero_le _
      · exact Nat.le_refl 2
    omega
theorem openR_le (n : Nat) : ∀ g, (openR n g).length ≤ 2 ^ g
  | 0 => Nat.le_refl _
  | g + 1 => by
    have ih := openR_le n g
    have := flat_le n (openR n g)
    have e : (openR n (g + 1)).length ≤ 2 * (openR n g).length := this
    rw [Nat.pow_succ]
    omega
theorem fnd_le (n : Nat) : ∀ g, (fnd n g).length ≤ 2 ^ g
  | 0 => Nat.zero_le _
  | g + 1 => by
    have ih := fnd_le n g
    have h1 := openR_le n g
    have h2 := List.length_filter_le (ended n) (openR n g)
    show (fnd n g ++ (openR n g).filter (ended n)).length ≤ _
    rw [List.length_append, Nat.pow_succ]
    omega
end RF
/-- tuples stay -/
def TK (H H' : Hp) : Prop := ∀ t xs, H t = some (.tup xs) → H' t = some (.tup xs)
theorem TK.of {H H' : Hp} (s : Same H H') : TK H H' := fun t xs h => s _ _ h
theorem TK.trans {H H1 H2 : Hp} (a : TK H H1) (b : TK H1 H2) : TK H H2 := fun t xs h => b _ _ (a _ _ h)
theorem TK.put {H : Hp} {p : Addr} {xs ys : List V} (h : H p = some (.lst xs)) : TK H (upd H p (.lst ys)) := fun t zs ht => by
  rw [upd_ne (fun e => by rw [e, h] at ht; cases ht)]
  exact ht
/-- a list whose entries are told by a row -/
def LAt {β : Type} (R : Hp → V → β → Prop) (H : Hp) (p : Addr) (L : List β) : Prop := ∃ ts : List V, H p = some (.lst ts) ∧ ts.length = L.length ∧ ∀ (i : Nat) (v : V) (b : β), ts[i]? = some v → L[i]? = some b → R H v b
def RowT (H : Hp) (v : V) (bs : List Bool) : Prop := ∃ t, v = .ref t ∧ H t = some (.tup (bs.map V.bl))
def EndT (H : Hp) (v : V) (bs : List Bool) : Prop := ∃ t rt st, v = .ref t ∧ H t = some (.tup [.ref rt, .ref st]) ∧ H rt = some (.tup (bs.map V.bl))
theorem RowT.keep {H H' : Hp} {v : V} {bs : List Bool} (k : TK H H') (h : RowT H v bs) : RowT H' v bs := by
  obtain ⟨t, e, ht⟩ := h
  exact ⟨t, e, k _ _ ht⟩
theorem EndT.keep {H H' : Hp} {v : V} {bs : List Bool} (k : TK H H') (h : EndT H v bs) : EndT H' v bs := by
  obtain ⟨t, rt, st, e, ht, hr⟩ := h
  exact ⟨t, rt, st, e, k _ _ ht, k _ _ hr⟩
theorem LAt.keep {β : Type} {R : Hp → V → β → Prop} {H H' : Hp} {p : Addr} {L : List β} (hR : ∀ v b, R H v b → R H' v b) (hp : ∀ x, H p = some x → H' p = some x) (h : LAt R H p L) : LAt R H' p L := by
  obtain ⟨ts, h1, h2, h3⟩ := h
  exact ⟨ts, hp _ h1, h2, fun i v b e1 e2 => hR _ _ (h3 i v b e1 e2)⟩
theorem LAt.nil {β : Type} {R : Hp → V → β → Prop} {H : Hp} {p : Addr} (h : H p = some (.lst [])) : LAt R H p [] := ⟨[], h, rfl, fun i v b e => by simp at e⟩
theorem LAt.more {β : Type} {R : Hp → V → β → Prop} {H : Hp} {p : Addr} {L M : List β} {ts zs : List V} (hts : H p = some (.lst ts)) (h : LAt R H p L) (hR : ∀ v b, R H v b → R (upd H p (.lst (ts ++ zs))) v b) (hl : zs.length = M.length)
    (hz : ∀ (i : Nat) (v : V) (b : β), zs[i]? = some v → M[i]? = some b → R (upd H p (.lst (ts ++ zs))) v b) : LAt R (upd H p (.lst (ts ++ zs))) p (L ++ M) := by
  obtain ⟨ts', h1, h2, h3⟩ := h
  rw [hts] at h1
  cases h1
  refine ⟨ts ++ zs, upd_same, by rw [List.length_append, List.length_append, h2, hl], fun i v b e1 e2 => ?_⟩
  rcases Nat.lt_or_ge i ts.length with hi | hi
  · rw [List.getElem?_append_left hi] at e1
    rw [List.getElem?_append_left (by omega)] at e2
    exact hR _ _ (h3 i v b e1 e2)
  · rw [List.getElem?_append_right hi] at e1
    rw [List.getElem?_append_right (by omega), ← h2] at e2
    exact hz _ v b e1 e2
/-- the most questions, and that all ends together are one -/
def topR (n : Nat) : Nat := 2 * n - 2 - if n = 2 then 1 else 0
theorem lens_right : ∀ n, n < 7 → 0 < n → ((RF.lens n).map fun l => 2 ^ (topR n - l)).sum = 2 ^ topR n ∧ topR n ∈ RF.lens n ∧ ∀ l ∈ RF.lens n, l ≤ topR n := by decide +kernel
end L2

namespace L2
open PySem PySem.Spec PyProof.Rows
/-- len, said of one K (for a comprehension) -/
def rLenK (K : PySem.W.Frag) : List V → Hp → VK → Prop := fun xs H Q => ∃ p ys, xs = [.ref p] ∧ (SqL K H p ys ∨ SqT K H p ys) ∧ Q (.int ys.length) H
end L2

/-! sum of a list or a tuple of ints -/
namespace L2
open PySem PySem.Spec PyProof.Rows
theorem preSum_getD (ns : List Int) : ∀ k, k ≤ ns.length → preSum (fun i => ns.getD i 0) k = (ns.take k).sum
  | 0, _ => rfl
  | k + 1, h => by
    have ih := preSum_getD ns k (by omega)
    rw [List.take_add_one, List.getElem?_eq_getElem (by omega), List.sum_append, ← ih]
    simp [preSum, List.getD_eq_getElem?_getD, List.getElem?_eq_getElem (show k < ns.length by omega)]
def rSumLT (K : PySem.W.Frag) : List V → Hp → VK → Prop := fun vs H Q => ∃ (a : Addr) (ns : List Int), vs = [V.ref a] ∧ (SqL K H a (ns.map V.int) ∨ SqT K H a (ns.map V.int)) ∧ Q (.int ns.sum) H
theorem cr_sumLT {X : Cx} (hc : X.calm = true) : CallR X (.builtin "sum") (rSumLT X.K) := by
  intro pins s σ H vs us Q I r h
  obtain ⟨a, ns, rfl, hs | hs, q⟩ := h
  · exact cr_sum hc pins s σ H _ us Q I r ⟨a, ns, rfl, hs, q⟩
  · obtain ⟨its, rv, pt, hz⟩ := I.tuple hs
    have hi : IntsAre its.toArray.toList ns := ints_of_vals rv
    have ist : s.heap.IsTuple a its.toArray := pt
    have ln : its.toArray.size = ns.length := by rw [← Array.length_toList]; exact IntsAre.length hi
    have ha : a < s.heap.objs.size := by
      obtain ⟨o, ho, _⟩ := id ist
      exact Heap.lt_size ho
    rw [Vals.ref1 r]
    refine call_sum_walkG (wpAny_pyIter_tuple ist ⟨_, _, _, _, _, _, fun i => ns.getD i 0, rfl, Walks.tuple (A := X.A.in1) (I.ok.hd hc) _ a (Nat.ne_of_lt ha) its.toArray, ⟨⟨_, Heap.get?_push_size _ rfl, rfl, rfl⟩, ist.push _⟩, ?_, ?_, ?_⟩)
    · intro b hb
      rw [Heap.size_push]
      rcases List.mem_cons.mp hb with e | hb
      · rw [e]
        exact Nat.lt_succ_self _
      · rw [List.mem_singleton.mp hb]
        exact Nat.lt_succ_of_lt ha
    · intro i v hv
      exact PyProof.Rows.IntsAre.int_at hi i v (by rw [Array.getElem?_toList]; exact hv)
    · intro h2 tk t2 hk
      have e : preSum (fun i => ns.getD i 0) its.toArray.size = ns.sum := by
        rw [ln, preSum_getD ns _ (Nat.le_refl _), List.take_length]
      rw [e]
      refine ⟨.int _, H, I.kept (t' := tk) fun b o ho => hk b o ?_ (Heap.get?_push_of_some _ ho), ⟨_, rfl⟩, q⟩
      intro z
      have := Heap.lt_size ho
      rw [List.mem_singleton.mp z] at this
      exact Nat.lt_irrefl _ this
end L2

namespace L2
open PySem PySem.Spec PyProof.Rows
namespace PF
/-- the fewest questions of an item at this index -/
def fb (m : Nat) : Nat := (m + 1).log2
theorem fb_zero : fb 0 = 0 := by decide
theorem fb_half {m m' : Nat} (h : 0 < m) (h2 : (m + 1) / 2 ≤ m' + 1) : fb m ≤ fb m' + 1 := by
  unfold fb
  have e0 : m + 1 ≠ 0 := by omega
  have a1 : 2 ^ (m + 1).log2 ≤ m + 1 := Nat.log2_self_le e0
  by_cases z : (m + 1).log2 = 0
  · omega
  · have : (m + 1).log2 - 1 ≤ (m' + 1).log2 := (Nat.le_log2 (by omega)).mpr (by
      have e : 2 ^ (m + 1).log2 = 2 * 2 ^ ((m + 1).log2 - 1) := by
        rw [show (m + 1).log2 = ((m + 1).log2 - 1) + 1 by omega, Nat.pow_succ]
        simp only [Nat.add_sub_cancel]
        omega
      omega)
    omega
theorem fb_step {m : Nat} (h : 0 < m) : fb m = fb ((m - 1) / 2) + 1 := by
  have h1 := fb_half (m := m) (m' := (m - 1) / 2) h (by omega)
  have h2 : fb ((m - 1) / 2) + 1 ≤ fb m := by
    unfold fb
    have a1 : 2 ^ ((m - 1) / 2 + 1).log2 ≤ (m - 1) / 2 + 1 := Nat.log2_self_le (by omega)
    exact (Nat.le_log2 (by omega)).mpr (by rw [Nat.pow_succ]; omega)
  omega
theorem bl_step {m : Nat} (h : 0 < m) : bl m = bl (m / 2) + 1 := by
  have h1 := bl_half (m' := m / 2) h (Nat.le_refl _)
  have h2 : bl m ≤ bl (m / 2) + 1 := by
    unfold bl
    rw [if_neg (by omega : m ≠ 0)]
    by_cases e : m / 2 = 0
    · rw [if_pos e]
      have : m = 1 := by omega
      subst this
      decide
    · rw [if_neg e]
      have a1 : m / 2 < 2 ^ ((m / 2).log2 + 1) := (Nat.log2_lt e).mp (Nat.lt_succ_self _)
      have : m.log2 < (m / 2).log2 + 2 := (Nat.log2_lt (by omega)).mpr (by rw [Nat.pow_succ]; omega)
      omega
  omega
/-- added up from one index to the end -/
def S (g : Nat → Nat) (a n : Nat) : Nat := ((List.range (n - a)).map fun j => g (a + j)).sum
theorem S_end {g : Nat → Nat} {a n : Nat} (h : n ≤ a) : S g a n = 0 := by
  unfold S
  rw [Nat.sub_eq_zero_of_le h]
  rfl
theorem S_step {g : Nat → Nat} {a n : Nat} (h : a < n) : S g a n = g a + S g (a + 1) n := by
  unfold S
  have e : n - a = (n - (a + 1)) + 1 := by omega
  rw [e, List.range_succ_eq_map, List.map_cons, List.sum_cons, List.map_map, Nat.add_zero]
  congr 2
  exact List.map_congr_left fun j _ => by
    show g (a + (j + 1)) = g (a + 1 + j)
    congr 1
    omega
/-- what is still to come, at most and at least -/
def hiP (e : Nat) (f : PF) : Nat := if f.wt = none then 0 else bl (f.hi - f.lo) + S bl (f.pl + 1) e
def loP (e : Nat) (f : PF) : Nat := if f.wt = none then 0 else fb (f.hi - f.lo) + S fb (f.pl + 1) e
theorem hiP_begin {e : Nat} {f : PF} : hiP e (begin e f) = S bl f.pl e := by
  unfold PF.begin
  by_cases h : f.pl < e
  · rw [if_pos h, S_step h]
    unfold hiP
    rw [if_neg (by intro z; cases z)]
    rfl
  · rw [if_neg h, S_end (by omega)]
    unfold hiP
    rw [if_pos rfl]
theorem loP_begin {e : Nat} {f : PF} : loP e (begin e f) = S fb f.pl e := by
  unfold PF.begin
  by_cases h : f.pl < e
  · rw [if_pos h, S_step h]
    unfold loP
    rw [if_neg (by intro z; cases z)]
    rfl
  · rw [if_neg h, S_end (by omega)]
    unfold loP
    rw [if_pos rfl]
theorem hiP_put {e : Nat} {f : PF} : hiP e (put e f) = S bl (f.pl + 1) e := hiP_begin
theorem loP_put {e : Nat} {f : PF} : loP e (put e f) = S fb (f.pl + 1) e := loP_begin
theorem hiP_act {e : Nat} {f : PF} (h : f.wt ≠ none) : hiP e f = bl (f.hi - f.lo) + S bl (f.pl + 1) e := by unfold hiP; rw [if_neg h]
theorem loP_act {e : Nat} {f : PF} (h : f.wt ≠ none) : loP e f = fb (f.hi - f.lo) + S fb (f.pl + 1) e := by unfold loP; rw [if_neg h]
theorem hiP_half {e : Nat} {f : PF} (b : Bool) : hiP e (take e b f) = bl ((half b f).hi - (half b f).lo) + S bl (f.pl + 1) e := by
  unfold PF.take
  split
  · unfold hiP
    rw [if_neg (by intro z; cases z)]
    show bl ((half b f).hi - (half b f).lo) + S bl ((half b f).pl + 1) e = _
    rw [half_pl]
  · rename_i h
    rw [hiP_put, half_pl, Nat.sub_eq_zero_of_le (Nat.le_of_not_lt h)]
    show _ = bl 0 + _
    rw [show bl 0 = 0 from rfl, Nat.zero_add]
theorem loP_half {e : Nat} {f : PF} (b : Bool) : loP e (take e b f) = fb ((half b f).hi - (half b f).lo) + S fb (f.pl + 1) e := by
  unfold PF.take
  split
  · unfold loP
    rw [if_neg (by intro z; cases z)]
    show fb ((half b f).hi - (half b f).lo) + S fb ((half b f).pl + 1) e = _
    rw [half_pl]
  · rename_i h
    rw [loP_put, half_pl, Nat.sub_eq_zero_of_le (Nat.le_of_not_lt h), fb_zero, Nat.zero_add]
theorem hiP_take {e : Nat} {f : PF} (a : Act e f) (h : f.wt ≠ none) (b : Bool) : hiP e (take e b f) + 1 ≤ hiP e f := by
  have h2 := a.lh; have h3 := a.md
  rw [hiP_half, hiP_act h]
  have : bl ((half b f).hi - (half b f).lo) + 1 ≤ bl (f.hi - f.lo) := by
    refine bl_half (by omega) ?_
    unfold half
    split
    · show f.mid - f.lo ≤ _; omega
    · show f.hi - (f.mid + 1) ≤ _; omega
  omega
theorem loP_take {e : Nat} {f : PF} (a : Act e f) (h : f.wt ≠ none) (b : Bool) : loP e f ≤ loP e (take e b f) + 1 := by
  have h2 := a.lh; have h3 := a.md
  rw [loP_half, loP_act h]
  have : fb (f.hi - f.lo) ≤ fb ((half b f).hi - (half b f).lo) + 1 := by
    refine fb_half (by omega) ?_
    unfold half
    split
    · show _ ≤ f.mid - f.lo + 1; omega
    · show _ ≤ f.hi - (f.mid + 1) + 1; omega
  omega
theorem stps_hi {e : Nat} {row0 : List Nat} {f : PF} (ls : Nat × Nat → Bool) (g : Good e row0 f) : ∀ k, (∀ i, i < k → (f.stps ls e i).wt ≠ none) → k + hiP e (f.stps ls e k) ≤ hiP e f
  | 0, _ => by show 0 + hiP e f ≤ hiP e f; omega
  | k + 1, h => by
    have ih := stps_hi ls g k fun i hi => h i (by omega)
    have hk := h k (by omega)
    obtain ⟨q, hq⟩ := Option.ne_none_iff_exists'.mp hk
    have := hiP_take ((g.stps ls k).act hk) hk (ls q)
    rw [stps_next hq]
    omega
theorem stps_lo {e : Nat} {row0 : List Nat} {f : PF} (ls : Nat × Nat → Bool) (g : Good e row0 f) : ∀ k, (∀ i, i < k → (f.stps ls e i).wt ≠ none) → loP e f ≤ k + loP e (f.stps ls e k)
  | 0, _ => by show loP e f ≤ 0 + loP e f; omega
  | k + 1, h => by
    have ih := stps_lo ls g k fun i hi => h i (by omega)
    have hk := h k (by omega)
    obtain ⟨q, hq⟩ := Option.ne_none_iff_exists'.mp hk
    have := loP_take ((g.stps ls k).act hk) hk (ls q)
    rw [stps_next hq]
    omega
/-- the ends of a placing -/
theorem count_between {e rd N : Nat} {row : List Nat} (ls : Nat × Nat → Bool) (l : row.length = e) (h64 : e ≤ 64) (hw : ((init row e rd).stps ls e N).wt = none) (hbe : ∀ i, i < N → ((init row e rd).stps ls e i).wt ≠ none) : S fb (max rd 1) e ≤ N ∧ N ≤ S bl (max rd 1) e := by
  have g := Good.init (rd := rd) l h64
  have h1 := stps_hi ls g N hbe
  have h2 := stps_lo ls g N hbe
  have e1 : hiP e (init row e rd) = S bl (max rd 1) e := hiP_begin
  have e2 : loP e (init row e rd) = S fb (max rd 1) e := loP_begin
  have e3 : hiP e ((init row e rd).stps ls e N) = 0 := by unfold hiP; rw [if_pos hw]
  have e4 : loP e ((init row e rd).stps ls e N) = 0 := by unfold loP; rw [if_pos hw]
  omega
/-! all that stand stay -/
def Stay (e : Nat) (f : PF) : Prop := f.row = List.range e ∧ (f.wt ≠ none → f.hi = f.pl)
theorem moved_self {row : List Nat} {pl : Nat} (h : pl < row.length) : moved row pl pl = row := by
  unfold moved
  rw [Nat.sub_self, List.take_zero, List.nil_append]
  have a1 : row.drop pl = row.getD pl 0 :: row.drop (pl + 1) := by
    rw [List.drop_eq_getElem_cons h]
    simp [List.getD_eq_getElem?_getD, List.getElem?_eq_getElem h]
  rw [← a1, List.take_append_drop]
theorem Stay.begin {e : Nat} {f : PF} (h : f.row = List.range e) : Stay e (begin e f) := by
  unfold PF.begin
  split
  · exact ⟨h, fun _ => rfl⟩
  · exact ⟨h, fun z => absurd rfl z⟩
theorem stay_take {e : Nat} {f : PF} (a : Act e f) (h : f.wt ≠ none) (s : Stay e f) : Stay e (take e false f) ∧ loP e f = loP e (take e false f) + 1 := by
  have h1 := a.hp; have h2 := a.lh; have h3 := a.md; have h4 := a.pe
  have hh := s.2 h
  constructor
  · unfold PF.take
    split
    · exact ⟨s.1, fun _ => hh⟩
    · rename_i hl
      have el : f.mid + 1 = f.pl := by
        have hl : ¬ (f.mid + 1 < f.hi) := hl
        omega
      refine Stay.begin ?_
      show moved f.row (f.mid + 1) f.pl = _
      rw [el, s.1, moved_self (by rw [List.length_range]; exact h4)]
  · rw [loP_half, loP_act h]
    show _ = fb (f.hi - (f.mid + 1)) + _ + 1
    have e1 : f.hi - (f.mid + 1) = (f.hi - f.lo - 1) / 2 := by omega
    rw [e1, fb_step (by omega : 0 < f.hi - f.lo)]
    omega
theorem stay_stps {e : Nat} {row0 : List Nat} {f : PF} (ls : Nat × Nat → Bool) (hls : ∀ x y, y < x → x < e → ls (x, y) = false) (g : Good e row0 f) (s : Stay e f) : ∀ k, (∀ i, i < k → (f.stps ls e i).wt ≠ none) → Stay e (f.stps ls e k) ∧ loP e f = k + loP e (f.stps ls e k)
  | 0, _ => ⟨s, by show loP e f = 0 + loP e f; omega⟩
  | k + 1, h => by
    obtain ⟨s1, e1⟩ := stay_stps ls hls g s k fun i hi => h i (by omega)
    have hk := h k (by omega)
    obtain ⟨q, hq⟩ := Option.ne_none_iff_exists'.mp hk
    have a := (g.stps ls k).act hk
    have h1 := a.hp; have h2 := a.lh; have h3 := a.md; have h4 := a.pe
    have eq : q = ((f.stps ls e k).pl, (f.stps ls e k).mid) := by
      have := a.wq
      rw [hq, s1.1] at this
      have e2 : ∀ i, i < e → (List.range e).getD i 0 = i := fun i hi => by
        rw [List.getD_eq_getElem?_getD, List.getElem?_range hi]
        rfl
      rw [e2 _ h4, e2 _ (by omega)] at this
      exact Option.some.inj this
    have hf : ls q = false := by rw [eq]; exact hls _ _ (by omega) h4
    obtain ⟨t1, t2⟩ := stay_take a hk s1
    rw [stps_next hq, hf]
    exact ⟨t1, by omega⟩
theorem count_easy {e rd N : Nat} (ls : Nat × Nat → Bool) (hls : ∀ x y, y < x → x < e → ls (x, y) = false) (h64 : e ≤ 64) (hw : ((init (List.range e) e rd).stps ls e N).wt = none) (hbe : ∀ i, i < N → ((init (List.range e) e rd).stps ls e i).wt ≠ none) : N = S fb (max rd 1) e := by
  have g := Good.init (rd := rd) (row := List.range e) List.length_range h64
  obtain ⟨_, h2⟩ := stay_stps ls hls g (Stay.begin rfl) N hbe
  have e2 : loP e (init (List.range e) e rd) = S fb (max rd 1) e := loP_begin
  have e4 : loP e ((init (List.range e) e rd).stps ls e N) = 0 := by unfold loP; rw [if_pos hw]
  omega
/-! all go to the front -/
def Front (e m : Nat) (f : PF) : Prop := m ≤ f.pl ∧ f.row.drop f.pl = (List.range e).drop f.pl ∧ (∀ x ∈ f.row.take f.pl, x < f.pl) ∧ (f.wt ≠ none → f.lo = 0)
theorem Front.begin {e m : Nat} {f : PF} (h1 : m ≤ f.pl) (h2 : f.row.drop f.pl = (List.range e).drop f.pl) (h3 : ∀ x ∈ f.row.take f.pl, x < f.pl) : Front e m (begin e f) := by
  unfold PF.begin
  split
  · exact ⟨h1, h2, h3, fun _ => rfl⟩
  · exact ⟨h1, h2, h3, fun z => absurd rfl z⟩
theorem front_take {e m : Nat} {f : PF} (l : f.row.length = e) (a : Act e f) (h : f.wt ≠ none) (s : Front e m f) : Front e m (take e true f) ∧ hiP e f = hiP e (take e true f) + 1 := by
  have h1 := a.hp; have h2 := a.lh; have h3 := a.md; have h4 := a.pe
  obtain ⟨s1, s2, s3, s4⟩ := s
  have hl0 := s4 h
  constructor
  · unfold PF.take
    split
    · exact ⟨s1, s2, s3, fun _ => hl0⟩
    · have e0 : (half true f).lo = 0 := hl0
      have lm : (moved f.row 0 f.pl).length = e := by rw [moved_len (Nat.zero_le _) (by omega)]; exact l
      have em : moved f.row 0 f.pl = f.row.getD f.pl 0 :: (f.row.take f.pl ++ f.row.drop (f.pl + 1)) := by
        unfold moved
        rw [List.take_zero, List.nil_append, List.drop_zero, Nat.sub_zero]
      have ep : f.row.getD f.pl 0 = f.pl := by
        have a2 : f.row[f.pl]? = (f.row.drop f.pl)[0]? := by rw [List.getElem?_drop]; rfl
        rw [List.getD_eq_getElem?_getD, a2, s2, List.getElem?_drop, Nat.add_zero, List.getElem?_range h4]
        rfl
      have ltk : (f.row.take f.pl).length = f.pl := by rw [List.length_take]; omega
      refine Front.begin (by show m ≤ f.pl + 1; omega) ?_ ?_
      · show (moved f.row (half true f).lo f.pl).drop (f.pl + 1) = (List.range e).drop (f.pl + 1)
        rw [e0, em, List.drop_succ_cons, List.drop_left' ltk]
        have := congrArg (List.drop 1) s2
        rw [List.drop_drop, List.drop_drop] at this
        exact this
      · intro x hx
        have hx : x ∈ (moved f.row (half true f).lo f.pl).take (f.pl + 1) := hx
        rw [e0, em, List.take_succ_cons, List.take_left' ltk] at hx
        show x < f.pl + 1
        rcases List.mem_cons.mp hx with e | hx
        · omega
        · have := s3 x hx
          omega
  · rw [hiP_half, hiP_act h]
    show _ = bl (f.mid - f.lo) + _ + 1
    have e1 : f.mid - f.lo = (f.hi - f.lo) / 2 := by omega
    rw [e1, bl_step (by omega : 0 < f.hi - f.lo)]
    omega
theorem front_stps {e m : Nat} {row0 : List Nat} {f : PF} (ls : Nat × Nat → Bool) (hls : ∀ x y, m ≤ x → y < x → x < e → ls (x, y) = true) (g : Good e row0 f) (s : Front e m f) : ∀ k, (∀ i, i < k → (f.stps ls e i).wt ≠ none) → Front e m (f.stps ls e k) ∧ hiP e f = k + hiP e (f.stps ls e k)
  | 0, _ => ⟨s, by show hiP e f = 0 + hiP e f; omega⟩
  | k + 1, h => by
    obtain ⟨s1, e1⟩ := front_stps ls hls g s k fun i hi => h i (by omega)
    have hk := h k (by omega)
    obtain ⟨q, hq⟩ := Option.ne_none_iff_exists'.mp hk
    have gk := g.stps ls k
    have a := gk.act hk
    have h1 := a.hp; have h2 := a.lh; have h3 := a.md; have h4 := a.pe; have h5 := gk.len
    have hf : ls q = true := by
      have hwq := a.wq
      rw [hq] at hwq
      have ep : (f.stps ls e k).row.getD (f.stps ls e k).pl 0 = (f.stps ls e k).pl := by
        have a2 : (f.stps ls e k).row[(f.stps ls e k).pl]? = ((f.stps ls e k).row.drop (f.stps ls e k).pl)[0]? := by rw [List.getElem?_drop]; rfl
        rw [List.getD_eq_getElem?_getD, a2, s1.2.1, List.getElem?_drop, Nat.add_zero, List.getElem?_range h4]
        rfl
      have em : (f.stps ls e k).row.getD (f.stps ls e k).mid 0 ∈ (f.stps ls e k).row.take (f.stps ls e k).pl := by
        rw [List.getD_eq_getElem?_getD, List.getElem?_eq_getElem (by omega : (f.stps ls e k).mid < (f.stps ls e k).row.length)]
        show (f.stps ls e k).row[(f.stps ls e k).mid]'(by omega) ∈ _
        exact List.mem_take_iff_getElem.mpr ⟨(f.stps ls e k).mid, by omega, rfl⟩
      have hx := s1.2.2.1 _ em
      rw [Option.some.inj hwq, ep]
      exact hls _ _ s1.1 hx h4
    obtain ⟨t1, t2⟩ := front_take h5 a hk s1
    rw [stps_next hq, hf]
    exact ⟨t1, by omega⟩
theorem count_hard {e rd N : Nat} (ls : Nat × Nat → Bool) (hls : ∀ x y, max rd 1 ≤ x → y < x → x < e → ls (x, y) = true) (h64 : e ≤ 64) (hw : ((init (List.range e) e rd).stps ls e N).wt = none) (hbe : ∀ i, i < N → ((init (List.range e) e rd).stps ls e i).wt ≠ none) : N = S bl (max rd 1) e := by
  have g := Good.init (rd := rd) (row := List.range e) List.length_range h64
  have fr : Front e (max rd 1) (init (List.range e) e rd) := Front.begin (Nat.le_refl _) rfl fun x hx => by
    have hx : x ∈ (List.range e).take (max rd 1) := hx
    rw [List.take_range] at hx
    have := List.mem_range.mp hx
    show x < max rd 1
    omega
  obtain ⟨_, h2⟩ := front_stps ls hls g fr N hbe
  have e2 : hiP e (init (List.range e) e rd) = S bl (max rd 1) e := hiP_begin
  have e4 : hiP e ((init (List.range e) e rd).stps ls e N) = 0 := by unfold hiP; rw [if_pos hw]
  omega
/-! the ways to a place -/
def spots (place : Nat) : Nat → Nat → Nat → Nat
  | 0, _, _ => 0
  | k + 1, lo, hi => if lo < hi then (if place ≤ (lo + hi) / 2 then spots place k lo ((lo + hi) / 2) else spots place k ((lo + hi) / 2 + 1) hi) + 1 else 0
def way (i p : Nat) : Nat := spots p 64 0 i
theorem ways_right : ∀ i, i < 64 → 0 < i → way i 0 = bl i ∧ way i 1 = bl i ∧ way i i = fb i ∧ ∀ p, p < i + 1 → fb i ≤ way i p ∧ way i p ≤ bl i := by decide +kernel
end PF
end L2

namespace L2
namespace Lv
open PF
/-! levels of borders: how many figures two middles have alike -/
theorem bl_le {n k : Nat} : bl n ≤ k ↔ n < 2 ^ k := by
  unfold bl
  by_cases h : n = 0
  · subst h
    simp [Nat.two_pow_pos]
  · rw [if_neg h, ← Nat.log2_lt h]
    omega
/-- the first c figures of a number below W, out of W -/
def fig (W m c : Nat) : Nat := m * 2 ^ c / W
theorem fig_shift {W m c F : Nat} (h : c ≤ F) : fig W m c = fig W m F / 2 ^ (F - c) := by
  unfold fig
  rw [Nat.div_div_eq_div_mul, show F = c + (F - c) by omega, Nat.pow_add, show c + (F - c) - c = F - c by omega, ← Nat.mul_assoc]
  rw [Nat.mul_div_mul_right _ _ (Nat.two_pow_pos _)]
theorem xor_zero {x y : Nat} : x ^^^ y = 0 ↔ x = y := by
  constructor
  · intro h
    refine Nat.eq_of_testBit_eq fun i => ?_
    have := congrArg (fun z => z.testBit i) h
    simp only [Nat.testBit_xor, Nat.zero_testBit] at this
    cases hx : x.testBit i <;> cases hy : y.testBit i <;> simp_all
  · rintro rfl
    exact Nat.xor_self _
theorem xor_div {x y k : Nat} : (x ^^^ y) / 2 ^ k = (x / 2 ^ k) ^^^ (y / 2 ^ k) := by
  rw [← Nat.shiftRight_eq_div_pow, ← Nat.shiftRight_eq_div_pow, ← Nat.shiftRight_eq_div_pow, Nat.shiftRight_xor_distrib]
/-- alike so far exactly if the figures that are unlike lie behind -/
theorem fig_alike {W m n c F : Nat} (h : c ≤ F) : fig W m c = fig W n c ↔ bl (fig W m F ^^^ fig W n F) ≤ F - c := by
  rw [fig_shift h, fig_shift (m := n) h, ← xor_zero, ← xor_div, bl_le]
  exact Nat.div_eq_zero_iff_lt (Nat.two_pow_pos _)
theorem fig_lt {W m c : Nat} (h : m < W) : fig W m c < 2 ^ c := by
  unfold fig
  refine (Nat.div_lt_iff_lt_mul (by omega)).mpr ?_
  rw [Nat.mul_comm]
  exact (Nat.mul_lt_mul_left (Nat.two_pow_pos _)).mpr h
/-- enough figures -/
def enough (W d : Nat) : Nat := bl W - bl d + 1
theorem enough_apart {W m d : Nat} (hd : 0 < d) (h : d ≤ W) : fig W m (enough W d) ≠ fig W (m + d) (enough W d) := by
  have h1 : W < 2 ^ bl W := bl_le.mp (Nat.le_refl _)
  have h2 : 2 ^ (bl d - 1) ≤ d := Nat.le_of_not_lt fun z => by
    have := bl_le.mpr z
    have : 0 < bl d := by
      unfold bl
      rw [if_neg (by omega)]
      omega
    omega
  have h3 : bl d ≤ bl W := bl_le.mpr (Nat.lt_of_le_of_lt h h1)
  have h4 : 0 < bl d := by
    unfold bl
    rw [if_neg (by omega)]
    omega
  have h5 : W ≤ d * 2 ^ enough W d := by
    have : 2 ^ (bl d - 1) * 2 ^ enough W d ≤ d * 2 ^ enough W d := Nat.mul_le_mul_right _ h2
    rw [← Nat.pow_add, show bl d - 1 + enough W d = bl W by unfold enough; omega] at this
    omega
  have h6 : 0 < W := by omega
  unfold fig
  rw [Nat.add_mul]
  have : (m * 2 ^ enough W d + W) / W ≤ (m * 2 ^ enough W d + d * 2 ^ enough W d) / W := Nat.div_le_div_right (by omega)
  rw [Nat.add_div_right _ h6] at this
  omega
/-- the level by the figures -/
def lev (W m d : Nat) : Nat := enough W d - bl (fig W m (enough W d) ^^^ fig W (m + d) (enough W d)) + 1
theorem lev_right {W m d : Nat} (hd : 0 < d) (h : m + d < W) : bl (fig W m (enough W d) ^^^ fig W (m + d) (enough W d)) ≤ enough W d ∧ 1 ≤ lev W m d ∧ lev W m d ≤ enough W d ∧
    (∀ c, c < lev W m d → fig W m c = fig W (m + d) c) ∧ fig W m (lev W m d) ≠ fig W (m + d) (lev W m d) := by
  have ap := enough_apart (W := W) (m := m) hd (by omega)
  have b1 : bl (fig W m (enough W d) ^^^ fig W (m + d) (enough W d)) ≤ enough W d := bl_le.mpr (Nat.xor_lt_two_pow (fig_lt (by omega)) (fig_lt h))
  have b2 : ¬ bl (fig W m (enough W d) ^^^ fig W (m + d) (enough W d)) ≤ 0 := fun z => ap ((fig_alike (Nat.le_refl _)).mpr (by omega))
  have e : lev W m d = enough W d - bl (fig W m (enough W d) ^^^ fig W (m + d) (enough W d)) + 1 := rfl
  refine ⟨b1, by omega, by omega, fun c hc => (fig_alike (F := enough W d) (by omega)).mpr (by omega), fun z => ?_⟩
  have := (fig_alike (F := enough W d) (by omega)).mp z
  omega
end Lv
end L2

namespace L2
open PySem PySem.Spec PyProof.Rows
/-- a piece: where it starts, how long it is, the level of the border above -/
structure Pc where
  st : Nat
  ln : Nat
  lv : Option Nat
def optV : Option Nat → V
  | none => .non
  | some n => .int (n : Int)
/-- pieces, tuples of three, in a list -/
def PcAt (H : Hp) (v : V) (c : Pc) : Prop := ∃ t, v = .ref t ∧ H t = some (.tup [.int (c.st : Int), .int (c.ln : Int), optV c.lv])
def PcsAt (H : Hp) (r : Addr) (ps : List Pc) : Prop := ∃ ts : List V, H r = some (.lst ts) ∧ ts.length = ps.length ∧ ∀ (i : Nat) (v : V) (c : Pc), ts[i]? = some v → ps[i]? = some c → PcAt H v c
theorem PcAt.keep {H H' : Hp} {v : V} {c : Pc} (k : ∀ t xs, H t = some (.tup xs) → H' t = some (.tup xs)) (h : PcAt H v c) : PcAt H' v c := by
  obtain ⟨t, e, h⟩ := h
  exact ⟨t, e, k _ _ h⟩
theorem PcsAt.same {H H' : Hp} {r : Addr} {ps : List Pc} (h : PcsAt H r ps) (s : Same H H') : PcsAt H' r ps := by
  obtain ⟨ts, h1, h2, h3⟩ := h
  exact ⟨ts, s _ _ h1, h2, fun i v c a b => (h3 i v c a b).keep fun _ _ => s _ _⟩
/-- the pieces at a list that is written anew: the old tuples stay -/
theorem PcsAt.write {H : Hp} {r : Addr} {ts' : List V} {ps' : List Pc} (l : ts'.length = ps'.length) (h : ∀ (i : Nat) (v : V) (c : Pc), ts'[i]? = some v → ps'[i]? = some c → PcAt H v c) (hr : ∃ ts, H r = some (.lst ts)) : PcsAt (upd H r (.lst ts')) r ps' := by
  refine ⟨ts', upd_same, l, fun i v c a b => (h i v c a b).keep fun t xs ht => ?_⟩
  obtain ⟨ts, hr⟩ := hr
  rw [upd_ne (fun e => by rw [e, hr] at ht; cases ht)]
  exact ht
theorem PcsAt.item {H : Hp} {ps : List Pc} {ts : List V} {i : Nat} {c : Pc} (l : ts.length = ps.length) (h : ∀ (i : Nat) (v : V) (c : Pc), ts[i]? = some v → ps[i]? = some c → PcAt H v c) (hc : ps[i]? = some c) : ∃ t, ts[i]? = some (.ref t) ∧ H t = some (.tup [.int (c.st : Int), .int (c.ln : Int), optV c.lv]) := by
  have hi := (List.getElem?_eq_some_iff.mp hc).1
  obtain ⟨t, e, ht⟩ := h i ts[i] c (List.getElem?_eq_getElem (by omega)) hc
  exact ⟨t, by rw [List.getElem?_eq_getElem (by omega), e], ht⟩
/-- joins, tuples of three, in a list -/
def TriAt (H : Hp) (v : V) (j : Nat × Nat × Nat) : Prop := ∃ t, v = .ref t ∧ H t = some (.tup [.int (j.1 : Int), .int (j.2.1 : Int), .int (j.2.2 : Int)])
def TrisAt (H : Hp) (l : Addr) (js : List (Nat × Nat × Nat)) : Prop := ∃ ts : List V, H l = some (.lst ts) ∧ ts.length = js.length ∧ ∀ (i : Nat) (v : V) (j : Nat × Nat × Nat), ts[i]? = some v → js[i]? = some j → TriAt H v j
theorem TrisAt.keep {H H' : Hp} {l : Addr} {js : List (Nat × Nat × Nat)} (h : TrisAt H l js) (kl : ∀ xs, H l = some (.lst xs) → H' l = some (.lst xs)) (kt : ∀ t xs, H t = some (.tup xs) → H' t = some (.tup xs)) : TrisAt H' l js := by
  obtain ⟨ts, h1, h2, h3⟩ := h
  refine ⟨ts, kl _ h1, h2, fun i v j a b => ?_⟩
  obtain ⟨t, e, ht⟩ := h3 i v j a b
  exact ⟨t, e, kt _ _ ht⟩
theorem PcsAt.keep {H H' : Hp} {r : Addr} {ps : List Pc} (h : PcsAt H r ps) (kl : ∀ xs, H r = some (.lst xs) → H' r = some (.lst xs)) (kt : ∀ t xs, H t = some (.tup xs) → H' t = some (.tup xs)) : PcsAt H' r ps := by
  obtain ⟨ts, h1, h2, h3⟩ := h
  exact ⟨ts, kl _ h1, h2, fun i v c a b => (h3 i v c a b).keep kt⟩
theorem TrisAt.push {H : Hp} {l : Addr} {js : List (Nat × Nat × Nat)} {ts : List V} {t : Addr} {j : Nat × Nat × Nat} (hts : H l = some (.lst ts)) (h : TrisAt H l js) (ht : H t = some (.tup [.int (j.1 : Int), .int (j.2.1 : Int), .int (j.2.2 : Int)])) : TrisAt (upd H l (.lst (ts ++ [.ref t]))) l (js ++ [j]) := by
  obtain ⟨ts', h1, h2, h3⟩ := h
  have e : ts' = ts := by
    have := h1.symm.trans hts
    exact HO.lst.inj (Option.some.inj this)
  subst e
  have kt : ∀ t xs, H t = some (.tup xs) → upd H l (.lst (ts' ++ [.ref t])) t = some (.tup xs) := fun t xs z => by rw [upd_ne (fun e => by rw [e, hts] at z; cases z)]; exact z
  refine ⟨_, upd_same, by rw [List.length_append, List.length_append, h2]; rfl, fun i v k a b => ?_⟩
  have kt2 : ∀ t2 xs, H t2 = some (.tup xs) → upd H l (.lst (ts' ++ [.ref t])) t2 = some (.tup xs) := fun t2 xs z => by rw [upd_ne (fun e => by rw [e, hts] at z; cases z)]; exact z
  rcases Nat.lt_or_ge i js.length with c | c
  · rw [List.getElem?_append_left (by omega)] at a b
    obtain ⟨t', e, z⟩ := h3 i v k a b
    exact ⟨t', e, kt2 _ _ z⟩
  · rw [List.getElem?_append_right (by omega)] at a b
    rw [h2] at a
    have e0 : i - js.length = 0 := by
      have := (List.getElem?_eq_some_iff.mp a).1
      simp only [List.length_singleton] at this
      omega
    rw [e0] at a b
    rw [← Option.some.inj a, ← Option.some.inj b]
    exact ⟨t, rfl, kt2 _ _ ht⟩
namespace Pile
/-- the piece above gets a level, the new one comes on top -/
def put (ps : List Pc) (s l : Nat) (b : Option Nat) : List Pc := match ps.getLast? with
  | none => [⟨s, l, none⟩]
  | some c => ps.dropLast ++ [⟨c.st, c.ln, b⟩, ⟨s, l, none⟩]
/-- two neighbours are joined -/
def join (ps : List Pc) (i : Nat) : List Pc := match ps[i]?, ps[i + 1]? with
  | some c, some e => ps.take i ++ [⟨c.st, c.ln + e.ln, e.lv⟩] ++ ps.drop (i + 2)
  | _, _ => ps
def next (ps : List Pc) : Nat := match ps[ps.length - 3]?, ps[ps.length - 1]? with
  | some c, some e => if 3 ≤ ps.length ∧ c.ln < e.ln then ps.length - 3 else ps.length - 2
  | _, _ => ps.length - 2
def hasTo (ps : List Pc) (b : Nat) : Bool := match ps.length, ps[ps.length - 2]? with
  | n + 2, some ⟨_, _, some v⟩ => decide (b < v)
  | _, _ => false
theorem join_len {ps : List Pc} {i : Nat} (h : i + 1 < ps.length) : (join ps i).length = ps.length - 1 := by
  unfold join
  rw [List.getElem?_eq_getElem (by omega : i < ps.length), List.getElem?_eq_getElem h]
  simp only [List.length_append, List.length_take, List.length_drop, List.length_singleton]
  omega
/-- pieces side by side, up to e, all levels but the last one's known -/
structure Inv (ps : List Pc) (e : Nat) : Prop where
  side : ∀ i c d, ps[i]? = some c → ps[i + 1]? = some d → c.st + c.ln = d.st ∧ c.lv ≠ none
  last : ∀ c, ps.getLast? = some c → c.st + c.ln = e
theorem Inv.nil : Inv [] 0 := ⟨fun i c d h => by simp at h, fun c h => by simp at h⟩
theorem join_eq {ps : List Pc} {i : Nat} {c d : Pc} (hc : ps[i]? = some c) (hd : ps[i + 1]? = some d) : join ps i = ps.take i ++ [⟨c.st, c.ln + d.ln, d.lv⟩] ++ ps.drop (i + 2) := by
  unfold join
  rw [hc, hd]
theorem join_get {ps : List Pc} {i : Nat} {c d : Pc} (hc : ps[i]? = some c) (hd : ps[i + 1]? = some d) (j : Nat) : (join ps i)[j]? = if j < i then ps[j]? else if j = i then some ⟨c.st, c.ln + d.ln, d.lv⟩ else ps[j + 1]? := by
  have hi := (List.getElem?_eq_some_iff.mp hc).1
  have l1 : (ps.take i).length = i := by rw [List.length_take]; omega
  rw [join_eq hc hd, List.append_assoc]
  by_cases h : j < i
  · rw [if_pos h, List.getElem?_append_left (by omega), List.getElem?_take, if_pos h]
  · rw [if_neg h, List.getElem?_append_right (by omega), l1]
    by_cases h2 : j = i
    · rw [if_pos h2, h2, Nat.sub_self]
      rfl
    · rw [if_neg h2]
      obtain ⟨m, hm⟩ : ∃ m, j - i = m + 1 := ⟨j - i - 1, by omega⟩
      rw [hm, List.singleton_append, List.getElem?_cons_succ, List.getElem?_drop]
      congr 1
      omega
theorem Inv.join {ps : List Pc} {e i : Nat} (v : Inv ps e) (h : i + 1 < ps.length) : Inv (Pile.join ps i) e := by
  obtain ⟨c, hc⟩ : ∃ c, ps[i]? = some c := ⟨_, List.getElem?_eq_getElem (by omega)⟩
  obtain ⟨d, hd⟩ : ∃ d, ps[i + 1]? = some d := ⟨_, List.getElem?_eq_getElem h⟩
  have sd := v.side i c d hc hd
  have g := join_get hc hd
  have ll := join_len h
  constructor
  · intro j x y hx hy
    rw [g] at hx hy
    by_cases h1 : j + 1 < i
    · rw [if_pos (by omega)] at hx
      rw [if_pos h1] at hy
      exact v.side j x y hx hy
    · rw [if_neg h1] at hy
      by_cases h2 : j + 1 = i
      · rw [if_pos (by omega)] at hx
        rw [if_pos h2] at hy
        have e1 := Option.some.inj hy
        rw [← e1]
        rw [← h2] at hc
        exact v.side j x c hx hc
      · rw [if_neg h2] at hy
        rw [if_neg (by omega)] at hx
        by_cases h3 : j = i
        · rw [if_pos h3] at hx
          have e1 := Option.some.inj hx
          rw [h3] at hy
          have := v.side (i + 1) d y hd hy
          rw [← e1]
          exact ⟨by show c.st + (c.ln + d.ln) = y.st; omega, this.2⟩
        · rw [if_neg h3] at hx
          exact v.side (j + 1) x y hx hy
  · intro x hx
    rw [List.getLast?_eq_getElem?, ll, g] at hx
    by_cases h1 : i + 2 = ps.length
    · rw [if_neg (by omega), if_pos (by omega)] at hx
      have e1 := Option.some.inj hx
      have := v.last d (by rw [List.getLast?_eq_getElem?, ← hd]; congr 1; omega)
      rw [← e1]
      show c.st + (c.ln + d.ln) = e
      omega
    · rw [if_neg (by omega), if_neg (by omega)] at hx
      exact v.last x (by rw [List.getLast?_eq_getElem?, ← hx]; congr 1; omega)
/-- the joins that make room -/
def jn (ps : List Pc) (i : Nat) : Nat × Nat × Nat := match ps[i]?, ps[i + 1]? with
  | some c, some d => (c.st, c.ln, d.ln)
  | _, _ => (0, 0, 0)
def room (b : Nat) : Nat → List Pc × List (Nat × Nat × Nat) → List Pc × List (Nat × Nat × Nat)
  | 0, s => s
  | k + 1, s => if hasTo s.1 b then room b k (join s.1 (s.1.length - 2), s.2 ++ [jn s.1 (s.1.length - 2)]) else s
def brd (w : Nat) (ps : List Pc) (l : Nat) : Option Nat := match ps.getLast? with
  | none => none
  | some c => some (Lv.lev (2 * w) (2 * c.st + c.ln) (c.ln + l))
def step (w st : Nat) (s : List Pc × List (Nat × Nat × Nat)) (l : Nat) : List Pc × List (Nat × Nat × Nat) := match brd w s.1 l with
  | none => (put s.1 st l none, s.2)
  | some b => (put (room b s.1.length s).1 st l (some b), (room b s.1.length s).2)
theorem hasTo_two {ps : List Pc} {b : Nat} (h : hasTo ps b = true) : 2 ≤ ps.length := by
  unfold hasTo at h
  match hl : ps.length with
  | 0 => rw [hl] at h; cases h
  | 1 => rw [hl] at h; cases h
  | n + 2 => omega
theorem room_inv {b e : Nat} : ∀ (k : Nat) (s : List Pc × List (Nat × Nat × Nat)), Inv s.1 e → Inv (room b k s).1 e ∧ (room b k s).1.length ≤ s.1.length ∧ (s.1.length ≤ k → hasTo (room b k s).1 b = false) ∧ (s.1 ≠ [] → (room b k s).1 ≠ [])
  | 0, s, v => ⟨v, Nat.le_refl _, fun h => by
      cases z : hasTo s.1 b with
      | false => exact z
      | true => have := hasTo_two z; omega, fun h => h⟩
  | k + 1, s, v => by
    unfold room
    cases z : hasTo s.1 b with
    | false => exact ⟨v, Nat.le_refl _, fun _ => z, fun h => h⟩
    | true =>
      have h2 := hasTo_two z
      have ll := join_len (ps := s.1) (i := s.1.length - 2) (by omega)
      obtain ⟨a1, a2, a3, a4⟩ := room_inv (b := b) k (join s.1 (s.1.length - 2), s.2 ++ [jn s.1 (s.1.length - 2)]) (v.join (by omega))
      refine ⟨a1, Nat.le_trans a2 (by show (join s.1 (s.1.length - 2)).length ≤ _; omega), fun h => a3 (by show (join s.1 (s.1.length - 2)).length ≤ _; omega), fun _ => a4 fun n => ?_⟩
      have n : join s.1 (s.1.length - 2) = [] := n
      rw [n] at ll
      have : (0 : Nat) = s.1.length - 1 := ll
      omega
theorem put_inv {ps : List Pc} {e l : Nat} {b : Option Nat} (v : Inv ps e) (hb : ps ≠ [] → b ≠ none) (he : ps = [] → e = 0) : Inv (put ps e l b) (e + l) ∧ (put ps e l b).length = ps.length + 1 := by
  unfold put
  cases hl : ps.getLast? with
  | none =>
    have ep : ps = [] := List.getLast?_eq_none_iff.mp hl
    subst ep
    refine ⟨⟨fun i c d h1 h2 => by simp at h2, fun c h => ?_⟩, rfl⟩
    have h : some (⟨e, l, none⟩ : Pc) = some c := h
    rw [← Option.some.inj h]
  | some c =>
    have ne : ps ≠ [] := fun z => by rw [z] at hl; cases hl
    obtain ⟨qs, rfl⟩ : ∃ qs, ps = qs ++ [c] := List.getLast?_eq_some_iff.mp hl
    have hc := v.last c hl
    rw [List.dropLast_concat]
    refine ⟨⟨fun i x y h1 h2 => ?_, fun x h => ?_⟩, by simp⟩
    · rcases Nat.lt_trichotomy (i + 1) qs.length with h | h | h
      · rw [List.getElem?_append_left (by omega)] at h1 h2
        exact v.side i x y (by rw [List.getElem?_append_left (by omega)]; exact h1) (by rw [List.getElem?_append_left (by omega)]; exact h2)
      · rw [List.getElem?_append_left (by omega)] at h1
        rw [List.getElem?_append_right (by omega), h, Nat.sub_self] at h2
        have e1 := Option.some.inj h2
        have := v.side i x c (by rw [List.getElem?_append_left (by omega)]; exact h1) (by rw [h, List.getElem?_append_right (by omega), Nat.sub_self]; rfl)
        rw [← e1]
        exact this
      · rw [List.getElem?_append_right (by omega)] at h1 h2
        have li : i + 1 - qs.length < 2 := (List.getElem?_eq_some_iff.mp h2).1
        have ei : i = qs.length := by omega
        subst ei
        rw [Nat.sub_self] at h1
        rw [show qs.length + 1 - qs.length = 1 by omega] at h2
        rw [← Option.some.inj h1, ← Option.some.inj h2]
        exact ⟨hc, hb ne⟩
    · have h : (qs ++ [(⟨c.st, c.ln, b⟩ : Pc), ⟨e, l, none⟩]).getLast? = some x := h
      have z : (qs ++ [(⟨c.st, c.ln, b⟩ : Pc), ⟨e, l, none⟩]).getLast? = some ⟨e, l, none⟩ := by simp
      rw [z] at h
      rw [← Option.some.inj h]
/-- behind so many lengths -/
def sts (w : Nat) (ls : List Nat) : Nat → List Pc × List (Nat × Nat × Nat)
  | 0 => ([], [])
  | k + 1 => step w (ls.take k).sum (sts w ls k) (ls.getD k 0)
/-- the joins behind the last piece -/
def fin : Nat → List Pc × List (Nat × Nat × Nat) → List Pc × List (Nat × Nat × Nat)
  | 0, s => s
  | k + 1, s => if 1 < s.1.length then fin k (join s.1 (next s.1), s.2 ++ [jn s.1 (next s.1)]) else s
theorem step_inv {w st l : Nat} {s : List Pc × List (Nat × Nat × Nat)} (v : Inv s.1 st) (h0 : s.1 = [] → st = 0) : Inv (step w st s l).1 (st + l) ∧ (step w st s l).1.length ≤ s.1.length + 1 ∧ (step w st s l).1 ≠ [] := by
  unfold step
  cases hb : brd w s.1 l with
  | none =>
    have e : s.1 = [] := by
      unfold brd at hb
      cases z : s.1.getLast? with
      | none => exact List.getLast?_eq_none_iff.mp z
      | some c => rw [z] at hb; cases hb
    obtain ⟨a1, a2⟩ := put_inv (l := l) (b := none) v (fun n => absurd e n) h0
    refine ⟨a1, Nat.le_of_eq a2, fun z => ?_⟩
    have z : put s.1 st l none = [] := z
    rw [z] at a2
    exact absurd a2 (by simp)
  | some b =>
    have ne : s.1 ≠ [] := fun e => by
      unfold brd at hb
      rw [e] at hb
      cases hb
    obtain ⟨r1, r2, _, r4⟩ := room_inv (b := b) s.1.length s v
    obtain ⟨a1, a2⟩ := put_inv (l := l) (b := some b) r1 (fun _ z => by cases z) fun z => absurd z (r4 ne)
    refine ⟨a1, ?_, fun z => ?_⟩
    · show (put (room b s.1.length s).1 st l (some b)).length ≤ _
      omega
    · have z : put (room b s.1.length s).1 st l (some b) = [] := z
      rw [z] at a2
      exact absurd a2 (by simp)
theorem sum_take {ls : List Nat} {k : Nat} (h : k < ls.length) : (ls.take (k + 1)).sum = (ls.take k).sum + ls.getD k 0 := by
  rw [List.take_add_one, List.getElem?_eq_getElem h, List.sum_append, List.getD_eq_getElem?_getD, List.getElem?_eq_getElem h]
  simp
theorem sts_inv {w : Nat} {ls : List Nat} : ∀ k, k ≤ ls.length → Inv (sts w ls k).1 (ls.take k).sum ∧ (sts w ls k).1.length ≤ k ∧ ((sts w ls k).1 = [] → k = 0)
  | 0, _ => ⟨Inv.nil, Nat.le_refl _, fun _ => rfl⟩
  | k + 1, h => by
    obtain ⟨a1, a2, a3⟩ := sts_inv (w := w) (ls := ls) k (by omega)
    obtain ⟨b1, b2, b3⟩ := step_inv (w := w) (l := ls.getD k 0) a1 fun z => by rw [a3 z]; rfl
    rw [sum_take (by omega)]
    exact ⟨b1, Nat.le_trans b2 (by omega), fun z => absurd z b3⟩
theorem next_lt {ps : List Pc} (h : 2 ≤ ps.length) : next ps + 1 < ps.length := by
  unfold next
  split
  · split <;> omega
  · omega
end Pile
end L2

/-! pieces piled, with the list of all stacks and the list of the joins -/
namespace L2
open PySem PySem.Spec PyProof.Rows
theorem sfree {H H' : Hp} {b : Addr} (s : Same H H') (h : H' b = none) : H b = none := by
  cases e : H b with
  | none => rfl
  | some o => rw [s _ _ e] at h; cases h
/-- the stack of pieces at x, its list at r -/
def StkAt (C : Addr) (H : Hp) (x r : Addr) (w : Nat) (ps : List Pc) : Prop := x ≠ r ∧ (∃ dx, H x = some (.ins C dx [("whole", .int (w : Int)), ("piled", .ref r)])) ∧ PcsAt H r ps
theorem StkAt.same {C : Addr} {H H' : Hp} {x r : Addr} {w : Nat} {ps : List Pc} (h : StkAt C H x r w ps) (s : Same H H') : StkAt C H' x r w ps := by
  obtain ⟨n, ⟨dx, hx⟩, hp⟩ := h
  exact ⟨n, ⟨dx, s _ _ hx⟩, hp.same s⟩
/-- the stacks, one behind each piece -/
def RowsAt (H0 H : Hp) (sk : Addr) (w : Nat) (ls : List Nat) (k : Nat) : Prop := ∃ ts : List V, H sk = some (.lst ts) ∧ ts.length = k ∧ ∀ (i : Nat) (v : V), ts[i]? = some v → ∃ l, v = .ref l ∧ H0 l = none ∧ l ≠ sk ∧ PcsAt H l (Pile.sts w ls (i + 1)).1
theorem RowsAt.same {H0 H H' : Hp} {sk : Addr} {w : Nat} {ls : List Nat} {k : Nat} (h : RowsAt H0 H sk w ls k) (s : Same H H') : RowsAt H0 H' sk w ls k := by
  obtain ⟨ts, h1, h2, h3⟩ := h
  refine ⟨ts, s _ _ h1, h2, fun i v e => ?_⟩
  obtain ⟨l, e1, e2, e3, e4⟩ := h3 i v e
  exact ⟨l, e1, e2, e3, e4.same s⟩
structure Pl (H H' : Hp) (r sk am : Addr) (w : Nat) (ls : List Nat) (s : List Pc × List (Nat × Nat × Nat)) (k : Nat) : Prop where
  keep : Same H H'
  nr : H r = none
  nsk : H sk = none
  nam : H am = none
  d1 : r ≠ sk
  d2 : r ≠ am
  d3 : sk ≠ am
  pcs : PcsAt H' r s.1
  tris : TrisAt H' am s.2
  rows : ∃ ts : List V, H' sk = some (.lst ts) ∧ ts.length = k ∧ ∀ (i : Nat) (v : V), ts[i]? = some v → ∃ l, v = .ref l ∧ l ≠ r ∧ l ≠ sk ∧ l ≠ am ∧ H l = none ∧ PcsAt H' l (Pile.sts w ls (i + 1)).1
section
variable {H H' H'' : Hp} {r sk am x : Addr} {w k : Nat} {ls : List Nat} {s : List Pc × List (Nat × Nat × Nat)} {ps : List Pc}
theorem Pl.rowsAt (p : Pl H H' r sk am w ls s k) : RowsAt H H' sk w ls k := by
  obtain ⟨ts, h1, h2, h3⟩ := p.rows
  refine ⟨ts, h1, h2, fun i v e => ?_⟩
  obtain ⟨l, e1, _, e3, _, e4, e5⟩ := h3 i v e
  exact ⟨l, e1, e4, e3, e5⟩
theorem Pl.same (p : Pl H H' r sk am w ls s k) (m : Same H' H'') : Pl H H'' r sk am w ls s k := by
  refine ⟨p.keep.trans m, p.nr, p.nsk, p.nam, p.d1, p.d2, p.d3, p.pcs.same m, p.tris.keep (fun _ h => m _ _ h) (fun _ _ h => m _ _ h), ?_⟩
  obtain ⟨ts, h1, h2, h3⟩ := p.rows
  refine ⟨ts, m _ _ h1, h2, fun i v e => ?_⟩
  obtain ⟨l, e1, e2, e3, e4, e5, e6⟩ := h3 i v e
  exact ⟨l, e1, e2, e3, e4, e5, e6.same m⟩
theorem Pl.stack (p : Pl H H' r sk am w ls s k) (nx : H x = none) (hx : x = r ∨ ∃ C dx f, H' x = some (.ins C dx f)) (f : Fr2 x r H' H'') (pc : PcsAt H'' r ps) : Pl H H'' r sk am w ls (ps, s.2) k := by
  have nl : ∀ b ts, H' b = some (.lst ts) → b ≠ r → b ≠ x := fun b ts h n e => by
    rcases hx with z | ⟨C, dx, g, z⟩
    · exact n (e.trans z)
    · rw [e, z] at h
      cases h
  have kt : ∀ t xs, H' t = some (.tup xs) → H'' t = some (.tup xs) := fun t xs h => by
    refine f _ _ (fun e => ?_) (fun e => ?_) h
    · rcases hx with z | ⟨C, dx, g, z⟩
      · obtain ⟨ts, h1, _⟩ := p.pcs
        rw [e, z, h1] at h
        cases h
      · rw [e, z] at h
        cases h
    · obtain ⟨ts, h1, _⟩ := p.pcs
      rw [e, h1] at h
      cases h
  refine ⟨fun b o h => f b o (fun e => by rw [e, nx] at h; cases h) (fun e => by rw [e, p.nr] at h; cases h) (p.keep _ _ h), p.nr, p.nsk, p.nam, p.d1, p.d2, p.d3, pc, p.tris.keep (fun xs h => f _ _ (nl _ _ h p.d2.symm) p.d2.symm h) kt, ?_⟩
  obtain ⟨ts, h1, h2, h3⟩ := p.rows
  refine ⟨ts, f _ _ (nl _ _ h1 p.d1.symm) p.d1.symm h1, h2, fun i v e => ?_⟩
  obtain ⟨l, e1, e2, e3, e4, e5, e6⟩ := h3 i v e
  exact ⟨l, e1, e2, e3, e4, e5, e6.keep (fun xs h => f _ _ (nl _ _ h e2) e2 h) kt⟩
theorem Pl.tri {t : Addr} {j : Nat × Nat × Nat} (p : Pl H H' r sk am w ls s k) (ht : H' t = some (.tup [.int (j.1 : Int), .int (j.2.1 : Int), .int (j.2.2 : Int)])) :
    ∃ ts : List V, H' am = some (.lst ts) ∧ ts.length = s.2.length ∧ Pl H (upd H' am (.lst (ts ++ [.ref t]))) r sk am w ls (s.1, s.2 ++ [j]) k := by
  obtain ⟨ts, hts, l1, _⟩ := id p.tris
  have kt : ∀ t2 xs, H' t2 = some (.tup xs) → upd H' am (.lst (ts ++ [.ref t])) t2 = some (.tup xs) := fun t2 xs z => by rw [upd_ne (fun e => by rw [e, hts] at z; cases z)]; exact z
  refine ⟨ts, hts, l1, fun b o h => by rw [upd_ne (fun e => by rw [e, p.nam] at h; cases h)]; exact p.keep _ _ h, p.nr, p.nsk, p.nam, p.d1, p.d2, p.d3, p.pcs.keep (fun xs h => by rw [upd_ne p.d2]; exact h) kt, TrisAt.push hts p.tris ht, ?_⟩
  obtain ⟨us, h1, h2, h3⟩ := p.rows
  refine ⟨us, by rw [upd_ne p.d3]; exact h1, h2, fun i v e => ?_⟩
  obtain ⟨l, e1, e2, e3, e4, e5, e6⟩ := h3 i v e
  exact ⟨l, e1, e2, e3, e4, e5, e6.keep (fun xs h => by rw [upd_ne e4]; exact h) kt⟩
theorem Pl.row {l : Addr} (p : Pl H H' r sk am w ls s k) (hl : H' l = none) (e : s.1 = (Pile.sts w ls (k + 1)).1) {its ts : List V} (h1 : H' r = some (.lst its)) (h2 : H' sk = some (.lst ts)) :
    Pl H (upd (upd H' l (.lst its)) sk (.lst (ts ++ [.ref l]))) r sk am w ls s (k + 1) := by
  have nlr : l ≠ r := fun z => by rw [z, h1] at hl; cases hl
  have nls : l ≠ sk := fun z => by rw [z, h2] at hl; cases hl
  have nla : l ≠ am := fun z => by
    obtain ⟨us, h, _⟩ := p.tris
    rw [z, h] at hl
    cases hl
  have nHl : H l = none := by
    cases h : H l with
    | none => rfl
    | some o => rw [p.keep _ _ h] at hl; cases hl
  have s1 : Same H' (upd H' l (.lst its)) := same_upd hl
  have kt : ∀ t2 xs, H' t2 = some (.tup xs) → upd (upd H' l (.lst its)) sk (.lst (ts ++ [.ref l])) t2 = some (.tup xs) := fun t2 xs z => by
    rw [upd_ne (fun e => by rw [e, h2] at z; cases z)]
    exact s1 _ _ z
  have kl : ∀ b us, b ≠ sk → H' b = some (.lst us) → upd (upd H' l (.lst its)) sk (.lst (ts ++ [.ref l])) b = some (.lst us) := fun b us n h => by
    rw [upd_ne n]
    exact s1 _ _ h
  refine ⟨fun b o h => by rw [upd_ne (fun e => by rw [e, p.nsk] at h; cases h)]; exact s1 _ _ (p.keep _ _ h), p.nr, p.nsk, p.nam, p.d1, p.d2, p.d3, p.pcs.keep (fun _ => kl _ _ p.d1) kt, p.tris.keep (fun _ => kl _ _ p.d3.symm) kt, ?_⟩
  obtain ⟨us, k1, k2, k3⟩ := p.rows
  have eu : us = ts := by
    have := k1.symm.trans h2
    exact HO.lst.inj (Option.some.inj this)
  subst eu
  refine ⟨_, upd_same, by rw [List.length_append, k2]; rfl, fun i v hv => ?_⟩
  rcases Nat.lt_or_ge i us.length with c | c
  · rw [List.getElem?_append_left c] at hv
    obtain ⟨l', e1, e2, e3, e4, e5, e6⟩ := k3 i v hv
    exact ⟨l', e1, e2, e3, e4, e5, e6.keep (fun _ => kl _ _ e3) kt⟩
  · rw [List.getElem?_append_right c] at hv
    have e0 : i - us.length = 0 := by
      have := (List.getElem?_eq_some_iff.mp hv).1
      simp only [List.length_singleton] at this
      omega
    rw [e0] at hv
    have ei : i = k := by omega
    rw [← Option.some.inj hv]
    refine ⟨l, rfl, nlr, nls, nla, nHl, ?_⟩
    rw [ei, ← e]
    obtain ⟨its', q1, q2, q3⟩ := p.pcs
    have ee : its' = its := by
      have := q1.symm.trans h1
      exact HO.lst.inj (Option.some.inj this)
    subst ee
    refine ⟨its', by rw [upd_ne nls, upd_same], q2, fun j v' c' a b => (q3 j v' c' a b).keep kt⟩
end
theorem nV_snoc (L : List Nat) (k : Nat) : nV L ++ [V.int (k : Int)] = nV (L ++ [k]) := by simp [nV]
theorem outT {a b : Prop} (h : if true = true then a else b) : a := by simpa using h
theorem outF {a b : Prop} (h : if false = true then a else b) : b := by simpa using h
/-- how many items stand in a list -/
def lenAt (H : Hp) (r : Addr) : Nat := match H r with
  | some (.lst ts) => ts.length
  | _ => 0
theorem PcsAt.lenAt {H : Hp} {r : Addr} {ps : List Pc} (h : PcsAt H r ps) : L2.lenAt H r = ps.length := by
  obtain ⟨ts, h1, h2, _⟩ := h
  unfold L2.lenAt
  rw [h1]
  exact h2
/-- while, with a word for its end -/
theorem while_to {c : TT} {tb : TS} {D : Ends} {σ : L2.St} {H : Hp} (Pv Dn : L2.St → Hp → Prop) (μ : L2.St → Hp → Nat) (h0 : Pv σ H)
    (hs : ∀ σ H, Pv σ H → c σ H fun b H1 => if b = true then tb { D with nx := fun σ' H' => Pv σ' H' ∧ μ σ' H' < μ σ H, ct := fun σ' H' => Pv σ' H' ∧ μ σ' H' < μ σ H, bk := D.nx } σ H1 else Dn σ H1)
    (hd : ∀ σ H, Dn σ H → D.nx σ H)
    (mono : ∀ σ H Q Q', (∀ b H1, Q b H1 → Q' b H1) → c σ H Q → c σ H Q') : tWhile c tb D σ H := by
  refine while_by Pv μ h0 (fun σ H p => mono _ _ _ _ (fun b H1 h => ?_) (hs σ H p)) mono
  cases b with
  | true => exact h
  | false => exact hd _ _ h
theorem StkAt.push {C : Addr} {H : Hp} {x r am : Addr} {w : Nat} {ps ps' : List Pc} {ts us : List V} (h : StkAt C H x r w ps) (ha : H am = some (.lst ts)) (p : PcsAt (upd H am (.lst us)) r ps') : StkAt C (upd H am (.lst us)) x r w ps' := by
  obtain ⟨n, ⟨dx, hx⟩, _⟩ := h
  exact ⟨n, ⟨dx, by rw [upd_ne (fun e => by rw [e, ha] at hx; cases hx)]; exact hx⟩, p⟩
theorem PcsAt.joined {H : Hp} {r t : Addr} {ts : List V} {ps : List Pc} {i : Nat} {c e : Pc} (hts : H r = some (.lst ts)) (h : PcsAt H r ps) (hc : ps[i]? = some c) (he : ps[i + 1]? = some e) (ht : H t = some (.tup [.int (c.st : Int), .int ((c.ln : Int) + (e.ln : Int)), optV e.lv])) :
    PcsAt (upd H r (.lst (ts.take i ++ [.ref t] ++ ts.drop (i + 2)))) r (Pile.join ps i) := by
  obtain ⟨ts', h1, lts, hi⟩ := h
  have et : ts' = ts := by
    have := h1.symm.trans hts
    exact HO.lst.inj (Option.some.inj this)
  subst et
  have li := (List.getElem?_eq_some_iff.mp he).1
  have ej := Pile.join_eq hc he
  refine PcsAt.write ?_ ?_ ⟨_, hts⟩
  · rw [ej]
    simp only [List.length_append, List.length_take, List.length_drop, List.length_singleton]
    omega
  · intro j v c' hv hc'
    rw [ej] at hc'
    have l1 : (ts'.take i).length = i := by rw [List.length_take]; omega
    have l2 : (ps.take i).length = i := by rw [List.length_take]; omega
    rw [List.append_assoc] at hv hc'
    rcases Nat.lt_trichotomy j i with h | h | h
    · rw [List.getElem?_append_left (by omega), List.getElem?_take, if_pos h] at hv hc'
      exact hi j v c' hv hc'
    · rw [List.getElem?_append_right (by omega)] at hv hc'
      rw [l1, h, Nat.sub_self] at hv
      rw [l2, h, Nat.sub_self] at hc'
      have e1 := Option.some.inj hv
      have e2 := Option.some.inj hc'
      rw [← e1, ← e2]
      exact ⟨t, rfl, by rw [ht, Int.natCast_add]⟩
    · rw [List.getElem?_append_right (by omega)] at hv hc'
      rw [l1] at hv
      rw [l2] at hc'
      obtain ⟨m, hm⟩ : ∃ m, j - i = m + 1 := ⟨j - i - 1, by omega⟩
      rw [hm, List.singleton_append, List.getElem?_cons_succ, List.getElem?_drop] at hv hc'
      exact hi _ v c' hv hc'
theorem PcsAt.snoc {H : Hp} {r u : Addr} {ts : List V} {ps : List Pc} {c : Pc} (hts : H r = some (.lst ts)) (h : PcsAt H r ps) (hu : H u = some (.tup [.int (c.st : Int), .int (c.ln : Int), optV c.lv])) : PcsAt (upd H r (.lst (ts ++ [.ref u]))) r (ps ++ [c]) := by
  obtain ⟨ts', h1, lts, hi⟩ := h
  have et : ts' = ts := by
    have := h1.symm.trans hts
    exact HO.lst.inj (Option.some.inj this)
  subst et
  refine PcsAt.write (by rw [List.length_append, List.length_append, lts]; rfl) (fun i v c' hv hc => ?_) ⟨_, hts⟩
  rcases Nat.lt_or_ge i ts'.length with h | h
  · rw [List.getElem?_append_left (by omega)] at hv hc
    exact hi i v c' hv hc
  · rw [List.getElem?_append_right (by omega)] at hv hc
    rw [← lts] at hc
    have e0 : i - ts'.length = 0 := by
      have := (List.getElem?_eq_some_iff.mp hv).1
      simp only [List.length_singleton] at this
      omega
    rw [e0] at hv hc
    rw [← Option.some.inj hv, ← Option.some.inj hc]
    exact ⟨u, rfl, hu⟩
theorem PcsAt.relast {H : Hp} {r u : Addr} {ts : List V} {ps : List Pc} {c : Pc} (hts : H r = some (.lst ts)) (h : PcsAt H r ps) (h0 : 0 < ps.length) (hu : H u = some (.tup [.int (c.st : Int), .int (c.ln : Int), optV c.lv])) : PcsAt (upd H r (.lst (ts.set (ts.length - 1) (.ref u)))) r (ps.dropLast ++ [c]) := by
  obtain ⟨ts', h1, lts, hi⟩ := h
  have et : ts' = ts := by
    have := h1.symm.trans hts
    exact HO.lst.inj (Option.some.inj this)
  subst et
  refine PcsAt.write (by rw [List.length_append, List.length_set, List.length_dropLast, lts, List.length_singleton]; omega) (fun i v c' hv hc => ?_) ⟨_, hts⟩
  have li := (List.getElem?_eq_some_iff.mp hv).1
  rw [List.length_set] at li
  rw [List.getElem?_set] at hv
  by_cases e : ts'.length - 1 = i
  · rw [if_pos e, if_pos (by omega)] at hv
    rw [List.getElem?_append_right (by rw [List.length_dropLast]; omega), List.length_dropLast, show i - (ps.length - 1) = 0 by omega] at hc
    rw [← Option.some.inj hv, ← Option.some.inj hc]
    exact ⟨u, rfl, hu⟩
  · rw [if_neg e] at hv
    rw [List.getElem?_append_left (by rw [List.length_dropLast]; omega), List.getElem?_dropLast, if_pos (by omega)] at hc
    exact hi i v c' hv hc
theorem RowsAt.base {H0 H1 H : Hp} {sk : Addr} {w k : Nat} {ls : List Nat} (s : Same H0 H1) (h : RowsAt H1 H sk w ls k) : RowsAt H0 H sk w ls k := by
  obtain ⟨ts, h1, h2, h3⟩ := h
  refine ⟨ts, h1, h2, fun i v e => ?_⟩
  obtain ⟨l, e1, e2, e3, e4⟩ := h3 i v e
  exact ⟨l, e1, sfree s e2, e3, e4⟩
theorem TrisAt.take {H : Hp} {l p : Addr} {js : List (Nat × Nat × Nat)} {ts : List V} (h : TrisAt H l js) (ht : H l = some (.lst ts)) (n : Nat) (hp : H p = some (.lst (ts.take n))) : TrisAt H p (js.take n) := by
  obtain ⟨ts', h1, h2, h3⟩ := h
  have et : ts' = ts := by
    have := h1.symm.trans ht
    exact HO.lst.inj (Option.some.inj this)
  subst et
  refine ⟨_, hp, by rw [List.length_take, List.length_take, h2], fun i v j a b => ?_⟩
  rw [List.getElem?_take] at a b
  by_cases c : i < n
  · rw [if_pos c] at a b
    exact h3 i v j a b
  · rw [if_neg c] at a
    cases a
theorem TrisAt.drop {H : Hp} {l p : Addr} {js : List (Nat × Nat × Nat)} {ts : List V} (h : TrisAt H l js) (ht : H l = some (.lst ts)) (n : Nat) (hp : H p = some (.lst (ts.drop n))) : TrisAt H p (js.drop n) := by
  obtain ⟨ts', h1, h2, h3⟩ := h
  have et : ts' = ts := by
    have := h1.symm.trans ht
    exact HO.lst.inj (Option.some.inj this)
  subst et
  refine ⟨_, hp, by rw [List.length_drop, List.length_drop, h2], fun i v j a b => ?_⟩
  rw [List.getElem?_drop] at a b
  exact h3 _ v j a b
theorem TrisAt.append {H : Hp} {l1 l2 p : Addr} {js1 js2 : List (Nat × Nat × Nat)} {ts1 ts2 : List V} (h1 : TrisAt H l1 js1) (h2 : TrisAt H l2 js2) (e1 : H l1 = some (.lst ts1)) (e2 : H l2 = some (.lst ts2)) (hp : H p = some (.lst (ts1 ++ ts2))) : TrisAt H p (js1 ++ js2) := by
  obtain ⟨t1, a1, a2, a3⟩ := h1
  obtain ⟨t2, b1, b2, b3⟩ := h2
  have et : t1 = ts1 := by
    have := a1.symm.trans e1
    exact HO.lst.inj (Option.some.inj this)
  subst et
  have et : t2 = ts2 := by
    have := b1.symm.trans e2
    exact HO.lst.inj (Option.some.inj this)
  subst et
  refine ⟨_, hp, by rw [List.length_append, List.length_append, a2, b2], fun i v j a b => ?_⟩
  rcases Nat.lt_or_ge i t1.length with c | c
  · rw [List.getElem?_append_left (by omega)] at a b
    exact a3 i v j a b
  · rw [List.getElem?_append_right (by omega)] at a b
    rw [a2] at a
    exact b3 _ v j a b
theorem TrisAt.item {H : Hp} {js : List (Nat × Nat × Nat)} {ts : List V} {i : Nat} {v : V} (l : ts.length = js.length) (h : ∀ (i : Nat) (v : V) (j : Nat × Nat × Nat), ts[i]? = some v → js[i]? = some j → TriAt H v j) (hv : ts[i]? = some v) : ∃ t j, v = .ref t ∧ js[i]? = some j ∧ j ∈ js ∧ H t = some (.tup [.int (j.1 : Int), .int (j.2.1 : Int), .int (j.2.2 : Int)]) := by
  have hi := (List.getElem?_eq_some_iff.mp hv).1
  obtain ⟨t, e, ht⟩ := h i v js[i] hv (List.getElem?_eq_getElem (by omega))
  exact ⟨t, js[i], e, List.getElem?_eq_getElem (by omega), List.getElem_mem _, ht⟩
namespace Pile
/-- behind the joins that make room, if there is a border -/
def res (b : Option Nat) (s : List Pc × List (Nat × Nat × Nat)) : List Pc × List (Nat × Nat × Nat) := match b with
  | none => s
  | some v => room v s.1.length s
theorem step_res (w st : Nat) (s : List Pc × List (Nat × Nat × Nat)) (l : Nat) : step w st s l = (put (res (brd w s.1 l) s).1 st l (brd w s.1 l), (res (brd w s.1 l) s).2) := by
  unfold step res
  cases brd w s.1 l <;> rfl
theorem room_step {b : Nat} {s : List Pc × List (Nat × Nat × Nat)} (h : hasTo s.1 b = true) : room b s.1.length s = room b (join s.1 (s.1.length - 2)).length (join s.1 (s.1.length - 2), s.2 ++ [jn s.1 (s.1.length - 2)]) := by
  have h2 := hasTo_two h
  have ll := join_len (ps := s.1) (i := s.1.length - 2) (by omega)
  rw [ll]
  obtain ⟨m, hm⟩ : ∃ m, s.1.length = m + 1 := ⟨s.1.length - 1, by omega⟩
  have e : room b (m + 1) s = if hasTo s.1 b then room b m (join s.1 (s.1.length - 2), s.2 ++ [jn s.1 (s.1.length - 2)]) else s := rfl
  rw [if_pos h] at e
  rw [show s.1.length - 1 = m by omega, ← e, ← hm]
theorem room_stop {b k : Nat} {s : List Pc × List (Nat × Nat × Nat)} (h : hasTo s.1 b = false) : room b k s = s := by
  cases k with
  | zero => rfl
  | succ k =>
    unfold room
    rw [if_neg (by rw [h]; exact Bool.noConfusion)]
theorem cnt_join {s : List Pc × List (Nat × Nat × Nat)} {i : Nat} (h : i + 1 < s.1.length) : (s.2 ++ [jn s.1 i]).length + (join s.1 i).length = s.2.length + s.1.length := by
  rw [List.length_append, join_len h, List.length_singleton]
  omega
theorem cnt_room {b : Nat} : ∀ (k : Nat) (s : List Pc × List (Nat × Nat × Nat)), (room b k s).2.length + (room b k s).1.length = s.2.length + s.1.length
  | 0, s => rfl
  | k + 1, s => by
    unfold room
    cases z : hasTo s.1 b with
    | false => rfl
    | true =>
      have h2 := hasTo_two z
      exact (cnt_room k _).trans (cnt_join (s := s) (by omega))
theorem cnt_put (ps : List Pc) (st l : Nat) (b : Option Nat) : (put ps st l b).length = ps.length + 1 := by
  unfold put
  cases h : ps.getLast? with
  | none => rw [List.getLast?_eq_none_iff.mp h]; rfl
  | some c =>
    have : ps ≠ [] := fun e => by rw [e] at h; cases h
    have := List.length_pos_iff.mpr this
    rw [List.length_append, List.length_dropLast]
    show ps.length - 1 + 2 = _
    omega
theorem cnt_res (b : Option Nat) (s : List Pc × List (Nat × Nat × Nat)) : (res b s).2.length + (res b s).1.length = s.2.length + s.1.length := by
  cases b with
  | none => rfl
  | some v => exact cnt_room _ _
theorem sts_cnt {w : Nat} {ls : List Nat} : ∀ k, (sts w ls k).2.length + (sts w ls k).1.length = k
  | 0 => rfl
  | k + 1 => by
    show (step w (ls.take k).sum (sts w ls k) (ls.getD k 0)).2.length + (step w (ls.take k).sum (sts w ls k) (ls.getD k 0)).1.length = _
    rw [step_res]
    show (res _ _).2.length + (put _ _ _ _).length = _
    rw [cnt_put, ← Nat.add_assoc, cnt_res, sts_cnt k]
theorem res_stop {v : Nat} {s : List Pc × List (Nat × Nat × Nat)} (h : hasTo s.1 v = false) : res (some v) s = s := room_stop h
theorem fin_cnt : ∀ (k : Nat) (s : List Pc × List (Nat × Nat × Nat)), (fin k s).2.length + (fin k s).1.length = s.2.length + s.1.length
  | 0, s => rfl
  | k + 1, s => by
    unfold fin
    by_cases h : 1 < s.1.length
    · rw [if_pos h]
      exact (fin_cnt k _).trans (cnt_join (s := s) (next_lt (by omega)))
    · rw [if_neg h]
theorem fin_stop {k : Nat} {s : List Pc × List (Nat × Nat × Nat)} (h : s.1.length ≤ 1) : fin k s = s := by
  cases k with
  | zero => rfl
  | succ k =>
    unfold fin
    rw [if_neg (by omega)]
theorem fin_step {k : Nat} {s : List Pc × List (Nat × Nat × Nat)} (h : 1 < s.1.length) : fin (k + 1) s = fin k (join s.1 (next s.1), s.2 ++ [jn s.1 (next s.1)]) := by
  conv => lhs; unfold fin
  rw [if_pos h]
theorem fin_pre {e : List (Nat × Nat × Nat)} : ∀ (k : Nat) (ps : List Pc) (l : List (Nat × Nat × Nat)), fin k (ps, e ++ l) = ((fin k (ps, l)).1, e ++ (fin k (ps, l)).2)
  | 0, ps, l => rfl
  | k + 1, ps, l => by
    unfold fin
    by_cases h : 1 < ps.length
    · rw [if_pos h, if_pos h, List.append_assoc]
      exact fin_pre k _ _
    · rw [if_neg h, if_neg h]
theorem sts_last {w : Nat} {ls : List Nat} {k : Nat} : (sts w ls (k + 1)).1.getLast? = some ⟨(ls.take k).sum, ls.getD k 0, none⟩ := by
  show (step w (ls.take k).sum (sts w ls k) (ls.getD k 0)).1.getLast? = _
  have e : ∀ (ps : List Pc) (st l : Nat) (b : Option Nat), (put ps st l b).getLast? = some ⟨st, l, none⟩ := fun ps st l b => by
    unfold put
    cases h : ps.getLast? with
    | none => rfl
    | some c => simp
  unfold step
  cases brd w (sts w ls k).1 (ls.getD k 0) with
  | none => exact e _ _ _ _
  | some b => exact e _ _ _ _
end Pile
end L2

/-! rounds and costs of the joins; all lengths times a number -/
namespace L2
open PySem PySem.Spec PyProof.Rows
namespace Pile
/-- where piece i starts -/
def stt (ls : List Nat) (i : Nat) : Nat := (ls.take i).sum
theorem stt_succ {ls : List Nat} {i : Nat} (h : i < ls.length) : stt ls (i + 1) = stt ls i + ls.getD i 0 := sum_take h
theorem getD_pos {ls : List Nat} (h1 : ∀ l ∈ ls, 1 ≤ l) {i : Nat} (h : i < ls.length) : 1 ≤ ls.getD i 0 := by
  rw [List.getD_eq_getElem?_getD, List.getElem?_eq_getElem h]
  exact h1 _ (List.getElem_mem h)
theorem stt_lt {ls : List Nat} (h1 : ∀ l ∈ ls, 1 ≤ l) {i : Nat} : ∀ {k : Nat}, i < k → k ≤ ls.length → stt ls i < stt ls k
  | 0, h, _ => absurd h (Nat.not_lt_zero _)
  | k + 1, h, hk => by
    have e := stt_succ (ls := ls) (i := k) (by omega)
    have p := getD_pos h1 (i := k) (by omega)
    rcases Nat.lt_or_ge i k with c | c
    · have := stt_lt h1 c (by omega)
      omega
    · have : i = k := by omega
      subst this
      omega
theorem stt_le {ls : List Nat} (h1 : ∀ l ∈ ls, 1 ≤ l) {i k : Nat} (h : i ≤ k) (hk : k ≤ ls.length) : stt ls i ≤ stt ls k := by
  rcases Nat.lt_or_ge i k with c | c
  · exact Nat.le_of_lt (stt_lt h1 c hk)
  · have : i = k := by omega
    rw [this]
    exact Nat.le_refl _
theorem stt_inj {ls : List Nat} (h1 : ∀ l ∈ ls, 1 ≤ l) {i k : Nat} (hi : i ≤ ls.length) (hk : k ≤ ls.length) (e : stt ls i = stt ls k) : i = k := by
  rcases Nat.lt_trichotomy i k with c | c | c
  · have := stt_lt h1 c hk
    omega
  · exact c
  · have := stt_lt h1 c hi
    omega
/-- from the border of one piece to that of another one -/
def Brd (ls : List Nat) (s l : Nat) : Prop := ∃ i k, i < k ∧ k ≤ ls.length ∧ s = stt ls i ∧ s + l = stt ls k
theorem Brd.add {ls : List Nat} (h1 : ∀ l ∈ ls, 1 ≤ l) {s l l' : Nat} (a : Brd ls s l) (b : Brd ls (s + l) l') : Brd ls s (l + l') := by
  obtain ⟨i, k, a1, a2, a3, a4⟩ := a
  obtain ⟨i', k', b1, b2, b3, b4⟩ := b
  have e : k = i' := stt_inj h1 a2 (by omega) (by omega)
  exact ⟨i, k', by omega, b2, a3, by omega⟩
def Bds (ls : List Nat) (s : List Pc × List (Nat × Nat × Nat)) : Prop := (∀ c ∈ s.1, Brd ls c.st c.ln) ∧ ∀ j ∈ s.2, Brd ls j.1 (j.2.1 + j.2.2)
theorem Bds.join {ls : List Nat} (h1 : ∀ l ∈ ls, 1 ≤ l) {s : List Pc × List (Nat × Nat × Nat)} {e i : Nat} (v : Inv s.1 e) (h : i + 1 < s.1.length) (b : Bds ls s) : Bds ls (Pile.join s.1 i, s.2 ++ [jn s.1 i]) := by
  obtain ⟨c, hc⟩ : ∃ c, s.1[i]? = some c := ⟨_, List.getElem?_eq_getElem (by omega)⟩
  obtain ⟨d, hd⟩ : ∃ d, s.1[i + 1]? = some d := ⟨_, List.getElem?_eq_getElem h⟩
  have sd := v.side i c d hc hd
  have bc := b.1 c (List.mem_of_getElem? hc)
  have bd := b.1 d (List.mem_of_getElem? hd)
  have bj : Brd ls c.st (c.ln + d.ln) := bc.add h1 (by rw [sd.1]; exact bd)
  constructor
  · intro x hx
    have hx : x ∈ Pile.join s.1 i := hx
    rw [join_eq hc hd] at hx
    simp only [List.mem_append, List.mem_singleton] at hx
    rcases hx with (hx | hx) | hx
    · exact b.1 x (List.mem_of_mem_take hx)
    · rw [hx]
      exact bj
    · exact b.1 x (List.mem_of_mem_drop hx)
  · intro j hj
    rcases List.mem_append.mp hj with hj | hj
    · exact b.2 j hj
    · rw [List.mem_singleton.mp hj]
      unfold jn
      rw [hc, hd]
      exact bj
theorem Bds.room {ls : List Nat} (h1 : ∀ l ∈ ls, 1 ≤ l) {e b : Nat} : ∀ (k : Nat) (s : List Pc × List (Nat × Nat × Nat)), Inv s.1 e → Bds ls s → Bds ls (room b k s)
  | 0, s, _, h => h
  | k + 1, s, v, h => by
    unfold Pile.room
    cases z : hasTo s.1 b with
    | false => exact h
    | true =>
      have h2 := hasTo_two z
      exact Bds.room h1 k _ (v.join (by omega)) (h.join h1 v (by omega))
theorem Bds.fin {ls : List Nat} (h1 : ∀ l ∈ ls, 1 ≤ l) {e : Nat} : ∀ (k : Nat) (s : List Pc × List (Nat × Nat × Nat)), Inv s.1 e → Bds ls s → Bds ls (fin k s)
  | 0, s, _, h => h
  | k + 1, s, v, h => by
    unfold Pile.fin
    by_cases z : 1 < s.1.length
    · rw [if_pos z]
      have n := next_lt (ps := s.1) (by omega)
      exact Bds.fin h1 k _ (v.join n) (h.join h1 v n)
    · rw [if_neg z]
      exact h
theorem put_mem {ps : List Pc} {st l : Nat} {b : Option Nat} {c : Pc} (h : c ∈ put ps st l b) : (∃ d ∈ ps, c.st = d.st ∧ c.ln = d.ln) ∨ (c.st = st ∧ c.ln = l) := by
  unfold put at h
  cases hl : ps.getLast? with
  | none =>
    rw [hl] at h
    rw [List.mem_singleton.mp h]
    exact .inr ⟨rfl, rfl⟩
  | some d =>
    rw [hl] at h
    rcases List.mem_append.mp h with h | h
    · exact .inl ⟨c, (List.dropLast_subset _ h), rfl, rfl⟩
    · rcases List.mem_cons.mp h with h | h
      · rw [h]
        exact .inl ⟨d, List.mem_of_getLast? hl, rfl, rfl⟩
      · rw [List.mem_singleton.mp h]
        exact .inr ⟨rfl, rfl⟩
theorem Bds.sts {ls : List Nat} {w : Nat} (h1 : ∀ l ∈ ls, 1 ≤ l) : ∀ k, k ≤ ls.length → Bds ls (sts w ls k)
  | 0, _ => ⟨fun c h => by simp [Pile.sts] at h, fun c h => by simp [Pile.sts] at h⟩
  | k + 1, hk => by
    have ih := Bds.sts (w := w) h1 k (by omega)
    obtain ⟨v1, v2, v3⟩ := sts_inv (w := w) (ls := ls) k (by omega)
    have nw : Brd ls (stt ls k) (ls.getD k 0) := ⟨k, k + 1, by omega, hk, rfl, (stt_succ (by omega)).symm⟩
    have pt : ∀ (s : List Pc × List (Nat × Nat × Nat)) (b : Option Nat), Bds ls s → Bds ls (put s.1 (ls.take k).sum (ls.getD k 0) b, s.2) := fun s b hs => ⟨fun c hc => by
      rcases put_mem hc with ⟨d, m, e1, e2⟩ | ⟨e1, e2⟩
      · rw [e1, e2]
        exact hs.1 d m
      · rw [e1, e2]
        exact nw, hs.2⟩
    show Bds ls (step w (ls.take k).sum (Pile.sts w ls k) (ls.getD k 0))
    unfold step
    cases brd w (Pile.sts w ls k).1 (ls.getD k 0) with
    | none => exact pt _ _ ih
    | some b => exact pt _ _ (Bds.room h1 _ _ v1 ih)
/-- all joins of the sort -/
def joins (ls : List Nat) : List (Nat × Nat × Nat) := (sts ls.sum ls ls.length).2 ++ (fin 200 ((sts ls.sum ls ls.length).1, [])).2
theorem joins_brd {ls : List Nat} (h1 : ∀ l ∈ ls, 1 ≤ l) {j : Nat × Nat × Nat} (h : j ∈ joins ls) : Brd ls j.1 (j.2.1 + j.2.2) := by
  have b := Bds.sts (w := ls.sum) h1 ls.length (Nat.le_refl _)
  obtain ⟨v1, _, _⟩ := sts_inv (w := ls.sum) (ls := ls) ls.length (Nat.le_refl _)
  rcases List.mem_append.mp h with h | h
  · exact b.2 j h
  · exact (Bds.fin (e := (ls.take ls.length).sum) h1 200 ((sts ls.sum ls ls.length).1, []) v1 ⟨b.1, fun j h => by simp at h⟩).2 j h
theorem joins_len (ls : List Nat) : (joins ls).length ≤ ls.length := by
  have c1 := sts_cnt (w := ls.sum) (ls := ls) ls.length
  have c2 : (fin 200 ((sts ls.sum ls ls.length).1, [])).2.length + _ = ([] : List (Nat × Nat × Nat)).length + (sts ls.sum ls ls.length).1.length := fin_cnt 200 ((sts ls.sum ls ls.length).1, [])
  unfold joins
  rw [List.length_append]
  rw [List.length_nil] at c2
  omega
/-- is a place within a join -/
def cov (j : Nat × Nat × Nat) (p : Nat) : Bool := decide (j.1 ≤ p) && decide (p < j.1 + j.2.1 + j.2.2)
/-- the same, by both ends of a piece -/
def lcov (j : Nat × Nat × Nat) (p p' : Nat) : Bool := decide (j.1 ≤ p) && decide (p' ≤ j.1 + j.2.1 + j.2.2)
theorem cov_lcov {ls : List Nat} (h1 : ∀ l ∈ ls, 1 ≤ l) {j : Nat × Nat × Nat} (b : Brd ls j.1 (j.2.1 + j.2.2)) {i : Nat} (hi : i < ls.length) : lcov j (stt ls i) (stt ls (i + 1)) = cov j (stt ls i) := by
  obtain ⟨i0, k0, a1, a2, a3, a4⟩ := b
  unfold lcov cov
  congr 1
  refine decide_eq_decide.mpr ?_
  rw [Nat.add_assoc, a4]
  constructor
  · intro h
    have := stt_lt h1 (i := i) (k := i + 1) (by omega) (by omega)
    omega
  · intro h
    rcases Nat.lt_or_ge i k0 with c | c
    · exact stt_le h1 c a2
    · have := stt_le h1 c (by omega)
      omega
def rnd (js : List (Nat × Nat × Nat)) (p : Nat) : Nat := (js.filter fun j => cov j p).length
def rnds (ls : List Nat) : List Nat := (List.range ls.length).map fun i => rnd (joins ls) (stt ls i)
def price (ls : List Nat) : Nat := ((joins ls).map fun j => j.2.1 + j.2.2).sum
/-- one join costs the lengths of all pieces that are within -/
theorem sum_cov {ls : List Nat} (h1 : ∀ l ∈ ls, 1 ≤ l) {j : Nat × Nat × Nat} (b : Brd ls j.1 (j.2.1 + j.2.2)) : ((List.range ls.length).map fun i => ls.getD i 0 * (cov j (stt ls i)).toNat).sum = j.2.1 + j.2.2 := by
  obtain ⟨i0, k0, a1, a2, a3, a4⟩ := b
  have cv : ∀ i, i < ls.length → cov j (stt ls i) = (decide (i0 ≤ i) && decide (i < k0)) := fun i hi => by
    unfold cov
    rw [Nat.add_assoc, a4, a3]
    congr 1
    · refine decide_eq_decide.mpr ⟨fun h => ?_, fun h => stt_le h1 h (by omega)⟩
      rcases Nat.lt_or_ge i i0 with c | c
      · have := stt_lt h1 c (by omega)
        omega
      · exact c
    · refine decide_eq_decide.mpr ⟨fun h => ?_, fun h => stt_lt h1 h a2⟩
      rcases Nat.lt_or_ge i k0 with c | c
      · exact c
      · have := stt_le h1 c (by omega)
        omega
  have part : ∀ m, m ≤ ls.length → ((List.range m).map fun i => ls.getD i 0 * (cov j (stt ls i)).toNat).sum = stt ls (min m k0) - stt ls (min m i0) := by
    intro m
    induction m with
    | zero => intro _; simp
    | succ m ih =>
      intro hm
      have ih := ih (by omega)
      rw [List.range_succ, List.map_append, List.sum_append, ih, List.map_singleton, List.sum_singleton, cv m (by omega)]
      have e := stt_succ (ls := ls) (i := m) (by omega)
      rcases Nat.lt_or_ge m i0 with c | c
      · rw [decide_eq_false (by omega : ¬ i0 ≤ m), Bool.false_and]
        rw [show min m k0 = m by omega, show min m i0 = m by omega, show min (m + 1) k0 = m + 1 by omega, show min (m + 1) i0 = m + 1 by omega]
        simp
      · rcases Nat.lt_or_ge m k0 with c2 | c2
        · rw [decide_eq_true c, decide_eq_true c2]
          have l1 := stt_le h1 c (by omega)
          rw [show min m k0 = m by omega, show min m i0 = i0 by omega, show min (m + 1) k0 = m + 1 by omega, show min (m + 1) i0 = i0 by omega, e]
          simp only [Bool.and_self, Bool.toNat_true, Nat.mul_one]
          omega
        · rw [decide_eq_false (by omega : ¬ m < k0), Bool.and_false]
          rw [show min m k0 = k0 by omega, show min m i0 = i0 by omega, show min (m + 1) k0 = k0 by omega, show min (m + 1) i0 = i0 by omega]
          simp
  rw [part ls.length (Nat.le_refl _), show min ls.length k0 = k0 by omega, show min ls.length i0 = i0 by omega]
  omega
theorem sum_map_add {α : Type} (f g : α → Nat) : ∀ (l : List α), (l.map fun x => f x + g x).sum = (l.map f).sum + (l.map g).sum
  | [] => rfl
  | x :: l => by
    simp only [List.map_cons, List.sum_cons]
    rw [sum_map_add f g l]
    omega
theorem cost_rounds {ls : List Nat} (h1 : ∀ l ∈ ls, 1 ≤ l) : ∀ (js : List (Nat × Nat × Nat)), (∀ j ∈ js, Brd ls j.1 (j.2.1 + j.2.2)) → ((List.range ls.length).map fun i => ls.getD i 0 * rnd js (stt ls i)).sum = (js.map fun j => j.2.1 + j.2.2).sum
  | [], _ => by
    simp only [rnd, List.filter_nil, List.length_nil, Nat.mul_zero, List.map_nil, List.sum_nil]
    generalize List.range ls.length = l
    induction l with
    | nil => rfl
    | cons x l ih => rw [List.map_cons, List.sum_cons, ih]; rfl
  | j :: js, h => by
    have ih := cost_rounds h1 js fun k m => h k (List.mem_cons_of_mem _ m)
    have e := sum_cov h1 (h j (List.mem_cons_self ..))
    rw [List.map_cons, List.sum_cons, ← ih, ← e, ← sum_map_add]
    congr 1
    refine List.map_congr_left fun i _ => ?_
    unfold rnd
    cases z : cov j (stt ls i) with
    | true =>
      rw [List.filter_cons_of_pos (by exact z), List.length_cons]
      simp only [Bool.toNat_true]
      rw [Nat.mul_add]
      omega
    | false =>
      rw [List.filter_cons_of_neg (by rw [z]; exact Bool.noConfusion)]
      simp
theorem price_eq {ls : List Nat} (h1 : ∀ l ∈ ls, 1 ≤ l) : ((List.range ls.length).map fun i => ls.getD i 0 * rnd (joins ls) (stt ls i)).sum = price ls := cost_rounds h1 _ fun _ h => joins_brd h1 h
/-! all lengths times a number -/
theorem fig_mul {W m c t : Nat} (ht : 0 < t) : Lv.fig (W * t) (m * t) c = Lv.fig W m c := by
  unfold Lv.fig
  rw [Nat.mul_right_comm, Nat.mul_div_mul_right _ _ ht]
theorem lev_mul {W m d t : Nat} (ht : 0 < t) (hd : 0 < d) (h : m + d < W) : Lv.lev (W * t) (m * t) (d * t) = Lv.lev W m d := by
  obtain ⟨_, _, _, a4, a5⟩ := Lv.lev_right hd h
  have hd' : 0 < d * t := Nat.mul_pos hd ht
  have h' : m * t + d * t < W * t := by rw [← Nat.add_mul]; exact (Nat.mul_lt_mul_right ht).mpr h
  obtain ⟨_, _, _, b4, b5⟩ := Lv.lev_right hd' h'
  rw [← Nat.add_mul, fig_mul ht, fig_mul ht] at b5
  rcases Nat.lt_trichotomy (Lv.lev (W * t) (m * t) (d * t)) (Lv.lev W m d) with c | c | c
  · exact absurd (a4 _ c) b5
  · exact c
  · have := b4 _ c
    rw [← Nat.add_mul, fig_mul ht, fig_mul ht] at this
    exact absurd this a5
def sPc (t : Nat) (c : Pc) : Pc := ⟨c.st * t, c.ln * t, c.lv⟩
def sJ (t : Nat) (j : Nat × Nat × Nat) : Nat × Nat × Nat := (j.1 * t, j.2.1 * t, j.2.2 * t)
def sS (t : Nat) (s : List Pc × List (Nat × Nat × Nat)) : List Pc × List (Nat × Nat × Nat) := (s.1.map (sPc t), s.2.map (sJ t))
theorem join_mul {t : Nat} (ps : List Pc) (i : Nat) : join (ps.map (sPc t)) i = (join ps i).map (sPc t) := by
  unfold join
  rw [List.getElem?_map, List.getElem?_map]
  cases ps[i]? with
  | none => rfl
  | some c =>
    cases ps[i + 1]? with
    | none => rfl
    | some d =>
      show (ps.map (sPc t)).take i ++ [(⟨c.st * t, c.ln * t + d.ln * t, d.lv⟩ : Pc)] ++ (ps.map (sPc t)).drop (i + 2) = (ps.take i ++ [(⟨c.st, c.ln + d.ln, d.lv⟩ : Pc)] ++ ps.drop (i + 2)).map (sPc t)
      rw [List.map_append, List.map_append, List.map_take, List.map_drop, ← Nat.add_mul]
      rfl
theorem jn_mul {t : Nat} (ps : List Pc) (i : Nat) : jn (ps.map (sPc t)) i = sJ t (jn ps i) := by
  unfold jn
  rw [List.getElem?_map, List.getElem?_map]
  cases ps[i]? with
  | none => simp [sJ]
  | some c =>
    cases ps[i + 1]? with
    | none => simp [sJ]
    | some d => rfl
theorem next_mul {t : Nat} (ht : 0 < t) (ps : List Pc) : next (ps.map (sPc t)) = next ps := by
  unfold next
  rw [List.length_map, List.getElem?_map, List.getElem?_map]
  cases ps[ps.length - 3]? with
  | none => rfl
  | some c =>
    cases ps[ps.length - 1]? with
    | none => rfl
    | some d =>
      show (if 3 ≤ ps.length ∧ c.ln * t < d.ln * t then ps.length - 3 else ps.length - 2) = _
      by_cases z : c.ln < d.ln
      · have z' := (Nat.mul_lt_mul_right ht).mpr z
        simp [z, z']
      · have z' : ¬ c.ln * t < d.ln * t := fun y => z ((Nat.mul_lt_mul_right ht).mp y)
        simp [z, z']
theorem hasTo_mul {t b : Nat} (ps : List Pc) : hasTo (ps.map (sPc t)) b = hasTo ps b := by
  unfold hasTo
  rw [List.length_map, List.getElem?_map]
  cases ps[ps.length - 2]? with
  | none => rfl
  | some c =>
    obtain ⟨x, y, z⟩ := c
    cases ps.length with
    | zero => rfl
    | succ n =>
      cases n with
      | zero => rfl
      | succ n =>
        cases z <;> rfl
theorem room_mul {t b : Nat} : ∀ (k : Nat) (s : List Pc × List (Nat × Nat × Nat)), room b k (sS t s) = sS t (room b k s)
  | 0, s => rfl
  | k + 1, s => by
    unfold room
    have e1 : hasTo (sS t s).1 b = hasTo s.1 b := hasTo_mul s.1
    have e2 : (join (sS t s).1 ((sS t s).1.length - 2), (sS t s).2 ++ [jn (sS t s).1 ((sS t s).1.length - 2)]) = sS t (join s.1 (s.1.length - 2), s.2 ++ [jn s.1 (s.1.length - 2)]) := by
      show (join (s.1.map (sPc t)) ((s.1.map (sPc t)).length - 2), s.2.map (sJ t) ++ [jn (s.1.map (sPc t)) ((s.1.map (sPc t)).length - 2)]) = _
      rw [List.length_map, join_mul, jn_mul]
      unfold sS
      rw [List.map_append]
      rfl
    rw [e1]
    by_cases h : hasTo s.1 b = true
    · rw [if_pos h, if_pos h, e2]
      exact room_mul k _
    · rw [if_neg h, if_neg h]
theorem fin_mul {t : Nat} (ht : 0 < t) : ∀ (k : Nat) (s : List Pc × List (Nat × Nat × Nat)), fin k (sS t s) = sS t (fin k s)
  | 0, s => rfl
  | k + 1, s => by
    unfold fin
    have e1 : (sS t s).1.length = s.1.length := List.length_map _
    have e2 : (join (sS t s).1 (next (sS t s).1), (sS t s).2 ++ [jn (sS t s).1 (next (sS t s).1)]) = sS t (join s.1 (next s.1), s.2 ++ [jn s.1 (next s.1)]) := by
      show (join (s.1.map (sPc t)) (next (s.1.map (sPc t))), s.2.map (sJ t) ++ [jn (s.1.map (sPc t)) (next (s.1.map (sPc t)))]) = _
      rw [next_mul ht, join_mul, jn_mul]
      unfold sS
      rw [List.map_append]
      rfl
    rw [e1]
    by_cases h : 1 < s.1.length
    · rw [if_pos h, if_pos h, e2]
      exact fin_mul ht k _
    · rw [if_neg h, if_neg h]
theorem put_mul {t : Nat} (ps : List Pc) (st l : Nat) (b : Option Nat) : put (ps.map (sPc t)) (st * t) (l * t) b = (put ps st l b).map (sPc t) := by
  unfold put
  rw [List.getLast?_map]
  cases ps.getLast? with
  | none => rfl
  | some c =>
    show (ps.map (sPc t)).dropLast ++ [(⟨c.st * t, c.ln * t, b⟩ : Pc), ⟨st * t, l * t, none⟩] = (ps.dropLast ++ [(⟨c.st, c.ln, b⟩ : Pc), ⟨st, l, none⟩]).map (sPc t)
    rw [List.map_append, List.map_dropLast]
    rfl
theorem sum_mul (t : Nat) : ∀ (ls : List Nat), (ls.map fun l => l * t).sum = ls.sum * t
  | [] => by simp
  | l :: ls => by
    rw [List.map_cons, List.sum_cons, List.sum_cons, sum_mul t ls, Nat.add_mul]
theorem sts_mul {ls : List Nat} (h1 : ∀ l ∈ ls, 1 ≤ l) {t : Nat} (ht : 0 < t) : ∀ k, k ≤ ls.length → sts (ls.sum * t) (ls.map fun l => l * t) k = sS t (sts ls.sum ls k)
  | 0, _ => rfl
  | k + 1, hk => by
    have ih := sts_mul h1 ht k (by omega)
    obtain ⟨v1, v2, v3⟩ := sts_inv (w := ls.sum) (ls := ls) k (by omega)
    have e1 : ((ls.map fun l => l * t).take k).sum = (ls.take k).sum * t := by rw [← List.map_take, sum_mul]
    have e2 : (ls.map fun l => l * t).getD k 0 = ls.getD k 0 * t := by
      rw [List.getD_eq_getElem?_getD, List.getD_eq_getElem?_getD, List.getElem?_map, List.getElem?_eq_getElem (by omega)]
      rfl
    show step (ls.sum * t) ((ls.map fun l => l * t).take k).sum (sts (ls.sum * t) (ls.map fun l => l * t) k) ((ls.map fun l => l * t).getD k 0) = sS t (step ls.sum (ls.take k).sum (sts ls.sum ls k) (ls.getD k 0))
    rw [ih, e1, e2]
    have p := getD_pos h1 (i := k) (by omega)
    have sm := stt_succ (ls := ls) (i := k) (by omega)
    have st2 := stt_le h1 (i := k + 1) (k := ls.length) hk (Nat.le_refl _)
    have st3 : stt ls ls.length = ls.sum := by unfold stt; rw [List.take_length]
    have hb : brd (ls.sum * t) (sS t (sts ls.sum ls k)).1 (ls.getD k 0 * t) = brd ls.sum (sts ls.sum ls k).1 (ls.getD k 0) := by
      unfold brd
      show (match ((sts ls.sum ls k).1.map (sPc t)).getLast? with | none => none | some c => some (Lv.lev (2 * (ls.sum * t)) (2 * c.st + c.ln) (c.ln + ls.getD k 0 * t))) = _
      rw [List.getLast?_map]
      cases hl : (sts ls.sum ls k).1.getLast? with
      | none => rfl
      | some c =>
        have lc := v1.last c hl
        show some (Lv.lev (2 * (ls.sum * t)) (2 * (c.st * t) + c.ln * t) (c.ln * t + ls.getD k 0 * t)) = some (Lv.lev (2 * ls.sum) (2 * c.st + c.ln) (c.ln + ls.getD k 0))
        rw [← Nat.mul_assoc, ← Nat.mul_assoc, ← Nat.add_mul, ← Nat.add_mul]
        unfold stt at sm st2 st3
        rw [lev_mul ht (by omega) (by omega)]
    unfold step
    rw [hb]
    cases brd ls.sum (sts ls.sum ls k).1 (ls.getD k 0) with
    | none =>
      show (put ((sts ls.sum ls k).1.map (sPc t)) _ _ none, (sts ls.sum ls k).2.map (sJ t)) = _
      rw [put_mul]
      rfl
    | some b =>
      have el : (sS t (sts ls.sum ls k)).1.length = (sts ls.sum ls k).1.length := List.length_map _
      show (put (room b (sS t (sts ls.sum ls k)).1.length (sS t (sts ls.sum ls k))).1 _ _ (some b), (room b (sS t (sts ls.sum ls k)).1.length (sS t (sts ls.sum ls k))).2) = _
      rw [el, room_mul]
      show (put ((room b (sts ls.sum ls k).1.length (sts ls.sum ls k)).1.map (sPc t)) _ _ (some b), (room b (sts ls.sum ls k).1.length (sts ls.sum ls k)).2.map (sJ t)) = _
      rw [put_mul]
      rfl
theorem joins_mul {ls : List Nat} (h1 : ∀ l ∈ ls, 1 ≤ l) {t : Nat} (ht : 0 < t) : joins (ls.map fun l => l * t) = (joins ls).map (sJ t) := by
  unfold joins
  rw [sum_mul, List.length_map, sts_mul h1 ht _ (Nat.le_refl _), List.map_append]
  have e : fin 200 ((sS t (sts ls.sum ls ls.length)).1, []) = sS t (fin 200 ((sts ls.sum ls ls.length).1, [])) := fin_mul ht 200 ((sts ls.sum ls ls.length).1, [])
  rw [e]
  rfl
theorem stt_mul {ls : List Nat} {t i : Nat} : stt (ls.map fun l => l * t) i = stt ls i * t := by
  unfold stt
  rw [← List.map_take, sum_mul]
theorem cov_mul {t : Nat} (ht : 0 < t) (j : Nat × Nat × Nat) (p : Nat) : cov (sJ t j) (p * t) = cov j p := by
  unfold cov sJ
  congr 1
  · exact decide_eq_decide.mpr (Nat.mul_le_mul_right_iff ht)
  · refine decide_eq_decide.mpr ?_
    show p * t < j.1 * t + j.2.1 * t + j.2.2 * t ↔ _
    rw [← Nat.add_mul, ← Nat.add_mul]
    exact Nat.mul_lt_mul_right ht
theorem rnds_mul {ls : List Nat} (h1 : ∀ l ∈ ls, 1 ≤ l) {t : Nat} (ht : 0 < t) : rnds (ls.map fun l => l * t) = rnds ls := by
  unfold rnds
  rw [List.length_map, joins_mul h1 ht]
  refine List.map_congr_left fun i _ => ?_
  unfold rnd
  rw [stt_mul, List.filter_map, List.length_map]
  congr 1
  refine List.filter_congr fun j _ => ?_
  exact cov_mul ht j _
theorem price_mul {ls : List Nat} (h1 : ∀ l ∈ ls, 1 ≤ l) {t : Nat} (ht : 0 < t) : price (ls.map fun l => l * t) = price ls * t := by
  unfold price
  rw [joins_mul h1 ht, List.map_map, ← sum_mul, List.map_map]
  congr 1
  refine List.map_congr_left fun j _ => ?_
  show j.2.1 * t + j.2.2 * t = (j.2.1 + j.2.2) * t
  rw [Nat.add_mul]
end Pile
end L2

/-! a comprehension over zip of two lists that are equally long -/
namespace L2
open PySem PySem.Spec PyProof.Rows
theorem lc_zip2 {K : PySem.W.Frag} {a b : Addr} {xs ys : List V} {g : TG} {tt : TT} {te : TE} {vs : List Nat} {σ : L2.St} {H1 : Hp} {D : Addr} {Qd : Hp → Prop} (le : xs.length = ys.length) (Pv : Nat → Hp → Prop) (h0 : Pv 0 (upd H1 D (.lst []))) (hl : ∀ i H, Pv i H → SqL K H a xs ∧ SqL K H b ys)
    (hs : ∀ i x y H T, xs[i]? = some x → ys[i]? = some y → Pv i H → H T = none → g (.ref T) (wipe σ vs) (upd H T (.tup [x, y])) fun σ2 H2 => wipe σ2 vs = wipe σ vs ∧ tt σ2 H2 fun c H3 =>
      if c = true then te σ2 H3 fun y H4 => ∃ acc, H4 D = some (.lst acc) ∧ acc.length < sizeLine ∧ Pv (i + 1) (upd H4 D (.lst (acc ++ [y]))) else Pv (i + 1) H3) (hd : ∀ H, Pv xs.length H → Qd H) :
    ∃ W : Nat → Nat → Hp → Prop, (∃ m, W 0 m (upd H1 D (.lst []))) ∧ ∀ i m H, W i m H →
      ((Itz K a b).stop i H ∧ Qd H) ∨ ((Itz K a b).go i H ∧ ∃ Nx : Hp → Prop, (∀ H', Nx H' → ∃ m', m' < m ∧ W (i + 1) m' H') ∧ ∀ x H', (Itz K a b).yld i H x H' → g x (wipe σ vs) H' fun σ2 H2 => wipe σ2 vs = wipe σ vs ∧ tt σ2 H2 fun c H3 =>
        if c = true then te σ2 H3 fun y H4 => ∃ acc, H4 D = some (.lst acc) ∧ acc.length < sizeLine ∧ Nx (upd H4 D (.lst (acc ++ [y]))) else Nx H3) := by
  refine ⟨fun i m H => m = xs.length - i ∧ i ≤ xs.length ∧ Pv i H, ⟨xs.length, by simp, Nat.zero_le _, h0⟩, ?_⟩
  rintro i m H ⟨rfl, hi, p⟩
  obtain ⟨qa, qb⟩ := hl i H p
  by_cases hlt : i < xs.length
  · refine .inr ⟨⟨xs, ys, xs[i], ys[i], qa, qb, by simp [hlt], by simp [← le, hlt]⟩, Pv (i + 1), fun H' p' => ⟨xs.length - (i + 1), by omega, rfl, hlt, p'⟩, fun x H' y => ?_⟩
    obtain ⟨T, u, v, e, nT, eH, f, f2⟩ := y
    subst e eH
    exact hs i u v _ T (f xs qa) (f2 ys qb) p nT
  · have e : i = xs.length := by omega
    subst e
    exact .inl ⟨⟨xs, ys, qa, qb, .inl (Nat.le_refl _)⟩, hd H p⟩
end L2

/-! sorted(xs, key=lambda x: g[x]), g a list of ints that is captured -/
namespace L2
open PySem PySem.Spec PyProof.Rows PySem.W LamX
section
variable {prog : Program} {w : World} {A : Around} {s : Shared}
/-- the lambda called with an index: it gives the item, and the heap only grows -/
theorem lam_key {qual : Str} {params : Arguments} {scope : Scope} {cl : List (Str × Addr)} {pm ctv : Value} {f c' c p : Addr} {g x : Str} {xp gp pos : Pos} {its : List Value} {i : Nat} {n : Int} {t t2 : Tok}
    (hroom : A.depth < recursionLimit) (lim : s.heap.NoLimit)
    (of1 : s.heap.get? f = some (kla_obj "<lambda>" qual params (.Subscript (.Name g gp) (.Name x xp) pos) scope cl pm c' ctv)) (hcd : s.heap.CodeRec (.ref c') qual)
    (hbind : ∀ v : Value, bindArgs (kla_fn "<lambda>" qual params (.Subscript (.Name g gp) (.Name x xp) pos) scope cl pm (.ref c') ctv) ⟨[v], []⟩ = pure [(x, v)])
    (hk : scope.kind = .function) (hco : scope.isCoroutine = false) (hgen : scope.isGenerator = false) (hcell : ∀ y ∈ scope.names, y.2 ≠ .cell) (hx : scope.names.lookup x = some .local) (hg : scope.names.lookup g = some .free)
    (hc : cl.lookup g = some c) (hcc : s.heap.IsCell c (some (.ref p))) (hl : s.heap.IsList p its.toArray) (hi : its[i]? = some (.int n t2))
    (hsz : its.length ≤ sizeLine)
    (d1 : (x == ("__debug__" : Str)) = false) (d2 : (g == ("__debug__" : Str)) = false) (d3 : (g == ("__classdict__" : Str)) = false) :
    wpAny (model prog w) A (call (.ref f) [.int (i : Int) t]) (KeyPure (.int n) s) (fun _ _ => False) s := by
  refine wpAny_call ?_
  refine kla_callFunE hroom of1 rfl hco hgen rfl hcd ?_
  rw [hbind]
  refine wpAny_pure (wpAny_newFunctionEnv hcell (fun y hy => by rw [List.mem_singleton.mp hy]; exact hx) (fun h₁ hns hsb => ⟨lim.fresh _ hsb, ?_⟩) hk)
  show codeAny _ _ (.expr _ (envX qual scope s.heap.objs.size f (.ref c') cl)) _ _
  have kp : ∀ b o, s.heap.get? b = some o → h₁.get? b = some o := fun b o e => hsb.extBut b o (Nat.ne_of_lt (Heap.lt_size e)) (Heap.get?_push_of_some _ e)
  have hcc1 : h₁.IsCell c (some (.ref p)) := by
    obtain ⟨o, ho, hd⟩ := hcc
    exact ⟨o, kp _ _ ho, hd⟩
  have hl1 : h₁.IsList p its.toArray := by
    obtain ⟨o, ho, hd⟩ := hl
    exact ⟨o, kp _ _ ho, hd⟩
  refine kla_codeExpr ?_
  refine PySem.wpAny_Subscript_Name (T := "list") slot_list_getitem.lookup ?_
  refine wpAny_Name (wpAny_loadName_free (c := c) (v := .ref p) hk hg hc hcc1 ?_ d3) d2
  refine wpAny_Name (wpAny_loadName_local (m := fun y => ([(x, Value.int (i : Int) t)]).reverse.lookup y) hk hx hns (v := .int (i : Int) t) ?_ ?_) d1
  · show List.lookup x [(x, _)] = _
    simp [List.lookup]
  have li : i < its.length := (List.getElem?_eq_some_iff.mp hi).1
  have h63 := line63
  refine ⟨hl1.typeIs, getItem_listL hl1 (by omega) (by omega) (by rw [Int.toNat_natCast]; exact hi) ⟨h₁, _, rfl, kp, Reads.int _ _⟩⟩
end
theorem key_each : ∀ {us : List Value} {ns : List Int}, IntsAre us ns → EachIs (fun v a => ∃ t, v = Value.int a t) us ns
  | _, _, .nil => .nil
  | _, _, .cons n t h => .cons ⟨t, rfl⟩ (key_each h)
theorem key_ints : ∀ {us : List Value} {ns : List Int}, EachIs (fun v a => ∃ t, v = Value.int a t) us ns → IntsAre us ns
  | _, _, .nil => .nil
  | _, _, .cons ⟨t, e⟩ h => by
    subst e
    exact .cons _ t (key_ints h)
theorem SqL.extN {K : PySem.W.Frag} {H H' : Hp} {a : Addr} {xs : List V} (e : ExtN H H') (h : SqL K H a xs) : SqL K H' a xs := by
  rcases h with (h | ⟨o, h⟩) | h
  · exact .inl (.inl (e _ _ h fun ps z => by cases z))
  · exact .inl (.inr ⟨o, e _ _ h fun ps z => by cases z⟩)
  · exact .inr h
def gSortKL (K : PySem.W.Frag) (T : List (Addr × Str)) (j : Nat) (σ : L2.St) (Q : VK) : VK := fun v H1 => Tabs T H1 ∧ ∃ (l p : Addr) (ns ms : List Int), v = .ref l ∧ σ[j]? = some (some (.ref p)) ∧ SqL K H1 l (ns.map V.int) ∧ SqL K H1 p (ms.map V.int) ∧ (∀ n ∈ ns, 0 ≤ n ∧ n < (ms.length : Int)) ∧
  ∀ (H2 : Hp) (r : Addr), ExtN H1 H2 → Tabs T H2 → H2 r = none → Q (.ref r) (upd H2 r (.lst ((ns.mergeSort fun a b => decide (ms.getD a.toNat 0 ≤ ms.getD b.toNat 0)).map V.int)))
def tSortKL (K : PySem.W.Frag) (T : List (Addr × Str)) (j : Nat) (te : TE) : TE := fun σ H Q => te σ H (gSortKL K T j σ Q)
section
variable {X : Cx}
theorem pe_sortedKL {T : List (Addr × Str)} {j : Nat} {te : TE} {e : Expr} {g x : Str} {params : Arguments} {scope : Scope} {c P : Addr} {sp pos lpos kpos gp xp bp : Pos} (hr : Room 2 X.A)
    (hg : Gl X "sorted") (hm : X.mg "sorted" = none) (hpa : PA X [e] (tCons te tNil))
    (TB : TabB X.base X.mg c P) (hcode : X.env.code = .ref c) (hmT : (P, X.env.qual ++ "<lambda>") ∈ T) (hu : ∀ p ∈ T, p.1 = P → p.2 = X.env.qual ++ "<lambda>")
    (hfree : ∀ y ∈ scope.names, y.2 = .free → X.env.scope.names.lookup y.1 = some .cell ∨ X.env.scope.names.lookup y.1 = some .free) (hdef : defaultsOf params X.env = ([], []))
    (hk : scope.kind = .function) (hco : scope.isCoroutine = false) (hgen : scope.isGenerator = false) (hcell : ∀ y ∈ scope.names, y.2 ≠ .cell) (hx : scope.names.lookup x = some .local) (hgf : scope.names.lookup g = some .free)
    (hgN : X.N[j]? = some g) (hgc : X.env.scope.names.lookup g = some .cell)
    (hbind : ∀ (q : Str) (cl : List (Str × Addr)) (pm cv ctv v : Value), bindArgs (kla_fn "<lambda>" q params (.Subscript (.Name g gp) (.Name x xp) bp) scope cl pm cv ctv) ⟨[v], []⟩ = pure [(x, v)])
    (hst : backTo pos (starEach [e] X.env) = (false, eval e X.env) :: backTo pos (starEach [] X.env) := by rfl) (hpl : (backTo pos (starEach [e] X.env)).any (·.1) = false := by rfl)
    (d1 : (x == ("__debug__" : Str)) = false := by decide) (d2 : (g == ("__debug__" : Str)) = false := by decide) (d3 : (g == ("__classdict__" : Str)) = false := by decide) :
    PE X (.Call (.Name "sorted" sp) [e] [⟨some (Str.ofString "key"), .Lambda params (.Subscript (.Name g gp) (.Name x xp) bp) scope lpos, kpos⟩] pos) (tSortKL X.K T j te) := by
  refine ⟨fun pins s σ H Q I h => ?_⟩
  refine wpAny_Call_Name_kw (ld_blt I hg hm (show bootBuiltins "sorted" = some (.builtin "sorted") by decide +kernel) ?_)
  refine PyProof.Rows.callWith_kw (thn (hpa.run pos pins s σ H (fun vs H1 => match vs with | [v] => gSortKL X.K T j σ Q v H1 | _ => False) I ?_) fun us s1 ⟨vs, H1, I1, r1, q1⟩ => ?_) hst hpl
  · exact h
  match vs, q1, r1 with
  | [v], q1, r1 =>
  obtain ⟨hT, l, p, ns, ms, rfl, hj, hl, hp, hb, q⟩ := (show gSortKL X.K T j σ Q v H1 from q1)
  obtain rfl := Vals.ref1 r1
  have hfC : ∀ y ∈ scope.names, y.2 = .free → ∃ c, X.env.cells.lookup y.1 = some c := fun y hy e => (hfree y hy e).elim (fun z => I1.ok.has _ (.inl z)) fun z => I1.ok.has _ (.inr z)
  refine wpAny_evalAll_cons (wpAny_bind (lam_make2 I1 TB hcode hmT hu hT hdef hfC fun f c' pm' ctv H2 s2 I2 eN T2 hf hfn hfr hco' => wpAny_bind (wpAny_standAt (wpAny_pure ?_))))
  refine wpAny_evalAll_nil ?_
  show wpAny _ _ (call (.builtin "sorted") [.ref l] [(Str.ofString "key", .ref f)]) _ _ _
  obtain ⟨its, rv, hpl2, hz⟩ := I2.list (hl.extN eN)
  obtain ⟨mts, mv, hml, hmz⟩ := I2.list (hp.extN eN)
  have hz : ns.length ≤ sizeLine := by rw [List.length_map] at hz; exact hz
  have hei := key_each rv.ints
  refine sorted_key_data (b := false) (fun a : Int => .int (ms.getD a.toNat 0)) hpl2.isList hei (AllAlike.of fun _ _ => by simp [alike]) (Sortable.others fun _ => ⟨(fun z => by cases z), (fun _ z => by cases z)⟩) hz (fun a _ => ?_) (ksk_s1 _ _) (fun _ => ksk_l1 _ _) (fun _ => ksk_t1 _ _) (fun v a hva ha h tk kp => ?_) fun out c2 h' tk kp fresh hD lout eo => ?_
  · have := hr.un
    show X.A.units + 2 + 0 < cLine
    omega
  · obtain ⟨t, rfl⟩ := hva
    obtain ⟨b0, b1⟩ := hb a ha
    obtain ⟨i, rfl⟩ : ∃ i : Nat, a = (i : Int) := ⟨a.toNat, (Int.toNat_of_nonneg b0).symm⟩
    have hi : i < ms.length := by omega
    obtain ⟨m, hn, hlk⟩ := I2.loc
    obtain ⟨u, ru, lk⟩ := hlk j g (.ref p) hgN hj (.inr (.inl hgc))
    obtain rfl : u = Value.ref p := ru
    have hgc2 : X.env.kindOf g = some .cell := hgc
    obtain ⟨c0, hc0, hcc⟩ : ∃ c0, X.env.cells.lookup g = some c0 ∧ s2.heap.IsCell c0 (some (.ref p)) := by
      rcases lk with ⟨z, _⟩ | ⟨_, c0, a1, a2⟩
      · rw [hgc2] at z
        cases z
      · exact ⟨c0, a1, a2⟩
    have hcl : (cloFrom X.env.cells scope.names []).lookup g = some c0 := NdefX.clo_has hfC (PySem.mem_of_lookup hgf) hc0
    have hmi : (ms.map V.int)[i]? = some (V.int (ms.getD i 0)) := by
      rw [List.getElem?_map, List.getElem?_eq_getElem hi]
      simp [List.getD_eq_getElem?_getD, List.getElem?_eq_getElem hi]
    obtain ⟨wv, ew, t2, rfl⟩ := mv.get hmi
    obtain ⟨⟨oc, vs', tq, k1, k2, k3⟩, _, _⟩ := I2.hok c' _ hco'
    rw [Int.toNat_natCast]
    refine lam_key (c := c0) (p := p) (its := mts) (t2 := t2) hr.in1.in1.depth ?_ (kp _ _ hf) ⟨c', oc, vs', tq, rfl, kp _ _ k1, k2, k3⟩ (fun v => hbind _ _ _ _ _ v) hk hco hgen hcell hx hgf hcl ?_ ?_ ew ?_ d1 d2 d3
    · exact I2.nolimit.keeps kp
    · obtain ⟨o, ho, hd⟩ := hcc
      exact ⟨o, kp _ _ ho, hd⟩
    · obtain ⟨o, ho, hd⟩ := hml.isList
      exact ⟨o, kp _ _ ho, hd⟩
    · rw [← mv.length]
      exact hmz
  · rw [dataLe_int] at eo
    have hlen : ((ns.mergeSort fun a b => decide (ms.getD a.toNat 0 ≤ ms.getD b.toNat 0)).map V.int).length ≤ sizeLine := by
      rw [List.length_map, List.length_mergeSort]
      exact hz
    exact ⟨.ref _, _, I2.laid (o := .lst ((ns.mergeSort fun a b => decide (ms.getD a.toNat 0 ≤ ms.getD b.toNat 0)).map V.int)) (t' := tk) kp (Nat.le_succ _) ⟨hlen, out, c2, vals_of_ints (key_ints eo), hD⟩, rfl, q _ _ eN T2 (I2.hok.fresh (Nat.le_succ _))⟩
/-- the names of the lambda and of the def that makes it -/
def keyScB (sc scope : Scope) (x g : Str) : Bool :=
  decide (scope.kind = .function) && !scope.isCoroutine && !scope.isGenerator && scope.names.all (fun y => !decide (y.2 = .cell)) && decide (scope.names.lookup x = some .local) && decide (scope.names.lookup g = some .free) && decide (sc.names.lookup g = some .cell) &&
    scope.names.all fun y => !decide (y.2 = .free) || decide (sc.names.lookup y.1 = some .cell) || decide (sc.names.lookup y.1 = some .free)
/-- .. with one table -/
theorem pe_sortedK1 {j : Nat} {te : TE} {e : Expr} {g x q : Str} {params : Arguments} {scope : Scope} {c P : Addr} {sp pos lpos kpos gp xp bp : Pos} (hr : Room 2 X.A)
    (hg : Gl X "sorted") (hm : X.mg "sorted" = none) (hpa : PA X [e] (tCons te tNil)) (TB : TabB X.base X.mg c P) (hcode : X.env.code = .ref c) (hq : X.env.qual ++ "<lambda>" = q) (hsc : keyScB X.env.scope scope x g = true) (hdef : defaultsOf params X.env = ([], []))
    (hgN : X.N[j]? = some g)
    (hbind : ∀ (q : Str) (cl : List (Str × Addr)) (pm cv ctv v : Value), bindArgs (kla_fn "<lambda>" q params (.Subscript (.Name g gp) (.Name x xp) bp) scope cl pm cv ctv) ⟨[v], []⟩ = pure [(x, v)])
    (hst : backTo pos (starEach [e] X.env) = (false, eval e X.env) :: backTo pos (starEach [] X.env) := by rfl) (hpl : (backTo pos (starEach [e] X.env)).any (·.1) = false := by rfl)
    (d1 : (x == ("__debug__" : Str)) = false := by decide) (d2 : (g == ("__debug__" : Str)) = false := by decide) (d3 : (g == ("__classdict__" : Str)) = false := by decide) :
    PE X (.Call (.Name "sorted" sp) [e] [⟨some (Str.ofString "key"), .Lambda params (.Subscript (.Name g gp) (.Name x xp) bp) scope lpos, kpos⟩] pos) (tSortKL X.K [(P, q)] j te) := by
  unfold keyScB at hsc
  simp only [Bool.and_eq_true, Bool.or_eq_true, Bool.not_eq_true', decide_eq_true_eq, decide_eq_false_iff_not, List.all_eq_true] at hsc
  obtain ⟨⟨⟨⟨⟨⟨⟨h1, h2⟩, h3⟩, h4⟩, h5⟩, h6⟩, h7⟩, h8⟩ := hsc
  exact pe_sortedKL hr hg hm hpa TB hcode (List.mem_singleton.mpr (by rw [hq])) (fun p hp _ => by rw [List.mem_singleton.mp hp, hq]) (fun y hy e => (h8 y hy).elim (fun z => z.elim (fun z => absurd e z) .inl) .inr) hdef h1 h2 h3 h4 h5 h6 hgN h7 hbind hst hpl d1 d2 d3
end
section
variable {P : Program} {w : World} {K : PySem.W.Frag} {mg : Str → Option Value} {base : Heap}
/-- a def whose code object is known -/
theorem Fun.okC {x qual : Str} {st : Stmt} {f c : Addr} {fd : FuncData} {N ps : List Str} {k : Nat} {sp : Sp} (F : Fun K x qual st f fd) (hc : fd.code = .ref c) (S : FnScope N ps (defScope st)) (len : ∀ vs H Q E, sp vs H Q E → vs.length = ps.length)
    (hbody : ∀ (A : Around) (outer : List Env) (s : Shared) (H : Hp) (vs : List V) (Q : VK) (E : XK), Room k (A.deeper (envOfC qual (defScope st) s.heap.objs.size f (.ref c))) → sp vs H Q E →
      ∃ t, PSs (cxOf CX0 P w K mg base N qual (defScope st) f (.ref c) A outer s H E).nox (defBody st) t ∧ t { nx := fun _ H' => Q .non H', rt := Q } (start N vs) H) : FnOk P w K mg base CX0 (k + 1) f fd ps sp := by
  obtain ⟨oc, od, kV, doc, pm, an, cdv, ct, osl, rfl, lk, hcd⟩ := F.ex
  have e : cdv = .ref c := hc
  subst e
  refine fn_of lk hcd S len fun A outer s H vs Q E hr hsp => ?_
  obtain ⟨t, h, q⟩ := hbody A outer s H vs Q E hr hsp
  exact ⟨t, h.nox, q⟩
end
end L2

/-! a lambda of one parameter that is handed to a def with other things -/
namespace L2
open PySem PySem.Spec PyProof.Rows PySem.W LamX
/-- one parameter, no other name of its own: captured ones and globals -/
structure LamS1 (sc scope : Scope) (x : Str) : Prop where
  kind : scope.kind = .function
  co : scope.isCoroutine = false
  gen : scope.isGenerator = false
  own : ∀ y ∈ scope.names, y.2 ≠ .cell
  loc : ∀ y ∈ scope.names, y.2 = .local → y.1 = x
  hx : scope.names.lookup x = some .local
  free : ∀ y ∈ scope.names, y.2 = .free → sc.names.lookup y.1 = some .cell ∨ sc.names.lookup y.1 = some .free
def lamS1B (sc scope : Scope) (x : Str) : Bool :=
  decide (scope.kind = .function) && !scope.isCoroutine && !scope.isGenerator && decide (scope.names.lookup x = some .local) && scope.names.all fun y => !decide (y.2 = .cell) && (!decide (y.2 = .local) || decide (y.1 = x)) && (!decide (y.2 = .free) || decide (sc.names.lookup y.1 = some .cell) || decide (sc.names.lookup y.1 = some .free))
theorem lamS1_by {sc scope : Scope} {x : Str} (h : lamS1B sc scope x = true) : LamS1 sc scope x := by
  unfold lamS1B at h
  simp only [Bool.and_eq_true, Bool.or_eq_true, Bool.not_eq_true', decide_eq_true_eq, decide_eq_false_iff_not, List.all_eq_true] at h
  obtain ⟨⟨⟨⟨h1, h2⟩, h3⟩, h5⟩, h4⟩ := h
  refine ⟨h1, h2, h3, fun y hy => (h4 y hy).1.1, fun y hy e => ?_, h5, fun y hy e => ?_⟩
  · rcases (h4 y hy).1.2 with z | z
    · exact absurd e z
    · exact z
  · rcases (h4 y hy).2 with (z | z) | z
    · exact absurd e z
    · exact .inl z
    · exact .inr z
theorem LamS1.has {X : Cx} {scope : Scope} {x : Str} (L : LamS1 X.env.scope scope x) (ok : X.Ok) : ∀ y ∈ scope.names, y.2 = .free → ∃ c, X.env.cells.lookup y.1 = some c := fun y hy e => by
  rcases L.free y hy e with k | k
  · exact ok.has _ (.inl k)
  · exact ok.has _ (.inr k)
/-- the context of the lambda's body: the names of the def that made it, and the parameter behind them -/
def lamCx1 (X : Cx) (A : Around) (outer : List Env) (s : Shared) (H : Hp) (E : XK) (scope : Scope) (x : Str) (f c' : Addr) : Cx := { lamCx X A outer s H E scope f c' with N := X.N ++ [x] }
section
variable {X : Cx} {pins : List (Addr × Obj)} {σ : L2.St} {H HZ : Hp} {s s1 : Shared}
theorem lam_start1 {A : Around} {outer : List Env} {E : XK} {scope : Scope} {x : Str} {v : V} {u : Value} {f c' : Addr} {h₁ : Heap} {tk : Nat} (I : Inv X pins σ H s) (L : LamS1 X.env.scope scope x) (hxN : x ∉ X.N) (r : L2.RelV v u) (e0 : Env0 X.prog X.w X.K X.mg X.base A outer s1 HZ) (hd : A.handled = none)
    (un : Un (frs X.stack) [] H HZ s.heap s1.heap) (hns : h₁.Ns s1.heap.objs.size fun y => ([(x, u)] : List (Str × Value)).reverse.lookup y) (kp : ∀ b o, s1.heap.get? b = some o → h₁.get? b = some o) :
    Inv (lamCx1 X A outer s1 HZ E scope x f c') [] (σ ++ [some v]) HZ { s1 with heap := h₁, toks := tk } := by
  have hfree := L.has I.ok
  have cm : ∀ {y c}, (cloFrom X.env.cells scope.names []).lookup y = some c → X.env.cells.lookup y = some c := fun {y c} e => by
    rcases cloFrom_mem (PySem.mem_of_lookup e) with hm | ⟨h1, h2⟩
    · cases hm
    · obtain ⟨c1, hc⟩ := hfree _ h1 rfl
      have hc : X.env.cells.lookup y = some c1 := hc
      have e2 : c = c1 := by
        rw [h2, hc] <;> rfl
      rw [e2]
      exact hc
  have look : ∀ {y}, scope.names.lookup y = some .free → ∃ c, (cloFrom X.env.cells scope.names []).lookup y = some c := fun {y} hl => by
    have hy : (y, NameKind.free) ∈ scope.names := PySem.mem_of_lookup hl
    exact mem_lookup (cloFrom_has (cells := X.env.cells) (acc := []) hy)
  have cellK : ∀ {c : Addr} {v : Option Value}, H c = none → s.heap.IsCell c v → h₁.IsCell c v := fun {c v} n ⟨o, ho, hd⟩ => by
    obtain ⟨sl, q⟩ := un.any ho n (by simp)
    exact ⟨_, kp _ _ q, hd⟩
  have noA : ∀ b : Addr, b ∉ (lamCx1 X A outer s1 HZ E scope x f c').ex := fun b z => absurd (show b ∈ ([] : List Addr) from z) (by simp)
  have ln := I.len
  refine ⟨⟨e0.mod, L.kind, rfl, rfl, Nat.le_refl _, fun y z c e1 e2 => I.ok.inj y z c (cm e1) (cm e2), fun y hy => ?_, fun y c z _ => ?_, fun _ => hd, Around.frames_deeper e0.frames, .inr ⟨rfl, rfl⟩, fun b z => absurd z (noA b), e0.bs, e0.bsz, fun b _ _ => noA b,
      fun b z => absurd z (noA b), e0.funs, e0.frf⟩,
    rfl, e0.bare, Un.kept kp, ⟨_, hns, fun i y v' e1 e2 e3 => ?_⟩, fun y c e => ?_, e0.hok.fresh (Nat.le_refl _), fun y c e => ?_, fun q hq => absurd (show q ∈ ([] : List (Addr × Obj)) ++ [] from hq) (by simp), e0.hok.kept kp, ?_⟩
  · have hy : scope.names.lookup y = some .cell ∨ scope.names.lookup y = some .free := hy
    rcases hy with hy | hy
    · exact absurd rfl (L.own _ (PySem.mem_of_lookup hy))
    · exact look hy
  · have z : false = true := z
    cases z
  · have e1 : (X.N ++ [x])[i]? = some y := e1
    have e3 : Vis scope y := e3
    by_cases hi : i < X.N.length
    · rw [List.getElem?_append_left hi] at e1
      rw [List.getElem?_append_left (by omega)] at e2
      have nx : y ≠ x := fun z => hxN (z ▸ List.mem_of_getElem? e1)
      rcases e3 with k | k | k
      · exact absurd (L.loc _ (PySem.mem_of_lookup k) rfl) nx
      · exact absurd rfl (L.own _ (PySem.mem_of_lookup k))
      · obtain ⟨m, hn, hl⟩ := I.loc
        have hvis : Vis X.env.scope y := (L.free _ (PySem.mem_of_lookup k) rfl).elim (fun k => .inr (.inl k)) (fun k => .inr (.inr k))
        obtain ⟨w', r, q⟩ := hl i y v' e1 e2 hvis
        obtain ⟨c2, h2⟩ := look k
        refine ⟨w', r, .inr ⟨.inr k, c2, h2, ?_⟩⟩
        have c1 := cm h2
        rcases q with ⟨k', _⟩ | ⟨_, c3, e', z⟩
        · have k' : X.env.scope.names.lookup y = some .local := k'
          rcases L.free _ (PySem.mem_of_lookup k) rfl with k2 | k2 <;> rw [show X.env.scope.names.lookup y = _ from k2] at k' <;> cases k'
        · rw [c1] at e'
          cases e'
          exact cellK (I.freeC y _ c1) z
    · rw [List.getElem?_append_right (by omega)] at e1
      rw [List.getElem?_append_right (by omega)] at e2
      obtain hz : i - X.N.length = 0 := by
        cases h : i - X.N.length with
        | zero => rfl
        | succ j => rw [h] at e1; simp at e1
      rw [hz] at e1
      rw [ln, hz] at e2
      obtain rfl : x = y := Option.some.inj e1
      obtain rfl : v = v' := Option.some.inj (Option.some.inj e2)
      refine ⟨u, r, .inl ⟨L.hx, ?_⟩⟩
      show List.lookup x [(x, u)] = some u
      simp [List.lookup]
  · obtain ⟨w', z⟩ := I.cell y c (cm e)
    exact ⟨w', cellK (I.freeC y c (cm e)) z⟩
  · obtain ⟨v, o, ho, hd⟩ := I.cell y c (cm e)
    exact un.free c o ho (I.freeC y c (cm e)) (by simp)
  · show (σ ++ [some v]).length = (X.N ++ [x]).length
    rw [List.length_append, List.length_append, ln]
    rfl
/-- x(e), in the def that got the lambda: Z is that def's context, entered at s -/
theorem pe_act1 {CXg : CXT} {Eg : XK} {Ng : List Str} {qg : Str} {sg : Scope} {g f c' : Addr} {cdg pm ctv : Value} {params : Arguments} {body : Expr} {scope : Scope} {k i : Nat} {a x : Str} {pn : List (Addr × Obj)} {xe : Value → Shared → Prop} {W : WX} {E : XK} {tb te : TE} {e : Expr} {p1 p2 : Pos}
    (I : Inv X pins σ H s) (L : LamS1 X.env.scope scope x) (hxN : x ∉ X.N) (hf : s.heap.get? f = some (PySem.W.kla_obj "<lambda>" (X.env.qual ++ "<lambda>") params body scope (cloFrom X.env.cells scope.names []) pm c' ctv)) (hfn : H f = none) (hfr : f ∉ frs X.stack)
    (hbind : ∀ u : Value, bindArgs (PySem.W.kla_fn "<lambda>" (X.env.qual ++ "<lambda>") params body scope (cloFrom X.env.cells scope.names []) pm (.ref c') ctv) ⟨[u], []⟩ = pure [(x, u)])
    (tk : Takes ((cxOf CXg X.prog X.w X.K X.mg X.base Ng qg sg g cdg X.A X.stack s H Eg).tr pn xe) W) (hW : ∀ cls d σ' H', E cls d H' → W cls d σ' H') (hr : Room (k + 1) (X.A.deeper (envOfC qg sg s.heap.objs.size g cdg)))
    (hbody : ∀ (A : Around) (outer : List Env) (s : Shared) (H : Hp), Room k (A.deeper (lamEnv X scope s.heap.objs.size f c')) → PE (lamCx1 X A outer s H E scope x f c') body tb)
    (hN : Ng[i]? = some a) (hv : Vis sg a) (he : PE ((cxOf CXg X.prog X.w X.K X.mg X.base Ng qg sg g cdg X.A X.stack s H Eg).tr pn xe) e te) (hd : (a == ("__debug__" : Str)) = false := by decide) (hcd : (a == ("__classdict__" : Str)) = false := by decide)
    (hs : starEach [e] ((cxOf CXg X.prog X.w X.K X.mg X.base Ng qg sg g cdg X.A X.stack s H Eg).tr pn xe).env = (false, eval e ((cxOf CXg X.prog X.w X.K X.mg X.base Ng qg sg g cdg X.A X.stack s H Eg).tr pn xe).env) :: starEach [] ((cxOf CXg X.prog X.w X.K X.mg X.base Ng qg sg g cdg X.A X.stack s H Eg).tr pn xe).env := by rfl)
    (hpl : (backTo p2 (starEach [] ((cxOf CXg X.prog X.w X.K X.mg X.base Ng qg sg g cdg X.A X.stack s H Eg).tr pn xe).env)).any (·.1) = false := by rfl) :
    PE ((cxOf CXg X.prog X.w X.K X.mg X.base Ng qg sg g cdg X.A X.stack s H Eg).tr pn xe) (.Call (.Name a p1) [e] [] p2)
      (fun σZ HZ Q => σZ[i]? = some (some (.ref f)) ∧ te σZ HZ fun v H1 => H1 c' = some (CodeO c' (X.env.qual ++ "<lambda>")) ∧ tb (σ ++ [some v]) H1 Q) := by
  refine ⟨fun pinsZ sZ σZ HZ Q IZ h => ?_⟩
  obtain ⟨hsl, ht⟩ := h
  refine wpAny_Call_Name_kw (thn ((pe_var (pos := p1) (i := i) hN hv hd hcd).run pinsZ sZ σZ HZ (fun v H1 => v = .ref f ∧ H1 = HZ) IZ ⟨.ref f, hsl, rfl, rfl⟩) fun u s1 ⟨v, H1, I1, r1, q1⟩ => ?_)
  obtain ⟨ev, eH⟩ := q1
  subst ev
  rw [eH] at I1
  obtain rfl : u = Value.ref f := r1
  have of1 := fun (s2 : Shared) (H2 : Hp) (I2 : Inv ((cxOf CXg X.prog X.w X.K X.mg X.base Ng qg sg g cdg X.A X.stack s H Eg).tr pn xe) pinsZ σZ H2 s2) => I2.base.keep f _ hf hfn hfr (fun z => nomatch (show f ∈ ([] : List Addr) from z))
  refine PySem.W.callWith_F (first := []) ⟨_, _, _, _, of1 s1 HZ I1⟩ (thn ((pa_cons he pa_nil hs).run p2 pinsZ s1 σZ HZ (fun vs H2 => match vs with | [v] => H2 c' = some (CodeO c' (X.env.qual ++ "<lambda>")) ∧ tb (σ ++ [some v]) H2 Q | _ => False) I1 ?_) fun us s2 ⟨vs, H2, I2, r, q⟩ => ?_) hs hpl
  · exact ht
  match vs, q, r with
  | [v], q, r =>
  obtain ⟨u, rfl, rv⟩ : ∃ u, us = [u] ∧ L2.RelV v u := by
    cases r with
    | cons r1 r2 => cases r2; exact ⟨_, rfl, r1⟩
  have of2 := of1 s2 H2 I2
  refine ⟨⟨_, _, _, _, of2⟩, ?_⟩
  show wpAny _ _ (call (.ref f) [u]) _ _ _
  obtain ⟨hc, hb⟩ := q
  have un : Un (frs X.stack) [] H H2 s.heap s2.heap := I2.base
  obtain ⟨⟨oc, ws, t, hoc, hdc, hvc⟩, _, _⟩ := I2.hok c' _ hc
  have rc : codeAny (model X.prog X.w) (X.A.deeper (envOfC qg sg s.heap.objs.size g cdg)) (.call (.ref f) ⟨[u], []⟩) (CR (L2.CX X.prog X.w) (envOfC qg sg s.heap.objs.size g cdg :: X.stack) X.prog X.w H2 s2 Q E) s2 := by
    refine PySem.W.kla_callFunE hr.depth of2 rfl L.co L.gen rfl ⟨c', oc, ws, t, rfl, hoc, hdc, hvc⟩ ?_
    rw [hbind]
    refine wpAny_pure (wpAny_newFunctionEnv (fun y hy => L.own y hy) (fun y hy => by rw [List.mem_singleton.mp hy]; exact L.hx) (fun h₁ hns hsb => ⟨I2.nolimit.fresh _ hsb, ?_⟩) L.kind)
    show codeAny _ _ (.expr body (lamEnv X scope s2.heap.objs.size f c')) _ _
    have kp : ∀ b o, s2.heap.get? b = some o → h₁.get? b = some o := fun b o e => hsb.extBut b o (Nat.ne_of_lt (Heap.lt_size e)) (Heap.get?_push_of_some _ e)
    have J : Inv (lamCx1 X (X.A.deeper (envOfC qg sg s.heap.objs.size g cdg)) (envOfC qg sg s.heap.objs.size g cdg :: X.stack) s2 H2 E scope x f c') [] (σ ++ [some v]) H2 { s2 with heap := h₁, toks := s2.toks + ([(x, u)] : List (Str × Value)).length } :=
      lam_start1 I L hxN rv I2.env0 hr.hd un hns kp
    refine PySem.W.kla_codeExpr (wpAny_mono ((hbody _ _ s2 H2 (hr.deeper _)).run [] _ _ H2 Q J hb) (fun v s' hq => ?_) fun e s' hq => hq)
    obtain ⟨w', H', J', rv, q⟩ := hq
    exact ⟨w', H', J'.os, J'.bare, J'.base, J'.hok, rv, q⟩
  have hx : Passes (L2.CX X.prog X.w) ((cxOf CXg X.prog X.w X.K X.mg X.base Ng qg sg g cdg X.A X.stack s H Eg).tr pn xe) E := passes_call tk hW
  refine wpAny_call (codeAny_mono rc fun r s' hq => ?_)
  cases r with
  | error e => exact hx pinsZ σZ H2 s2 e s' I2 hq
  | ok fl =>
    cases fl with
    | ret u => exact I2.after hq
    | next => exact False.elim hq
    | brk => exact False.elim hq
    | cont => exact False.elim hq
end
/-- a def of three parameters that calls the third one -/
def GivesTo3 (P : Program) (w : World) (K : PySem.W.Frag) (mg : Str → Option Value) (base : Heap) (k : Nat) (Ng : List Str) (x : Str) (sg : Scope) (g : Addr) (bg : List Stmt) (a : Str) (TT : V → V → (V → Hp → VK → Prop) → Hp → VK → Prop) : Prop :=
  ∀ (q : Str) (cdg : Value) (A : Around) (outer : List Env) (f c' : Addr) (s : Shared) (H : Hp) (Q : VK) (v1 v2 : V) (tl : V → Hp → VK → Prop), Room k (A.deeper (envOfC x sg s.heap.objs.size g cdg)) →
    (∀ (e : Expr) (te : TE) (p1 p2 : Pos), PE (cxOf C8.CX0 P w K mg base Ng x sg g cdg A outer s H C8.E0).nox e te → (starEach [e] (cxOf C8.CX0 P w K mg base Ng x sg g cdg A outer s H C8.E0).nox.env = (false, eval e (cxOf C8.CX0 P w K mg base Ng x sg g cdg A outer s H C8.E0).nox.env) :: starEach [] (cxOf C8.CX0 P w K mg base Ng x sg g cdg A outer s H C8.E0).nox.env) →
      PE (cxOf C8.CX0 P w K mg base Ng x sg g cdg A outer s H C8.E0).nox (.Call (.Name a p1) [e] [] p2) (fun σZ HZ Q => σZ[2]? = some (some (.ref f)) ∧ te σZ HZ fun v H1 => H1 c' = some (CodeO c' q) ∧ tl v H1 Q)) →
    H c' = some (CodeO c' q) → TT v1 v2 tl H Q →
    ∃ t, PSs (cxOf C8.CX0 P w K mg base Ng x sg g cdg A outer s H C8.E0).nox bg t ∧ t { nx := fun _ H' => Q .non H', rt := Q } (L2.start Ng [v1, v2, .ref f]) H
def tLam3 (T : List (Addr × Str)) (TT : V → V → (V → Hp → VK → Prop) → Hp → VK → Prop) (t1 t2 t : TE) : TE := fun σ H Q => t1 σ H fun v1 H1 => t2 σ H1 fun v2 H2 => Tabs T H2 ∧ ∀ H3, ExtN H2 H3 → Tabs T H3 → TT v1 v2 (fun v H' Q' => t (σ ++ [some v]) H' Q') H3 Q
section
variable {X : Cx}
/-- x(e1, e2, lambda y: body) -/
theorem pe_lam3 {T : List (Addr × Str)} {TT : V → V → (V → Hp → VK → Prop) → Hp → VK → Prop} {x y a n1 n2 : Str} {st : Stmt} {g c P : Addr} {k : Nat} {fd : FuncData} {Ng : List Str} {e1 e2 : Expr} {t1 t2 : TE}
    {params : Arguments} {body : Expr} {scope : Scope} {t : TE} {p lpos pos : Pos} (F : Fun X.K x x st g fd) (hg : Gl X x) (hm : X.mg x = some (.ref g)) (hk : PySem.W.keepIn X.K (.ref g) = true)
    (hb : L2.Binds X.K fd [n1, n2, a] []) (Sg : FnScope Ng [n1, n2, a] (defScope st)) (hNg : Ng[2]? = some a) (hva : Vis (defScope st) a)
    (hG : GivesTo3 X.prog X.w X.K X.mg X.base (k + 1) Ng x (defScope st) g (defBody st) a TT) (h1 : PE X e1 t1) (h2 : PE X e2 t2)
    (TB : TabB X.base X.mg c P) (hcode : X.env.code = .ref c) (hmT : (P, X.env.qual ++ "<lambda>") ∈ T) (hu : ∀ p ∈ T, p.1 = P → p.2 = X.env.qual ++ "<lambda>") (hr : Room (k + 2) X.A) (L : LamS1 X.env.scope scope y) (hyN : y ∉ X.N) (hdef : defaultsOf params X.env = ([], []))
    (hbind : ∀ (q : Str) (cl : List (Str × Addr)) (pm cv ctv v : Value), bindArgs (PySem.W.kla_fn "<lambda>" q params body scope cl pm cv ctv) ⟨[v], []⟩ = pure [(y, v)])
    (hbody : ∀ (A : Around) (outer : List Env) (s : Shared) (H : Hp) (f c' : Addr), Room k (A.deeper (lamEnv X scope s.heap.objs.size f c')) → PE (lamCx1 X A outer s H (fun _ _ _ => False) scope y f c') body t)
    (hst : starEach (e1 :: [e2, .Lambda params body scope lpos]) X.env = (false, eval e1 X.env) :: starEach [e2, .Lambda params body scope lpos] X.env := by rfl) (hst2 : starEach (e2 :: [.Lambda params body scope lpos]) X.env = (false, eval e2 X.env) :: starEach [.Lambda params body scope lpos] X.env := by rfl)
    (hpl : (backTo pos (starEach [e2, .Lambda params body scope lpos] X.env)).any (·.1) = false := by rfl)
    (hdb : (x == ("__debug__" : Str)) = false := by decide) (hd : (a == ("__debug__" : Str)) = false := by decide) (hcd : (a == ("__classdict__" : Str)) = false := by decide) :
    PE X (.Call (.Name x p) [e1, e2, .Lambda params body scope lpos] [] pos) (tLam3 T TT t1 t2 t) := by
  refine ⟨fun pins s σ H Q I h => ?_⟩
  refine wpAny_Call_Name_kw (ld_glob I hg hm ?_ hdb)
  refine PySem.W.callWith_K (h₀ := X.base) I.ok.mod.kin hk ?_ hst hpl
  rw [hst]
  show wpAny _ _ (spliced ((false, eval e1 X.env) :: backTo pos (starEach [e2, .Lambda params body scope lpos] X.env))) _ _ s
  refine Calls.spliced_cons (thn (h1.run pins s σ H _ I h) fun u1 s1 ⟨v1, H1, I1, r1, q1⟩ => ?_)
  rw [hst2]
  show wpAny _ _ (spliced ((false, eval e2 X.env) :: backTo pos (starEach [.Lambda params body scope lpos] X.env))) _ _ s1
  refine Calls.spliced_cons (thn (h2.run pins s1 σ H1 _ I1 q1) fun u2 s2 ⟨v2, H2, I2, r2, q2⟩ => ?_)
  obtain ⟨hT, q2⟩ := q2
  show wpAny _ _ (spliced ((false, eval (.Lambda params body scope lpos) X.env) :: backTo pos (starEach [] X.env))) _ _ s2
  refine Calls.spliced_cons (lam_make2 I2 TB hcode hmT hu hT hdef (L.has I2.ok) fun f c' pm' ctv H3 s3 I3 eN T3 hf hfn hfr hco => ?_)
  refine Calls.spliced_nil ⟨I3.kIn, ?_⟩
  obtain ⟨oc, od, kV, doc, pm, an, cdv, ct, osl, rfl, lk, hcg⟩ := F.ex
  have rc : codeAny (model X.prog X.w) X.A (.call (.ref g) ⟨[u1, u2, .ref f], []⟩) (CR C8.CX0 X.stack X.prog X.w H3 s3 Q C8.E0) s3 := by
    refine run_ofS (N := Ng) (ps := [n1, n2, a]) (us := [u1, u2, .ref f]) (vs := [v1, v2, .ref f]) lk hcg Sg hr I3.env0 (hb s3 [u1, u2, .ref f] I3.kIn rfl) (.cons r1 (.cons r2 (.cons rfl .nil))) rfl fun hr' => ?_
    refine Exists.elim (hG _ cdv X.A X.stack f c' s3 H3 Q v1 v2 (fun v H' Q' => t (σ ++ [some v]) H' Q') hr' (fun e te p1 p2 he hs => ?_) hco (q2 H3 eN T3)) fun t' h' => ⟨t', h'.1.nox, h'.2⟩
    exact pe_act1 (i := 2) (pn := []) (xe := fun _ _ => False) (W := fun _ _ _ _ => False) (E := fun _ _ _ => False) I3 L hyN hf hfn hfr (fun u => hbind _ _ _ _ _ u) takes0 (fun _ _ _ _ z => z) hr' (fun A outer s H hr2 => hbody A outer s H f c' hr2) hNg hva he hd hcd hs rfl
  refine wpAny_call (codeAny_mono rc fun r s2 hq => ?_)
  cases r with
  | error e => exact (show False from hq).elim
  | ok fl =>
    cases fl with
    | ret u => exact I3.after hq
    | next => exact False.elim hq
    | brk => exact False.elim hq
    | cont => exact False.elim hq
end
/-- of several defs that the slot may hold -/
def tCallR (i : Nat) (S : Addr → Sp → Prop) (t : TA) : TE := fun σ H Q => ∃ f sp, σ[i]? = some (some (.ref f)) ∧ S f sp ∧ t σ H fun vs H1 => sp vs H1 Q (fun _ _ _ => False)
theorem pe_callR {X : Cx} {k i : Nat} {x : Str} {p pos : Pos} {e : Expr} {es : List Expr} {t : TA} {S : Addr → Sp → Prop} (A : ∀ f sp, S f sp → Held X.prog X.w X.K X.mg X.base k f sp) (hr : Room k X.A) (hN : X.N[i]? = some x) (hv : Vis X.env.scope x) (ha : PA X (e :: es) t)
    (hdb : (x == ("__debug__" : Str)) = false := by decide) (hcd : (x == ("__classdict__" : Str)) = false := by decide)
    (he : starEach (e :: es) X.env = (false, eval e X.env) :: starEach es X.env := by rfl) (hpl : (backTo pos (starEach es X.env)).any (·.1) = false := by rfl) : PE X (.Call (.Name x p) (e :: es) [] pos) (tCallR i S t) := by
  refine ⟨fun pins s σ H Q I h => ?_⟩
  obtain ⟨f, sp, hs, hS, ht⟩ := h
  obtain ⟨fd, ps, F, hk, hb⟩ := (A f sp hS).ex
  refine (pe_callL (i := i) (f := f) (sp := sp) (dvs := []) (E := fun _ _ _ => False) F hr hN hv hk hb .nil (fun _ _ _ _ _ _ _ z => z.elim) ha hdb hcd he hpl).run pins s σ H Q I ⟨hs, ?_⟩
  have e0 : (fun (vs : List V) (H1 : Hp) => sp (vs ++ []) H1 Q (fun _ _ _ => False)) = fun vs H1 => sp vs H1 Q (fun _ _ _ => False) := by
    funext vs H1
    rw [List.append_nil]
  show t σ H (fun vs H1 => sp (vs ++ []) H1 Q (fun _ _ _ => False))
  rw [e0]
  exact ht
/-- .. by keywords alone -/
structure HeldK (P : Program) (w : World) (K : PySem.W.Frag) (mg : Str → Option Value) (base : Heap) (k : Nat) (f : Addr) (sp : Sp) (ks : List Str) (gV : List V → List V → List V) : Prop where
  ex : ∃ (fd : FuncData) (ps : List Str) (g : List Value → List Value → List Value), FnOk P w K mg base (fun _ _ _ _ _ _ => False) k f fd ps sp ∧ PySem.W.keepIn K (.ref f) = true ∧ KBn K fd ps 0 ks g gV
theorem pe_callRK {X : Cx} {k i : Nat} {x : Str} {p pos : Pos} {kws : List Keyword} {ks : List Str} {tk : TA} {S : Addr → Sp → (List V → List V → List V) → Prop} (A : ∀ f sp gV, S f sp gV → HeldK X.prog X.w X.K X.mg X.base k f sp ks gV) (hr : Room k X.A) (hN : X.N[i]? = some x) (hv : Vis X.env.scope x)
    (hkw : PK X kws tk) (hall : (backToKw pos (keywordEach kws X.env)).all (·.1.isSome) = true := by rfl) (hks : (backToKw pos (keywordEach kws X.env)).filterMap (·.1) = ks := by rfl)
    (hdb : (x == ("__debug__" : Str)) = false := by decide) (hcd : (x == ("__classdict__" : Str)) = false := by decide)
    (hpl : ((backTo pos (starEach [] X.env)).any (·.1) || (backToKw pos (keywordEach kws X.env)).any (·.1.isNone)) = false := by rfl) :
    PE X (.Call (.Name x p) [] kws pos) (fun σ H Q => ∃ f sp gV, σ[i]? = some (some (.ref f)) ∧ S f sp gV ∧ tk σ H fun zs H2 => zs.length = ks.length ∧ sp (gV [] zs) H2 Q (fun _ _ _ => False)) := by
  refine ⟨fun pins s σ H Q I h => ?_⟩
  obtain ⟨f, sp, gV, hs, hS, ht⟩ := h
  obtain ⟨fd, ps, g, F, hk, hb⟩ := (A f sp gV hS).ex
  refine wpAny_Call_Name_kw (thn ((pe_var (pos := p) hN hv hdb hcd).run pins s σ H (fun v H1 => v = .ref f ∧ H1 = H) I ⟨.ref f, hs, rfl, rfl⟩) fun u s1 ⟨v, H1, I1, r1, q1⟩ => ?_)
  obtain ⟨rfl, rfl⟩ := q1
  cases r1
  refine PySem.W.callWith_KW0 (h₀ := X.base) I1.ok.mod.kin hk hall ?_ hpl
  refine thn (hkw.run pos pins s1 σ _ _ I1 ht) fun ws s2 ⟨zs, H2, I2, rz, l2, q2⟩ => ⟨I2.kIn, ?_⟩
  rw [hks]
  exact run_fnN F hr hb (fun _ _ _ _ _ _ _ z => z.elim) I2 .nil rz rfl l2 q2
theorem fac {α : Type} {P : α → Prop} {x : α} {l : List α} (h : P x) (t : ∀ p ∈ l, P p) : ∀ p ∈ x :: l, P p := fun p hp => by
  rcases List.mem_cons.mp hp with e | hp
  · rw [e]; exact h
  · exact t p hp
theorem fan {α : Type} {P : α → Prop} : ∀ p ∈ ([] : List α), P p := fun p hp => by cases hp
end L2

namespace L2
open PySem PySem.Spec PyProof.Rows
/-! ### several except clauses, with a name or without -/
/-- behind a clause with a name the slot is empty -/
def endsAs (D : Ends) : Option Nat → Ends
  | none => D
  | some i => { nx := fun σ' H' => D.nx (σ'.set i none) H', rt := D.rt, bk := fun σ' H' => D.bk (σ'.set i none) H', ct := fun σ' H' => D.ct (σ'.set i none) H' }
def slotAs (σ : L2.St) (a : Addr) : Option Nat → L2.St
  | none => σ
  | some i => σ.set i (some (.ref a))
/-- what a row of clauses wishes of an exception -/
def wRow (K : PySem.W.Frag) (Wo : WX) (D : Ends) : List (Value × Option Nat × (Addr → Value → Option Addr → TS)) → WX
  | [] => Wo
  | (c, i, ts) :: r => fun cls d σ H => ∃ y, PySem.W.exmOne K cls c = some y ∧ (y = true → ∀ a, H a = none → ts a cls d (endsAs D i) (slotAs σ a i) H) ∧ (y = false → wRow K Wo D r cls d σ H)
inductive Clauses (X : Cx) : List ExceptHandler → List (Value × Option Nat × (Addr → Value → Option Addr → TS)) → Prop
  | nil : Clauses X [] []
  | plain {x : Str} {c : Value} {ts : Addr → Value → Option Addr → TS} {z : Stmt} {zs : List Stmt} {p q : Pos} {hs : List ExceptHandler} {l : List (Value × Option Nat × (Addr → Value → Option Addr → TS))} (hc : Names X x c)
      (su : ∀ (a : Addr) (oe : Obj) (cls : Value) (d : Option Addr) (pn : List (Addr × Obj)), Zc cls d oe → (∃ vs, oe.data = .fields vs) → PSs (X.suite a ((a, oe) :: pn)) (z :: zs) (ts a cls d)) (r : Clauses X hs l) :
      Clauses X (.ExceptHandler (some (.Name x p)) none (z :: zs) q :: hs) ((c, none, ts) :: l)
  | named {x n : Str} {i : Nat} {c : Value} {ts : Addr → Value → Option Addr → TS} {z : Stmt} {zs : List Stmt} {p q : Pos} {hs : List ExceptHandler} {l : List (Value × Option Nat × (Addr → Value → Option Addr → TS))} (hN : X.N.Nodup) (hi : X.N[i]? = some n) (hk : X.env.kindOf n = some .local) (hc : Names X x c)
      (su : ∀ (a : Addr) (oe : Obj) (cls : Value) (d : Option Addr) (pn : List (Addr × Obj)), Zc cls d oe → (∃ vs, oe.data = .fields vs) → PSs (X.suite a ((a, oe) :: pn)) (z :: zs) (ts a cls d)) (r : Clauses X hs l) :
      Clauses X (.ExceptHandler (some (.Name x p)) (some n) (z :: zs) q :: hs) ((c, some i, ts) :: l)
section
variable {X : Cx} {body : List Stmt} {h0 : ExceptHandler} {hds : List ExceptHandler} {l : List (Value × Option Nat × (Addr → Value → Option Addr → TS))} {pos : Pos} {tb : WX → TS} {Wo : WX}
theorem ps_try_row (hst : X.stack = X.env :: X.outer) (hfm : X.env.frame = some X.env.locals) (tk : Takes X Wo)
    (hb : ∀ (W : WX) (pn : List (Addr × Obj)) (xe : Value → Shared → Prop), Takes (X.tr pn xe) W → PassesOwn (model X.prog X.w) X.A X.env xe → PSs (X.tr pn xe) body (tb W))
    (hh : Clauses X (h0 :: hds) l) : PS X (.Try body (h0 :: hds) [] [] pos) (fun D σ H => tb (wRow X.K Wo D l) D σ H) := by
  constructor
  intro pins s σ H D I h
  have hok := I.ok
  have hfrm : X.A.frames = some (X.env :: X.outer) := by rw [hok.frames, hst]
  refine wpAny_Try_except ?_
  have run := (hb (wRow X.K Wo D l) (X.pn ++ pins) (fun e t1 => wpAny (model X.prog X.w) X.A (noteFrame e X.env) (fun _ t2 => wpAny (model X.prog X.w) X.A (setFlight e none)
    (fun _ t3 => wpAny (model X.prog X.w) X.A (handleBy e X.env (h0 :: hds)) (SP X pins D) X.xe t3) X.xe t2) X.xe t1) (fun u s' xx => ?_) PassesOwn.looking).run [] s σ H D (I.toTry _) h
  · refine wpAny_mono run (fun f s1 hsp => ?_) (fun e s1 he => he)
    cases f with
    | ret u => obtain ⟨v, σ1, H1, J, r, q⟩ := hsp; exact ⟨v, σ1, H1, J.ofTry hok, r, q⟩
    | next => obtain ⟨σ1, H1, J, q⟩ := hsp; exact wpAny_execs_nil ⟨σ1, H1, J.ofTry hok, q⟩
    | cont => obtain ⟨σ1, H1, J, q⟩ := hsp; exact ⟨σ1, H1, J.ofTry hok, q⟩
    | brk => obtain ⟨σ1, H1, J, q⟩ := hsp; exact ⟨σ1, H1, J.ofTry hok, q⟩
  -- an exception has come out
  obtain ⟨a, B, sI, pins1, σ1, H1, cls, d, rfl, J0, nb, up, sky, na, os, ag, wi⟩ := xx
  have J : Inv X pins σ1 H1 sI := J0.ofTry hok
  have sky1 : Sky B (X.env :: X.outer) a (Zc cls d) X.env.locals s'.heap := by rw [← hst]; exact sky
  show wpAny (model X.prog X.w) X.A (noteFrame (.ref a) X.env) _ _ _
  refine Sky.land Zc.steady hfrm hfm sky1 fun h3 fl3 up3 => ?_
  have J3 : Inv X pins σ1 H1 { s' with heap := h3 } := J.landed nb fl3.1 (up.trans up3) os ag
  obtain ⟨oe3, vs3, he3, hz3, hd3⟩ := fl3.there
  have far : a ∉ frs (X.env :: X.outer) := fun hm => by
    obtain ⟨_, o1, e1, hnf⟩ := fl3.2.2.1.mem hm
    rw [he3] at e1
    cases e1
    exact hnf _ hd3
  have nL : a ≠ X.env.locals := fun z => far (List.mem_filterMap.mpr ⟨X.env, List.mem_cons_self, by rw [hfm, z]⟩)
  have nF : a ∉ X.fs := fun hm => by
    obtain ⟨e, he, q⟩ := List.mem_filterMap.mp hm
    exact far (List.mem_filterMap.mpr ⟨e, List.mem_cons_of_mem _ he, q⟩)
  have S3 := J3.suite he3 hd3 na nL nF
  have LT : PySem.W.Looks (model X.prog X.w) h3 (typeOf (.ref a)) cls := fun A Q E s k q => wpAny_typeOf_ref (k _ _ he3) (by rw [hz3.1]; exact q)
  have look : ∀ {x : Str} {c : Value} {p : Pos}, Names X x c → ∀ {Q E : Value → Shared → Prop}, Q c { s' with heap := h3 } → wpAny (model X.prog X.w) (X.A.mark (some (.ref a))) (eval (.Name x p) X.env) Q E { s' with heap := h3 } := by
    intro x c p hc Q E q
    obtain ⟨hg, hdbg, hm | ⟨hm, hv, hnn⟩⟩ := hc
    · exact ld_glob (X := X.suite a ((a, oe3) :: (X.pn ++ pins))) S3 hg hm q hdbg
    · exact ld_blt (X := X.suite a ((a, oe3) :: (X.pn ++ pins))) S3 hg hm hv q hnn hdbg
  have go : ∀ {hs1 : List ExceptHandler} {l1 : List (Value × Option Nat × (Addr → Value → Option Addr → TS))}, Clauses X hs1 l1 → wRow X.K Wo D l1 cls d σ1 H1 →
      wpAny (model X.prog X.w) X.A (handleBy (.ref a) X.env hs1) (SP X pins D) X.xe { s' with heap := h3 } := by
    intro hs1 l1 hk
    induction hk with
    | nil =>
      intro wi
      refine wpAny_handleBy_nil ?_
      obtain ⟨_, _, _, oe, vs, T, oT, ts1, he, hz, hd, h1, hr⟩ := id fl3
      unfold PySem.passOn
      refine wpAny_bind (wpAny_field he hd h1 ?_)
      rw [if_neg (show ¬ ((Value.ref T == Value.none) = true) from by simp)]
      have out : wpAny (model X.prog X.w) X.A (setFlight (.ref a) X.env.frame) (fun _ t4 => wpAny (model X.prog X.w) X.A (throw (.ref a) : Sem Flow) (SP X pins D) X.xe t4) X.xe { s' with heap := h3 } := by
        rw [hfm]
        exact HandSPX.setFlight_upZ fl3 fun h4 hh4 up4 => wpAny_throw (tk _ _ ⟨a, B, sI, pins, σ1, H1, cls, d, rfl, J, nb, (up.trans up3).trans up4, .inr (.inr (by rw [hst]; exact hh4)), na, os, ag, wi⟩)
      first
        | exact wpAny_bind (wpAny_pure (wpAny_bind out))
        | exact wpAny_bind out
    | plain hc su r ih =>
      rintro ⟨y, hy, yes, no⟩
      refine wpAny_handleBy_cons (codeAny_handlers_test ?_) (by intro q; cases q)
      refine look hc ((PySem.W.exm_one (M := model X.prog X.w) J3.kIn LT hy).here ?_)
      cases y with
      | false => exact ih (no rfl)
      | true =>
        refine codeAny_handlers_suite (HandSPX.lands_againZ fl3 fun h4 fl4 up4 => ?_)
        obtain ⟨oe4, vs4, he4, hz4, hd4⟩ := fl4.there
        have J4 : Inv X pins σ1 H1 { s' with heap := h4 } := J.landed nb fl4.1 ((up.trans up3).trans up4) os ag
        refine wpAny_mono ((su a oe4 cls d (X.pn ++ pins) hz4 ⟨_, hd4⟩).run [] _ _ H1 _ (J4.suite he4 hd4 na nL nF) (yes rfl a na)) (fun f s6 hsp => ?_) (fun _ _ z => False.elim z)
        cases f with
        | ret u => obtain ⟨v6, σ6, H6, S6, r6, q6⟩ := hsp; exact ⟨_, _, _, S6.unsuite hok, r6, q6⟩
        | next => obtain ⟨σ6, H6, S6, q6⟩ := hsp; exact ⟨_, _, S6.unsuite hok, q6⟩
        | cont => obtain ⟨σ6, H6, S6, q6⟩ := hsp; exact ⟨_, _, S6.unsuite hok, q6⟩
        | brk => obtain ⟨σ6, H6, S6, q6⟩ := hsp; exact ⟨_, _, S6.unsuite hok, q6⟩
    | @named x n i c ts z zs p q hs2 l2 hN hi hkk hc su r ih =>
      rintro ⟨y, hy, yes, no⟩
      refine wpAny_handleBy_cons (codeAny_handlers_test ?_) (by intro q; cases q)
      refine look hc ((PySem.W.exm_one (M := model X.prog X.w) J3.kIn LT hy).here ?_)
      cases y with
      | false => exact ih (no rfl)
      | true =>
        refine codeAny_handlers_suite_as (HandSPX.lands_againZ fl3 fun h4 fl4 up4 => ?_)
        obtain ⟨oe4, vs4, he4, hz4, hd4⟩ := fl4.there
        have J4 : Inv X pins σ1 H1 { s' with heap := h4 } := J.landed nb fl4.1 ((up.trans up3).trans up4) os ag
        refine store_ok (X := X.suite a ((a, oe4) :: (X.pn ++ pins))) (v := .ref a) (J4.suite he4 hd4 na nL nF) hN hi (.inl hkk) rfl (fun s5 S5 => ?_) (.inr hkk)
        refine wpAny_mono ((su a oe4 cls d (X.pn ++ pins) hz4 ⟨_, hd4⟩).run [] s5 _ H1 _ S5 (yes rfl a na)) (fun f s6 hsp => ?_) (fun _ _ z => False.elim z)
        have fin : ∀ {σ6 : L2.St} {H6 : Hp} {Q : Shared → Prop}, Inv (X.suite a ((a, oe4) :: (X.pn ++ pins))) [] σ6 H6 s6 → (∀ s7, Inv X pins (σ6.set i none) H6 s7 → Q s7) →
            wpAny (model X.prog X.w) X.A (do bindName X.env n .none; unbindBehindTheSuite X.env n q) (fun _ s7 => Q s7) X.xe s6 := fun S6 hq => gone_ok (S6.unsuite hok) hN hi hkk hq
        cases f with
        | ret u => obtain ⟨v6, σ6, H6, S6, r6, q6⟩ := hsp; exact fin S6 fun s7 J7 => ⟨_, _, _, J7, r6, q6⟩
        | next => obtain ⟨σ6, H6, S6, q6⟩ := hsp; exact fin S6 fun s7 J7 => ⟨_, _, J7, q6⟩
        | cont => obtain ⟨σ6, H6, S6, q6⟩ := hsp; exact fin S6 fun s7 J7 => ⟨_, _, J7, q6⟩
        | brk => obtain ⟨σ6, H6, S6, q6⟩ := hsp; exact fin S6 fun s7 J7 => ⟨_, _, J7, q6⟩
  exact go hh wi
end
end L2

/-! lambdas without a parameter, or with one that has a default of 0, as values that are kept -/
namespace L2
open PySem PySem.Spec PyProof.Rows PySem.W LamX
/-- what a lambda's object says -/
structure LamD where
  q : Str
  params : Arguments
  body : Expr
  scope : Scope
  cl : List (Str × Addr)
def FunO (f : Addr) (L : LamD) (dV : Value) (c' : Addr) : HO := .ext fun h => ∃ doc pm ctv, h.get? f = some (kdv_obj "<lambda>" L.q L.params (.expr L.body) L.scope L.cl dV doc pm c' ctv)
theorem funO_ne {f c' : Addr} {L : LamD} {dV : Value} (ps : Array Value) : FunO f L dV c' ≠ .tbl ps := fun z => by
  unfold FunO at z
  cases z
/-- at f stands a lambda -/
def LamAt (H : Hp) (f : Addr) (L : LamD) : Prop := ∃ c' dV, H f = some (FunO f L dV c') ∧ H c' = some (CodeO c' L.q) ∧ ((L.params.defaults = [] ∧ dV = .none) ∨ (L.params.defaults ≠ [] ∧ ∃ t0, dV = .ref t0 ∧ H t0 = some (.tup [.int 0])))
theorem LamAt.ext {H H' : Hp} {f : Addr} {L : LamD} (e : ExtN H H') (h : LamAt H f L) : LamAt H' f L := by
  obtain ⟨c', dV, h1, h2, h3⟩ := h
  refine ⟨c', dV, e _ _ h1 funO_ne, e _ _ h2 codeO_ne, h3.imp id fun ⟨n, t0, h4, h5⟩ => ⟨n, t0, h4, e _ _ h5 fun ps z => by cases z⟩⟩
theorem LamAt.same {H H' : Hp} {f : Addr} {L : LamD} (e : Same H H') (h : LamAt H f L) : LamAt H' f L := h.ext (.of e)
section
variable {X : Cx} {pins : List (Addr × Obj)} {σ : L2.St} {H : Hp} {s : Shared}
/-- the lambda is made: its code object is new, or found in the table -/
theorem tail_makeO {T : List (Addr × Str)} {c P : Addr} {q : Str} {params : Arguments} {body : Expr} {scope : Scope} {pos : Pos} {dV : Value} {clos : List (Str × Addr)} {E : Value → Shared → Prop} {Q : Value → Shared → Prop} (I : Inv X pins σ H s) (TB : TabB X.base X.mg c P) (hcode : X.env.code = .ref c)
    (hm : (P, q) ∈ T) (hu : ∀ p ∈ T, p.1 = P → p.2 = q) (hT : Tabs T H) (hcl : closureFor scope X.env = pure clos)
    (h : ∀ (f c' : Addr) (H1 : Hp) (s' : Shared), Inv X pins σ H1 s' → ExtN H H1 → Tabs T H1 → s.heap.objs.size ≤ f → H1 f = some (FunO f ⟨q, params, body, scope, clos⟩ dV c') → H1 c' = some (CodeO c' q) → Q (.ref f) s') :
    wpAny (model X.prog X.w) X.A (makeTail "<lambda>" q params (.expr body) scope X.env dV .none none pos pos.line) Q E s := by
  obtain ⟨ps, hP, ht, ha⟩ := hT _ hm
  have bP : s.heap.BuiltinsAt X.mg P := TB.bm.keeps I.bk
  have hP' : s.heap.get? P = some { cls := .none, data := .fields ps } := I.hok P _ hP
  cases hc : codeAmong pos ps.toList with
  | none =>
    refine kdv_makeTail (mg := X.mg) (c := c) (P := P) (ps := ps) hcl I.ok.glob (I.mod.glob.keeps I.bk) hcode (TB.code.keeps I.bk) hP' ht hc TB.gP bP fun c' ctv doc h' tk hx hge hlt hrec htb => ?_
    obtain ⟨c2, oc, vs, t, e2, hoc, hd, hv⟩ := hrec
    cases e2
    have hsz : s.heap.objs.size ≤ h'.objs.size := Nat.le_trans hge (Nat.le_of_lt hlt)
    have nC : H c' = none := I.hok.fresh hge
    have I1 := inv_table (t' := tk) (more := #[rawInt pos.line, rawInt pos.col, .ref c']) (h' := h') I hP hx htb hge ⟨oc, vs, t, hoc, hd, hv⟩
    generalize hH1 : upd (upd H P (.tbl (ps ++ #[rawInt pos.line, rawInt pos.col, .ref c']))) c' (CodeO c' q) = H1 at I1
    have hE : ExtN H H1 := fun b o e n => by
      rw [← hH1, upd_ne (ne_of_none e nC), upd_ne (fun z => n ps (Option.some.inj (e.symm.trans (by rw [z]; exact hP))))]
      exact e
    have hc1 : H1 c' = some (CodeO c' q) := by rw [← hH1, upd_same]
    have fF : H1 h'.objs.size = none := I1.hok.fresh (Nat.le_refl _)
    have I2 := I1.laid (t' := tk) (h' := h'.push (kdv_obj "<lambda>" q params (.expr body) scope clos dV doc ((X.mg "__name__").getD .none) c' ctv)) (a := h'.objs.size) (o := FunO h'.objs.size ⟨q, params, body, scope, clos⟩ dV c') (fun b o e => Heap.get?_push_of_some _ e) (Nat.le_refl _)
      ⟨⟨_, _, _, Heap.get?_push_size _ rfl⟩, ⟨_, Heap.get?_push_size _ rfl⟩, fun h1 h2 ⟨doc, pm, ctv, e⟩ st => ⟨doc, pm, ctv, st _ e⟩⟩
    have s12 : ∀ b o, H1 b = some o → upd H1 h'.objs.size (FunO h'.objs.size ⟨q, params, body, scope, clos⟩ dV c') b = some o := fun b o e => by rw [upd_ne (ne_of_none e fF)]; exact e
    have eL : (ps ++ #[rawInt pos.line, rawInt pos.col, .ref c']).toList = ps.toList ++ [rawInt pos.line, rawInt pos.col, .ref c'] := by simp
    refine h h'.objs.size c' _ _ I2 (hE.trans (.of s12)) (fun p hp => TabS.ext ?_ s12) hsz upd_same (s12 _ _ hc1)
    by_cases hb : p.1 = P
    · rw [hu p hp hb, hb]
      refine ⟨_, by rw [← hH1, upd_ne (ne_of_none hP nC), upd_same], by rw [eL]; exact PySem.TriplesOk_snoc _ _ _ _ ht, fun p' cv hcv => ?_⟩
      rw [eL] at hcv
      rcases among_app _ ht hcv with z | z
      · obtain ⟨c0, e1, e2⟩ := ha p' cv z
        exact ⟨c0, e1, hE _ _ e2 codeO_ne⟩
      · exact ⟨c', z, hc1⟩
    · obtain ⟨ps', a1, a2, a3⟩ := hT p hp
      refine ⟨ps', by rw [← hH1, upd_ne (ne_of_none a1 nC), upd_ne hb]; exact a1, a2, fun p' cv hcv => ?_⟩
      obtain ⟨c0, e1, e2⟩ := a3 p' cv hcv
      exact ⟨c0, e1, hE _ _ e2 codeO_ne⟩
  | some cv =>
    obtain ⟨c', e, hco⟩ := ha pos cv hc
    subst e
    refine kdv_makeTailHit (mg := X.mg) (c := c) (P := P) (ps := ps) hcl I.ok.glob (I.mod.glob.keeps I.bk) hcode (TB.code.keeps I.bk) hP' ht hc bP fun ctv doc h' tk hx hsz => ?_
    have fF : H h'.objs.size = none := I.hok.fresh hsz
    have I2 := I.laid (t' := tk) (h' := h'.push (kdv_obj "<lambda>" q params (.expr body) scope clos dV doc ((X.mg "__name__").getD .none) c' ctv)) (a := h'.objs.size) (o := FunO h'.objs.size ⟨q, params, body, scope, clos⟩ dV c') (fun b o e => Heap.get?_push_of_some _ (hx b o e)) hsz
      ⟨⟨_, _, _, Heap.get?_push_size _ rfl⟩, ⟨_, Heap.get?_push_size _ rfl⟩, fun h1 h2 ⟨doc, pm, ctv, e⟩ st => ⟨doc, pm, ctv, st _ e⟩⟩
    have s12 : ∀ b o, H b = some o → upd H h'.objs.size (FunO h'.objs.size ⟨q, params, body, scope, clos⟩ dV c') b = some o := fun b o e => by rw [upd_ne (ne_of_none e fF)]; exact e
    exact h h'.objs.size c' _ _ I2 (.of s12) (hT.ext s12) hsz upd_same (s12 _ _ hco)
end
/-- the lambda that X's text writes there -/
def lamD (X : Cx) (params : Arguments) (body : Expr) (scope : Scope) : LamD := ⟨X.env.qual ++ "<lambda>", params, body, scope, cloFrom X.env.cells scope.names []⟩
/-- the reading of a lambda: a new object that is kept -/
def tLamO (T : List (Addr × Str)) (L : LamD) : TE := fun σ H Q => Tabs T H ∧ ∀ (H1 : Hp) (f : Addr), ExtN H H1 → Tabs T H1 → H f = none → LamAt H1 f L → Q (.ref f) H1
section
variable {X : Cx}
/-- lambda: body; lambda x=0: body -/
theorem pe_lamO {T : List (Addr × Str)} {c P : Addr} {params : Arguments} {body : Expr} {scope : Scope} {pos : Pos} (TB : TabB X.base X.mg c P) (hcode : X.env.code = .ref c) (hmT : (P, X.env.qual ++ "<lambda>") ∈ T) (hu : ∀ p ∈ T, p.1 = P → p.2 = X.env.qual ++ "<lambda>")
    (hfree : ∀ y ∈ scope.names, y.2 = .free → X.env.scope.names.lookup y.1 = some .cell ∨ X.env.scope.names.lookup y.1 = some .free)
    (hk0 : params.kw_defaults = []) (hdef : params.defaults = [] ∨ ∃ j pc, params.defaults = [.Constant (.int 0) j pc]) : PE X (.Lambda params body scope pos) (tLamO T (lamD X params body scope)) := by
  refine ⟨fun pins s σ H Q I h => ?_⟩
  obtain ⟨hT, h⟩ := h
  have hfC : ∀ y ∈ scope.names, y.2 = .free → ∃ c, X.env.cells.lookup y.1 = some c := fun y hy e => (hfree y hy e).elim (fun z => I.ok.has _ (.inl z)) fun z => I.ok.has _ (.inr z)
  rcases hdef with hd | ⟨j, pc, hd⟩
  · refine kla_eval (by rw [defaultsOf_eq, hk0, hd]; rfl) ?_
    rw [makeFunction_eq]
    simp only [List.zip_nil_right, List.filterMap_nil, List.isEmpty_nil, if_true, pure_bind]
    refine tail_makeO I TB hcode hmT hu hT (closure_ok hfC) fun f c' H1 s' I1 e1 T1 hf h1 h2 => ?_
    exact ⟨.ref f, H1, I1, rfl, h H1 f e1 T1 (I.hok.fresh hf) ⟨c', .none, h1, h2, .inl ⟨hd, rfl⟩⟩⟩
  · refine kdv_lam (by rw [hd]; rfl) hk0 ?_
    rw [hd]
    refine kdv_all1 (thn (pe_int.run pins s σ H (fun v H1 => v = .int 0 ∧ H1 = H) I ⟨rfl, rfl⟩) fun u s1 ⟨v, H1, I1, r1, q1⟩ => kdv_all0 ?_)
    obtain ⟨rfl, rfl⟩ := q1
    rw [makeFunction_eq]
    simp only [List.zip_nil_right, List.filterMap_nil, List.isEmpty_nil, if_true, pure_bind, List.isEmpty_cons, Bool.false_eq_true, if_false]
    refine wpAny_bind (wpAny_newTextTuple ?_)
    have nT : H1 s1.heap.objs.size = none := I1.hok.fresh (Nat.le_refl _)
    have I2 := I1.laid (t' := s1.toks) (h' := s1.heap.push { cls := .type "tuple", data := .seq [u].toArray }) (a := s1.heap.objs.size) (o := .tup [.int 0]) (fun b o e => Heap.get?_push_of_some _ e) (Nat.le_refl _) ⟨by decide, [u], .cons r1 .nil, _, Heap.get?_push_size _ rfl, rfl, _, rfl⟩
    have s12 : ∀ b o, H1 b = some o → upd H1 s1.heap.objs.size (.tup [.int 0]) b = some o := fun b o e => by rw [upd_ne (ne_of_none e nT)]; exact e
    refine tail_makeO I2 TB hcode hmT hu (hT.ext s12) (closure_ok hfC) fun f c' H3 s' I3 e3 T3 hf h1 h2 => ?_
    refine ⟨.ref f, H3, I3, rfl, h H3 f ((ExtN.of s12).trans e3) T3 (I1.hok.fresh ?_) ⟨c', _, h1, h2, .inr ⟨by show params.defaults ≠ []; rw [hd]; exact List.cons_ne_nil _ _, _, rfl, e3 _ _ upd_same fun ps z => by cases z⟩⟩⟩
    exact Nat.le_trans (by rw [Heap.size_push]; omega) hf
end
/-- a lambda of X's text that is called without arguments: what its body does -/
inductive LamGood (X : Cx) (k : Nat) (params : Arguments) (body : Expr) (scope : Scope) : (XK → TE) → Prop
  | plain {t : XK → TE} (L : LamS X.env.scope scope) (hdef : params.defaults = [])
      (hbind : ∀ (q : Str) (cl : List (Str × Addr)) (doc pm cv ctv : Value), bindArgs (kdv_fn "<lambda>" q params (.expr body) scope cl .none doc pm cv ctv) ⟨[], []⟩ = pure [])
      (hbody : ∀ (A : Around) (outer : List Env) (s : Shared) (H : Hp) (E : XK) (f c' : Addr), Room k (A.deeper (lamEnv X scope s.heap.objs.size f c')) → PE (lamCx X A outer s H E scope f c') body (t E)) : LamGood X k params body scope t
  | dflt {x : Str} {t : XK → TE} (L : LamS1 X.env.scope scope x) (hxN : x ∉ X.N) (hdef : params.defaults ≠ [])
      (hbind : ∀ (q : Str) (cl : List (Str × Addr)) (t0 : Addr) (doc pm cv ctv : Value), ∃ k, bindArgs (kdv_fn "<lambda>" q params (.expr body) scope cl (.ref t0) doc pm cv ctv) ⟨[], []⟩ = seqItems? (.ref t0) >>= k ∧ ∀ v : Value, k (some #[v]) = pure [(x, v)])
      (hbody : ∀ (A : Around) (outer : List Env) (s : Shared) (H : Hp) (E : XK) (f c' : Addr), Room k (A.deeper (lamEnv X scope s.heap.objs.size f c')) → PE (lamCx1 X A outer s H E scope x f c') body (t E)) : LamGood X k params body scope (fun E σ H Q => t E (σ ++ [some (.int 0)]) H Q)
section
variable {X : Cx} {pins : List (Addr × Obj)} {σ : L2.St} {H : Hp} {s : Shared}
/-- x(), in a def that got the lambda: I is the maker's, who waits since s -/
theorem pe_actO {CXg : CXT} {Eg : XK} {Ng : List Str} {qg : Str} {sg : Scope} {g f : Addr} {cdg : Value} {params : Arguments} {body : Expr} {scope : Scope} {k i : Nat} {a : Str} {pn : List (Addr × Obj)} {xe : Value → Shared → Prop} {W : WX} {t : XK → TE} {p1 p2 : Pos}
    (I : Inv X pins σ H s) (LG : LamGood X k params body scope t)
    (tk : Takes ((cxOf CXg X.prog X.w X.K X.mg X.base Ng qg sg g cdg X.A X.stack s H Eg).tr pn xe) W) (hr : Room (k + 1) (X.A.deeper (envOfC qg sg s.heap.objs.size g cdg)))
    (hN : Ng[i]? = some a) (hv : Vis sg a) (hd : (a == ("__debug__" : Str)) = false := by decide) (hcd : (a == ("__classdict__" : Str)) = false := by decide) :
    PE ((cxOf CXg X.prog X.w X.K X.mg X.base Ng qg sg g cdg X.A X.stack s H Eg).tr pn xe) (.Call (.Name a p1) [] [] p2)
      (fun σZ HZ Q => σZ[i]? = some (some (.ref f)) ∧ LamAt HZ f (lamD X params body scope) ∧ ∃ E : XK, (∀ cls d H', E cls d H' → W cls d σZ H') ∧ t E σ HZ Q) := by
  refine ⟨fun pinsZ sZ σZ HZ Q IZ h => ?_⟩
  obtain ⟨hs, ⟨c', dV, hf, hc, hdv⟩, E, hW, ht⟩ := h
  refine wpAny_Call_Name_kw (thn ((pe_var (pos := p1) (i := i) hN hv hd hcd).run pinsZ sZ σZ HZ (fun v H1 => v = .ref f ∧ H1 = HZ) IZ ⟨.ref f, hs, rfl, rfl⟩) fun u s1 ⟨v, H1, I1, r1, q1⟩ => ?_)
  obtain ⟨ev, eH⟩ := q1
  subst ev
  rw [eH] at I1
  obtain rfl : u = Value.ref f := r1
  obtain ⟨⟨doc, pm, ctv, of1⟩, _, _⟩ := I1.hok f _ hf
  obtain ⟨⟨oc, vs, tt, hoc, hdc, hvc⟩, _, _⟩ := I1.hok c' _ hc
  refine PySem.W.callWith_F0 ⟨_, _, _, _, of1⟩ ?_
  have un : Un (frs X.stack) [] H HZ s.heap s1.heap := I1.base
  suffices rc : codeAny (model X.prog X.w) (X.A.deeper (envOfC qg sg s.heap.objs.size g cdg)) (.call (.ref f) ⟨[], []⟩) (CR (L2.CX X.prog X.w) (envOfC qg sg s.heap.objs.size g cdg :: X.stack) X.prog X.w HZ s1 Q E) s1 by
    refine wpAny_call (codeAny_mono rc fun r s' hq => ?_)
    cases r with
    | error e => exact tk e s' (XE.of_call I1 (fun cls d H' h => hW cls d H' h) hq)
    | ok fl =>
      cases fl with
      | ret u => exact I1.after hq
      | next => exact False.elim hq
      | brk => exact False.elim hq
      | cont => exact False.elim hq
  cases LG with
  | plain L hdef hbind hbody =>
    obtain ⟨_, rfl⟩ | ⟨nd, _⟩ := hdv
    · refine PySem.W.kla_callFunE hr.depth of1 rfl L.co L.gen rfl ⟨c', oc, vs, tt, rfl, hoc, hdc, hvc⟩ (BindsTo.of_eq (binds := []) (hbind _ _ _ _ _ _) _ _ _ _ ?_)
      refine wpAny_newFunctionEnv (fun y hy => (L.own y hy).2) (fun y hy => absurd hy (by simp)) (fun h₁ hns hsb => ⟨I1.nolimit.fresh _ hsb, ?_⟩) L.kind
      show codeAny _ _ (.expr body (lamEnv X scope s1.heap.objs.size f c')) _ _
      have kp : ∀ b o, s1.heap.get? b = some o → h₁.get? b = some o := fun b o e => hsb.extBut b o (Nat.ne_of_lt (Heap.lt_size e)) (Heap.get?_push_of_some _ e)
      have J : Inv (lamCx X (X.A.deeper (envOfC qg sg s.heap.objs.size g cdg)) (envOfC qg sg s.heap.objs.size g cdg :: X.stack) s1 HZ E scope f c') [] σ HZ { s1 with heap := h₁, toks := s1.toks + ([] : List (Str × Value)).length } :=
        lam_start2 I L I1.env0 hr.hd un hns kp
      refine PySem.W.kla_codeExpr (wpAny_mono ((hbody _ _ s1 HZ E _ _ (hr.deeper _)).run [] _ _ HZ Q J ht) (fun v s' hq => ?_) fun e s' hq => hq)
      obtain ⟨w', H', J', rv, q⟩ := hq
      exact ⟨w', H', J'.os, J'.bare, J'.base, J'.hok, rv, q⟩
    · exact absurd hdef nd
  | @dflt x t' L hxN hdef hbind hbody =>
    obtain ⟨nd, _⟩ | ⟨_, t0, rfl, h0⟩ := hdv
    · exact absurd nd hdef
    · obtain ⟨_, its, rv0, o0, g1, g2, n0, g3⟩ := (show ObjOk X.prog X.w HZ s1.heap t0 (.tup [.int 0]) from I1.hok t0 _ h0)
      obtain ⟨v, rfl, rv⟩ : ∃ v, its = [v] ∧ L2.RelV (.int 0) v := by
        cases rv0 with
        | cons r1 r2 => cases r2; exact ⟨_, rfl, r1⟩
      obtain ⟨kk, hb1, hb2⟩ := hbind (X.env.qual ++ "<lambda>") (cloFrom X.env.cells scope.names []) t0 doc pm (.ref c') ctv
      refine PySem.W.kla_callFunE hr.depth of1 rfl L.co L.gen rfl ⟨c', oc, vs, tt, rfl, hoc, hdc, hvc⟩ (BindsTo.of_defaults (binds := [(x, v)]) rfl g1 g3 hb1 (hb2 v) _ _ _ _ ?_)
      refine wpAny_newFunctionEnv (fun y hy => L.own y hy) (fun y hy => by rw [List.mem_singleton.mp hy]; exact L.hx) (fun h₁ hns hsb => ⟨I1.nolimit.fresh _ hsb, ?_⟩) L.kind
      show codeAny _ _ (.expr body (lamEnv X scope s1.heap.objs.size f c')) _ _
      have kp : ∀ b o, s1.heap.get? b = some o → h₁.get? b = some o := fun b o e => hsb.extBut b o (Nat.ne_of_lt (Heap.lt_size e)) (Heap.get?_push_of_some _ e)
      have J : Inv (lamCx1 X (X.A.deeper (envOfC qg sg s.heap.objs.size g cdg)) (envOfC qg sg s.heap.objs.size g cdg :: X.stack) s1 HZ E scope x f c') [] (σ ++ [some (.int 0)]) HZ { s1 with heap := h₁, toks := s1.toks + ([(x, v)] : List (Str × Value)).length } :=
        lam_start1 I L hxN rv I1.env0 hr.hd un hns kp
      refine PySem.W.kla_codeExpr (wpAny_mono ((hbody _ _ s1 HZ E _ _ (hr.deeper _)).run [] _ _ HZ Q J ht) (fun v s' hq => ?_) fun e s' hq => hq)
      obtain ⟨w', H', J', rv, q⟩ := hq
      exact ⟨w', H', J'.os, J'.bare, J'.base, J'.hok, rv, q⟩
end
/-- a def of one parameter that calls it -/
def GivesTo1 (P : Program) (w : World) (K : PySem.W.Frag) (mg : Str → Option Value) (base : Heap) (k : Nat) (Ng : List Str) (x : Str) (sg : Scope) (g : Addr) (bg : List Stmt) (a : Str) (TT : (XK → Hp → VK → Prop) → Hp → VK → Prop) : Prop :=
  ∀ (cdg : Value) (A : Around) (outer : List Env) (f : Addr) (L : LamD) (s : Shared) (H : Hp) (Q : VK) (tl : XK → Hp → VK → Prop), Room k (A.deeper (envOfC x sg s.heap.objs.size g cdg)) →
    (∀ (W : WX) (pn : List (Addr × Obj)) (xe : Value → Shared → Prop) (p1 p2 : Pos), Takes ((cxOf C8.CX0 P w K mg base Ng x sg g cdg A outer s H C8.E0).tr pn xe) W →
      PE ((cxOf C8.CX0 P w K mg base Ng x sg g cdg A outer s H C8.E0).tr pn xe) (.Call (.Name a p1) [] [] p2) (fun σZ HZ Q => σZ[0]? = some (some (.ref f)) ∧ LamAt HZ f L ∧ ∃ E : XK, (∀ cls d H', E cls d H' → W cls d σZ H') ∧ tl E HZ Q)) →
    LamAt H f L → TT tl H Q →
    ∃ t, PSs (cxOf C8.CX0 P w K mg base Ng x sg g cdg A outer s H C8.E0).nox bg t ∧ t { nx := fun _ H' => Q .non H', rt := Q } (L2.start Ng [.ref f]) H
section
variable {X : Cx}
/-- the call of such a def with a lambda that is kept: told of the very state -/
theorem run_lamO {pins : List (Addr × Obj)} {σ : L2.St} {H : Hp} {s : Shared} {Q : VK} {TT : (XK → Hp → VK → Prop) → Hp → VK → Prop} {x a : Str} {st : Stmt} {g f : Addr} {k : Nat} {fd : FuncData} {Ng : List Str} {params : Arguments} {body : Expr} {scope : Scope} {t : XK → TE}
    (F : Fun X.K x x st g fd) (hb : L2.Binds X.K fd [a] []) (Sg : FnScope Ng [a] (defScope st)) (hNg : Ng[0]? = some a) (hva : Vis (defScope st) a) (hG : GivesTo1 X.prog X.w X.K X.mg X.base (k + 1) Ng x (defScope st) g (defBody st) a TT)
    (LG : LamGood X k params body scope t) (hr : Room (k + 2) X.A) (I : Inv X pins σ H s) (hL : LamAt H f (lamD X params body scope)) (h : TT (fun E H' Q' => t E σ H' Q') H Q)
    (hd : (a == ("__debug__" : Str)) = false := by decide) (hcd : (a == ("__classdict__" : Str)) = false := by decide) :
    codeAny (model X.prog X.w) X.A (.call (.ref g) ⟨[.ref f], []⟩) (CR C8.CX0 X.stack X.prog X.w H s Q C8.E0) s := by
  obtain ⟨oc, od, kV, doc, pm, an, cdv, ct, osl, rfl, lk, hcg⟩ := F.ex
  refine run_ofS (N := Ng) (ps := [a]) (us := [.ref f]) (vs := [.ref f]) lk hcg Sg hr I.env0 (hb s [.ref f] I.kIn rfl) (.cons rfl .nil) rfl fun hr' => ?_
  refine Exists.elim (hG cdv X.A X.stack f _ s H Q (fun E H' Q' => t E σ H' Q') hr' (fun W pn xe p1 p2 tk => ⟨fun pinsZ sZ σZ HZ QZ IZ hz => ?_⟩) hL h) fun t' h' => ⟨t', h'.1.nox, h'.2⟩
  obtain ⟨z1, z2, E, hW, z3⟩ := hz
  exact (pe_actO (i := 0) I LG tk hr' hNg hva hd hcd).run pinsZ sZ σZ HZ QZ IZ ⟨z1, z2, E, hW, z3⟩
/-- x(lambda: body) -/
def tLamG (T : List (Addr × Str)) (TT : (XK → Hp → VK → Prop) → Hp → VK → Prop) (t : XK → TE) : TE := fun σ H Q => Tabs T H ∧ ∀ H1, ExtN H H1 → Tabs T H1 → TT (fun E H' Q' => t E σ H' Q') H1 Q
theorem pe_lamcallG {T : List (Addr × Str)} {TT : (XK → Hp → VK → Prop) → Hp → VK → Prop} {x a : Str} {st : Stmt} {g c P : Addr} {k : Nat} {fd : FuncData} {Ng : List Str} {params : Arguments} {body : Expr} {scope : Scope} {t : XK → TE} {p lpos pos : Pos}
    (F : Fun X.K x x st g fd) (hg : Gl X x) (hm : X.mg x = some (.ref g)) (hk : PySem.W.keepIn X.K (.ref g) = true) (hb : L2.Binds X.K fd [a] []) (Sg : FnScope Ng [a] (defScope st)) (hNg : Ng[0]? = some a) (hva : Vis (defScope st) a)
    (hG : GivesTo1 X.prog X.w X.K X.mg X.base (k + 1) Ng x (defScope st) g (defBody st) a TT)
    (TB : TabB X.base X.mg c P) (hcode : X.env.code = .ref c) (hmT : (P, X.env.qual ++ "<lambda>") ∈ T) (hu : ∀ p ∈ T, p.1 = P → p.2 = X.env.qual ++ "<lambda>") (hr : Room (k + 2) X.A)
    (hfree : ∀ y ∈ scope.names, y.2 = .free → X.env.scope.names.lookup y.1 = some .cell ∨ X.env.scope.names.lookup y.1 = some .free) (hk0 : params.kw_defaults = []) (hdef : params.defaults = [] ∨ ∃ j pc, params.defaults = [.Constant (.int 0) j pc]) (LG : LamGood X k params body scope t)
    (hdb : (x == ("__debug__" : Str)) = false := by decide) (hd : (a == ("__debug__" : Str)) = false := by decide) (hcd : (a == ("__classdict__" : Str)) = false := by decide) :
    PE X (.Call (.Name x p) [.Lambda params body scope lpos] [] pos) (tLamG T TT t) := by
  refine ⟨fun pins s σ H Q I h => ?_⟩
  obtain ⟨hT, h⟩ := h
  refine wpAny_Call_Name_kw (ld_glob I hg hm ?_ hdb)
  refine PySem.W.callWith_K (h₀ := X.base) I.ok.mod.kin hk ?_ (by rfl) (by rfl)
  show wpAny _ _ (spliced ((false, eval (.Lambda params body scope lpos) X.env) :: backTo pos (starEach [] X.env))) _ _ s
  refine Calls.spliced_cons (thn ((pe_lamO (pos := lpos) TB hcode hmT hu hfree hk0 hdef).run pins s σ H (fun v H1 => ∃ f, v = .ref f ∧ ExtN H H1 ∧ Tabs T H1 ∧ LamAt H1 f (lamD X params body scope)) I ⟨hT, fun H1 f e1 T1 _ hL => ⟨f, rfl, e1, T1, hL⟩⟩) fun u s1 ⟨v, H1, I1, r1, f, ev, e1, T1, hL⟩ => ?_)
  subst ev
  obtain rfl : u = Value.ref f := r1
  refine Calls.spliced_nil ⟨I1.kIn, ?_⟩
  refine wpAny_call (codeAny_mono (run_lamO F hb Sg hNg hva hG LG hr I1 hL (h H1 e1 T1) hd hcd) fun r s2 hq => ?_)
  cases r with
  | error e => exact (show False from hq).elim
  | ok fl =>
    cases fl with
    | ret u => exact I1.after hq
    | next => exact False.elim hq
    | brk => exact False.elim hq
    | cont => exact False.elim hq
end
/-- what a callee lets out goes on -/
theorem passY {X : Cx} {E : XK} (hs : X.stack = X.env :: X.outer) (hf : X.env.frame = some X.env.locals) (hex : X.ex = []) {E₁ : Value → Shared → Prop} (hx : X.xe = fun e s' => wpAny (model X.prog X.w) X.A (leaving X.env e) (fun _ s'' => L2.CX X.prog X.w X.outer X.H_0 X.s_0 E e s'') E₁ s') : Passes (L2.CX X.prog X.w) X E :=
  passes_call (takes_of hs hf hex hx) fun _ _ _ _ h => h
/-- isinstance(e, c), e a caught error with a dict of its own -/
def rIsX (K : PySem.W.Frag) (cls : Value) (d : Option Addr) (a : Addr) : List V → Hp → VK → Prop := fun xs H Q => ∃ (D dx : Addr) (fs : List (Str × V)) (c : V) (cv : Value) (b : Bool), cls = .ref D ∧ ExcC K D ∧ d = some dx ∧ H dx = some (.xd fs) ∧ xs = [.ref a, c] ∧ ClsV c cv ∧ PySem.W.kitOne K (.ref D) cv = some b ∧ Q (.bl b) H
theorem call_isX {X : Cx} {a : Addr} {cls : Value} {d : Option Addr} {oe : Obj} {pn : List (Addr × Obj)} (hz : Zc cls d oe) (hf : ∃ vs, oe.data = .fields vs) : CallR (X.suite a ((a, oe) :: pn)) (.builtin "isinstance") (rIsX X.K cls d a) := by
  intro pins s σ H xs us Q I r h
  obtain ⟨D, dx, fs, c, cv, b, rfl, C, rfl, hdx, rfl, hcv, e, q⟩ := h
  cases r with
  | cons rx rr =>
    cases rr with
    | cons rt rr =>
      cases rr
      cases rx
      have ec := hcv.eq rt
      subst ec
      obtain ⟨hget, _⟩ := I.pin (a, oe) (List.mem_append.mpr (.inl List.mem_cons_self))
      obtain ⟨vs, hv⟩ := hf
      obtain ⟨mA, ⟨od, es, ep, ho, _⟩, _⟩ := (show ObjOk X.prog X.w H s.heap dx (.xd fs) from I.hok dx _ hdx)
      have J : PySem.W.InstAt s.heap a oe D (some od) := by
        obtain ⟨oc, ood, oda, osl⟩ := oe
        obtain ⟨h1, h2⟩ := hz
        dsimp only at h1 h2 hv
        subst h1 h2 hv
        exact ⟨hget, rfl, rfl, ho⟩
      have hcl : (PySem.W.clsIn X.K D).isSome = true := by
        obtain ⟨cd, hc, _⟩ := any_some C.hd
        rw [hc]
        rfl
      exact PySem.W.kia_one (PySem.W.kitx_exc hcl C.hg C.hk C.hs C.ha C.hn C.ht C.hm) I.kIn J e (fun z => nomatch z) fun tk => ⟨.bl b, H, I.kept (t' := tk) fun _ _ z => z, rfl, q⟩
end L2

namespace L2
open PySem PySem.Spec PyProof.Rows
/-! ### least lengths -/
/-- how often a number is halved until it is below 64 -/
def lk (n : Nat) : Nat := n.log2 - 5
/-- whether one of the i lowest figures is 1 -/
def ro (n i : Nat) : Nat := if n % 2 ^ i = 0 then 0 else 1
def lenD (n : Nat) : Nat := n / 2 ^ lk n + ro n (lk n)
theorem lk_small {n : Nat} (h : n < 64) : lk n = 0 := by
  unfold lk
  by_cases e : n = 0
  · rw [e]; decide
  · have : n.log2 < 6 := (Nat.log2_lt e).mpr (by omega)
    omega
theorem lk_end (n : Nat) : n / 2 ^ lk n < 64 := by
  by_cases h : n < 64
  · rw [lk_small h]
    omega
  · have e : n ≠ 0 := by omega
    have h1 : n < 2 ^ (n.log2 + 1) := (Nat.log2_lt e).mp (Nat.lt_succ_self _)
    have h2 : 6 ≤ n.log2 := (Nat.le_log2 e).mpr (by omega)
    rw [Nat.div_lt_iff_lt_mul (Nat.two_pow_pos _)]
    have e2 : n.log2 + 1 = 6 + lk n := by unfold lk; omega
    rw [e2, Nat.pow_add] at h1
    exact h1
theorem lk_before {n i : Nat} (h : i < lk n) : 64 ≤ n / 2 ^ i := by
  have e : n ≠ 0 := fun e => by
    rw [e] at h
    have z : lk 0 = 0 := by decide
    omega
  rw [Nat.le_div_iff_mul_le (Nat.two_pow_pos _)]
  have h1 : 2 ^ n.log2 ≤ n := Nat.log2_self_le e
  have h2 : 6 + i ≤ n.log2 := by unfold lk at h; omega
  calc 64 * 2 ^ i = 2 ^ (6 + i) := by rw [Nat.pow_add]
    _ ≤ 2 ^ n.log2 := Nat.pow_le_pow_right (by decide) h2
    _ ≤ n := h1
theorem lk_low {n : Nat} (h : 64 ≤ n) : 32 ≤ n / 2 ^ lk n := by
  have e : n ≠ 0 := by omega
  rw [Nat.le_div_iff_mul_le (Nat.two_pow_pos _)]
  have h1 : 2 ^ n.log2 ≤ n := Nat.log2_self_le e
  have h2 : 6 ≤ n.log2 := (Nat.le_log2 e).mpr (by omega)
  calc 32 * 2 ^ lk n = 2 ^ (5 + lk n) := by rw [Nat.pow_add]
    _ ≤ 2 ^ n.log2 := Nat.pow_le_pow_right (by decide) (by unfold lk; omega)
    _ ≤ n := h1
theorem ro_le (n i : Nat) : ro n i ≤ 1 := by unfold ro; split <;> decide
theorem ro_zero (n : Nat) : ro n 0 = 0 := by unfold ro; rw [Nat.pow_zero, Nat.mod_one]; rfl
theorem ro_step (n i : Nat) : ro n (i + 1) = if n / 2 ^ i % 2 = 1 then 1 else ro n i := by
  unfold ro
  have h := Nat.mod_pow_succ (b := 2) (k := i) (x := n)
  have h2 : n / 2 ^ i % 2 < 2 := Nat.mod_lt _ (by decide)
  have hp : 0 < 2 ^ i := Nat.two_pow_pos _
  rw [h]
  by_cases e : n / 2 ^ i % 2 = 1
  · rw [if_pos e, e, if_neg (by omega)]
  · rw [if_neg e, show n / 2 ^ i % 2 = 0 by omega, Nat.mul_zero, Nat.add_zero]
theorem lenD_small {n : Nat} (h : n < 64) : lenD n = n := by
  unfold lenD
  rw [lk_small h, ro_zero, Nat.pow_zero, Nat.div_one, Nat.add_zero]
theorem lenD_mid {n : Nat} (h : 64 ≤ n) : 32 ≤ lenD n ∧ lenD n ≤ 64 := by
  have h1 := lk_low h
  have h2 := lk_end n
  have h3 := ro_le n (lk n)
  unfold lenD
  omega
theorem lenD_dbl {n : Nat} (h : 64 ≤ n) : lenD (2 * n) = lenD n := by
  have e : n ≠ 0 := by omega
  have hl : (2 * n).log2 = n.log2 + 1 := by
    have a1 : n < 2 ^ (n.log2 + 1) := (Nat.log2_lt e).mp (Nat.lt_succ_self _)
    have a2 : 2 ^ n.log2 ≤ n := Nat.log2_self_le e
    have b1 : (2 * n).log2 < n.log2 + 2 := (Nat.log2_lt (by omega)).mpr (by rw [Nat.pow_succ]; omega)
    have b2 : n.log2 + 1 ≤ (2 * n).log2 := (Nat.le_log2 (by omega)).mpr (by rw [Nat.pow_succ]; omega)
    omega
  have h2 : 6 ≤ n.log2 := (Nat.le_log2 e).mpr (by omega)
  have hk : lk (2 * n) = lk n + 1 := by unfold lk; omega
  unfold lenD ro
  rw [hk, Nat.pow_succ, Nat.mul_comm (2 ^ lk n) 2, Nat.mul_div_mul_left _ _ (by decide : 0 < 2), Nat.mul_mod_mul_left]
  congr 1
  by_cases z : n % 2 ^ lk n = 0
  · rw [if_pos z, if_pos (by omega)]
  · rw [if_neg z, if_neg (by omega)]
theorem ro_due (n i : Nat) : (if (n : Int) = (n : Int) / 2 ^ i * 2 ^ i then (0 : Int) else 1) = (ro n i : Int) := by
  unfold ro
  have hp : 0 < 2 ^ i := Nat.two_pow_pos _
  have e : ((n : Int) / 2 ^ i * 2 ^ i) = ((n / 2 ^ i * 2 ^ i : Nat) : Int) := by
    rw [Int.natCast_mul, Int.natCast_ediv, Int.natCast_pow]
    rfl
  rw [e]
  have h := Nat.div_add_mod n (2 ^ i)
  rw [Nat.mul_comm] at h
  by_cases z : n % 2 ^ i = 0
  · rw [if_pos z, if_pos (by omega)]
    rfl
  · rw [if_neg z, if_neg (by omega)]
    rfl
/-- whether a value is an int and no bool -/
def IntQ (K : PySem.W.Frag) (H : Hp) (v : V) (b : Bool) : Prop := ∃ t b1 b2, TyX K H v t ∧ PySem.W.kitOne K t (.type "int") = some b1 ∧ PySem.W.kitOne K t (.type "bool") = some b2 ∧ b = (b1 && !b2)
theorem IntQ.int {K : PySem.W.Frag} {H : Hp} (i : Int) : IntQ K H (.int i) true := ⟨_, true, false, .base (.int i), kit_ty (by decide +kernel), kit_ty (by decide +kernel), rfl⟩
theorem IntQ.bl {K : PySem.W.Frag} {H : Hp} (i : Bool) : IntQ K H (.bl i) false := ⟨_, true, true, .base (.bl i), kit_ty (by decide +kernel), kit_ty (by decide +kernel), rfl⟩
theorem IntQ.non {K : PySem.W.Frag} {H : Hp} : IntQ K H .non false := ⟨_, false, false, .base .non, kit_ty (by decide +kernel), kit_ty (by decide +kernel), rfl⟩
theorem IntQ.str {K : PySem.W.Frag} {H : Hp} (x : Str) : IntQ K H (.str x) false := ⟨_, false, false, .base (.str x), kit_ty (by decide +kernel), kit_ty (by decide +kernel), rfl⟩
theorem IntQ.lst {K : PySem.W.Frag} {H : Hp} {a : Addr} {xs : List V} (h : H a = some (.lst xs)) : IntQ K H (.ref a) false := ⟨_, false, false, .base (.lst h), kit_ty (by decide +kernel), kit_ty (by decide +kernel), rfl⟩
theorem IntQ.tup {K : PySem.W.Frag} {H : Hp} {a : Addr} {xs : List V} (h : H a = some (.tup xs)) : IntQ K H (.ref a) false := ⟨_, false, false, .base (.tup h), kit_ty (by decide +kernel), kit_ty (by decide +kernel), rfl⟩
theorem IntQ.dK {K : PySem.W.Frag} {H : Hp} {a : Addr} {xs : List (Key × V)} (h : H a = some (.dK xs)) : IntQ K H (.ref a) false := ⟨_, false, false, .base (.dK h), kit_ty (by decide +kernel), kit_ty (by decide +kernel), rfl⟩
/-- whether a value is an int within bounds -/
def InB (K : PySem.W.Frag) (H : Hp) (v : V) (lo : Int) (m : V) (ok : Bool) : Prop := (IntQ K H v false ∧ ok = false) ∨ (∃ i, v = .int i ∧ ((m = .non ∧ ok = decide (lo ≤ i)) ∨ ∃ hi, m = .int hi ∧ ok = (decide (lo ≤ i) && decide (i ≤ hi))))
theorem InB.yes {K : PySem.W.Frag} {H : Hp} {i lo hi : Int} (h1 : lo ≤ i) (h2 : i ≤ hi) : InB K H (.int i) lo (.int hi) true := .inr ⟨i, rfl, .inr ⟨hi, rfl, by rw [decide_eq_true h1, decide_eq_true h2]; rfl⟩⟩
theorem InB.odd {K : PySem.W.Frag} {H : Hp} {v m : V} {lo : Int} (h : IntQ K H v false) : InB K H v lo m false := .inl ⟨h, rfl⟩
theorem InB.low {K : PySem.W.Frag} {H : Hp} {i lo hi : Int} (h1 : i < lo) : InB K H (.int i) lo (.int hi) false := .inr ⟨i, rfl, .inr ⟨hi, rfl, by rw [decide_eq_false (by omega)]; rfl⟩⟩
theorem InB.high {K : PySem.W.Frag} {H : Hp} {i lo hi : Int} (h1 : hi < i) : InB K H (.int i) lo (.int hi) false := .inr ⟨i, rfl, .inr ⟨hi, rfl, by rw [decide_eq_false (show ¬ i ≤ hi by omega), Bool.and_false]⟩⟩
end L2

/-! values of any kind, and what checks say of them -/
namespace L2
open PySem PySem.Spec PyProof.Rows LamX
/-- a value and its type's name -/
inductive AnyV (H : Hp) : V → String → Prop
  | non : AnyV H .non "NoneType"
  | bl (b : Bool) : AnyV H (.bl b) "bool"
  | int (i : Int) : AnyV H (.int i) "int"
  | str (x : Str) : AnyV H (.str x) "str"
  | lst {p : Addr} {xs : List V} (h : H p = some (.lst xs)) : AnyV H (.ref p) "list"
  | tup {p : Addr} {xs : List V} (h : H p = some (.tup xs)) : AnyV H (.ref p) "tuple"
  | dK {p : Addr} {xs : List (Key × V)} (h : H p = some (.dK xs)) : AnyV H (.ref p) "dict"
theorem AnyV.ext {H H' : Hp} {v : V} {T : String} (e : ExtN H H') (h : AnyV H v T) : AnyV H' v T := by
  cases h with
  | non => exact .non
  | bl b => exact .bl b
  | int i => exact .int i
  | str x => exact .str x
  | lst h => exact .lst (e _ _ h fun ps z => by cases z)
  | tup h => exact .tup (e _ _ h fun ps z => by cases z)
  | dK h => exact .dK (e _ _ h fun ps z => by cases z)
theorem AnyV.same {H H' : Hp} {v : V} {T : String} (e : Same H H') (h : AnyV H v T) : AnyV H' v T := h.ext (.of e)
theorem AnyV.ty {K : PySem.W.Frag} {H : Hp} {v : V} {T : String} (h : AnyV H v T) : TyX K H v (.type T) := by
  cases h with
  | non => exact .base .non
  | bl b => exact .base (.bl b)
  | int i => exact .base (.int i)
  | str x => exact .base (.str x)
  | lst h => exact .base (.lst h)
  | tup h => exact .base (.tup h)
  | dK h => exact .base (.dK h)
/-- is the value a whole number, not a bool -/
def isI : V → Bool
  | .int _ => true
  | _ => false
theorem AnyV.intQ {K : PySem.W.Frag} {H : Hp} {v : V} {T : String} (h : AnyV H v T) : IntQ K H v (isI v) := by
  cases h with
  | non => exact .non
  | bl b => exact .bl b
  | int i => exact .int i
  | str x => exact .str x
  | lst h => exact .lst h
  | tup h => exact .tup h
  | dK h => exact .dK h
/-- .. within bounds -/
def leH : Option Int → Int → Bool
  | none, _ => true
  | some h, i => decide (i ≤ h)
def inR (lo : Int) (hi : Option Int) : V → Bool
  | .int i => decide (lo ≤ i) && leH hi i
  | _ => false
def hiV : Option Int → V
  | none => .non
  | some h => .int h
theorem AnyV.inB {K : PySem.W.Frag} {H : Hp} {v : V} {T : String} (h : AnyV H v T) (lo : Int) (hi : Option Int) : InB K H v lo (hiV hi) (inR lo hi v) := by
  cases h with
  | non => exact .odd .non
  | bl b => exact .odd (.bl b)
  | str x => exact .odd (.str x)
  | lst h => exact .odd (.lst h)
  | tup h => exact .odd (.tup h)
  | dK h => exact .odd (.dK h)
  | int i =>
    refine .inr ⟨i, rfl, ?_⟩
    cases hi with
    | none => exact .inl ⟨rfl, by show (decide (lo ≤ i) && true) = _; rw [Bool.and_true]⟩
    | some z => exact .inr ⟨z, rfl, rfl⟩
theorem inR_int {lo : Int} {hi : Option Int} {v : V} (h : inR lo hi v = true) : ∃ i, v = .int i ∧ lo ≤ i ∧ ∀ z, hi = some z → i ≤ z := by
  cases v with
  | int i =>
    have h : (decide (lo ≤ i) && leH hi i) = true := h
    obtain ⟨h1, h2⟩ := Bool.and_eq_true_iff.mp h
    refine ⟨i, rfl, of_decide_eq_true h1, fun z e => ?_⟩
    subst e
    exact of_decide_eq_true h2
  | _ => cases h
theorem inR_yes {lo hi i : Int} (h1 : lo ≤ i) (h2 : i ≤ hi) : inR lo (some hi) (.int i) = true := by
  show (decide (lo ≤ i) && decide (i ≤ hi)) = true
  rw [decide_eq_true h1, decide_eq_true h2]
  rfl
theorem inR_low {lo i : Int} {hi : Option Int} (h1 : i < lo) : inR lo hi (.int i) = false := by
  show (decide (lo ≤ i) && _) = false
  rw [decide_eq_false (by omega)]
  rfl
theorem inR_high {lo hi i : Int} (h1 : hi < i) : inR lo (some hi) (.int i) = false := by
  show (decide (lo ≤ i) && decide (i ≤ hi)) = false
  rw [show decide (i ≤ hi) = false from decide_eq_false (by omega), Bool.and_false]
/-- an error of the class C is let out, which keeps v under f -/
def Rz (E : XK) (H : Hp) (C : Addr) (f : Str) (v : V) : Prop := ∀ (dx : Addr) (H' : Hp), Same H H' → H dx = none → H' dx = some (.xd [(f, v)]) → E (.ref C) (some dx) H'
theorem Rz.same {E : XK} {H H1 : Hp} {C : Addr} {f : Str} {v : V} (s : Same H H1) (h : Rz E H C f v) : Rz E H1 C f v := fun dx H' s' n e => h dx H' (s.trans s') (by
  cases q : H dx with
  | none => rfl
  | some o => rw [s _ _ q] at n; cases n) e
/-- a list or a tuple -/
def RowAt (H : Hp) (p : Addr) (xs : List V) : Prop := H p = some (.lst xs) ∨ H p = some (.tup xs)
theorem RowAt.ext {H H' : Hp} {p : Addr} {xs : List V} (e : ExtN H H') (h : RowAt H p xs) : RowAt H' p xs := h.imp (fun h => e _ _ h fun ps z => by cases z) fun h => e _ _ h fun ps z => by cases z
theorem RowAt.same {H H' : Hp} {p : Addr} {xs : List V} (e : Same H H') (h : RowAt H p xs) : RowAt H' p xs := h.imp (e _ _) (e _ _)
/-- what is told of a row whose entries a test must let by: the first place that it does not, or -1 -/
inductive RowQ (ok : Hp → V → Bool → Prop) (H : Hp) (v : V) (lo hi : Int) : Option Int → Prop
  | odd {T : String} (h : AnyV H v T) (n1 : T ≠ "list") (n2 : T ≠ "tuple") : RowQ ok H v lo hi (some (-1))
  | len {p : Addr} {xs : List V} (e : v = .ref p) (h : RowAt H p xs) (hl : ¬ (lo ≤ (xs.length : Int) ∧ (xs.length : Int) ≤ hi)) : RowQ ok H v lo hi (some (-1))
  | item {p : Addr} {xs : List V} {i : Nat} {x : V} (e : v = .ref p) (h : RowAt H p xs) (hl : lo ≤ (xs.length : Int) ∧ (xs.length : Int) ≤ hi) (hx : xs[i]? = some x) (bad : ok H x false) (good : ∀ (j : Nat) (y : V), j < i → xs[j]? = some y → ok H y true) : RowQ ok H v lo hi (some (i : Int))
  | fine {p : Addr} {xs : List V} (e : v = .ref p) (h : RowAt H p xs) (hl : lo ≤ (xs.length : Int) ∧ (xs.length : Int) ≤ hi) (good : ∀ (j : Nat) (y : V), xs[j]? = some y → ok H y true) : RowQ ok H v lo hi none
theorem RowQ.ext {ok : Hp → V → Bool → Prop} (st : ∀ {H H' : Hp} {v : V} {b : Bool}, ExtN H H' → ok H v b → ok H' v b) {H H' : Hp} {v : V} {lo hi : Int} {r : Option Int} (e : ExtN H H') (h : RowQ ok H v lo hi r) : RowQ ok H' v lo hi r := by
  cases h with
  | odd h n1 n2 => exact .odd (h.ext e) n1 n2
  | len e1 h hl => exact .len e1 (h.ext e) hl
  | item e1 h hl hx bad good => exact .item e1 (h.ext e) hl hx (st e bad) fun j y hj hy => st e (good j y hj hy)
  | fine e1 h hl good => exact .fine e1 (h.ext e) hl fun j y hy => st e (good j y hy)
theorem RowQ.go {ok : Hp → V → Bool → Prop} {H : Hp} {v : V} {lo hi : Int} {r : Option Int} (h : RowQ ok H v lo hi r) : (∃ T, AnyV H v T ∧ T ≠ "list" ∧ T ≠ "tuple" ∧ r = some (-1)) ∨ (∃ p xs, v = .ref p ∧ RowAt H p xs ∧ ¬ (lo ≤ (xs.length : Int) ∧ (xs.length : Int) ≤ hi) ∧ r = some (-1)) ∨
    ∃ p xs, v = .ref p ∧ RowAt H p xs ∧ (lo ≤ (xs.length : Int) ∧ (xs.length : Int) ≤ hi) ∧ (∀ (j : Nat) (y : V), xs[j]? = some y → (∀ i, r = some i → (j : Int) ≤ i) → (ok H y true ∧ r ≠ some (j : Int)) ∨ (ok H y false ∧ r = some (j : Int))) ∧ ∀ i, r = some i → 0 ≤ i ∧ i < (xs.length : Int) := by
  cases h with
  | odd h n1 n2 => exact .inl ⟨_, h, n1, n2, rfl⟩
  | len e h hl => exact .inr (.inl ⟨_, _, e, h, hl, rfl⟩)
  | @item p xs i x e h hl hx bad good =>
    refine .inr (.inr ⟨p, xs, e, h, hl, fun j y hy up => ?_, fun z hz => ?_⟩)
    · have := up _ rfl
      rcases Nat.lt_or_ge j i with c | c
      · exact .inl ⟨good j y c hy, fun z => by have := Option.some.inj z; omega⟩
      · obtain rfl : j = i := by omega
        rw [hx] at hy
        rw [← Option.some.inj hy]
        exact .inr ⟨bad, rfl⟩
    · obtain rfl := Option.some.inj hz
      have := (List.getElem?_eq_some_iff.mp hx).1
      omega
  | @fine p xs e h hl good => exact .inr (.inr ⟨p, xs, e, h, hl, fun j y hy _ => .inl ⟨good j y hy, fun z => by cases z⟩, fun z hz => by cases hz⟩)
/-- an entry that is a whole number, or is none -/
def okInt (H : Hp) (v : V) (b : Bool) : Prop := ∃ T, AnyV H v T ∧ b = isI v
theorem okInt.ext {H H' : Hp} {v : V} {b : Bool} (e : ExtN H H') (h : okInt H v b) : okInt H' v b := h.imp fun _ h => ⟨h.1.ext e, h.2⟩
abbrev KeysQ := RowQ okInt
theorem keysExt {H H' : Hp} {v : V} {lo hi : Int} {r : Option Int} (e : ExtN H H') (h : KeysQ H v lo hi r) : KeysQ H' v lo hi r := RowQ.ext (ok := okInt) (fun {H1 H2 v b} e h => okInt.ext (H := H1) (H' := H2) (v := v) (b := b) e h) e h
theorem kit_lt {K : PySem.W.Frag} {H : Hp} {v : V} {T : String} (h : AnyV H v T) (n1 : T ≠ "list") (n2 : T ≠ "tuple") : PySem.W.kitAny K (.type T) [.type "list", .type "tuple"] = some false := by
  have go : ∀ T : String, kitB T "list" = some false → kitB T "tuple" = some false → PySem.W.kitAny K (.type T) [.type "list", .type "tuple"] = some false := fun T h1 h2 => kitAny_cons (b := false) (kit_ty h1) (fun _ => kitAny_cons (b := false) (kit_ty h2) (fun _ => kitAny_nil) fun z => nomatch z) fun z => nomatch z
  cases h with
  | non => exact go _ (by decide +kernel) (by decide +kernel)
  | bl b => exact go _ (by decide +kernel) (by decide +kernel)
  | int i => exact go _ (by decide +kernel) (by decide +kernel)
  | str x => exact go _ (by decide +kernel) (by decide +kernel)
  | lst h => exact absurd rfl n1
  | tup h => exact absurd rfl n2
  | dK h => exact go _ (by decide +kernel) (by decide +kernel)
theorem kit_row {K : PySem.W.Frag} {H : Hp} {p : Addr} {xs : List V} (h : RowAt H p xs) : ∃ t, TyX K H (.ref p) t ∧ PySem.W.kitAny K t [.type "list", .type "tuple"] = some true := by
  rcases h with hl | ht
  · exact ⟨_, .base (.lst hl), kitAny_cons (b := true) (kit_ty (by decide +kernel)) (fun z => nomatch z) (fun _ => rfl)⟩
  · exact ⟨_, .base (.tup ht), kitAny_cons (b := false) (kit_ty (by decide +kernel)) (fun _ => kitAny_cons (b := true) (kit_ty (by decide +kernel)) (fun z => nomatch z) (fun _ => rfl)) (fun z => nomatch z)⟩
/-- what two error classes are to each other -/
structure ExS (K : PySem.W.Frag) (C1 C2 : Addr) (b : Bool) : Prop where
  kit : PySem.W.kitOne K (.ref C1) (.ref C2) = some b
  exm : PySem.W.exmOne K (.ref C1) (.ref C2) = some b
theorem exS_mk {K : PySem.W.Frag} {C1 C2 : Addr} {b : Bool} (eB : PySem.W.subIn K (.ref C2) (.type "BaseException") = some true) (t : PySem.W.typeIn K (.ref C2) = some (.type "type")) (hc : PySem.W.isClsIn K C2 = true) (ss : PySem.W.subIn K (.ref C2) (.ref C2) = some true) (s : PySem.W.subIn K (.ref C1) (.ref C2) = some b) : ExS K C1 C2 b := by
  have hc' : (PySem.W.clsIn K C2).isSome = true := hc
  have k1 : PySem.W.kitCls K (.ref C1) (.ref C2) = some b := by
    unfold PySem.W.kitCls
    simp [hc', t, s]
  constructor
  · unfold PySem.W.kitOne
    split
    · rename_i e
      have e : C1 = C2 := Value.ref.inj (beq_iff_eq.mp e)
      rw [e, ss] at s
      exact s
    · exact k1
  · unfold PySem.W.exmOne
    simp [eB, k1]
section
variable {X : Cx} {a : Addr} {cls : Value} {d : Option Addr} {oe : Obj} {pn : List (Addr × Obj)}
/-- e.f of a caught error, its class told in the reading -/
theorem pe_xfA {e : Expr} {te : TE} {pos : Pos} {n : Str} (hz : Zc cls d oe) (hf : ∃ vs, oe.data = .fields vs) (he : PE (X.suite a ((a, oe) :: pn)) e te) (hb : attributeBase e n X.env (eval e X.env) = eval e X.env := by rfl) :
    PE (X.suite a ((a, oe) :: pn)) (.Attribute e n pos) (fun σ H Q => ∃ C, XfC X.K C ∧ PySem.W.findIn X.K (.ref C) n = some none ∧ tXf a cls d C n te σ H Q) :=
  ⟨fun pins s σ H Q I ⟨C, T, hno, h⟩ => (pe_xf T hno hz hf he hb).run pins s σ H Q I h⟩
end
section
variable {P : Program} {w : World} {K : PySem.W.Frag} {mg : Str → Option Value} {base : Heap}
/-- a def whose code object is known, and that errors may leave -/
theorem Fun.okXC {x qual : Str} {st : Stmt} {f c : Addr} {fd : FuncData} {N ps : List Str} {k : Nat} {sp : Sp} (F : Fun K x qual st f fd) (hc : fd.code = .ref c) (S : FnScope N ps (defScope st)) (len : ∀ vs H Q E, sp vs H Q E → vs.length = ps.length)
    (hbody : ∀ (A : Around) (outer : List Env) (s : Shared) (H : Hp) (vs : List V) (Q : VK) (E : XK), Room k (A.deeper (envOfC qual (defScope st) s.heap.objs.size f (.ref c))) → sp vs H Q E →
      ∃ t, PSs (cxOf (L2.CX P w) P w K mg base N qual (defScope st) f (.ref c) A outer s H E) (defBody st) t ∧ t { nx := fun _ H' => Q .non H', rt := Q } (start N vs) H) : FnOk P w K mg base (L2.CX P w) (k + 1) f fd ps sp := by
  obtain ⟨oc, od, kV, doc, pm, an, cdv, ct, osl, rfl, lk, hcd⟩ := F.ex
  have e : cdv = .ref c := hc
  subst e
  exact fn_of lk hcd S len fun A outer s H vs Q E hr hsp => hbody A outer s H vs Q E hr hsp
/-- a def that a slot may hold, and that errors may leave -/
structure HeldX (P : Program) (w : World) (K : PySem.W.Frag) (mg : Str → Option Value) (base : Heap) (k : Nat) (f : Addr) (sp : Sp) : Prop where
  ex : ∃ (fd : FuncData) (ps : List Str), FnOk P w K mg base (L2.CX P w) k f fd ps sp ∧ PySem.W.keepIn K (.ref f) = true ∧ L2.Binds K fd ps []
end
theorem pe_callRX {X : Cx} {E : XK} {k i : Nat} {x : Str} {p pos : Pos} {e : Expr} {es : List Expr} {t : TA} {S : Addr → Sp → Prop} (A : ∀ f sp, S f sp → HeldX X.prog X.w X.K X.mg X.base k f sp) (hr : Room k X.A) (hN : X.N[i]? = some x) (hv : Vis X.env.scope x) (hx : Passes (L2.CX X.prog X.w) X E) (ha : PA X (e :: es) t)
    (hdb : (x == ("__debug__" : Str)) = false := by decide) (hcd : (x == ("__classdict__" : Str)) = false := by decide)
    (he : starEach (e :: es) X.env = (false, eval e X.env) :: starEach es X.env := by rfl) (hpl : (backTo pos (starEach es X.env)).any (·.1) = false := by rfl) :
    PE X (.Call (.Name x p) (e :: es) [] pos) (fun σ H Q => ∃ f sp, σ[i]? = some (some (.ref f)) ∧ S f sp ∧ t σ H fun vs H1 => sp vs H1 Q E) := by
  refine ⟨fun pins s σ H Q I h => ?_⟩
  obtain ⟨f, sp, hs, hS, ht⟩ := h
  obtain ⟨fd, ps, F, hk, hb⟩ := (A f sp hS).ex
  refine (pe_callL (i := i) (f := f) (sp := sp) (dvs := []) (E := E) F hr hN hv hk hb .nil hx ha hdb hcd he hpl).run pins s σ H Q I ⟨hs, ?_⟩
  have e0 : (fun (vs : List V) (H1 : Hp) => sp (vs ++ []) H1 Q E) = fun vs H1 => sp vs H1 Q E := by
    funext vs H1
    rw [List.append_nil]
  show t σ H (fun vs H1 => sp (vs ++ []) H1 Q E)
  rw [e0]
  exact ht
/-- the lambda's captured names are the maker's -/
def freeB (sc scope : Scope) : Bool := scope.names.all fun y => !decide (y.2 = .free) || decide (sc.names.lookup y.1 = some .cell) || decide (sc.names.lookup y.1 = some .free)
theorem free_by {sc scope : Scope} (h : freeB sc scope = true) : ∀ y ∈ scope.names, y.2 = .free → sc.names.lookup y.1 = some .cell ∨ sc.names.lookup y.1 = some .free := fun y hy e => by
  unfold freeB at h
  have := List.all_eq_true.mp h y hy
  simp only [Bool.or_eq_true, Bool.not_eq_true', decide_eq_true_eq, decide_eq_false_iff_not] at this
  rcases this with (z | z) | z
  · exact absurd e z
  · exact .inl z
  · exact .inr z
end L2

/-! defs that are called where nothing is being shown: repr of lists and tuples -/
namespace L2
open PySem PySem.Spec PyProof.Rows
/-- a promise that is kept where no repr is under way -/
structure FnG (P : Program) (w : World) (K : PySem.W.Frag) (mg : Str → Option Value) (base : Heap) (CX : CXT) (k : Nat) (f : Addr) (fd : FuncData) (ps : List Str) (sp : Sp) : Prop where
  ln : ∀ vs H Q E, sp vs H Q E → vs.length = ps.length
  go : ∀ {A : Around} {outer : List Env} {s : Shared} {H : Hp} {ar : Args} {us : List Value} {vs : List V} {Q : VK} {E : XK}, A.guards = some [] → Room k A → Env0 P w K mg base A outer s H → BindsTo s fd ar (ps.zip us) → Vals vs us → sp vs H Q E →
    codeAny (model P w) A (.call (.ref f) ar) (CR CX outer P w H s Q E) s
theorem FnG.of {P : Program} {w : World} {K : PySem.W.Frag} {mg : Str → Option Value} {base : Heap} {CX : CXT} {k : Nat} {f : Addr} {fd : FuncData} {ps : List Str} {sp : Sp} (F : FnOk P w K mg base CX k f fd ps sp) : FnG P w K mg base CX k f fd ps sp :=
  ⟨F.len, fun _ r e b v h => F.run _ _ _ _ _ _ _ _ _ r e b v h⟩
section
variable {P : Program} {w : World} {K : PySem.W.Frag} {mg : Str → Option Value} {base : Heap} {CX : CXT} {k : Nat} {f : Addr} {N ps : List Str} {sp : Sp}
theorem fnG_body {x qual : Str} {dfs : Arguments} {bd : List Stmt} {sc : Scope} {dV kV doc pm cdv ct oc : Value} {an od : Option Addr} {osl : Array (Option Value)}
    (at_ : K.lookup f = some ⟨oc, od, .func (PySem.W.fnOf x qual dfs bd sc dV kV doc pm an cdv ct), osl⟩) (cd : PySem.W.codeIn K cdv qual = true) (S : FnScope N ps sc) (ln : ∀ vs H Q E, sp vs H Q E → vs.length = ps.length)
    (bdy : ∀ (A : Around) (outer : List Env) (s : Shared) (H : Hp) (vs : List V) (Q : VK) (E : XK), A.guards = some [] → Room k (A.deeper (envOfC qual sc s.heap.objs.size f cdv)) → sp vs H Q E →
      ∃ t, PSs (cxOf CX P w K mg base N qual sc f cdv A outer s H E) bd t ∧ t { nx := fun _ H' => Q .non H', rt := Q } (L2.start N vs) H) :
    FnG P w K mg base CX (k + 1) f (PySem.W.fnOf x qual dfs bd sc dV kV doc pm an cdv ct) ps sp := by
  refine ⟨ln, fun {A outer s H ar us vs Q E} gd room ev bt vv hs => ?_⟩
  have keepB : ∀ b o, base.get? b = some o → s.heap.get? b = some o := fun b o e => (ev.bs b o e).1
  have inK := ev.mod.kin.keeps keepB
  have free := ev.mod.nolimit.keeps keepB
  have kinds : ∀ y ∈ ps.zip us, sc.names.lookup y.1 = some .local ∨ (sc.names.lookup y.1 = some .cell ∧ ((cellsFrom (s.heap.objs.size + 1) sc.names []).lookup y.1).isSome = true) := by
    rintro ⟨n, v⟩ m
    exact (S.par n (List.of_mem_zip m).1).imp id fun q => ⟨q, PySem.W.cellsFrom_some _ _ _ (.inl q)⟩
  refine codeAny_call_function room.depth (inK _ _ at_) rfl S.co S.gen rfl (PySem.W.codeRec_of inK cd) (bt _ _ _ _ (wpAny_newFunctionEnv_cells S.kind kinds fun env ee s1 xx => ?_))
  cases ee
  refine ⟨free.keeps xx.toInCall.keep, codeAny_func ?_⟩
  obtain ⟨t, run, want⟩ := bdy A outer s H vs Q E gd (room.deeper _) hs
  have inv0 := inv_start (CX := CX) (E := E) S room.hd ev (ln _ _ _ _ hs) vv xx
  have done : ∀ {σ' : L2.St} {H' : Hp} {v : V} {u : Value} {s' : Shared}, Inv (cxOf CX P w K mg base N qual sc f cdv A outer s H E) [] σ' H' s' → L2.RelV v u → Q v H' → CE outer P w H s Q u s' := fun J rv q => ⟨_, _, J.os, J.bare, J.base, J.hok, rv, q⟩
  refine wpAny_mono (run.run [] s1 (L2.start N vs) H _ inv0 want) (fun fl s' res => ?_) fun _ _ z => z
  match fl, res with
  | .ret u, ⟨v, σ', H', J, rv, q⟩ => exact done J rv q
  | .next, ⟨σ', H', J, q⟩ => exact done (v := .non) (u := .none) J rfl q
  | .brk, ⟨_, _, _, q⟩ => exact q.elim
  | .cont, ⟨_, _, _, q⟩ => exact q.elim
theorem Fun.okG {x qual : Str} {st : Stmt} {fd : FuncData} (F : Fun K x qual st f fd) (S : FnScope N ps (defScope st)) (ln : ∀ vs H Q E, sp vs H Q E → vs.length = ps.length)
    (bdy : ∀ (cdv : Value) (A : Around) (outer : List Env) (s : Shared) (H : Hp) (vs : List V) (Q : VK) (E : XK), A.guards = some [] → Room k (A.deeper (envOfC qual (defScope st) s.heap.objs.size f cdv)) → sp vs H Q E →
      ∃ t, PSs (cxOf CX0 P w K mg base N qual (defScope st) f cdv A outer s H E).nox (defBody st) t ∧ t { nx := fun _ H' => Q .non H', rt := Q } (L2.start N vs) H) : FnG P w K mg base CX0 (k + 1) f fd ps sp := by
  obtain ⟨oc, od, kV, doc, pm, an, cdv, ct, osl, rfl, at_, cd⟩ := F.ex
  refine fnG_body at_ cd S ln fun A outer s H vs Q E gd room hs => ?_
  obtain ⟨t, h1, h2⟩ := bdy cdv A outer s H vs Q E gd room hs
  exact ⟨t, h1.nox, h2⟩
end
section
variable {X : Cx} {CX : CXT} {k : Nat} {f : Addr} {fd : FuncData} {ps : List Str} {sp : Sp} {E : XK} {dvs : List V} {ds : List Value}
theorem run_fnG {pins : List (Addr × Obj)} {σ : L2.St} {H : Hp} {s : Shared} {Q : VK} {us : List Value} {vs : List V} (F : FnG X.prog X.w X.K X.mg X.base CX k f fd ps sp) (gd : X.A.guards = some []) (room : Room k X.A) (bb : Binds X.K fd ps ds) (dd : Vals dvs ds)
    (px : Passes CX X E) (I : Inv X pins σ H s) (vv : Vals vs us) (hs : sp (vs ++ dvs) H Q E) : wpAny (model X.prog X.w) X.A (call (.ref f) us) (EP X pins σ Q) X.xe s := by
  have all := vv.append dd
  have same : (us ++ ds).length = ps.length := all.length.symm.trans (F.ln _ _ _ _ hs)
  refine wpAny_call (codeAny_mono (F.go (outer := X.stack) gd room I.env0 (bb s us I.kIn same) all hs) fun r s' res => ?_)
  match r, res with
  | .error e, res => exact px pins σ H s e s' I res
  | .ok (.ret u), res => exact I.after res
  | .ok .next, res => exact (show False from res).elim
  | .ok .brk, res => exact (show False from res).elim
  | .ok .cont, res => exact (show False from res).elim
theorem pe_callG {x : Str} {p pos : Pos} {e : Expr} {es : List Expr} {t : TA} (F : FnG X.prog X.w X.K X.mg X.base CX k f fd ps sp) (gd : X.A.guards = some []) (room : Room k X.A) (gl : Gl X x) (at_ : X.mg x = some (.ref f)) (kp : PySem.W.keepIn X.K (.ref f) = true)
    (bb : Binds X.K fd ps ds) (dd : Vals dvs ds) (px : Passes CX X E) (ha : PA X (e :: es) t) (nd : (x == ("__debug__" : Str)) = false := by decide) (h1 : starEach (e :: es) X.env = (false, eval e X.env) :: starEach es X.env := by rfl)
    (h2 : (backTo pos (starEach es X.env)).any (·.1) = false := by rfl) : PE X (.Call (.Name x p) (e :: es) [] pos) (tCall sp dvs E t) :=
  ⟨fun pins s σ H Q I h => wpAny_Call_Name_kw (ld_glob I gl at_ (PySem.W.callWith_K (h₀ := X.base) I.ok.mod.kin kp (thn (ha.run pos pins s σ H _ I h) fun us s1 ⟨vs, H1, I1, r, q⟩ => ⟨I1.kIn, run_fnG F gd room bb dd px I1 r q⟩) h1 h2) nd)⟩
/-- repr of an object that is data -/
def rReprD (K : PySem.W.Frag) : List V → Hp → VK → Prop := fun vs H Q => ∃ (p : Addr) (d : PyData), vs = [.ref p] ∧ Dp K H (.ref p) d ∧ d.showable = true ∧ d.hasDict = false ∧ d.depth ≤ 64 ∧ d.shown.length ≤ sizeLine ∧ Q (.str d.shown) H
theorem call_reprD (gd : X.A.guards = some []) (hu : X.A.units + 65 < cLine) : CallR X (.builtin "repr") (rReprD X.K) := by
  intro pins s σ H xs us Q I r h
  obtain ⟨p, d, rfl, hd, h1, h2, h3, h4, q⟩ := h
  obtain ⟨u, rfl, r1⟩ := vals1 r
  obtain ⟨as, rd⟩ := Dp.reads I d _ u hd r1
  cases r1
  refine repr_of_reads' rd h1 (fun z => by rw [h2] at z; cases z) gd (by omega) (fun _ _ e => e) (fun h' u tk keep => ⟨.str _, H, I.kept keep, ⟨_, rfl⟩, q⟩) h4
end
end L2
namespace L2
open PySem PySem.Spec PyProof.Rows
/-- the call of the law: the promise of a def that may show lists -/
theorem callG {P : Program} {w : World} {K : PySem.W.Frag} {mg mb : Str → Option Value} {CX : CXT} {k : Nat} {fa a : Addr} {fd : FuncData} {x : Str} {sp : Sp} {s1 : Shared} {us : List Value} {ns : List Int}
    (inK : K.In s1.heap) (top : s1.heap.Ns mainGlobals mg) (blt : s1.heap.Ns builtinsNs mb) (boot : ∀ y : Str, y ≠ "__name__" → mb y = bootBuiltins y) (free : s1.heap.NoLimit) (gen0 : s1.gens = #[])
    (scr : s1.heap.get? a = some { cls := .type "list", data := .seq us.toArray }) (isI : IntsAre us ns) (small : ns.length ≤ sizeLine) (room : Room k callerA)
    (F : ∀ base : Heap, K.In base → base.Ns mainGlobals mg → FnG P w K mg base CX k fa fd [x] sp) (bt : ∀ (s : Shared) (u : Value), BindsTo s fd ⟨[u], []⟩ [(x, u)])
    (want : ∀ H : Hp, Only H → SqL K H a (ns.map V.int) → sp [.ref a] H (fun v _ => v = .bl true) fun _ _ _ => False) (noX : ∀ H e s', CX [] H s1 (fun _ _ _ => False) e s' → False) :
    codeAny (model P w) callerA (.call (.ref fa) ⟨[.ref a], []⟩) (fun r s' => r = .ok (.ret (.bool true)) ∧ OldK s1.heap s'.heap ∧ s'.os = s1.os ∧ AllBare s'.gens) s1 := by
  have vv := vals_ints isI
  have lu := isI.length
  have main : ∀ H : Hp, Only H → SqL K H a (ns.map V.int) → HOk P w H s1.heap → (∀ b, H b ≠ none → b = a) → (H a ≠ none → K.lookup a = none) →
      codeAny (model P w) callerA (.call (.ref fa) ⟨[.ref a], []⟩) (fun r s' => r = .ok (.ret (.bool true)) ∧ OldK s1.heap s'.heap ∧ s'.os = s1.os ∧ AllBare s'.gens) s1 := by
    intro H only sq ok one out
    have hid : ∀ {b : Addr} {o : Obj}, s1.heap.get? b = some o → H b = none → (hidT s1.heap H).get? b = some o := fun e n => hidT_get e n
    have hidN : ∀ {b : Addr} {m : Str → Option Value}, s1.heap.Ns b m → (hidT s1.heap H).Ns b m := by
      rintro b m ⟨o, es, ep, e, d, r⟩
      refine ⟨o, es, ep, hid e ?_, d, r⟩
      match q : H b with
      | none => rfl
      | some u =>
        obtain rfl := one b (by rw [q]; exact Option.some_ne_none _)
        rw [scr] at e
        cases e
        exact absurd (show Data.seq us.toArray _ = Data.dict es ep from d) Data.noConfusion
    have kin : K.In (hidT s1.heap H) := fun b o e => hid (inK b o e) (by
      match q : H b with
      | none => rfl
      | some u =>
        obtain rfl := one b (by rw [q]; exact Option.some_ne_none _)
        rw [out (by rw [q]; exact Option.some_ne_none _)] at e
        cases e)
    obtain ⟨mc, f1, f2⟩ := free
    have ev : Env0 P w K mg (hidT s1.heap H) callerA [] s1 H := ⟨rfl, ⟨kin, hidN top, ⟨mb, hidN blt, boot⟩, ⟨mc, hidN f1, f2⟩⟩, fun b o e => of_hidT e, Nat.le_of_eq (hidT_size _ _), trivial, fun b hb => absurd (show b ∈ ([] : List Addr) from hb) List.not_mem_nil, ok, .of_eq gen0⟩
    refine codeAny_mono ((F _ kin (hidN top)).go (us := [.ref a]) (vs := [.ref a]) rfl room ev (bt s1 (.ref a)) (.cons rfl .nil) (want H only sq)) fun r s' res => ?_
    match r, res with
    | .error e, res => exact (noX H e s' res).elim
    | .ok .next, res => exact (show False from res).elim
    | .ok .brk, res => exact (show False from res).elim
    | .ok .cont, res => exact (show False from res).elim
    | .ok (.ret u), ⟨v, H', os, bare, un, ok', rv, q⟩ =>
      obtain rfl : v = .bl true := q
      obtain rfl : u = Value.bool true := rv
      refine ⟨rfl, OldK.of_keep fun b o e => ?_, os, bare⟩
      match q : H b with
      | none => exact un.keep b o e q (fun z => absurd (show b ∈ ([] : List Addr) from z) List.not_mem_nil) List.not_mem_nil
      | some u =>
        rcases only b with z | ⟨ob, xs, z⟩
        · rw [q] at z
          cases z
        · have e1 := (ok b _ z).1
          have e2 := (ok' b _ (un.frzs b ob _ z)).1
          rw [e] at e1
          cases e1
          exact e2
  match own : K.lookup a with
  | some o =>
    have e := inK a o own
    rw [scr] at e
    cases e
    exact main (fun _ => none) (fun _ => .inl rfl) (.inr ⟨_, us.toArray, _, own, rfl, rfl, rfl, by rw [List.size_toArray, lu]; exact small, by simpa using vv⟩) (fun b u z => nomatch (show (none : Option HO) = some u from z)) (fun b z => absurd rfl z) fun z => absurd rfl z
  | none =>
    refine main (fun b => if b = a then some (.frz { cls := .type "list", data := .seq us.toArray } (.lst (ns.map V.int))) else none) (fun b => ?_) (.inl (.inr ⟨{ cls := .type "list", data := .seq us.toArray }, if_pos rfl⟩)) (fun b u z => ?_) (fun b z => ?_) fun _ => own
    all_goals by_cases same : b = a
    · exact .inr ⟨_, _, if_pos same⟩
    · exact .inl (if_neg same)
    · have z2 := (if_pos same).symm.trans z
      cases z2
      subst same
      exact ⟨scr, by rw [List.length_map]; exact small, us, _, vv, scr⟩
    · have z2 := (if_neg same).symm.trans z
      cases z2
    · exact same
    · exact absurd (if_neg same) z
theorem walkG {l : PySem.W.OpenLaw} {n k : Nat} {q : Program} {loose : List Str} {XP : (Str → Option Value) → Heap → Prop} {YP : World → Heap → Prop} {d : DefRec} {K : Params → PySem.W.Frag} {CX : World → CXT} {sp : World → Sp} {x : Str}
    (most : l.most = some n) (small : n ≤ sizeLine) (nodef : d.params.defaults = []) (room : Room k callerA) (inK : ∀ (w : World) (h : Heap), YP w h → (K w.params).In h)
    (F : ∀ (w : World) (mg : Str → Option Value) (fa : Addr) (h : Heap), (K w.params).In h → h.Ns mainGlobals mg → mg d.name = some (.ref fa) → ∃ fd : FuncData, (∀ (s : Shared) (u : Value), BindsTo s fd ⟨[u], []⟩ [(x, u)]) ∧
      ∀ base : Heap, (K w.params).In base → base.Ns mainGlobals mg → FnG l.prog w (K w.params) mg base (CX w) k fa fd [x] (sp w))
    (want : ∀ (w : World) (H : Hp) (a : Addr) (ns : List Int), ns.length ≤ n → Only H → SqL (K w.params) H a (ns.map V.int) → sp w [.ref a] H (fun v _ => v = .bl true) fun _ _ _ => False)
    (noX : ∀ (w : World) (H : Hp) (s : Shared) (e : Value) (s' : Shared), CX w [] H s (fun _ _ _ => False) e s' → False) : PySem.W.WalkO q loose XP YP l.row.toRowW d [] (fun f vs => PySem.call f vs) := by
  refine Att.attach_call most nodef fun w s0 s1 mg mb fa o pm cd doc a vs ns G Y h1 h2 h3 at_ scr isI len gen0 => ?_
  obtain ⟨fd, bt, keep⟩ := F w mg fa _ (inK w _ Y) G.T.g at_
  exact callG (inK w _ Y) G.T.g G.T.b G.T.builtins G.T.nolimit gen0 scr isI (Nat.le_trans len small) room keep bt (fun H only sq => want w H a ns len only sq) fun H e s' => noX w H s1 e s'
end L2

/-! data in lists, what it shows -/
namespace L2
open PySem PySem.Spec PyProof.Rows
theorem dpAll_of {α : Type} {K : PySem.W.Frag} {H : Hp} (f : α → PyData) : ∀ {ts : List V} {as : List α}, ts.length = as.length → (∀ (i : Nat) (v : V) (a : α), ts[i]? = some v → as[i]? = some a → Dp K H v (f a)) → DpAll K H ts (as.map f)
  | [], [], _, _ => .nil
  | [], _ :: _, h, _ => by cases h
  | _ :: _, [], h, _ => by cases h
  | v :: ts, a :: as, hl, h => .cons (h 0 v a rfl rfl) (dpAll_of f (by simpa using hl) fun i v' a' h1 h2 => h (i + 1) v' a' h1 h2)
theorem canLay_of {α : Type} (f : α → PyData) (h : ∀ a, PyData.canLay0 (f a) = true) : ∀ (as : List α), PyData.canLayAll0 (as.map f) = true
  | [] => rfl
  | a :: as => by
    show (PyData.canLay0 (f a) && PyData.canLayAll0 (as.map f)) = true
    rw [h, canLay_of f h as]
    rfl
theorem depth_of {α : Type} (f : α → PyData) {n : Nat} (h : ∀ a, PyData.depth (f a) ≤ n) : ∀ (as : List α), PyData.depthAll (as.map f) ≤ n
  | [] => Nat.zero_le _
  | a :: as => Nat.max_le.mpr ⟨h a, depth_of f h as⟩
theorem shaped_of {d : PyData} (h1 : PyData.canLay0 d = true) (h2 : PyData.depth d ≤ 64) : SeqAt.shaped d = true := by
  unfold SeqAt.shaped
  exact Bool.and_eq_true_iff.mpr ⟨h1, decide_eq_true h2⟩
theorem eqv_same {d : PyData} (h : SeqAt.shaped d = true) : PyData.eqv d d = true := SeqAt.eqv_refl _ (SeqAt.canLay_of_shaped h)
/-! ints, shown -/
theorem showable_ints : ∀ (ns : List Int), (∀ n ∈ ns, n.natAbs.log2 < 1920) → PyData.showableAll (ns.map PyData.int) = true
  | [], _ => rfl
  | n :: ns, h => by
    show (decide (n.natAbs.log2 < 1920) && PyData.showableAll (ns.map PyData.int)) = true
    rw [decide_eq_true (h n (List.mem_cons_self ..)), showable_ints ns fun m hm => h m (List.mem_cons_of_mem _ hm)]
    rfl
theorem noDict_ints : ∀ (ns : List Int), PyData.hasDictAll (ns.map PyData.int) = false
  | [] => rfl
  | n :: ns => by
    show (false || PyData.hasDictAll (ns.map PyData.int)) = false
    rw [noDict_ints ns]
    rfl
theorem shown_ints_len : ∀ (ns : List Int), (∀ n ∈ ns, n.natAbs.log2 < 1920) → ((PyData.shownAll (ns.map PyData.int)).map (·.length)).sum ≤ 1921 * ns.length ∧ (PyData.shownAll (ns.map PyData.int)).length = ns.length
  | [], _ => ⟨Nat.le_refl _, rfl⟩
  | n :: ns, h => by
    obtain ⟨a1, a2⟩ := shown_ints_len ns fun m hm => h m (List.mem_cons_of_mem _ hm)
    have b : (PyData.shown (.int n)).length ≤ 1921 := int_text_len_1921 (h n (List.mem_cons_self ..))
    constructor
    · show (PyData.shown (.int n)).length + ((PyData.shownAll (ns.map PyData.int)).map (·.length)).sum ≤ 1921 * (ns.length + 1)
      omega
    · show (PyData.shownAll (ns.map PyData.int)).length + 1 = ns.length + 1
      rw [a2]
theorem show_ints {ns : List Int} (hl : ns.length ≤ 8000) (h : ∀ n ∈ ns, n.natAbs.log2 < 1920) : (PyData.list (ns.map PyData.int)).showable = true ∧ (PyData.list (ns.map PyData.int)).hasDict = false ∧ (PyData.list (ns.map PyData.int)).depth ≤ 64 ∧ (PyData.list (ns.map PyData.int)).shown.length ≤ sizeLine := by
  obtain ⟨a1, a2⟩ := shown_ints_len ns h
  refine ⟨showable_ints ns h, noDict_ints ns, ?_, ?_⟩
  · show PyData.depthAll (ns.map PyData.int) + 1 ≤ 64
    rw [depth_ints]
    decide
  · show (listText (PyData.shownAll (ns.map PyData.int))).length ≤ sizeLine
    refine Nat.le_trans (listText_len_le _) (Nat.le_trans ?_ (by decide : 15400003 ≤ sizeLine))
    rw [a2]
    omega
end L2

/-! pairs of a word and a value, in lists -/
namespace L2
open PySem PySem.Spec PyProof.Rows LamX
abbrev pdW (w : Str) (x : PyData) : PyData := .tuple [.str w, x]
/-- a value that is its own data -/
inductive Lone : V → PyData → Prop
  | non : Lone .non .none
  | bl (b : Bool) : Lone (.bl b) (.bool b)
  | int (i : Int) : Lone (.int i) (.int i)
  | str (x : Str) (h : PyData.canLay0 (.str x) = true) : Lone (.str x) (.str x)
theorem Lone.dp {K : PySem.W.Frag} {H : Hp} {v : V} {x : PyData} (h : Lone v x) : Dp K H v x := by
  cases h with
  | non => exact .non
  | bl b => exact .bl b
  | int i => exact .int i
  | str z _ => exact .str z
theorem Lone.canLay {v : V} {x : PyData} (h : Lone v x) : x.canLay0 = true := by
  cases h with
  | str z h => exact h
  | _ => rfl
theorem Lone.depth {v : V} {x : PyData} (h : Lone v x) : x.depth = 0 := by
  cases h <;> rfl
theorem dp_word {K : PySem.W.Frag} {H : Hp} {t : Addr} {w : Str} {v : V} {x : PyData} (h : H t = some (.tup [.str w, v])) (hv : Lone v x) : Dp K H (.ref t) (pdW w x) := .tup (L2.st_of h) (.cons (.str w) (.cons hv.dp .nil))
theorem dpAll_rep {K : PySem.W.Frag} {H : Hp} {d : PyData} : ∀ {rs : List V}, (∀ r ∈ rs, Dp K H r d) → DpAll K H rs (List.replicate rs.length d)
  | [], _ => .nil
  | r :: rs, h => .cons (h r List.mem_cons_self) (dpAll_rep fun z hz => h z (List.mem_cons_of_mem _ hz))
theorem dp_said {K : PySem.W.Frag} {H : Hp} {D : Addr} {rs : List V} {n : Nat} {w : Str} {v : V} {x : PyData} (hD : H D = some (.lst rs)) (hl : rs.length = n) (hr : ∀ r ∈ rs, ∃ t, r = .ref t ∧ H t = some (.tup [.str w, v])) (hv : Lone v x) : Dp K H (.ref D) (.list (List.replicate n (pdW w x))) := by
  subst hl
  exact .lst (L2.sq_of hD) (dpAll_rep fun r h => by
    obtain ⟨t, rfl, ht⟩ := hr r h
    exact dp_word ht hv)
theorem canLay_rep {d : PyData} (h : d.canLay0 = true) : ∀ n, PyData.canLayAll0 (List.replicate n d) = true
  | 0 => rfl
  | n + 1 => by
    show (d.canLay0 && PyData.canLayAll0 (List.replicate n d)) = true
    rw [h, canLay_rep h n]
    rfl
theorem depth_rep {d : PyData} {m : Nat} (h : d.depth ≤ m) : ∀ n, PyData.depthAll (List.replicate n d) ≤ m
  | 0 => Nat.zero_le _
  | n + 1 => Nat.max_le.mpr ⟨h, depth_rep h n⟩
theorem canLay_word {w : Str} {v : V} {x : PyData} (hw : PyData.canLay0 (.str w) = true) (hv : Lone v x) : (pdW w x).canLay0 = true := by
  show (PyData.canLay0 (.str w) && (PyData.canLay0 x && true)) = true
  rw [hw, hv.canLay]
  rfl
theorem depth_word {w : Str} {v : V} {x : PyData} (hv : Lone v x) : (pdW w x).depth ≤ 2 := by
  show max 0 (max x.depth 0) + 1 ≤ 2
  rw [hv.depth]
  decide
theorem shaped_word {w : Str} {v : V} {x : PyData} (hw : PyData.canLay0 (.str w) = true) (hv : Lone v x) : SeqAt.shaped (pdW w x) = true := shaped_of (canLay_word hw hv) (Nat.le_trans (depth_word hv) (by decide))
theorem shaped_said {w : Str} {v : V} {x : PyData} (hw : PyData.canLay0 (.str w) = true) (hv : Lone v x) (n : Nat) : SeqAt.shaped (.list (List.replicate n (pdW w x))) = true := by
  refine shaped_of (canLay_rep (canLay_word hw hv) n) ?_
  have := depth_rep (d := pdW w x) (m := 2) (depth_word hv) n
  show PyData.depthAll _ + 1 ≤ 64
  omega
theorem flat_one {v : V} : ∀ n : Nat, (List.replicate n [v]).flatten = List.replicate n v
  | 0 => rfl
  | n + 1 => by
    rw [List.replicate_succ, List.flatten_cons, flat_one n]
    rfl
/-- the other side: n times one pair -/
theorem dp_saidR {K : PySem.W.Frag} {H : Hp} {D t : Addr} {n : Nat} {w : Str} {v : V} {x : PyData} (hD : H D = some (.lst (List.replicate n [V.ref t]).flatten)) (ht : H t = some (.tup [.str w, v])) (hv : Lone v x) : Dp K H (.ref D) (.list (List.replicate n (pdW w x))) := by
  rw [flat_one] at hD
  exact dp_said hD List.length_replicate (fun r hr => ⟨t, List.eq_of_mem_replicate hr, ht⟩) hv
theorem ne_said {w : Str} {v : V} {x : PyData} (hw : PyData.canLay0 (.str w) = true) (hv : Lone v x) (n : Nat) : V.bl (!PyData.eqv (.list (List.replicate n (pdW w x))) (.list (List.replicate n (pdW w x)))) = V.bl false := by
  rw [eqv_same (shaped_said hw hv n)]
  rfl
theorem ne_word {w : Str} {v : V} {x : PyData} (hw : PyData.canLay0 (.str w) = true) (hv : Lone v x) : V.bl (!PyData.eqv (pdW w x) (pdW w x)) = V.bl false := by
  rw [eqv_same (shaped_word hw hv)]
  rfl
end L2
namespace L2
open PySem PySem.Spec PyProof.Rows LamX
theorem take_int {ns : List Int} {at_ j : Nat} {odd : V} {rest : List V} {y : V} (ha : at_ ≤ ns.length) (hj : j < at_) (hy : ((ns.map V.int).take at_ ++ odd :: rest)[j]? = some y) : ∃ z, y = .int z := by
  rw [List.getElem?_append_left (by rw [List.length_take, List.length_map]; omega), List.getElem?_take_of_lt hj, List.getElem?_map] at hy
  cases e : ns[j]? with
  | none => rw [e] at hy; cases hy
  | some z => rw [e] at hy; exact ⟨z, (Option.some.inj hy).symm⟩
/-- one thing put in that is no whole number -/
theorem keys_put {H : Hp} {p : Addr} {ns : List Int} {at_ : Nat} {odd : V} {To : String} {rest xs : List V} {lo hi : Int} (h : RowAt H p xs) (e : xs = (ns.map V.int).take at_ ++ odd :: rest) (ha : at_ ≤ ns.length) (h0 : lo ≤ 0) (hl : ((at_ + rest.length + 1 : Nat) : Int) ≤ hi) (ho : AnyV H odd To) (hi_ : isI odd = false) : KeysQ H (.ref p) lo hi (some (at_ : Int)) := by
  subst e
  have lt : ((ns.map V.int).take at_).length = at_ := by rw [List.length_take, List.length_map]; omega
  refine .item rfl h ?_ (x := odd) ?_ ⟨To, ho, hi_.symm⟩ fun j y hj hy => ?_
  · rw [List.length_append, lt, List.length_cons]
    omega
  · rw [List.getElem?_append_right (by omega), lt, Nat.sub_self]
    rfl
  · obtain ⟨z, rfl⟩ := take_int ha hj hy
    exact ⟨_, .int z, rfl⟩
theorem keys_rep {H : Hp} {p : Addr} {k : Nat} {i : Int} (h : RowAt H p (List.replicate k (V.int i))) (hk : 2000 < k) : KeysQ H (.ref p) 0 2000 (some (-1)) := .len rfl h (by rw [List.length_replicate]; omega)
end L2
namespace L2
open PySem PySem.Spec PyProof.Rows LamX
/-- which error a call lets out, by its class, field and word -/
def EErr (L : List (Addr × Str × Str)) (Q : VK) : XK := fun cls d H' => ∃ dx C f w v, d = some dx ∧ (C, f, w) ∈ L ∧ cls = .ref C ∧ H' dx = some (.xd [(f, v)]) ∧ ∀ t H'', Same H' H'' → H'' t = some (.tup [.str w, v]) → Q (.ref t) H''
theorem eErr {L : List (Addr × Str × Str)} {Q : VK} {C : Addr} {f w : Str} {v : V} {H : Hp} (h : (C, f, w) ∈ L) (q : ∀ t H', Same H H' → H' t = some (.tup [.str w, v]) → Q (.ref t) H') : Rz (EErr L Q) H C f v := fun dx H' s _ e => ⟨dx, C, f, w, v, rfl, h, rfl, e, fun t H'' s2 ht => q t H'' (s.trans s2) ht⟩
/-- .. and what is told if none comes -/
def TTerr (L : List (Addr × Str × Str)) (end_ : V) : (XK → Hp → VK → Prop) → Hp → VK → Prop := fun tl H Q => tl (EErr L Q) H fun _ H' => Q end_ H'
/-- an answer, or none -/
def okBool (H : Hp) (v : V) (b : Bool) : Prop := ∃ T, AnyV H v T ∧ b = decide (T = "bool")
theorem okBool.ext {H H' : Hp} {v : V} {b : Bool} (e : ExtN H H') (h : okBool H v b) : okBool H' v b := h.imp fun _ h => ⟨h.1.ext e, h.2⟩
abbrev AnsQ := RowQ okBool
theorem ansExt {H H' : Hp} {v : V} {lo hi : Int} {r : Option Int} (e : ExtN H H') (h : AnsQ H v lo hi r) : AnsQ H' v lo hi r := RowQ.ext (ok := okBool) (fun {H1 H2 v b} e h => okBool.ext (H := H1) (H' := H2) (v := v) (b := b) e h) e h
theorem AnyV.kitBool {K : PySem.W.Frag} {H : Hp} {v : V} {T : String} (h : AnyV H v T) : PySem.W.kitOne K (.type T) (.type "bool") = some (decide (T = "bool")) := by
  cases h <;> exact kit_ty (by decide +kernel)
end L2

/-! lambdas that stand in lists, called one by one in a comprehension of the def that made them -/
namespace L2
open PySem PySem.Spec PyProof.Rows PySem.W LamX
/-- at f stands a lambda of X's text: t is what its body does -/
def LamRun (X : Cx) (k : Nat) (t : XK → TE) (f : Addr) (H : Hp) : Prop := ∃ params body scope, LamAt H f (lamD X params body scope) ∧ LamGood X k params body scope t
theorem LamRun.ext {X : Cx} {k : Nat} {t : XK → TE} {f : Addr} {H H' : Hp} (e : ExtN H H') (h : LamRun X k t f H) : LamRun X k t f H' := by
  obtain ⟨a, b, c, h1, h2⟩ := h
  exact ⟨a, b, c, h1.ext e, h2⟩
def tLamR (X : Cx) (k : Nat) (T : List (Addr × Str)) (t : XK → TE) : TE := fun σ H Q => Tabs T H ∧ ∀ (H1 : Hp) (f : Addr), ExtN H H1 → Tabs T H1 → LamRun X k t f H1 → Q (.ref f) H1
section
variable {X : Cx}
theorem pe_lamR {k : Nat} {T : List (Addr × Str)} {c P : Addr} {params : Arguments} {body : Expr} {scope : Scope} {pos : Pos} {t : XK → TE} (TB : TabB X.base X.mg c P) (hcode : X.env.code = .ref c) (hmT : (P, X.env.qual ++ "<lambda>") ∈ T) (hu : ∀ p ∈ T, p.1 = P → p.2 = X.env.qual ++ "<lambda>")
    (hfree : ∀ y ∈ scope.names, y.2 = .free → X.env.scope.names.lookup y.1 = some .cell ∨ X.env.scope.names.lookup y.1 = some .free)
    (hk0 : params.kw_defaults = []) (hdef : params.defaults = [] ∨ ∃ j pc, params.defaults = [.Constant (.int 0) j pc]) (LG : LamGood X k params body scope t) : PE X (.Lambda params body scope pos) (tLamR X k T t) :=
  ⟨fun pins s σ H Q I h => (pe_lamO TB hcode hmT hu hfree hk0 hdef).run pins s σ H Q I ⟨h.1, fun H1 f e1 T1 _ hL => h.2 H1 f e1 T1 ⟨_, _, _, hL, LG⟩⟩⟩
/-- x(e), e a kept lambda of this def -/
theorem pe_callLamR {TT : (XK → Hp → VK → Prop) → Hp → VK → Prop} {x a : Str} {st : Stmt} {g : Addr} {k : Nat} {fd : FuncData} {Ng : List Str} {e : Expr} {te : TE} {p pos : Pos}
    (F : Fun X.K x x st g fd) (hg : Gl X x) (hm : X.mg x = some (.ref g)) (hk : PySem.W.keepIn X.K (.ref g) = true) (hb : L2.Binds X.K fd [a] []) (Sg : FnScope Ng [a] (defScope st)) (hNg : Ng[0]? = some a) (hva : Vis (defScope st) a)
    (hG : GivesTo1 X.prog X.w X.K X.mg X.base (k + 1) Ng x (defScope st) g (defBody st) a TT) (hr : Room (k + 2) X.A) (he : PE X e te)
    (hst : starEach [e] X.env = (false, eval e X.env) :: starEach [] X.env := by rfl) (hpl : (backTo pos (starEach [] X.env)).any (·.1) = false := by rfl)
    (hdb : (x == ("__debug__" : Str)) = false := by decide) (hd : (a == ("__debug__" : Str)) = false := by decide) (hcd : (a == ("__classdict__" : Str)) = false := by decide) :
    PE X (.Call (.Name x p) [e] [] pos) (fun σ H Q => te σ H fun v H1 => ∃ f t, v = .ref f ∧ LamRun X k t f H1 ∧ TT (fun E H' Q' => t E σ H' Q') H1 Q) := by
  refine ⟨fun pins s σ H Q I h => ?_⟩
  refine wpAny_Call_Name_kw (ld_glob I hg hm ?_ hdb)
  refine PySem.W.callWith_K (h₀ := X.base) I.ok.mod.kin hk ?_ hst hpl
  refine thn ((pa_cons he pa_nil hst).run pos pins s σ H (fun vs H1 => match vs with | [v] => ∃ f t, v = .ref f ∧ LamRun X k t f H1 ∧ TT (fun E H' Q' => t E σ H' Q') H1 Q | _ => False) I h) fun us s1 ⟨vs, H1, I1, r, q⟩ => ?_
  match vs, q, r with
  | [v], q, r =>
  obtain ⟨f, t, rfl, ⟨params, body, scope, hL, LG⟩, q⟩ := q
  obtain rfl := Vals.ref1 r
  refine ⟨I1.kIn, wpAny_call (codeAny_mono (run_lamO F hb Sg hNg hva hG LG hr I1 hL q hd hcd) fun r s2 hq => ?_)⟩
  cases r with
  | error e => exact (show False from hq).elim
  | ok fl =>
    cases fl with
    | ret u => exact I1.after hq
    | next => exact False.elim hq
    | brk => exact False.elim hq
    | cont => exact False.elim hq
/-- what a block's turns know: the def that waits, and the walk's own objects -/
structure Held0 (X : Cx) (pins : List (Addr × Obj)) (σ : L2.St) (H : Hp) (s : Shared) (fp : List Addr) : Prop where
  inv : Inv X pins σ H s
  fps : ∀ b ∈ fp, FpOk X pins H b ∧ b < s.heap.objs.size
theorem Held0.back {pins : List (Addr × Obj)} {σ : L2.St} {H H' : Hp} {s s' : Shared} {fp : List Addr} {scope : Scope} {ce : Env} {pins' : List (Addr × Obj)} {σ' : L2.St} (B : Held0 X pins σ H s fp) (I : Inv (X.blk s H scope ce fp) pins' σ' H' s') : Inv X pins σ H' s' :=
  B.inv.call' (ch := fp) I.os I.base I.hok I.bare fun b hb => ⟨(B.fps b hb).1.2.2.2.1, (B.fps b hb).1.2.1, (B.fps b hb).1.2.2.2.2.1, (B.fps b hb).1.2.2.2.2.2⟩
/-- .. in a comprehension's block -/
abbrev tLamB (X : Cx) (k : Nat) (TT : (XK → Hp → VK → Prop) → Hp → VK → Prop) (σ : L2.St) (te : TE) : TE := fun σB HB Q => te σB HB fun v H1 => ∃ f t, v = .ref f ∧ LamRun X k t f H1 ∧ TT (fun E H' Q' => t E σ H' Q') H1 Q
theorem pe_callLamB {TT : (XK → Hp → VK → Prop) → Hp → VK → Prop} {x a : Str} {st : Stmt} {g : Addr} {k : Nat} {fd : FuncData} {Ng : List Str} {e : Expr} {te : TE} {p pos : Pos} {pins : List (Addr × Obj)} {σ : L2.St} {H : Hp} {s : Shared} {fp : List Addr} {scope : Scope} {ce : Env}
    (B : Held0 X pins σ H s fp) (F : Fun X.K x x st g fd) (hg : Gl (X.blk s H scope ce fp) x) (hm : X.mg x = some (.ref g)) (hk : PySem.W.keepIn X.K (.ref g) = true) (hb : L2.Binds X.K fd [a] []) (Sg : FnScope Ng [a] (defScope st)) (hNg : Ng[0]? = some a) (hva : Vis (defScope st) a)
    (hG : GivesTo1 X.prog X.w X.K X.mg X.base (k + 1) Ng x (defScope st) g (defBody st) a TT) (hr : Room (k + 2) X.A) (he : PE (X.blk s H scope ce fp) e te)
    (hst : starEach [e] ce = (false, eval e ce) :: starEach [] ce := by rfl) (hpl : (backTo pos (starEach [] ce)).any (·.1) = false := by rfl)
    (hdb : (x == ("__debug__" : Str)) = false := by decide) (hd : (a == ("__debug__" : Str)) = false := by decide) (hcd : (a == ("__classdict__" : Str)) = false := by decide) :
    PE (X.blk s H scope ce fp) (.Call (.Name x p) [e] [] pos) (tLamB X k TT σ te) := by
  refine ⟨fun pinsB sB σB HB Q IB h => ?_⟩
  refine wpAny_Call_Name_kw (ld_glob IB hg hm ?_ hdb)
  refine PySem.W.callWith_K (h₀ := X.base) IB.ok.mod.kin hk ?_ hst hpl
  refine thn ((pa_cons he pa_nil hst).run pos pinsB sB σB HB (fun vs H1 => match vs with | [v] => ∃ f t, v = .ref f ∧ LamRun X k t f H1 ∧ TT (fun E H' Q' => t E σ H' Q') H1 Q | _ => False) IB h) fun us s1 ⟨vs, H1, I1, r, q⟩ => ?_
  match vs, q, r with
  | [v], q, r =>
  obtain ⟨f, t, rfl, ⟨params, body, scope, hL, LG⟩, q⟩ := q
  obtain rfl := Vals.ref1 r
  have rc := run_lamO (X := X) F hb Sg hNg hva hG LG hr (B.back I1) hL q hd hcd
  refine ⟨I1.kIn, wpAny_call (codeAny_mono rc fun r s2 hq => ?_)⟩
  cases r with
  | error e => exact (show False from hq).elim
  | ok fl =>
    cases fl with
    | ret u => exact I1.after hq
    | next => exact False.elim hq
    | brk => exact False.elim hq
    | cont => exact False.elim hq
end
section
variable {X : Cx}
/-- a comprehension whose turns know the def that waits -/
theorem pe_lcH {elt tg iter : Expr} {scope : Scope} {own : List (Str × Nat)} {pos : Pos} {wi : TI} {g : TG} {te : L2.St → TE} (hc : X.calm = true) (hN : X.N.Nodup) (hi : PI X tg iter wi) (ok : BlkOk X.N X.env.scope scope own)
    (hg : ∀ (s : Shared) (H : Hp) (C : Addr) (cl : List (Str × Addr)) (fp : List Addr), PG (X.blk s H scope (compEnvC scope cl C X.env) fp) tg g)
    (he : ∀ (pins : List (Addr × Obj)) (σ : L2.St) (s : Shared) (H : Hp) (C : Addr) (cl : List (Str × Addr)) (fp : List Addr), Held0 X pins σ H s fp → PE (X.blk s H scope (compEnvC scope cl C X.env) fp) elt (te σ)) (hs : ∀ x, foldedSetIterable iter X.env x = pure x := by intro _; rfl) :
    PE X (.ListComp elt [⟨tg, iter, [], 0⟩] scope pos) (fun σ H Q => tLc wi g tYes (te σ) (own.map (·.2)) σ H Q) := by
  constructor
  intro pins s σ H Q I h
  have cells : ∀ y ∈ scope.names, y.2 = .free → ∃ c, X.env.cells.lookup y.1 = some c := fun y hy e => (ok.free y hy e).elim (fun k => I.ok.has _ (.inl k)) fun k => I.ok.has _ (.inr k)
  rw [eval_ListComp]
  refine wpAny_comprehension_free (use := none) rfl hs (closure_ok cells) ok.kind (fun y hy e => (ok.uniq y hy).trans (by rw [e])) (thn (hi.run pins s σ H _ I h) fun _ _ hx => thn hx fun _ s2 h2 => ?_)
  obtain ⟨it, fp, tn, J, H2, rfl, I2, T, st2, f2, q⟩ := h2
  refine wpAny_newObj_type (newEnv_comp ?_) (by show 0 ≤ sizeLine; decide)
  have nD : H2 s2.heap.objs.size = none := I2.hok.fresh (Nat.le_refl _)
  obtain ⟨W, ⟨m0, w0⟩, turn⟩ := q _ nD
  have I3 := I2.laid (t' := s2.toks) (h' := s2.heap.push { cls := .type "list", data := .seq ([] : List Value).toArray }) (a := s2.heap.objs.size) (o := .lst []) (fun b o e => Heap.get?_push_of_some _ e) (Nat.le_refl _) ⟨Nat.zero_le _, [], 0, .nil, Heap.get?_push_size _ rfl⟩
  have B3 : ∀ b ∈ fp, FpOk X pins (upd H2 s2.heap.objs.size (.lst [])) b ∧ b < (s2.heap.push { cls := .type "list", data := .seq ([] : List Value).toArray }).objs.size := fun b hb => by
    obtain ⟨o, e, _⟩ := T.obj _ _ st2 b hb
    have l := Heap.lt_size e
    exact ⟨⟨(upd_ne (Nat.ne_of_lt l)).trans (f2 b hb).1, (f2 b hb).2⟩, by rw [Heap.size_push]; exact Nat.lt_succ_of_lt l⟩
  have t3 : tn 0 (s2.heap.push { cls := .type "list", data := .seq ([] : List Value).toArray }) := T.keep _ _ _ st2 fun b _ o e => Heap.get?_push_of_some _ e
  generalize hs3 : ({ s2 with heap := s2.heap.push { cls := .type "list", data := .seq ([] : List Value).toArray } } : Shared) = s3 at I3
  have e3 : s3.heap = s2.heap.push { cls := .type "list", data := .seq ([] : List Value).toArray } := by rw [← hs3]
  rw [← e3] at B3 t3
  generalize hDD : s2.heap.objs.size = D at nD w0 turn I3 B3 ⊢
  generalize hH3 : upd H2 D (.lst []) = H3 at I3 B3 w0
  have HB : Held0 X pins σ H3 s3 fp := ⟨I3, B3⟩
  have I4 := block_start I3 ok hN B3
  have pg := hg s3 H3 s3.heap.objs.size (cellsFrom (s3.heap.objs.size + 1) scope.names (cloFrom X.env.cells scope.names [])) fp
  have pe := he pins σ s3 H3 s3.heap.objs.size (cellsFrom (s3.heap.objs.size + 1) scope.names (cloFrom X.env.cells scope.names [])) fp HB
  show codeAny _ _ (.compStart (.ListComp elt [⟨tg, iter, [], 0⟩] scope pos) 0 (.ref it) (.ref D) (compEnvC scope (cellsFrom (s3.heap.objs.size + 1) scope.names (cloFrom X.env.cells scope.names [])) s3.heap.objs.size X.env)) (compPost (model X.prog X.w) X.A X.xe none _ (.ref D) s3.heap.objs.size) { s3 with heap := pushCells (s3.heap.push { cls := .type "dict", data := .dict #[] }) scope.names }
  generalize hce : compEnvC scope (cellsFrom (s3.heap.objs.size + 1) scope.names (cloFrom X.env.cells scope.names [])) s3.heap.objs.size X.env = ce at I4 pg pe ⊢
  have cL : ce.locals = s3.heap.objs.size := by rw [← hce]; rfl
  have t4 : tn 0 (pushCells (s3.heap.push { cls := .type "dict", data := .dict #[] }) scope.names) := T.keep _ _ _ t3 fun b _ o e => pushCells_keeps _ _ _ _ (Heap.get?_push_of_some _ e)
  generalize hs4 : ({ s3 with heap := pushCells (s3.heap.push { cls := .type "dict", data := .dict #[] }) scope.names } : Shared) = s4 at I4 ⊢
  have t4 : tn 0 s4.heap := by rw [← hs4]; exact t4
  have stay : ∀ {σ' : L2.St} {H' : Hp} {s' : Shared}, Inv (X.blk s3 H3 scope ce fp) [] σ' H' s' → (∀ b ∈ fp, H' b = none) → ∀ b ∈ fp, FpOk (X.blk s3 H3 scope ce fp) [] H' b := fun {σ' H' s'} I' hn b hb =>
    ⟨hn b hb, (I'.ok.exf b hb).1, I'.ok.exfs b hb, .inl hb, fun x c e => (I'.ok.exf b hb).2 x c e, fun p hp => absurd (show p ∈ ([] : List (Addr × Obj)) ++ [] from hp) (by simp)⟩
  have go : codeAny (model X.prog X.w) X.A (.compLoop (.ListComp elt [⟨tg, iter, [], 0⟩] scope pos) 0 (.ref it) (.ref D) ce) (compPost (model X.prog X.w) X.A X.xe none (EP X pins σ Q) (.ref D) s3.heap.objs.size) s4 := by
    refine compLoop_any (fun n s' => ∃ i H', Inv (X.blk s3 H3 scope ce fp) [] (wipe σ (own.map (·.2))) H' s' ∧ tn i s'.heap ∧ (∀ b ∈ fp, H' b = none) ∧ W i n H') (fun n s5 => ?_) m0 ⟨0, H3, I4, t4, fun b hb => (B3 b hb).1.1, w0⟩
    rintro ⟨i, H5, I5, t5, n5, w5⟩
    rcases turn i n H5 w5 with ⟨stop, done⟩ | ⟨go, Nx, hNx, step⟩
    · refine thnF (T.done (X.blk s3 H3 scope ce fp) rfl rfl rfl hc i [] s5 _ H5 (fun _ _ => False) I5 (stay I5 n5) t5 stop) fun r s6 ⟨hr, I6⟩ => ?_
      subst hr
      have I7 := HB.back I6
      have nC : H5 s3.heap.objs.size = none := cL ▸ (show H5 ce.locals = none from I6.free)
      obtain ⟨m, hn, _⟩ := I6.loc
      have hn : s6.heap.Ns ce.locals m := hn
      rw [cL] at hn
      obtain ⟨k0, k1, k2, k3, k4, k5⟩ := I3.fpOk (Nat.le_refl _) nC
      exact ⟨m, hn, fun h' sb => ⟨.ref D, H5, I7.turned (t' := s6.toks) (fun b o hb e => (sb.2 b hb).trans e) k0 k1 k3 k4 k5, rfl, done⟩⟩
    · refine thnF (T.item (X.blk s3 H3 scope ce fp) rfl rfl rfl hc i [] s5 _ H5 (fun _ _ => False) I5 (stay I5 n5) t5 go) fun r s6 ⟨u, hr, h6⟩ => ?_
      subst hr
      refine thnF h6 fun _ s7 ⟨x, H7, I7, r7, y7, t7, n7⟩ => ?_
      refine thnF (pg.run _ s7 _ H7 x u _ (I7.pinned (stay I7 n7) (T.obj _ _ t7)) r7 (step x H7 y7)) fun _ s8 ⟨σ8, H8, I8, hw8, q8⟩ => ?_
      refine thnF ((pts_nil (X := X.blk s3 H3 scope ce fp)).run _ s8 σ8 H8 _ I8 q8) fun b s9 ⟨H9, I9, q9⟩ => ?_
      have fin : ∀ {s' : Shared} {H' : Hp}, Inv (X.blk s3 H3 scope ce fp) ([] ++ pinsAt fp s7.heap) σ8 H' s' → Nx H' → ∃ m, m < n ∧ ∃ i H', Inv (X.blk s3 H3 scope ce fp) [] (wipe σ (own.map (·.2))) H' s' ∧ tn i s'.heap ∧ (∀ b ∈ fp, H' b = none) ∧ W i m H' := fun {s' H'} I' nx => by
        obtain ⟨m', hm, w'⟩ := hNx H' nx
        have pin : ∀ b ∈ fp, ∀ o, s7.heap.get? b = some o → s'.heap.get? b = some o ∧ H' b = none := fun b hb o e => ⟨(I'.pin (b, o) (List.mem_append_right _ (List.mem_append_right _ (mem_pinsAt hb e)))).1, (I'.pin (b, o) (List.mem_append_right _ (List.mem_append_right _ (mem_pinsAt hb e)))).2.1⟩
        refine ⟨m', hm, i + 1, H', (I'.unpinned (pins := [])).weak ?_ (fun j v e => ?_), T.keep _ _ _ t7 fun b hb o e => (pin b hb o e).1, fun b hb => ?_, w'⟩
        · rw [← hw8, wipe_length]
        · rw [← hw8] at e
          exact (wipe_some e).1
        · obtain ⟨o, e, _⟩ := T.obj _ _ t7 b hb
          exact (pin b hb o e).2
      cases b with
      | false =>
        simp only [Bool.false_eq_true, if_false] at q9 ⊢
        exact fin I9 q9
      | true =>
        simp only [if_true] at q9 ⊢
        refine thnF (pe.run _ s9 σ8 H9 _ I9 q9) fun z s10 ⟨yv, H10, I10, r10, acc, hD10, hz10, nx⟩ => ?_
        exact app_ok (X := X.blk s3 H3 scope ce fp) I10 hD10 hz10 r10 fun s11 I11 => fin I11 nx
  exact codeAny_compStart_list go (T.self X.A 0 _ _ _ t4 go)
end
end L2
namespace L2
open PySem PySem.Spec PyProof.Rows PySem.W LamX
theorem tabsPut {TT : List (Addr × Str)} {H : Hp} {D : Addr} {xs : List V} {o : HO} (t : Tabs TT H) (hs : H D = some (.lst xs)) : Tabs TT (upd H D o) := fun p hp => by
  obtain ⟨ps, h1, h2, h3⟩ := t p hp
  refine ⟨ps, ?_, h2, fun pos cv hc => ?_⟩
  · rw [upd_ne (fun e => by rw [e, hs] at h1; cases h1)]
    exact h1
  · obtain ⟨c, e1, e2⟩ := h3 pos cv hc
    refine ⟨c, e1, ?_⟩
    rw [upd_ne (fun e => ?_)]
    · exact e2
    · rw [e, hs] at e2
      have e3 := Option.some.inj e2
      unfold LamX.CodeO at e3
      cases e3
theorem LamRun.put {X : Cx} {k : Nat} {t : XK → TE} {f : Addr} {H : Hp} {D : Addr} {xs : List V} {o : HO} (h : LamRun X k t f H) (h4 : H D = some (.lst xs)) : LamRun X k t f (upd H D o) := by
  obtain ⟨p1, p2, p3, ⟨c', dV, z1, z2, z3⟩, z4⟩ := h
  have nf : ∀ {b : Addr} {q : HO}, H b = some q → (∀ xs, q ≠ .lst xs) → upd H D o b = some q := fun {b q} h n => by
    rw [upd_ne (fun q => by rw [q, h4] at h; exact n _ (Option.some.inj h).symm)]
    exact h
  exact ⟨p1, p2, p3, ⟨c', dV, nf z1 (fun xs y => by unfold FunO at y; cases y), nf z2 (fun xs y => by unfold LamX.CodeO at y; cases y), z3.imp id fun ⟨n, t0, y1, y2⟩ => ⟨n, t0, y1, nf y2 fun xs y => by cases y⟩⟩, z4⟩
/-- what calls have told so far, one by one -/
def SaidInv (T : List (Addr × Str)) (H5 : Hp) (D : Addr) (w : Str) (v : V) (i : Nat) (H' : Hp) : Prop := ExtN H5 H' ∧ Tabs T H' ∧ ∃ ts : List V, H' D = some (.lst ts) ∧ ts.length = i ∧ ∀ r ∈ ts, ∃ t, r = .ref t ∧ H' t = some (.tup [.str w, v])
theorem SaidInv.init {T : List (Addr × Str)} {H5 : Hp} {D : Addr} {w : Str} {v : V} (hD : H5 D = none) (T5 : Tabs T H5) : SaidInv T H5 D w v 0 (upd H5 D (.lst [])) := ⟨.of (same_upd hD), T5.ext (same_upd hD), [], upd_same, rfl, fun r h => by cases h⟩
theorem SaidInv.next {T : List (Addr × Str)} {H5 H' H'' : Hp} {D t : Addr} {w : Str} {v : V} {i : Nat} (h5 : H5 D = none) (I : SaidInv T H5 D w v i H') (e : ExtN H' H'') (T2 : Tabs T H'') (ht : H'' t = some (.tup [.str w, v])) (hi : i < 1000) : ∃ acc, H'' D = some (.lst acc) ∧ acc.length < sizeLine ∧ SaidInv T H5 D w v (i + 1) (upd H'' D (.lst (acc ++ [.ref t]))) := by
  obtain ⟨e1, _, ts, hD, lt, hts⟩ := I
  have hD2 := e _ _ hD fun ps z => by cases z
  have nD : ∀ {z : Addr}, H'' z = some (.tup [.str w, v]) → z ≠ D := fun h q => by rw [q, hD2] at h; cases h
  refine ⟨ts, hD2, Nat.lt_trans (by omega : ts.length < 1000) (by decide), fun b o h n => ?_, tabsPut T2 hD2, ts ++ [.ref t], upd_same, by rw [List.length_append, lt]; rfl, fun r hr => ?_⟩
  · rw [upd_ne (ne_of_none h h5)]
    exact e _ _ (e1 _ _ h n) n
  · rcases List.mem_append.mp hr with hr | hr
    · obtain ⟨z, rfl, hz⟩ := hts r hr
      have hz2 := e _ _ hz fun ps z => by cases z
      exact ⟨z, rfl, by rw [upd_ne (nD hz2)]; exact hz2⟩
    · rw [List.mem_singleton.mp hr]
      exact ⟨t, rfl, by rw [upd_ne (nD ht)]; exact ht⟩
theorem eq_said {w : Str} {v : V} {x : PyData} (hw : PyData.canLay0 (.str w) = true) (hv : Lone v x) (n : Nat) : V.bl (PyData.eqv (.list (List.replicate n (pdW w x))) (.list (List.replicate n (pdW w x)))) = V.bl true := by
  rw [eqv_same (shaped_said hw hv n)]
theorem eq_word {w : Str} {v : V} {x : PyData} (hw : PyData.canLay0 (.str w) = true) (hv : Lone v x) : V.bl (PyData.eqv (pdW w x) (pdW w x)) = V.bl true := by
  rw [eqv_same (shaped_word hw hv)]
end L2

/-! a comprehension of draws, each with a property -/
namespace L2
open PySem PySem.Spec PyProof.Rows
theorem lc_intsP {te : TE} {σ : L2.St} {H1 : Hp} {D p : Addr} {n j : Nat} {vs : List Nat} {Qd : Hp → Prop} (Pr : Int → Prop) (hn : n ≤ 1000000) (hs : Src H1 p) (hD : H1 D = none)
    (hw : ∀ v, wipe ((wipe σ vs).set j v) vs = wipe σ vs)
    (he : ∀ (k : Nat) (H3 : Hp) (R : VK), k < n → Dn p H1 H3 → (∀ (v : Int) (H4 : Hp), Pr v → Dn p H3 H4 → R (.int v) H4) → te ((wipe σ vs).set j (some (.int (0 + (k : Nat))))) H3 R)
    (hd : ∀ (ms : List Int) (H' : Hp), ms.length = n → (∀ v ∈ ms, Pr v) → Dn p H1 H' → H' D = some (.lst (ms.map V.int)) → Qd H') :
    ∃ W : Nat → Nat → Hp → Prop, (∃ m, W 0 m (L2.upd H1 D (.lst []))) ∧ ∀ i m H, W i m H →
      ((Itr 0 n).stop i H ∧ Qd H) ∨ ((Itr 0 n).go i H ∧ ∃ Nx : Hp → Prop, (∀ H', Nx H' → ∃ m', m' < m ∧ W (i + 1) m' H') ∧ ∀ x H', (Itr 0 n).yld i H x H' → gName j x (wipe σ vs) H' fun σ2 H2 => wipe σ2 vs = wipe σ vs ∧ tYes σ2 H2 fun b H3 =>
        if b = true then te σ2 H3 fun y H4 => ∃ acc, H4 D = some (.lst acc) ∧ acc.length < sizeLine ∧ Nx (L2.upd H4 D (.lst (acc ++ [y]))) else Nx H3) := by
  have nD : D ≠ p := hs.ne hD
  refine lc_range (lo := 0) (n := n) (fun i H => ∃ ms : List Int, ms.length = i ∧ (∀ v ∈ ms, Pr v) ∧ Dn p H1 H ∧ H D = some (.lst (ms.map V.int))) ⟨[], rfl, fun v h => by simp at h, (Dn.refl hs).new hD, upd_same⟩ ?_ ?_
  · rintro i H hi ⟨ms, hl, hp, dr, hh⟩
    refine ⟨hw _, ?_⟩
    refine he i H _ hi dr fun v H4 pv d4 => ?_
    have h4 := d4.1 _ _ nD hh
    refine ⟨_, h4, ?_, ms ++ [v], by simp [hl], fun z hz => ?_, ?_, ?_⟩
    · rw [List.length_map, hl]
      exact Nat.lt_of_le_of_lt (Nat.le_trans (Nat.le_of_lt hi) hn) (by decide)
    · rcases List.mem_append.mp hz with h | h
      · exact hp z h
      · rw [List.mem_singleton.mp h]
        exact pv
    · have dd := dr.trans d4
      refine ⟨fun b o nb e => ?_, dd.2.upd nD⟩
      rw [upd_ne (ne_of_none e hD)]
      exact dd.1 b o nb e
    · rw [show (ms ++ [v]).map V.int = ms.map V.int ++ [V.int v] from by simp]
      exact upd_same
  · rintro H ⟨ms, hl, hp, dr, hh⟩
    exact hd ms H hl hp dr hh
/-- tuple(x), whatever the frame is -/
def rTupOf (K : PySem.W.Frag) : List V → Hp → VK → Prop := fun xs H Q => ∃ p ys, xs = [V.ref p] ∧ ((SqL K H p ys ∧ ∀ l, H l = none → Q (.ref l) (upd H l (.tup ys))) ∨ (SqT K H p ys ∧ Q (.ref p) H))
theorem seqN {K : PySem.W.Frag} {H H' : Hp} {a : Addr} {xs : List V} (e : LamX.ExtN H H') (h : SqL K H a xs) : SqL K H' a xs := by
  rcases h with (h | ⟨o, h⟩) | h
  · exact .inl (.inl (e _ _ h fun ps z => by cases z))
  · exact .inl (.inr ⟨o, e _ _ h fun ps z => by cases z⟩)
  · exact .inr h
theorem lc_boolsD {te : TE} {σ : L2.St} {H1 : Hp} {D p : Addr} {n j : Nat} {vs : List Nat} {Qd : Hp → Prop} (hn : n ≤ 1000000) (hs : Src H1 p) (hD : H1 D = none)
    (hw : ∀ v, wipe ((wipe σ vs).set j v) vs = wipe σ vs)
    (he : ∀ (k : Nat) (H3 : Hp) (R : VK), k < n → Dn p H1 H3 → (∀ (v : Bool) (H4 : Hp), Dn p H3 H4 → R (.bl v) H4) → te ((wipe σ vs).set j (some (.int (0 + (k : Nat))))) H3 R)
    (hd : ∀ (ms : List Bool) (H' : Hp), ms.length = n → Dn p H1 H' → H' D = some (.lst (ms.map V.bl)) → Qd H') :
    ∃ W : Nat → Nat → Hp → Prop, (∃ m, W 0 m (L2.upd H1 D (.lst []))) ∧ ∀ i m H, W i m H →
      ((Itr 0 n).stop i H ∧ Qd H) ∨ ((Itr 0 n).go i H ∧ ∃ Nx : Hp → Prop, (∀ H', Nx H' → ∃ m', m' < m ∧ W (i + 1) m' H') ∧ ∀ x H', (Itr 0 n).yld i H x H' → gName j x (wipe σ vs) H' fun σ2 H2 => wipe σ2 vs = wipe σ vs ∧ tYes σ2 H2 fun b H3 =>
        if b = true then te σ2 H3 fun y H4 => ∃ acc, H4 D = some (.lst acc) ∧ acc.length < sizeLine ∧ Nx (L2.upd H4 D (.lst (acc ++ [y]))) else Nx H3) := by
  have nD : D ≠ p := hs.ne hD
  refine lc_range (lo := 0) (n := n) (fun i H => ∃ ms : List Bool, ms.length = i ∧ Dn p H1 H ∧ H D = some (.lst (ms.map V.bl))) ⟨[], rfl, (Dn.refl hs).new hD, upd_same⟩ ?_ ?_
  · rintro i H hi ⟨ms, hl, dr, hh⟩
    refine ⟨hw _, ?_⟩
    refine he i H _ hi dr fun v H4 d4 => ?_
    have h4 := d4.1 _ _ nD hh
    refine ⟨_, h4, ?_, ms ++ [v], by simp [hl], ?_, ?_⟩
    · rw [List.length_map, hl]
      exact Nat.lt_of_le_of_lt (Nat.le_trans (Nat.le_of_lt hi) hn) (by decide)
    · have dd := dr.trans d4
      refine ⟨fun b o nb e => ?_, dd.2.upd nD⟩
      rw [upd_ne (ne_of_none e hD)]
      exact dd.1 b o nb e
    · rw [show (ms ++ [v]).map V.bl = ms.map V.bl ++ [V.bl v] from by simp]
      exact upd_same
  · rintro H ⟨ms, hl, dr, hh⟩
    exact hd ms H hl dr hh
end L2

/-! readings of a row with something put in: xs[:i] + ys + xs[j:] -/
namespace L2
open PySem PySem.Spec PyProof.Rows LamX
section
variable {K : PySem.W.Frag} {σ : St} {H : Hp} {Q : VK}
/-- a part that is a number -/
def PartIs (σ : St) (t : TO) (o : Option Int) : Prop := ∀ H Q, Q o H → t σ H Q
theorem partNone : PartIs σ tNoPart none := fun _ _ q => q
theorem partVar {j : Nat} {i : Int} (h : σ[j]? = some (some (.int i))) : PartIs σ (tPart (tVar j)) (some i) := fun _ _ q => ⟨_, h, _, rfl, q⟩
/-- a slice of a list -/
theorem sl_go {i : Nat} {m : Addr} {xs : List V} {lo hi : TO} {l u : Option Int} (h1 : σ[i]? = some (some (.ref m))) (hm : H m = some (.lst xs)) (hl : PartIs σ lo l) (hu : PartIs σ hi u)
    (q : ∀ p H', H p = none → Same H H' → H' p = some (.lst (cutV xs l u)) → Q (.ref p) H') : tSl (rSlL K) (tVar i) lo hi σ H Q :=
  ⟨_, h1, hl _ _ (hu _ _ ⟨m, xs, rfl, L2.sq_of hm, fun p hp => q p _ hp (same_upd hp) upd_same⟩)⟩
/-- a displayed list of things that lie in the slots -/
def LstIs (σ : St) (t : TE) (ys : List V) : Prop := ∀ (H : Hp) (Q : VK), (∀ p H', Same H H' → H' p = some (.lst ys) → Q (.ref p) H') → t σ H Q
theorem cat_go {ta tb : TE} {xs ys : List V} {H : Hp} {Q : VK} (ha : ∀ Q1 : VK, (∀ p H', Same H H' → H' p = some (.lst xs) → Q1 (.ref p) H') → ta σ H Q1) (hb : ∀ (H1 : Hp) (Q1 : VK), Same H H1 → (∀ p H', Same H1 H' → H' p = some (.lst ys) → Q1 (.ref p) H') → tb σ H1 Q1)
    (sz : xs.length + ys.length ≤ sizeLine) (q : ∀ p H', H p = none → Same H H' → H' p = some (.lst (xs ++ ys)) → Q (.ref p) H') : tOp (rCatS K) ta tb σ H Q :=
  ha _ fun p1 H1 s1 k1 => hb H1 _ s1 fun p2 H2 s2 k2 => ⟨p1, p2, _, _, rfl, rfl, L2.sq_of (s2 _ _ k1), L2.sq_of k2, sz, fun p3 hp3 => q p3 _ ((s1.trans s2).free hp3) ((s1.trans s2).trans (same_upd hp3)) upd_same⟩
theorem cat3r {i : Nat} {m : Addr} {xs ys : List V} {k j : Nat} {tl : TE} {hi lo : TO} (h1 : σ[i]? = some (some (.ref m))) (hm : H m = some (.lst xs)) (hu : PartIs σ hi (some (k : Int))) (hlo : PartIs σ lo (some (j : Int))) (hl : ∀ (H1 : Hp) (Q1 : VK), Same H H1 → (∀ p H', Same H1 H' → H' p = some (.lst ys) → Q1 (.ref p) H') → tl σ H1 Q1)
    (sz : xs.length + ys.length + xs.length ≤ sizeLine) (q : ∀ p H', H p = none → Same H H' → H' p = some (.lst (xs.take k ++ ys ++ xs.drop j)) → Q (.ref p) H') :
    tOp (rCatS K) (tOp (rCatS K) (tSl (rSlL K) (tVar i) tNoPart hi) tl) (tSl (rSlL K) (tVar i) lo tNoPart) σ H Q := by
  have t1 : (xs.take k).length ≤ xs.length := by rw [List.length_take]; exact Nat.min_le_right _ _
  have t2 : (xs.drop j).length ≤ xs.length := by rw [List.length_drop]; exact Nat.sub_le _ _
  refine cat_go (xs := xs.take k ++ ys) (ys := xs.drop j) (fun Q1 q1 => cat_go (xs := xs.take k) (ys := ys) (fun Q2 q2 => sl_go h1 hm partNone hu fun p H' _ s e => q2 p H' s (by rw [← cut_take]; exact e)) (fun H1 Q2 s2 q2 => hl H1 Q2 s2 q2) (by omega) fun p H' _ => q1 p H')
    (fun H1 Q2 s1 q2 => sl_go h1 (s1 _ _ hm) hlo partNone fun p H' _ s e => q2 p H' s (by rw [← cut_drop]; exact e)) (by rw [List.length_append]; omega) q
theorem cat3 {i : Nat} {m : Addr} {xs ys : List V} {k j : Nat} {tl : TE} {hi lo : TO} (h1 : σ[i]? = some (some (.ref m))) (hm : H m = some (.lst xs)) (hu : PartIs σ hi (some (k : Int))) (hlo : PartIs σ lo (some (j : Int))) (hl : LstIs σ tl ys)
    (sz : xs.length + ys.length + xs.length ≤ sizeLine) (q : ∀ p H', H p = none → Same H H' → H' p = some (.lst (xs.take k ++ ys ++ xs.drop j)) → Q (.ref p) H') :
    tOp (rCatS K) (tOp (rCatS K) (tSl (rSlL K) (tVar i) tNoPart hi) tl) (tSl (rSlL K) (tVar i) lo tNoPart) σ H Q :=
  cat3r h1 hm hu hlo (fun H1 Q1 _ q1 => hl H1 Q1 q1) sz q
/-- xs + ys, xs a row in a slot -/
theorem cat2 {i : Nat} {m : Addr} {xs ys : List V} {tl : TE} (h1 : σ[i]? = some (some (.ref m))) (hm : H m = some (.lst xs)) (hl : LstIs σ tl ys) (sz : xs.length + ys.length ≤ sizeLine)
    (q : ∀ p H', H p = none → Same H H' → H' p = some (.lst (xs ++ ys)) → Q (.ref p) H') : tOp (rCatS K) (tVar i) tl σ H Q :=
  ⟨_, h1, hl _ _ fun p2 H2 s2 k2 => ⟨m, p2, _, _, rfl, rfl, L2.sq_of (s2 _ _ hm), L2.sq_of k2, sz, fun p3 hp3 => q p3 _ (s2.free hp3) (s2.trans (same_upd hp3)) upd_same⟩⟩
theorem lst1 {j : Nat} {v : V} (h : σ[j]? = some (some v)) : LstIs σ (tLst (tCons (tVar j) tNil)) [v] := fun H Q q => ⟨_, h, by show 1 ≤ sizeLine; decide, fun p hp => q p _ (same_upd hp) upd_same⟩
/-! ### displayed rows, item by item -/
def Stb (G : V → Hp → Prop) : Prop := ∀ v H H', Same H H' → G v H → G v H'
/-- each of the n things is one of G -/
def AllG (σ : St) (ta : TA) (G : V → Hp → Prop) (n : Nat) (H : Hp) : Prop := ∀ Q : List V → Hp → Prop, (∀ vs H', Same H H' → vs.length = n → (∀ y ∈ vs, G y H') → Q vs H') → ta σ H Q
def OneG (σ : St) (te : TE) (G : V → Hp → Prop) (H : Hp) : Prop := ∀ Q : VK, (∀ v H', Same H H' → G v H' → Q v H') → te σ H Q
theorem all_nil {G : V → Hp → Prop} {H : Hp} : AllG σ tNil G 0 H := fun Q q => q [] H (Same.refl H) rfl fun y hy => nomatch hy
theorem all_cons {G : V → Hp → Prop} (st : Stb G) {n : Nat} {te : TE} {ta : TA} {H : Hp} (h : OneG σ te G H) (t : ∀ H1, Same H H1 → AllG σ ta G n H1) : AllG σ (tCons te ta) G (n + 1) H := fun Q q =>
  h _ fun v H1 s1 g1 => t H1 s1 _ fun vs H2 s2 l2 g2 => q (v :: vs) H2 (s1.trans s2) (by rw [List.length_cons, l2]) fun y hy => by
    rcases List.mem_cons.mp hy with rfl | hy
    · exact st _ _ _ s2 g1
    · exact g2 y hy
theorem lst_all {G : V → Hp → Prop} (st : Stb G) {n : Nat} {ta : TA} (h : AllG σ ta G n H) (hn : n ≤ sizeLine) (q : ∀ p vs H', H p = none → Same H H' → H' p = some (.lst vs) → vs.length = n → (∀ y ∈ vs, G y H') → Q (.ref p) H') : tLst ta σ H Q :=
  h _ fun vs H1 s1 l1 g1 => ⟨by rw [l1]; exact hn, fun p hp => q p vs _ (s1.free hp) (s1.trans (same_upd hp)) upd_same l1 fun y hy => st _ _ _ (same_upd hp) (g1 y hy)⟩
theorem tup_all {G : V → Hp → Prop} (st : Stb G) {n : Nat} {ta : TA} (h : AllG σ ta G n H) (hn : n ≤ sizeLine) (q : ∀ p vs H', H p = none → Same H H' → H' p = some (.tup vs) → vs.length = n → (∀ y ∈ vs, G y H') → Q (.ref p) H') : tTup ta σ H Q :=
  h _ fun vs H1 s1 l1 g1 => ⟨by rw [l1]; exact hn, fun p hp => q p vs _ (s1.free hp) (s1.trans (same_upd hp)) upd_same l1 fun y hy => st _ _ _ (same_upd hp) (g1 y hy)⟩
/-- the same, each thing at its place told: what the row is, exactly -/
theorem lst_now {ta : TA} {xs : List V} (h : ∀ Q : List V → Hp → Prop, (∀ H', Same H H' → Q xs H') → ta σ H Q) (hn : xs.length ≤ sizeLine) (q : ∀ p H', Same H H' → H' p = some (.lst xs) → Q (.ref p) H') : tLst ta σ H Q :=
  h _ fun H1 s1 => ⟨hn, fun p hp => q p _ (s1.trans (same_upd hp)) upd_same⟩
theorem rep_of {te tn : TE} {xs : List V} {n : Int} (ht : ∀ Q1 : VK, (∀ p H', Same H H' → H' p = some (.lst xs) → Q1 (.ref p) H') → te σ H Q1) (hn : ∀ (H1 : Hp) (Q1 : VK), Q1 (.int n) H1 → tn σ H1 Q1) (h0 : 0 ≤ n) (h63 : n < 2 ^ 63) (sz : xs.length * n.toNat ≤ sizeLine)
    (q : ∀ p H', Same H H' → H' p = some (.lst (List.replicate n.toNat xs).flatten) → Q (.ref p) H') : tOp rRep te tn σ H Q :=
  ht _ fun p H1 s1 k1 => hn _ _ ⟨p, n, xs, rfl, rfl, k1, by omega, h63, sz, fun p2 hp => q p2 _ (s1.trans (same_upd hp)) upd_same⟩
/-- a pair: a thing, and where it is wrong -/
def PairG (R : V → Int → Hp → Prop) : V → Hp → Prop := fun y H => ∃ t v i, y = .ref t ∧ H t = some (.tup [v, .int i]) ∧ R v i H
theorem pair_stb {R : V → Int → Hp → Prop} (st : ∀ v i H H', Same H H' → R v i H → R v i H') : Stb (PairG R) := fun y H H' s h => by
  obtain ⟨t, v, i, e, ht, r⟩ := h
  exact ⟨t, v, i, e, s _ _ ht, st _ _ _ _ s r⟩
theorem pair_one {R : V → Int → Hp → Prop} (st : ∀ v i H H', Same H H' → R v i H → R v i H') {te tb : TE} {i : Int} {H : Hp} (h : OneG σ te (fun v H => R v i H) H) (hb : ∀ (H1 : Hp) (Q1 : VK), Q1 (.int i) H1 → tb σ H1 Q1) : OneG σ (tTup (tCons te (tCons tb tNil))) (PairG R) H := fun Q q =>
  h _ fun v H1 s1 r1 => hb _ _ ⟨by show 2 ≤ sizeLine; decide, fun t ht => q _ _ (s1.trans (same_upd ht)) ⟨t, v, i, rfl, upd_same, st _ _ _ _ (same_upd ht) r1⟩⟩
theorem mem_rep {n : Nat} {xs : List V} {y : V} (h : y ∈ (List.replicate n xs).flatten) : y ∈ xs := by
  obtain ⟨l, hl, hy⟩ := List.mem_flatten.mp h
  rw [List.mem_replicate] at hl
  rw [hl.2] at hy
  exact hy
theorem len_rep {n : Nat} {xs : List V} : (List.replicate n xs).flatten.length = n * xs.length := by
  induction n with
  | zero => simp
  | succ n ih => rw [List.replicate_succ, List.flatten_cons, List.length_append, ih, Nat.succ_mul, Nat.add_comm]
theorem lst2 {j : Nat} {v : V} (h : σ[j]? = some (some v)) : LstIs σ (tLst (tCons (tVar j) (tCons (tC .non) tNil))) [v, .non] := fun H Q q => ⟨_, h, by show 2 ≤ sizeLine; decide, fun p hp => q p _ (same_upd hp) upd_same⟩
theorem ne_len {H : Hp} {p q : Addr} {xs ys : List V} (h : H p = some (.lst xs)) (g : H q = some (.lst ys)) (n : xs.length ≠ ys.length) : p ≠ q := fun e => by
  rw [e, g] at h
  cases h
  exact n rfl
/-- xs * n -/
theorem rep_go {i : Nat} {m : Addr} {xs : List V} {n : Int} {tn : TE} (h1 : σ[i]? = some (some (.ref m))) (hm : H m = some (.lst xs)) (hn : ∀ (H1 : Hp) (Q1 : VK), Q1 (.int n) H1 → tn σ H1 Q1) (h0 : 0 ≤ n) (h63 : n < 2 ^ 63) (sz : xs.length * n.toNat ≤ sizeLine)
    (q : ∀ p H', Same H H' → H' p = some (.lst (List.replicate n.toNat xs).flatten) → Q (.ref p) H') : tOp rRep (tVar i) tn σ H Q :=
  ⟨_, h1, hn _ _ ⟨m, n, xs, rfl, rfl, hm, by omega, h63, sz, fun p hp => q p _ (same_upd hp) upd_same⟩⟩
/-! ### what a source's drawing leaves -/
theorem any_dn {H H' : Hp} {p : Addr} {v : V} {T : String} (hs : Src H p) (d : Dn p H H') (h : AnyV H v T) : AnyV H' v T := by
  have g : ∀ {b : Addr} {o : HO}, H b = some o → (∀ xs, o ≠ .lst xs) → H' b = some o := fun {b o} e n => d.1 b o (fun z => by
    obtain ⟨x, y, z0, _, e2⟩ := hs
    rw [z, e2] at e
    cases e
    exact n _ rfl) e
  cases h with
  | non => exact .non
  | bl b => exact .bl b
  | int i => exact .int i
  | str x => exact .str x
  | @lst q xs h =>
    by_cases c : q = p
    · obtain ⟨x, y, z, _, e⟩ := d.2
      rw [c]
      exact .lst e
    · exact .lst (d.1 _ _ c h)
  | tup h => exact .tup (g h fun _ z => nomatch z)
  | dK h => exact .dK (g h fun _ z => nomatch z)
theorem row_dn {H H' : Hp} {p q : Addr} {xs : List V} (d : Dn p H H') (n : q ≠ p) (h : RowAt H q xs) : RowAt H' q xs := h.imp (d.1 _ _ n) (d.1 _ _ n)
theorem keys_dn {H H' : Hp} {p : Addr} {v : V} {lo hi : Int} {r : Option Int} (hs : Src H p) (d : Dn p H H') (n : v ≠ .ref p) (h : KeysQ H v lo hi r) : KeysQ H' v lo hi r := by
  have g : ∀ {x : V} {b : Bool}, okInt H x b → okInt H' x b := fun h => h.imp fun _ h => ⟨any_dn hs d h.1, h.2⟩
  cases h with
  | odd h n1 n2 => exact .odd (any_dn hs d h) n1 n2
  | len e1 h hl => exact .len e1 (row_dn d (fun z => n (by rw [e1, z])) h) hl
  | item e1 h hl hx bad good => exact .item e1 (row_dn d (fun z => n (by rw [e1, z])) h) hl hx (g bad) fun j y hj hy => g (good j y hj hy)
  | fine e1 h hl good => exact .fine e1 (row_dn d (fun z => n (by rw [e1, z])) h) hl fun j y hy => g (good j y hy)
/-! ### one construct at a time -/
theorem st_name {i : Nat} {v : V} {σ : St} {H : Hp} {Q : St → Hp → Prop} (h : Q (σ.set i (some v)) H) : gName i v σ H Q := h
theorem st_seq {t u : TS} {D : Ends} {σ : St} {H : Hp} (h : t { D with nx := u D } σ H) : tSeq t u D σ H := h
theorem st_asg {te : TE} {g : TG} {D : Ends} {σ : St} {H : Hp} (h : te σ H fun x H1 => g x σ H1 D.nx) : tAsg te g D σ H := h
theorem st_ret {te : TE} {D : Ends} {σ : St} {H : Hp} (h : te σ H D.rt) : tRet te D σ H := h
theorem st_op {r : R2} {ta tb : TE} {σ : St} {H : Hp} {Q : VK} (h : ta σ H fun x H1 => tb σ H1 fun y H2 => r x y H2 Q) : tOp r ta tb σ H Q := h
theorem st_call {sp : Sp} {dvs : List V} {E : XK} {t : TA} {σ : St} {H : Hp} {Q : VK} (h : t σ H fun vs H1 => sp (vs ++ dvs) H1 Q E) : tCall sp dvs E t σ H Q := h
theorem st_cb {r : List V → Hp → VK → Prop} {t : TA} {σ : St} {H : Hp} {Q : VK} (h : t σ H fun vs H1 => r vs H1 Q) : tCB r t σ H Q := h
theorem st_cons {ta : TE} {tr : TA} {σ : St} {H : Hp} {Q : List V → Hp → Prop} (h : ta σ H fun x H1 => tr σ H1 fun xs H2 => Q (x :: xs) H2) : tCons ta tr σ H Q := h
theorem st_lst {t : TA} {σ : St} {H : Hp} {Q : VK} (h : t σ H fun xs H1 => xs.length ≤ sizeLine ∧ ∀ p, H1 p = none → Q (.ref p) (upd H1 p (.lst xs))) : tLst t σ H Q := h
theorem st_tup {t : TA} {σ : St} {H : Hp} {Q : VK} (h : t σ H fun xs H1 => xs.length ≤ sizeLine ∧ ∀ p, H1 p = none → Q (.ref p) (upd H1 p (.tup xs))) : tTup t σ H Q := h
theorem st_expr {te : TE} {D : Ends} {σ : St} {H : Hp} (h : te σ H fun _ H1 => D.nx σ H1) : tDrop te D σ H := h
theorem st_next {D : Ends} {σ : St} {H : Hp} (h : D.nx σ H) : tNext D σ H := h
theorem st_if {c : TT} {t u : TS} {D : Ends} {σ : St} {H : Hp} (h : c σ H fun b H1 => if b = true then t D σ H1 else u D σ H1) : tIfS c t u D σ H := h
theorem st_or {t u : TT} {σ : St} {H : Hp} {Q : Bool → Hp → Prop} (h : t σ H fun c H1 => if c = true then Q true H1 else u σ H1 Q) : tOr t u σ H Q := h
theorem st_test {te : TE} {σ : St} {H : Hp} {Q : Bool → Hp → Prop} (h : te σ H fun x H' => ∃ k, x = .bl k ∧ Q k H') : tTest te σ H Q := h
theorem st_bm {K : PySem.W.Frag} {r : V → List V → Hp → VK → Prop} {i : Nat} {t : TA} {σ : St} {H : Hp} {Q : VK} {l : Addr} {xs : List V} (e : σ[i]? = some (some (.ref l))) (hl : H l = some (.lst xs)) (h : t σ H fun vs H1 => r (.ref l) vs H1 Q) : tBM K "list" r (tVar i) t σ H Q :=
  ⟨_, e, .inl ⟨rfl, _, L2.sq_of hl⟩, h⟩
theorem st_var {i : Nat} {v : V} {σ : St} {H : Hp} {Q : VK} (e : σ[i]? = some (some v)) (h : Q v H) : tVar i σ H Q := ⟨_, e, h⟩
end
end L2

/-! the whole sort's object: its fields as a record, reading and setting one -/
namespace L2
open PySem PySem.Spec PyProof.Rows LamX
structure SS where
  many : V
  turned : V
  row : V
  least : V
  stack : V
  pat : V
  start : V
  found : V
  length : V
  border : V
  machine : V
  work : V
  waiting : V
  log : V
  steps : V
  marks : V
def fldsL (S : SS) : List (Str × V) :=
  [("many", S.many), ("turned", S.turned), ("row", S.row), ("least", S.least), ("stack", S.stack), ("patience_between", S.pat), ("start", S.start), ("found", S.found), ("length", S.length), ("border", S.border), ("machine", S.machine), ("work", S.work), ("waiting", S.waiting), ("log", S.log), ("steps", S.steps), ("marks", S.marks)]
def SObj (C : Addr) (H : Hp) (x : Addr) (S : SS) : Prop := ∃ dx, H x = some (.ins C dx (fldsL S))
section
variable {K : PySem.W.Frag} {C : Addr} {σ : St} {H : Hp} {Q : VK} {x : Addr} {S : SS}
/-- a field of an object in a slot -/
theorem fld_go {i : Nat} {f : Str} {v : V} (e : σ[i]? = some (some (.ref x))) (h : SObj C H x S) (cl : Cls K C) (n : NoAttr K C f) (l : (fldsL S).lookup f = some v) (q : Q v H) : tFld K (tVar i) f σ H Q := by
  obtain ⟨dx, hx⟩ := h
  exact ⟨_, e, x, C, dx, _, v, rfl, hx, cl, n, l, q⟩
/-- a field of any object -/
theorem fld_any {te : TE} {f : Str} {v : V} {y C2 dx : Addr} {fs : List (Str × V)} (h : ∀ Q1 : VK, Q1 (.ref y) H → te σ H Q1) (hy : H y = some (.ins C2 dx fs)) (cl : Cls K C2) (n : NoAttr K C2 f) (l : fs.lookup f = some v) (q : Q v H) : tFld K te f σ H Q :=
  h _ ⟨y, C2, dx, fs, v, rfl, hy, cl, n, l, q⟩
/-- all but x stands -/
def But (x : Addr) (H H' : Hp) : Prop := ∀ b o, b ≠ x → H b = some o → H' b = some o
theorem But.put {x : Addr} {H : Hp} {o : HO} : But x H (upd H x o) := fun b o n h => by rw [upd_ne n]; exact h
theorem But.of {x : Addr} {H H' : Hp} (s : Same H H') : But x H H' := fun b o _ h => s b o h
theorem But.trans {x : Addr} {H H1 H2 : Hp} (a : But x H H1) (b : But x H1 H2) : But x H H2 := fun y o n h => b y o n (a y o n h)
theorem But.refl {x : Addr} {H : Hp} : But x H H := fun _ _ _ h => h
/-- the value has been found: a field is set to it -/
theorem put_go {i : Nat} {f : Str} {y : V} {Qn : Hp → Prop} (e : σ[i]? = some (some (.ref x))) (h : SObj C H x S) (cl : Cls K C) (n : NoAttr K C f) (S2 : SS) (eS : fldsL S2 = putF f y (fldsL S)) (q : ∀ H', SObj C H' x S2 → But x H H' → Qn H') :
    tVar i σ H (fun x' H2 => ∃ a C dx fs, x' = .ref a ∧ H2 a = some (.ins C dx fs) ∧ Cls K C ∧ NoAttr K C f ∧ fs.length < 1000 ∧ Qn (upd H2 a (.ins C dx (putF f y fs)))) := by
  obtain ⟨dx, hx⟩ := h
  refine ⟨_, e, x, C, dx, _, rfl, hx, cl, n, by show 16 < 1000; decide, ?_⟩
  rw [← eS]
  exact q _ ⟨dx, upd_same⟩ .put
theorem st_sfld {ta tv : TE} {f : Str} {D : Ends} (h : tv σ H fun y H1 => ta σ H1 fun x H2 => ∃ a C dx fs, x = .ref a ∧ H2 a = some (.ins C dx fs) ∧ Cls K C ∧ NoAttr K C f ∧ fs.length < 1000 ∧ D.nx σ (upd H2 a (.ins C dx (putF f y fs)))) : sFld K ta tv f D σ H := h
/-- a method of the object in a slot -/
theorem meth_go {i : Nat} {m : Str} {sp : Sp} {dvs : List V} {E : XK} {t : TA} (e : σ[i]? = some (some (.ref x))) (h : SObj C H x S) (l : (fldsL S).lookup m = none) (q : t σ H fun vs H2 => sp (.ref x :: (vs ++ dvs)) H2 Q E) : tMeth C m sp dvs E (tVar i) t σ H Q := by
  obtain ⟨dx, hx⟩ := h
  exact ⟨_, e, x, dx, _, rfl, hx, l, q⟩
theorem SObj.but {y : Addr} {H' : Hp} (h : SObj C H x S) (b : But y H H') (n : x ≠ y) : SObj C H' x S := h.imp fun _ z => b _ _ n z
theorem SObj.same {H' : Hp} (h : SObj C H x S) (b : Same H H') : SObj C H' x S := h.imp fun _ z => b _ _ z
theorem SObj.fr2 {m r : Addr} {H' : Hp} (h : SObj C H x S) (b : Fr2 m r H H') (n1 : x ≠ m) (n2 : x ≠ r) : SObj C H' x S := h.imp fun _ z => b _ _ n1 n2 z
end
/-- either of two readings -/
theorem pe_alt {X : Cx} {e : Expr} {t u : TE} (h1 : PE X e t) (h2 : PE X e u) : PE X e (fun σ H Q => t σ H Q ∨ u σ H Q) := ⟨fun pins s σ H Q I h => h.elim (h1.run pins s σ H Q I) (h2.run pins s σ H Q I)⟩
/-! ### the lists that a sort keeps -/
/-- a list of pairs of any things, at most k -/
def LogAt (H : Hp) (l : Addr) (k : Nat) : Prop := ∃ es, H l = some (.lst es) ∧ es.length = k ∧ ∀ e ∈ es, ∃ t v w, e = .ref t ∧ H t = some (.tup [v, w])
/-- a list of pieces' steps -/
def StepsAt (H : Hp) (l : Addr) (k : Nat) : Prop := ∃ es, H l = some (.lst es) ∧ es.length = k ∧ ∀ e ∈ es, ∃ (t : Addr) (a b c d : Int), e = .ref t ∧ H t = some (.tup [.str "piece", .int a, .int b, .int c, .int d])
def MarksAt (H : Hp) (l : Addr) (k : Nat) : Prop := ∃ es, H l = some (.lst es) ∧ es.length = k
theorem LogAt.mv {H H' : Hp} {l : Addr} {k : Nat} (h : LogAt H l k) (e : ∀ x, H l = some (.lst x) → H' l = some (.lst x)) (t : ∀ b xs, H b = some (.tup xs) → H' b = some (.tup xs)) : LogAt H' l k := by
  obtain ⟨es, h1, h2, h3⟩ := h
  exact ⟨es, e _ h1, h2, fun y hy => by obtain ⟨b, v, w, e1, e2⟩ := h3 y hy; exact ⟨b, v, w, e1, t _ _ e2⟩⟩
theorem StepsAt.mv {H H' : Hp} {l : Addr} {k : Nat} (h : StepsAt H l k) (e : ∀ x, H l = some (.lst x) → H' l = some (.lst x)) (t : ∀ b xs, H b = some (.tup xs) → H' b = some (.tup xs)) : StepsAt H' l k := by
  obtain ⟨es, h1, h2, h3⟩ := h
  exact ⟨es, e _ h1, h2, fun y hy => by obtain ⟨b, p, q, r, s, e1, e2⟩ := h3 y hy; exact ⟨b, p, q, r, s, e1, t _ _ e2⟩⟩
theorem MarksAt.mv {H H' : Hp} {l : Addr} {k : Nat} (h : MarksAt H l k) (e : ∀ x, H l = some (.lst x) → H' l = some (.lst x)) : MarksAt H' l k := h.imp fun es h => ⟨e _ h.1, h.2⟩
theorem LogAt.push {H : Hp} {l t : Addr} {k : Nat} {v w : V} {xs : List V} (h : LogAt H l k) (hl : H l = some (.lst xs)) (ht : H t = some (.tup [v, w])) : LogAt (upd H l (.lst (xs ++ [.ref t]))) l (k + 1) := by
  obtain ⟨es, h1, h2, h3⟩ := h
  obtain rfl : es = xs := by rw [h1] at hl; cases hl; rfl
  have nt : ∀ {b : Addr} {ys : List V}, H b = some (.tup ys) → b ≠ l := fun e z => by rw [z, h1] at e; cases e
  refine ⟨_, upd_same, by rw [List.length_append, h2]; rfl, fun e he => ?_⟩
  rcases List.mem_append.mp he with he | he
  · obtain ⟨b, v2, w2, e1, e2⟩ := h3 e he
    exact ⟨b, v2, w2, e1, by rw [upd_ne (nt e2)]; exact e2⟩
  · rw [List.mem_singleton.mp he]
    exact ⟨t, v, w, rfl, by rw [upd_ne (nt ht)]; exact ht⟩
theorem StepsAt.push {H : Hp} {l t : Addr} {k : Nat} {a b c d : Int} {xs : List V} (h : StepsAt H l k) (hl : H l = some (.lst xs)) (ht : H t = some (.tup [.str "piece", .int a, .int b, .int c, .int d])) : StepsAt (upd H l (.lst (xs ++ [.ref t]))) l (k + 1) := by
  obtain ⟨es, h1, h2, h3⟩ := h
  obtain rfl : es = xs := by rw [h1] at hl; cases hl; rfl
  have nt : ∀ {b : Addr} {ys : List V}, H b = some (.tup ys) → b ≠ l := fun e z => by rw [z, h1] at e; cases e
  refine ⟨_, upd_same, by rw [List.length_append, h2]; rfl, fun e he => ?_⟩
  rcases List.mem_append.mp he with he | he
  · obtain ⟨b2, p, q, r, s, e1, e2⟩ := h3 e he
    exact ⟨b2, p, q, r, s, e1, by rw [upd_ne (nt e2)]; exact e2⟩
  · rw [List.mem_singleton.mp he]
    exact ⟨t, a, b, c, d, rfl, by rw [upd_ne (nt ht)]; exact ht⟩
theorem MarksAt.push {H : Hp} {l t : Addr} {k : Nat} {xs : List V} (h : MarksAt H l k) (hl : H l = some (.lst xs)) : MarksAt (upd H l (.lst (xs ++ [.ref t]))) l (k + 1) := by
  obtain ⟨es, h1, h2⟩ := h
  obtain rfl : es = xs := by rw [h1] at hl; cases hl; rfl
  exact ⟨_, upd_same, by rw [List.length_append, h2]; rfl⟩
end L2

/-! stacks and joins as data -/
namespace L2
open PySem PySem.Spec PyProof.Rows
def lvD : Option Nat → PyData
  | none => .none
  | some n => .int (n : Int)
def pcD (c : Pc) : PyData := .tuple [.int (c.st : Int), .int (c.ln : Int), lvD c.lv]
def psD (ps : List Pc) : PyData := .list (ps.map pcD)
def rowsD (w : Nat) (ls : List Nat) (k : Nat) : PyData := .list ((List.range k).map fun i => psD (Pile.sts w ls (i + 1)).1)
def trD (j : Nat × Nat × Nat) : PyData := .tuple [.int (j.1 : Int), .int (j.2.1 : Int), .int (j.2.2 : Int)]
def trisD (js : List (Nat × Nat × Nat)) : PyData := .list (js.map trD)
def bothD (a b : List (Nat × Nat × Nat)) : PyData := .tuple [trisD a, trisD b]
section
variable {K : PySem.W.Frag} {H H0 : Hp}
theorem dp_pc {v : V} {c : Pc} (h : PcAt H v c) : Dp K H v (pcD c) := by
  obtain ⟨t, rfl, ht⟩ := h
  refine .tup (L2.st_of ht) (.cons (.int _) (.cons (.int _) (.cons ?_ .nil)))
  cases c.lv with
  | none => exact .non
  | some n => exact .int _
theorem dp_pcs {r : Addr} {ps : List Pc} (h : PcsAt H r ps) : Dp K H (.ref r) (psD ps) := by
  obtain ⟨ts, h1, h2, h3⟩ := h
  exact .lst (L2.sq_of h1) (dpAll_of pcD h2 fun i v c a b => dp_pc (h3 i v c a b))
theorem dp_rows {sk : Addr} {w k : Nat} {ls : List Nat} (h : RowsAt H0 H sk w ls k) : Dp K H (.ref sk) (rowsD w ls k) := by
  obtain ⟨ts, h1, h2, h3⟩ := h
  refine .lst (L2.sq_of h1) (dpAll_of _ (by rw [h2, List.length_range]) fun i v j a b => ?_)
  have hi : i < k := h2 ▸ (List.getElem?_eq_some_iff.mp a).1
  rw [List.getElem?_range hi] at b
  obtain rfl := Option.some.inj b
  obtain ⟨l, rfl, _, _, hl⟩ := h3 i v a
  exact dp_pcs hl
theorem dp_tris {l : Addr} {js : List (Nat × Nat × Nat)} (h : TrisAt H l js) : Dp K H (.ref l) (trisD js) := by
  obtain ⟨ts, h1, h2, h3⟩ := h
  refine .lst (L2.sq_of h1) (dpAll_of trD h2 fun i v j a b => ?_)
  obtain ⟨t, rfl, ht⟩ := h3 i v j a b
  exact .tup (L2.st_of ht) (.cons (.int _) (.cons (.int _) (.cons (.int _) .nil)))
theorem dp_both {t a b : Addr} {ja jb : List (Nat × Nat × Nat)} (ht : H t = some (.tup [.ref a, .ref b])) (ha : TrisAt H a ja) (hb : TrisAt H b jb) : Dp K H (.ref t) (bothD ja jb) := .tup (L2.st_of ht) (.cons (dp_tris ha) (.cons (dp_tris hb) .nil))
end
theorem lay_pc (c : Pc) : PyData.canLay0 (pcD c) = true := by
  unfold pcD
  cases c.lv <;> rfl
theorem dep_pc (c : Pc) : PyData.depth (pcD c) ≤ 1 := by
  unfold pcD
  cases c.lv <;> exact Nat.le_refl 1
theorem shaped_rows (w : Nat) (ls : List Nat) (k : Nat) : SeqAt.shaped (rowsD w ls k) = true := by
  refine shaped_of (canLay_of _ (fun i => ?_) _) ?_
  · exact canLay_of pcD lay_pc _
  · refine Nat.le_trans (Nat.add_le_add_right (depth_of _ (n := 2) (fun i => ?_) _) 1) (by decide)
    exact Nat.add_le_add_right (depth_of pcD dep_pc _) 1
theorem lay_tris (js : List (Nat × Nat × Nat)) : PyData.canLay0 (trisD js) = true := canLay_of trD (fun _ => rfl) js
theorem dep_tris (js : List (Nat × Nat × Nat)) : PyData.depth (trisD js) ≤ 2 := Nat.add_le_add_right (depth_of trD (n := 1) (fun _ => Nat.le_refl 1) js) 1
theorem shaped_both (a b : List (Nat × Nat × Nat)) : SeqAt.shaped (bothD a b) = true := by
  refine shaped_of ?_ ?_
  · show (PyData.canLay0 (trisD a) && (PyData.canLay0 (trisD b) && true)) = true
    rw [lay_tris, lay_tris]
    rfl
  · show max (PyData.depth (trisD a)) (max (PyData.depth (trisD b)) 0) + 1 ≤ 64
    have := dep_tris a
    have := dep_tris b
    omega
namespace Pile
def dl (ls : List Nat) : List Nat := (List.range ls.length).map fun i => (sts ls.sum ls (i + 1)).1.length
def dep (ls : List Nat) : Nat := (dl ls).foldr max 0
end Pile
theorem foldr_max {L : List Nat} {m : Int} (hm : m ∈ L.map fun n : Nat => (n : Int)) (h : ∀ y ∈ L.map (fun n : Nat => (n : Int)), y ≤ m) : m = ((L.foldr max 0 : Nat) : Int) := by
  have a1 : ∀ {L : List Nat} {n : Nat}, n ∈ L → n ≤ L.foldr max 0 := by
    intro L
    induction L with
    | nil => intro n h; simp at h
    | cons x L ih =>
      intro n h
      rcases List.mem_cons.mp h with rfl | h
      · exact Nat.le_max_left _ _
      · exact Nat.le_trans (ih h) (Nat.le_max_right _ _)
  have a2 : ∀ {L : List Nat} {M : Nat}, (∀ n ∈ L, n ≤ M) → L.foldr max 0 ≤ M := by
    intro L
    induction L with
    | nil => intro M _; exact Nat.zero_le _
    | cons x L ih =>
      intro M h
      exact Nat.max_le.mpr ⟨h x (List.mem_cons_self ..), ih fun n hn => h n (List.mem_cons_of_mem _ hn)⟩
  obtain ⟨n, hn, rfl⟩ := List.mem_map.mp hm
  have b1 := a1 hn
  have b2 : L.foldr max 0 ≤ n := a2 fun k hk => by
    have := h k (List.mem_map.mpr ⟨k, hk, rfl⟩)
    omega
  omega
end L2

/-! powers of two that fall: no join makes room -/
namespace L2
open PySem PySem.Spec PyProof.Rows
namespace Pile
def pw (n : Nat) : List Nat := (List.range n).map fun k => 2 ^ (n - 1 - k)
theorem pw_len (n : Nat) : (pw n).length = n := by
  unfold pw
  rw [List.length_map, List.length_range]
theorem pw_get {n k : Nat} (h : k < n) : (pw n).getD k 0 = 2 ^ (n - 1 - k) := by
  unfold pw
  rw [List.getD_eq_getElem?_getD, List.getElem?_map, List.getElem?_range h]
  rfl
theorem pw_stt {n : Nat} : ∀ k, k ≤ n → stt (pw n) k + 2 ^ (n - k) = 2 ^ n
  | 0, _ => by
    show 0 + 2 ^ (n - 0) = 2 ^ n
    rw [Nat.zero_add, Nat.sub_zero]
  | k + 1, h => by
    have ih := pw_stt (n := n) k (by omega)
    rw [stt_succ (by rw [pw_len]; omega), pw_get (by omega)]
    have e : (2 : Nat) ^ (n - k) = 2 * 2 ^ (n - (k + 1)) := by
      rw [show n - k = (n - (k + 1)) + 1 by omega, Nat.pow_succ, Nat.mul_comm]
    rw [show n - 1 - k = n - (k + 1) by omega]
    omega
theorem pw_pos {n : Nat} : ∀ l ∈ pw n, 1 ≤ l := fun l h => by
  obtain ⟨k, _, rfl⟩ := List.mem_map.mp h
  exact Nat.two_pow_pos _
theorem pw_sum (n : Nat) : (pw n).sum + 1 = 2 ^ n := by
  have h := pw_stt (n := n) n (Nat.le_refl _)
  rw [Nat.sub_self] at h
  have e : stt (pw n) n = (pw n).sum := by
    unfold stt
    rw [List.take_of_length_le (by rw [pw_len]; exact Nat.le_refl n)]
  omega
/-- both middles, out of the whole: alike in the first figures, not in the next one -/
theorem deep_figs {q p W m e : Nat} (hq : 1 ≤ q) (hp : 1 ≤ p) (hW : W + 2 = 8 * (q * p)) (hm : m + 6 * p = 8 * (q * p)) (he : e + 3 * p = 8 * (q * p)) : m * q / W = e * q / W ∧ m * (2 * q) / W ≠ e * (2 * q) / W := by
  obtain ⟨q, rfl⟩ : ∃ r, q = r + 1 := ⟨q - 1, by omega⟩
  obtain ⟨p, rfl⟩ : ∃ r, p = r + 1 := ⟨p - 1, by omega⟩
  have x1 : (q + 1) * (p + 1) = q * p + q + p + 1 := by rw [Nat.add_mul, Nat.mul_add]; omega
  rw [x1] at hW hm he
  have eW : W = 8 * (q * p) + 8 * q + 8 * p + 6 := by omega
  have em : m = 8 * (q * p) + 8 * q + 2 * p + 2 := by omega
  have ee : e = 8 * (q * p) + 8 * q + 5 * p + 5 := by omega
  have w0 : 0 < W := by omega
  have mq : m * q = 8 * (q * p * q) + 8 * (q * q) + 2 * (q * p) + 2 * q := by
    rw [em]
    simp only [Nat.add_mul]
    rw [Nat.mul_assoc 8, Nat.mul_assoc 8 q q, Nat.mul_assoc 2 p q, Nat.mul_comm p q]
  have eq : e * q = 8 * (q * p * q) + 8 * (q * q) + 5 * (q * p) + 5 * q := by
    rw [ee]
    simp only [Nat.add_mul]
    rw [Nat.mul_assoc 8, Nat.mul_assoc 8 q q, Nat.mul_assoc 5 p q, Nat.mul_comm p q]
  have qW : q * W = 8 * (q * p * q) + 8 * (q * q) + 8 * (q * p) + 6 * q := by
    rw [eW, Nat.mul_comm]
    simp only [Nat.add_mul]
    rw [Nat.mul_assoc 8, Nat.mul_assoc 8 q q, Nat.mul_assoc 8 p q, Nat.mul_comm p q]
  have d1 : m * (q + 1) / W = q := by
    refine (Nat.div_eq_iff w0).mpr ?_
    rw [Nat.mul_add, Nat.mul_one]
    constructor <;> omega
  have d2 : e * (q + 1) / W = q := by
    refine (Nat.div_eq_iff w0).mpr ?_
    rw [Nat.mul_add, Nat.mul_one]
    constructor <;> omega
  refine ⟨by rw [d1, d2], ?_⟩
  have t1 : m * (2 * (q + 1)) = 2 * (m * q) + 2 * m := by rw [show 2 * (q + 1) = 2 * q + 2 by omega, Nat.mul_add, Nat.mul_left_comm]; omega
  have t2 : e * (2 * (q + 1)) = 2 * (e * q) + 2 * e := by rw [show 2 * (q + 1) = 2 * q + 2 by omega, Nat.mul_add, Nat.mul_left_comm]; omega
  have l1 : m * (2 * (q + 1)) / W < 2 * q + 1 := by
    refine (Nat.div_lt_iff_lt_mul w0).mpr ?_
    rw [t1, Nat.add_mul, Nat.mul_assoc, Nat.one_mul]
    omega
  have l2 : 2 * q + 1 ≤ e * (2 * (q + 1)) / W := by
    refine (Nat.le_div_iff_mul_le w0).mpr ?_
    rw [t2, Nat.add_mul, Nat.mul_assoc, Nat.one_mul]
    omega
  omega
theorem deep_lev {n k : Nat} (h : k + 1 < n) : Lv.lev (2 * (pw n).sum) (2 * stt (pw n) k + (pw n).getD k 0) ((pw n).getD k 0 + (pw n).getD (k + 1) 0) = k + 1 := by
  have s1 := pw_stt (n := n) k (by omega)
  have s2 := pw_sum n
  rw [pw_get (by omega), pw_get (by omega)]
  have e0 : (2 : Nat) ^ n = 2 ^ k * 2 ^ (n - 1 - (k + 1)) * 4 := by
    rw [← Nat.pow_add, show (4 : Nat) = 2 ^ 2 from rfl, ← Nat.pow_add]
    congr 1
    omega
  have e1 : (2 : Nat) ^ (n - k) = 4 * 2 ^ (n - 1 - (k + 1)) := by
    rw [show n - k = (n - 1 - (k + 1)) + 2 by omega, Nat.pow_add, Nat.mul_comm]
  have e2 : (2 : Nat) ^ (n - 1 - k) = 2 * 2 ^ (n - 1 - (k + 1)) := by
    rw [show n - 1 - k = (n - 1 - (k + 1)) + 1 by omega, Nat.pow_succ, Nat.mul_comm]
  have q1 : 1 ≤ (2 : Nat) ^ k := Nat.two_pow_pos _
  have p1 : 1 ≤ (2 : Nat) ^ (n - 1 - (k + 1)) := Nat.two_pow_pos _
  rw [e2]
  have ek : (2 : Nat) ^ (k + 1) = 2 * 2 ^ k := by rw [Nat.pow_succ, Nat.mul_comm]
  have x1 : 2 ^ (n - 1 - (k + 1)) ≤ 2 ^ k * 2 ^ (n - 1 - (k + 1)) := Nat.le_mul_of_pos_left _ q1
  obtain ⟨f1, f2⟩ := deep_figs (q := 2 ^ k) (p := 2 ^ (n - 1 - (k + 1))) (W := 2 * (pw n).sum) (m := 2 * stt (pw n) k + 2 * 2 ^ (n - 1 - (k + 1))) (e := 2 * stt (pw n) k + 2 * 2 ^ (n - 1 - (k + 1)) + (2 * 2 ^ (n - 1 - (k + 1)) + 2 ^ (n - 1 - (k + 1)))) q1 p1 (by omega) (by omega) (by omega)
  rw [← ek] at f2
  have pos : 0 < 2 * 2 ^ (n - 1 - (k + 1)) + 2 ^ (n - 1 - (k + 1)) := by omega
  have lt : 2 * stt (pw n) k + 2 * 2 ^ (n - 1 - (k + 1)) + (2 * 2 ^ (n - 1 - (k + 1)) + 2 ^ (n - 1 - (k + 1))) < 2 * (pw n).sum := by omega
  obtain ⟨_, r2, _, r4, r5⟩ := Lv.lev_right pos lt
  generalize Lv.lev (2 * (pw n).sum) (2 * stt (pw n) k + 2 * 2 ^ (n - 1 - (k + 1))) (2 * 2 ^ (n - 1 - (k + 1)) + 2 ^ (n - 1 - (k + 1))) = v at r2 r4 r5 ⊢
  rcases Nat.lt_trichotomy v (k + 1) with c | c | c
  · refine absurd ?_ r5
    rw [Lv.fig_shift (F := k) (by omega), Lv.fig_shift (F := k) (c := v) (by omega)]
    exact congrArg (fun z => z / 2 ^ (k - v)) f1
  · exact c
  · exact absurd (r4 (k + 1) c) f2
def stk (n k : Nat) : List Pc := (List.range k).map fun i => ⟨stt (pw n) i, (pw n).getD i 0, if i + 1 < k then some (i + 1) else none⟩
theorem stk_len (n k : Nat) : (stk n k).length = k := by
  unfold stk
  rw [List.length_map, List.length_range]
theorem stk_get {n k i : Nat} (h : i < k) : (stk n k)[i]? = some ⟨stt (pw n) i, (pw n).getD i 0, if i + 1 < k then some (i + 1) else none⟩ := by
  unfold stk
  rw [List.getElem?_map, List.getElem?_range h]
  rfl
theorem deep_sts {n : Nat} : ∀ k, k ≤ n → sts (pw n).sum (pw n) k = (stk n k, [])
  | 0, _ => rfl
  | k + 1, h => by
    have ih := deep_sts (n := n) k (by omega)
    show step (pw n).sum (stt (pw n) k) (sts (pw n).sum (pw n) k) ((pw n).getD k 0) = _
    rw [ih]
    cases k with
    | zero => rfl
    | succ k =>
      have last : (stk n (k + 1)).getLast? = some ⟨stt (pw n) k, (pw n).getD k 0, none⟩ := by
        rw [List.getLast?_eq_getElem?, stk_len, Nat.add_sub_cancel, stk_get (Nat.lt_succ_self _), if_neg (Nat.lt_irrefl _)]
      have hb : brd (pw n).sum (stk n (k + 1)) ((pw n).getD (k + 1) 0) = some (k + 1) := by
        unfold brd
        rw [last]
        exact congrArg some (deep_lev h)
      have no : hasTo (stk n (k + 1)) (k + 1) = false := by
        unfold hasTo
        rw [stk_len]
        cases k with
        | zero => rfl
        | succ k =>
          rw [show k + 1 + 1 - 2 = k by omega, stk_get (by omega), if_pos (by omega)]
          exact decide_eq_false (by omega)
      unfold step
      show (match brd (pw n).sum (stk n (k + 1)) ((pw n).getD (k + 1) 0) with
        | none => _
        | some b => _) = _
      rw [hb]
      show (put (room (k + 1) (stk n (k + 1)).length (stk n (k + 1), [])).1 _ _ _, (room (k + 1) (stk n (k + 1)).length (stk n (k + 1), [])).2) = _
      rw [room_stop no]
      refine Prod.ext ?_ rfl
      show put (stk n (k + 1)) _ _ _ = stk n (k + 1 + 1)
      unfold put
      rw [last]
      refine List.ext_getElem? fun i => ?_
      have ld : (stk n (k + 1)).dropLast.length = k := by rw [List.length_dropLast, stk_len]; rfl
      rcases Nat.lt_trichotomy i k with c | c | c
      · show ((stk n (k + 1)).dropLast ++ [_, _])[i]? = _
        rw [List.getElem?_append_left (by omega), List.getElem?_dropLast, if_pos (by rw [stk_len]; omega), stk_get (by omega), stk_get (by omega), if_pos (by omega), if_pos (by omega)]
      · subst c
        show ((stk n (i + 1)).dropLast ++ [_, _])[i]? = _
        rw [List.getElem?_append_right (by omega), ld, Nat.sub_self, stk_get (by omega), if_pos (by omega)]
        rfl
      · show ((stk n (k + 1)).dropLast ++ [_, _])[i]? = _
        rw [List.getElem?_append_right (by omega), ld]
        by_cases c2 : i = k + 1
        · subst c2
          rw [show k + 1 - k = 1 by omega, stk_get (by omega), if_neg (by omega)]
          rfl
        · rw [List.getElem?_eq_none (by simp; omega), List.getElem?_eq_none (by rw [stk_len]; omega)]
end Pile
end L2

/-! lambdas handed to a def that is called where nothing is being shown -/
namespace L2
open PySem PySem.Spec PyProof.Rows PySem.W LamX
def GivesTo1G (P : Program) (w : World) (K : PySem.W.Frag) (mg : Str → Option Value) (base : Heap) (k : Nat) (Ng : List Str) (x : Str) (sg : Scope) (g : Addr) (bg : List Stmt) (a : Str) (TT : (XK → Hp → VK → Prop) → Hp → VK → Prop) : Prop :=
  ∀ (cdg : Value) (A : Around) (outer : List Env) (f : Addr) (L : LamD) (s : Shared) (H : Hp) (Q : VK) (tl : XK → Hp → VK → Prop), A.guards = some [] → Room k (A.deeper (envOfC x sg s.heap.objs.size g cdg)) →
    (∀ (W : WX) (pn : List (Addr × Obj)) (xe : Value → Shared → Prop) (p1 p2 : Pos), Takes ((cxOf C8.CX0 P w K mg base Ng x sg g cdg A outer s H C8.E0).tr pn xe) W →
      PE ((cxOf C8.CX0 P w K mg base Ng x sg g cdg A outer s H C8.E0).tr pn xe) (.Call (.Name a p1) [] [] p2) (fun σZ HZ Q => σZ[0]? = some (some (.ref f)) ∧ LamAt HZ f L ∧ ∃ E : XK, (∀ cls d H', E cls d H' → W cls d σZ H') ∧ tl E HZ Q)) →
    LamAt H f L → TT tl H Q →
    ∃ t, PSs (cxOf C8.CX0 P w K mg base Ng x sg g cdg A outer s H C8.E0).nox bg t ∧ t { nx := fun _ H' => Q .non H', rt := Q } (L2.start Ng [.ref f]) H
section
variable {X : Cx}
theorem run_lamOG {pins : List (Addr × Obj)} {σ : L2.St} {H : Hp} {s : Shared} {Q : VK} {TT : (XK → Hp → VK → Prop) → Hp → VK → Prop} {x a : Str} {st : Stmt} {g f : Addr} {k : Nat} {fd : FuncData} {Ng : List Str} {params : Arguments} {body : Expr} {scope : Scope} {t : XK → TE}
    (F : Fun X.K x x st g fd) (hb : L2.Binds X.K fd [a] []) (Sg : FnScope Ng [a] (defScope st)) (hNg : Ng[0]? = some a) (hva : Vis (defScope st) a) (hG : GivesTo1G X.prog X.w X.K X.mg X.base (k + 1) Ng x (defScope st) g (defBody st) a TT)
    (LG : LamGood X k params body scope t) (gd : X.A.guards = some []) (hr : Room (k + 2) X.A) (I : Inv X pins σ H s) (hL : LamAt H f (lamD X params body scope)) (h : TT (fun E H' Q' => t E σ H' Q') H Q)
    (hd : (a == ("__debug__" : Str)) = false := by decide) (hcd : (a == ("__classdict__" : Str)) = false := by decide) :
    codeAny (model X.prog X.w) X.A (.call (.ref g) ⟨[.ref f], []⟩) (CR C8.CX0 X.stack X.prog X.w H s Q C8.E0) s := by
  obtain ⟨oc, od, kV, doc, pm, an, cdv, ct, osl, rfl, lk, hcg⟩ := F.ex
  refine run_ofS (N := Ng) (ps := [a]) (us := [.ref f]) (vs := [.ref f]) lk hcg Sg hr I.env0 (hb s [.ref f] I.kIn rfl) (.cons rfl .nil) rfl fun hr' => ?_
  refine Exists.elim (hG cdv X.A X.stack f _ s H Q (fun E H' Q' => t E σ H' Q') gd hr' (fun W pn xe p1 p2 tk => ⟨fun pinsZ sZ σZ HZ QZ IZ hz => ?_⟩) hL h) fun t' h' => ⟨t', h'.1.nox, h'.2⟩
  obtain ⟨z1, z2, E, hW, z3⟩ := hz
  exact (pe_actO (i := 0) I LG tk hr' hNg hva hd hcd).run pinsZ sZ σZ HZ QZ IZ ⟨z1, z2, E, hW, z3⟩
theorem pe_lamcallGG {T : List (Addr × Str)} {TT : (XK → Hp → VK → Prop) → Hp → VK → Prop} {x a : Str} {st : Stmt} {g c P : Addr} {k : Nat} {fd : FuncData} {Ng : List Str} {params : Arguments} {body : Expr} {scope : Scope} {t : XK → TE} {p lpos pos : Pos}
    (F : Fun X.K x x st g fd) (hg : Gl X x) (hm : X.mg x = some (.ref g)) (hk : PySem.W.keepIn X.K (.ref g) = true) (hb : L2.Binds X.K fd [a] []) (Sg : FnScope Ng [a] (defScope st)) (hNg : Ng[0]? = some a) (hva : Vis (defScope st) a)
    (hG : GivesTo1G X.prog X.w X.K X.mg X.base (k + 1) Ng x (defScope st) g (defBody st) a TT) (gd : X.A.guards = some [])
    (TB : TabB X.base X.mg c P) (hcode : X.env.code = .ref c) (hmT : (P, X.env.qual ++ "<lambda>") ∈ T) (hu : ∀ p ∈ T, p.1 = P → p.2 = X.env.qual ++ "<lambda>") (hr : Room (k + 2) X.A)
    (hfree : ∀ y ∈ scope.names, y.2 = .free → X.env.scope.names.lookup y.1 = some .cell ∨ X.env.scope.names.lookup y.1 = some .free) (hk0 : params.kw_defaults = []) (hdef : params.defaults = [] ∨ ∃ j pc, params.defaults = [.Constant (.int 0) j pc]) (LG : LamGood X k params body scope t)
    (hdb : (x == ("__debug__" : Str)) = false := by decide) (hd : (a == ("__debug__" : Str)) = false := by decide) (hcd : (a == ("__classdict__" : Str)) = false := by decide) :
    PE X (.Call (.Name x p) [.Lambda params body scope lpos] [] pos) (tLamG T TT t) := by
  refine ⟨fun pins s σ H Q I h => ?_⟩
  obtain ⟨hT, h⟩ := h
  refine wpAny_Call_Name_kw (ld_glob I hg hm ?_ hdb)
  refine PySem.W.callWith_K (h₀ := X.base) I.ok.mod.kin hk ?_ (by rfl) (by rfl)
  show wpAny _ _ (spliced ((false, eval (.Lambda params body scope lpos) X.env) :: backTo pos (starEach [] X.env))) _ _ s
  refine Calls.spliced_cons (thn ((pe_lamO (pos := lpos) TB hcode hmT hu hfree hk0 hdef).run pins s σ H (fun v H1 => ∃ f, v = .ref f ∧ ExtN H H1 ∧ Tabs T H1 ∧ LamAt H1 f (lamD X params body scope)) I ⟨hT, fun H1 f e1 T1 _ hL => ⟨f, rfl, e1, T1, hL⟩⟩) fun u s1 ⟨v, H1, I1, r1, f, ev, e1, T1, hL⟩ => ?_)
  subst ev
  obtain rfl : u = Value.ref f := r1
  refine Calls.spliced_nil ⟨I1.kIn, ?_⟩
  refine wpAny_call (codeAny_mono (run_lamOG F hb Sg hNg hva hG LG gd hr I1 hL (h H1 e1 T1) hd hcd) fun r s2 hq => ?_)
  cases r with
  | error e => exact (show False from hq).elim
  | ok fl =>
    cases fl with
    | ret u => exact I1.after hq
    | next => exact False.elim hq
    | brk => exact False.elim hq
    | cont => exact False.elim hq
end
end L2

/-! repr of data that may hold dicts of ints -/
namespace L2
open PySem PySem.Spec PyProof.Rows
/-- what repr sees: data without dicts, dicts of ints, lists and tuples of such -/
inductive ShD (K : PySem.W.Frag) (H : Hp) : V → PyData → Prop
  | flat {v : V} {d : PyData} (h : Dp K H v d) (n : d.hasDict = false) : ShD K H v d
  | dict {a : Addr} (kvs : List (Int × Int)) (h : H a = some (.dK (kvs.map fun p => ((.inl p.1 : Key), V.int p.2)))) : ShD K H (.ref a) (.dict (kvs.map fun p => (.int p.1, .int p.2)))
  | lst {a : Addr} {xs : List V} {ds : List PyData} (h : SqL K H a xs) (hl : xs.length = ds.length) (hi : ∀ (i : Nat) (v : V) (d : PyData), xs[i]? = some v → ds[i]? = some d → ShD K H v d) : ShD K H (.ref a) (.list ds)
  | tup {a : Addr} {xs : List V} {ds : List PyData} (h : SqT K H a xs) (hl : xs.length = ds.length) (hi : ∀ (i : Nat) (v : V) (d : PyData), xs[i]? = some v → ds[i]? = some d → ShD K H v d) : ShD K H (.ref a) (.tuple ds)
/-- what the heap says of it -/
def Shown (P : Program) (w : World) (h : Heap) (u : Value) (d : PyData) : Prop := ∃ as bs, Reads h u d as ∧ ReadAtMost h d.depth bs ∧ ReprK P w bs h d.depth u d.shown
theorem shown_all {P : Program} {w : World} {h : Heap} : ∀ {ds : List PyData} {us : List Value}, us.length = ds.length → (∀ (i : Nat) (u : Value) (d : PyData), us[i]? = some u → ds[i]? = some d → Shown P w h u d) →
    ∃ as bs, ReadsAll h us ds as ∧ ReadAtMost h (PyData.depthAll ds) bs ∧ ReprAllK P w bs h (PyData.depthAll ds) us (PyData.shownAll ds)
  | [], [], _, _ => ⟨[], [], .nil, (fun _ z => nomatch z), .nil⟩
  | d :: ds, u :: us, hl, hi => by
    obtain ⟨a1, b1, r1, m1, k1⟩ := hi 0 u d rfl rfl
    obtain ⟨a2, b2, r2, m2, k2⟩ := shown_all (ds := ds) (us := us) (Nat.succ.inj hl) fun i u d x y => hi (i + 1) u d x y
    have e : PyData.depthAll (d :: ds) = max d.depth (PyData.depthAll ds) := by simp only [PyData.depthAll]
    rw [e]
    refine ⟨a1 ++ a2, b1 ++ b2, .cons r1 r2, (m1.mono (Nat.le_max_left _ _)).append (m2.mono (Nat.le_max_right _ _)), ?_⟩
    have e2 : PyData.shownAll (d :: ds) = d.shown :: PyData.shownAll ds := by simp only [PyData.shownAll]
    rw [e2]
    exact .cons ((k1.more fun b z => List.mem_append_left _ z).level_le (Nat.le_max_left _ _)) (k2.more_le (fun b z => List.mem_append_right _ z) (Nat.le_max_right _ _))
  | [], _ :: _, hl, _ => nomatch hl
  | _ :: _, [], hl, _ => nomatch hl
/-- the entries of a dict of ints -/
theorem ent_reads {P : Program} {w : World} {h : Heap} : ∀ {kvs : List (Int × Int)} {es : List DictEntry} {vs : List (Key × Value)}, Pairs (mixKind P w) es vs → KV (kvs.map fun p => ((.inl p.1 : Key), V.int p.2)) vs →
    ReadsAll h (es.map (·.key)) (kvs.map fun p => .int p.1) [] ∧ ReadsAll h (es.map (·.val)) (kvs.map fun p => .int p.2) []
  | [], _, _, hp, hk => by
    cases hk
    cases hp
    exact ⟨.nil, .nil⟩
  | p :: kvs, _, _, hp, hk => by
    cases hk with
    | cons r rs =>
      cases hp with
      | cons i v hs =>
        obtain ⟨q1, q2⟩ := ent_reads hs rs
        obtain ⟨e1, e2⟩ := r
        rw [← e1] at i
        have i : keyIs (Sum.inl p.1) _ = true := i
        obtain ⟨j, t, e3, e4⟩ | ⟨x, t, e3, _⟩ := keyIs_shape i
        · cases e3
          obtain ⟨t2, e5⟩ := e2
          refine ⟨?_, ?_⟩
          · rw [List.map_cons, List.map_cons, e4]
            exact ReadsAll.cons (as := []) (.int _ _) q1
          · rw [List.map_cons, List.map_cons, v, e5]
            exact ReadsAll.cons (as := []) (.int _ _) q2
        · cases e3
theorem keysKv (kvs : List (Int × Int)) : (kvs.map fun p => ((.int p.1 : PyData), (.int p.2 : PyData))).map (·.1) = kvs.map fun p => .int p.1 := by rw [List.map_map]; rfl
theorem valsKv (kvs : List (Int × Int)) : (kvs.map fun p => ((.int p.1 : PyData), (.int p.2 : PyData))).map (·.2) = kvs.map fun p => .int p.2 := by rw [List.map_map]; rfl
theorem noDictI : ∀ ns : List (Int × Int), PyData.hasDictAll (ns.map fun p => .int p.1) = false ∧ PyData.hasDictAll (ns.map fun p => .int p.2) = false
  | [] => ⟨rfl, rfl⟩
  | p :: r => by
    obtain ⟨h1, h2⟩ := noDictI r
    constructor
    · rw [List.map_cons]; simp only [PyData.hasDictAll, PyData.hasDict, Bool.false_or]; exact h1
    · rw [List.map_cons]; simp only [PyData.hasDictAll, PyData.hasDict, Bool.false_or]; exact h2
theorem showAll_at : ∀ {ds : List PyData} {i : Nat} {d : PyData}, PyData.showableAll ds = true → ds[i]? = some d → d.showable = true
  | [], i, d, _, h => by cases h
  | x :: ds, i, d, hs, h => by
    have hs' : x.showable = true ∧ PyData.showableAll ds = true := by simpa [PyData.showableAll] using hs
    cases i with
    | zero => cases h; exact hs'.1
    | succ i => exact showAll_at hs'.2 h
theorem shownAll_at : ∀ {ds : List PyData} {i : Nat} {d : PyData}, ds[i]? = some d → d.shown ∈ PyData.shownAll ds
  | [], i, d, h => by cases h
  | x :: ds, i, d, h => by
    simp only [PyData.shownAll]
    cases i with
    | zero => cases h; exact List.mem_cons_self
    | succ i => exact List.mem_cons_of_mem _ (shownAll_at h)
section
variable {X : Cx} {pins : List (Addr × Obj)} {σ : L2.St} {H : Hp} {s : Shared}
/-- a dict's own facts -/
theorem dict_facts (I : Inv X pins σ H s) {a : Addr} {kvs : List (Int × Int)} (h : H a = some (.dK (kvs.map fun p => ((.inl p.1 : Key), V.int p.2)))) (hs : PyData.showableKv (kvs.map fun p => (.int p.1, .int p.2)) = true) (hz : (PyData.dict (kvs.map fun p => (.int p.1, .int p.2))).shown.length ≤ sizeLine) :
    ∃ o es n bs, s.heap.get? a = some o ∧ o.cls = .type "dict" ∧ o.data = .dict es n ∧ (a == sysModules) = false ∧ Reads s.heap (.ref a) (.dict (kvs.map fun p => (.int p.1, .int p.2))) [a] ∧ a ∉ bs ∧ ReadAtMost s.heap (PyData.depthKv (kvs.map fun p => (.int p.1, .int p.2))) bs ∧
      ReprEntriesK X.prog X.w bs s.heap (PyData.depthKv (kvs.map fun p => (.int p.1, .int p.2))) es.toList (PyData.shownKv (kvs.map fun p => (.int p.1, .int p.2))) := by
  obtain ⟨_, hsys, vs, hkv, o, es, ep, ho, hx, hd, _, hp, _⟩ := dk_of I.hok h
  obtain ⟨q1, q2⟩ := ent_reads (h := s.heap) hp hkv
  rw [← keysKv] at q1
  rw [← valsKv] at q2
  have hz' : (dictText (PyData.shownKv (kvs.map fun p => (.int p.1, .int p.2)))).length ≤ sizeLine := by simpa only [PyData.shown] using hz
  obtain ⟨s1, s2⟩ := PyData.showableKv_split _ hs
  obtain ⟨n1, n2⟩ := noDictI kvs
  have r : Reads s.heap (.ref a) (.dict (kvs.map fun p => (.int p.1, .int p.2))) [a] := Reads.dict (as := []) (bs := []) ho hx.1 hd q1 q2
  obtain ⟨b1, m1, k1⟩ := ReprAllK.of_readsAll (prog := X.prog) (w := X.w) q1 s1 (fun z => by rw [keysKv, n1] at z; cases z) (fun t ht => let ⟨p, hp, hl⟩ := PyData.shownKv_key_le _ t ht; Nat.le_trans hl (Nat.le_trans (dictText_mem_le hp) hz'))
  obtain ⟨b2, m2, k2⟩ := ReprAllK.of_readsAll (prog := X.prog) (w := X.w) q2 s2 (fun z => by rw [valsKv, n2] at z; cases z) (fun t ht => let ⟨p, hp, hl⟩ := PyData.shownKv_val_le _ t ht; Nat.le_trans hl (Nat.le_trans (dictText_mem_le hp) hz'))
  have mb := (m1.mono (PyData.depthAll_keys_le (kvs.map fun p => ((.int p.1 : PyData), (.int p.2 : PyData))))).append (m2.mono (PyData.depthAll_vals_le (kvs.map fun p => ((.int p.1 : PyData), (.int p.2 : PyData)))))
  refine ⟨o, es, ep, b1 ++ b2, ho, hx.1, hd, hsys, r, not_mem_of_deeper r (by simp only [PyData.depth]; omega) mb, mb, ?_⟩
  rw [PyData.shownKv_eq]
  exact ReprEntriesK.of_two es.toList _ _ (k1.more_le (fun b z => List.mem_append_left _ z) (PyData.depthAll_keys_le _)) (k2.more_le (fun b z => List.mem_append_right _ z) (PyData.depthAll_vals_le _))
theorem ShD.go (I : Inv X pins σ H s) {v : V} {d : PyData} (h : ShD X.K H v d) : ∀ {u : Value}, RelV v u → d.showable = true → d.shown.length ≤ sizeLine → Shown X.prog X.w s.heap u d := by
  induction h with
  | flat hd n =>
    intro u r hs hz
    obtain ⟨as, rd⟩ := Dp.reads I _ _ u hd r
    obtain ⟨bs, m, k⟩ := ReprK.of_reads (prog := X.prog) (w := X.w) rd hs (fun z => by rw [n] at z; cases z) hz
    exact ⟨as, bs, rd, m, k⟩
  | @dict a kvs h =>
    intro u r hs hz
    cases r
    obtain ⟨o, es, n, bs, h1, h2, h3, h4, rd, na, m, k⟩ := dict_facts I h (by simpa [PyData.showable] using hs) hz
    refine ⟨[a], a :: bs, rd, ReadAtMost.cons rd (by simp only [PyData.depth]; omega) m, ?_⟩
    simp only [PyData.depth, PyData.shown]
    exact ReprK.dict h1 h2 h3 h4 na k
  | @lst a xs ds h hl hi ih =>
    intro u r hs hz
    cases r
    obtain ⟨its, rv, ⟨o, n, ho, hc, _, hd⟩, _⟩ := I.list h
    have hz' : (listText (PyData.shownAll ds)).length ≤ sizeLine := by simpa only [PyData.shown] using hz
    have hs' : PyData.showableAll ds = true := by simpa [PyData.showable] using hs
    obtain ⟨as, bs, rd, m, k⟩ := shown_all (P := X.prog) (w := X.w) (h := s.heap) (ds := ds) (us := its) (by rw [← rv.length]; exact hl) fun i u d hu hdi => by
      obtain ⟨v, hv⟩ : ∃ v, xs[i]? = some v := ⟨_, List.getElem?_eq_getElem (by rw [rv.length]; exact (List.getElem?_eq_some_iff.mp hu).1)⟩
      obtain ⟨u2, hu2, r2⟩ := rv.get hv
      rw [hu] at hu2
      cases hu2
      exact ih i v d hv hdi r2 (showAll_at hs' hdi) (Nat.le_trans (listText_mem_le (shownAll_at hdi)) hz')
    have R : Reads s.heap (.ref a) (.list ds) (a :: as) := .list ho hc hd (by simpa using rd)
    have na : a ∉ bs := not_mem_of_deeper R (by simp only [PyData.depth]; omega) m
    refine ⟨_, a :: bs, R, ReadAtMost.cons R (by simp only [PyData.depth]; omega) m, ?_⟩
    simp only [PyData.depth, PyData.shown]
    cases its with
    | nil =>
      cases rd
      simp only [PyData.shownAll, listText_nil]
      exact ReprK.listEmpty ho hc hd
    | cons x l => exact ReprK.list ho hc hd na (by simpa using k.length_eq) fun i y e => k.item i y (by simpa using e)
  | @tup a xs ds h hl hi ih =>
    intro u r hs hz
    cases r
    obtain ⟨its, rv, ⟨o, ho, hc, n, hd⟩, _⟩ := I.tuple h
    have hz' : (tupleText (PyData.shownAll ds)).length ≤ sizeLine := by simpa only [PyData.shown] using hz
    have hs' : PyData.showableAll ds = true := by simpa [PyData.showable] using hs
    obtain ⟨as, bs, rd, m, k⟩ := shown_all (P := X.prog) (w := X.w) (h := s.heap) (ds := ds) (us := its) (by rw [← rv.length]; exact hl) fun i u d hu hdi => by
      obtain ⟨v, hv⟩ : ∃ v, xs[i]? = some v := ⟨_, List.getElem?_eq_getElem (by rw [rv.length]; exact (List.getElem?_eq_some_iff.mp hu).1)⟩
      obtain ⟨u2, hu2, r2⟩ := rv.get hv
      rw [hu] at hu2
      cases hu2
      exact ih i v d hv hdi r2 (showAll_at hs' hdi) (Nat.le_trans (tupleText_mem_le (shownAll_at hdi)) hz')
    have R : Reads s.heap (.ref a) (.tuple ds) as := .tuple ho hc hd (by simpa using rd)
    have na : a ∉ bs := not_mem_of_deeper R (by simp only [PyData.depth]; omega) m
    refine ⟨_, a :: bs, R, ReadAtMost.cons R (by simp only [PyData.depth]; omega) m, ?_⟩
    simp only [PyData.depth, PyData.shown]
    exact ReprK.tuple ho hc hd na (by simpa using k)
def rReprS (K : PySem.W.Frag) : List V → Hp → VK → Prop := fun vs H Q => ∃ (v : V) (d : PyData), vs = [v] ∧ ShD K H v d ∧ d.showable = true ∧ d.depth ≤ 64 ∧ d.shown.length ≤ sizeLine ∧ Q (.str d.shown) H
theorem call_reprS (gd : X.A.guards = some []) (hu : X.A.units + 65 < cLine) : CallR X (.builtin "repr") (rReprS X.K) := by
  intro pins s σ H xs us Q I r h
  obtain ⟨v, d, rfl, hd, h1, h3, h4, q⟩ := h
  obtain ⟨u, rfl, r1⟩ := vals1 r
  cases hd with
  | flat hd n =>
    obtain ⟨as, rd⟩ := Dp.reads I d _ u hd r1
    cases hd with
    | non =>
      cases r1
      exact PySem.P.repr_of_none ⟨.str _, H, I.tok _, ⟨_, rfl⟩, q⟩
    | bl b =>
      cases r1
      exact PySem.P.repr_of_bool ⟨.str _, H, I.tok _, ⟨_, rfl⟩, q⟩
    | int i =>
      obtain ⟨t, rfl⟩ := r1
      exact PySem.P.repr_of_int (by simpa [PyData.showable] using h1) ⟨.str _, H, I.tok _, ⟨_, rfl⟩, q⟩
    | str x =>
      obtain ⟨t, rfl⟩ := r1
      exact PySem.P.repr_of_str ⟨.str _, H, I.tok _, ⟨_, rfl⟩, q⟩ (by simpa only [PyData.shown] using h4)
    | lst _ _ =>
      cases r1
      exact repr_of_reads' rd h1 (fun z => by rw [n] at z; cases z) gd (by omega) (fun _ _ e => e) (fun h' u tk keep => ⟨.str _, H, I.kept keep, ⟨_, rfl⟩, q⟩) h4
    | tup _ _ =>
      cases r1
      exact repr_of_reads' rd h1 (fun z => by rw [n] at z; cases z) gd (by omega) (fun _ _ e => e) (fun h' u tk keep => ⟨.str _, H, I.kept keep, ⟨_, rfl⟩, q⟩) h4
  | @dict a kvs h =>
    cases r1
    obtain ⟨o, es, n, bs, g1, g2, g3, g4, rd, na, m, k⟩ := dict_facts I h (by simpa [PyData.showable] using h1) h4
    simp only [PyData.depth] at h3
    simp only [PyData.shown] at h4 q
    exact call_repr_slot (by omega) ⟨o, g1, g2⟩ F.slot_dict_repr (call_dict_reprK g1 g2 g3 g4 na k gd (fun b _ => Clear.nil b) (by show X.A.units + 1 + _ < cLine; omega) (fun _ _ e => e) (fun h' u tk keep => ⟨_, _, rfl, .str _, H, I.kept keep, ⟨_, rfl⟩, q⟩) h4)
  | @lst a xs ds h hl hi =>
    have sh := ShD.go I (.lst h hl hi) r1 h1 h4
    cases r1
    obtain ⟨its, rv, ⟨o, n, ho, hc, _, hd⟩, _⟩ := I.list h
    have hz' : (listText (PyData.shownAll ds)).length ≤ sizeLine := by simpa only [PyData.shown] using h4
    have hs' : PyData.showableAll ds = true := by simpa [PyData.showable] using h1
    obtain ⟨as, bs, rd, m, k⟩ := shown_all (P := X.prog) (w := X.w) (h := s.heap) (ds := ds) (us := its) (by rw [← rv.length]; exact hl) fun i u d hu hdi => by
      obtain ⟨v, hv⟩ : ∃ v, xs[i]? = some v := ⟨_, List.getElem?_eq_getElem (by rw [rv.length]; exact (List.getElem?_eq_some_iff.mp hu).1)⟩
      obtain ⟨u2, hu2, r2⟩ := rv.get hv
      rw [hu] at hu2
      cases hu2
      exact ShD.go I (hi i v d hv hdi) r2 (showAll_at hs' hdi) (Nat.le_trans (listText_mem_le (shownAll_at hdi)) hz')
    have na : a ∉ bs := not_mem_of_deeper (Reads.list ho hc hd (by simpa using rd)) (by simp only [PyData.depth]; omega) m
    simp only [PyData.depth] at h3
    simp only [PyData.shown] at q
    refine call_repr_slot (by omega) ⟨o, ho, hc⟩ F.slot_list_repr.toG ?_
    cases its with
    | nil =>
      cases rd
      simp only [PyData.shownAll, listText_nil] at q
      exact call_list_repr_empty ⟨o, ho, hc⟩ ho hd ⟨_, _, rfl, .str _, H, I.tok _, ⟨_, rfl⟩, q⟩
    | cons x l => exact call_list_reprK ho hc hd na (by simpa using k.length_eq) (fun i y e => k.item i y (by simpa using e)) gd (fun b _ => Clear.nil b) (by show X.A.units + 1 + _ < cLine; omega) (fun _ _ e => e) (fun h' u tk keep => ⟨_, _, rfl, .str _, H, I.kept keep, ⟨_, rfl⟩, q⟩) hz'
  | @tup a xs ds h hl hi =>
    cases r1
    obtain ⟨its, rv, ⟨o, ho, hc, n, hd⟩, _⟩ := I.tuple h
    have hz' : (tupleText (PyData.shownAll ds)).length ≤ sizeLine := by simpa only [PyData.shown] using h4
    have hs' : PyData.showableAll ds = true := by simpa [PyData.showable] using h1
    obtain ⟨as, bs, rd, m, k⟩ := shown_all (P := X.prog) (w := X.w) (h := s.heap) (ds := ds) (us := its) (by rw [← rv.length]; exact hl) fun i u d hu hdi => by
      obtain ⟨v, hv⟩ : ∃ v, xs[i]? = some v := ⟨_, List.getElem?_eq_getElem (by rw [rv.length]; exact (List.getElem?_eq_some_iff.mp hu).1)⟩
      obtain ⟨u2, hu2, r2⟩ := rv.get hv
      rw [hu] at hu2
      cases hu2
      exact ShD.go I (hi i v d hv hdi) r2 (showAll_at hs' hdi) (Nat.le_trans (tupleText_mem_le (shownAll_at hdi)) hz')
    have na : a ∉ bs := not_mem_of_deeper (Reads.tuple ho hc hd (by simpa using rd)) (by simp only [PyData.depth]; omega) m
    simp only [PyData.depth] at h3
    simp only [PyData.shown] at q
    exact call_repr_slot (by omega) ⟨o, ho, hc⟩ F.slot_tuple_repr (call_tuple_reprK ho hc hd na (by simpa using k) gd (fun b _ => Clear.nil b) (by show X.A.units + 1 + _ < cLine; omega) (fun _ _ e => e) (fun h' u tk keep => ⟨_, _, rfl, .str _, H, I.kept keep, ⟨_, rfl⟩, q⟩) hz')
end
end L2

/-! defs that make lambdas and are called where nothing is being shown; the end of a law of such defs -/
namespace L2
open PySem PySem.Spec PyProof.Rows LamX
theorem Fun.okGC {P : Program} {w : World} {K : PySem.W.Frag} {mg : Str → Option Value} {base : Heap} {x qual : Str} {st : Stmt} {f c : Addr} {fd : FuncData} {N ps : List Str} {k : Nat} {sp : Sp} (F : Fun K x qual st f fd) (known : fd.code = .ref c) (S : FnScope N ps (defScope st)) (ln : ∀ vs H Q E, sp vs H Q E → vs.length = ps.length)
    (bdy : ∀ (A : Around) (outer : List Env) (s : Shared) (H : Hp) (vs : List V) (Q : VK) (E : XK), A.guards = some [] → Room k (A.deeper (envOfC qual (defScope st) s.heap.objs.size f (.ref c))) → sp vs H Q E →
      ∃ t, PSs (cxOf CX0 P w K mg base N qual (defScope st) f (.ref c) A outer s H E).nox (defBody st) t ∧ t { nx := fun _ H' => Q .non H', rt := Q } (L2.start N vs) H) : FnG P w K mg base CX0 (k + 1) f fd ps sp := by
  obtain ⟨oc, od, kV, doc, pm, an, cdv, ct, osl, rfl, at_, cd⟩ := F.ex
  obtain rfl : cdv = .ref c := known
  refine fnG_body at_ cd S ln fun A outer s H vs Q E gd room hs => ?_
  obtain ⟨t, h1, h2⟩ := bdy A outer s H vs Q E gd room hs
  exact ⟨t, h1.nox, h2⟩
/-- what is told of the heap where a law begins: its tables, and the script if the frame doesn't hold it -/
def lawHp (K : PySem.W.Frag) (ts : List Addr) (a : Addr) (ob : Obj) (xs : List V) : Hp := fun b =>
  bif decide (b ∈ ts) then some (.tbl #[]) else bif decide (b = a) && (K.lookup a).isNone then some (.frz ob (.lst xs)) else none
inductive LawB (K : PySem.W.Frag) (ts : List Addr) (a : Addr) (ob : Obj) (xs : List V) (b : Addr) : Prop
  | tab (m : b ∈ ts) (e : lawHp K ts a ob xs b = some (.tbl #[]))
  | scr (m : b ∉ ts) (here : b = a) (own : K.lookup a = none) (e : lawHp K ts a ob xs b = some (.frz ob (.lst xs)))
  | out (m : b ∉ ts) (far : b ≠ a ∨ K.lookup a ≠ none) (e : lawHp K ts a ob xs b = none)
theorem lawB (K : PySem.W.Frag) (ts : List Addr) (a : Addr) (ob : Obj) (xs : List V) (b : Addr) : LawB K ts a ob xs b := by
  by_cases m : b ∈ ts
  · exact .tab m (by simp [lawHp, m])
  · by_cases here : b = a
    · cases own : K.lookup a with
      | none => exact .scr m here own (by simp [lawHp, m, here, own]; rw [← here]; simp [m])
      | some o => exact .out m (.inr (by rw [own]; exact Option.some_ne_none _)) (by simp [lawHp, m, own])
    · exact .out m (.inl here) (by simp [lawHp, m, here])
/-- where a law begins -/
structure LawStart (K : PySem.W.Frag) (h : Heap) (ts : List Addr) (a : Addr) (us : List Value) (ns : List Int) : Prop where
  kin : K.In h
  tab : ∀ b ∈ ts, h.get? b = some (PySem.W.tabObj #[])
  ntab : ∀ b ∈ ts, K.lookup b = none
  scr : h.get? a = some { cls := .type "list", data := .seq us.toArray }
  nums : IntsAre us ns
  small : ns.length ≤ sizeLine
abbrev scrO (us : List Value) : Obj := { cls := .type "list", data := .seq us.toArray }
section
variable {P : Program} {w : World} {K : PySem.W.Frag} {h : Heap} {ts : List Addr} {a : Addr} {us : List Value} {ns : List Int}
theorem LawStart.apart (L : LawStart K h ts a us ns) : a ∉ ts := fun m => by
  have e := (L.tab a m).symm.trans L.scr
  cases congrArg Obj.data (Option.some.inj e)
theorem LawStart.ok (L : LawStart K h ts a us ns) : HOk P w (lawHp K ts a (scrO us) (ns.map V.int)) h := fun b u e => by
  rcases lawB K ts a (scrO us) (ns.map V.int) b with ⟨m, z⟩ | ⟨m, rfl, own, z⟩ | ⟨m, far, z⟩
  · obtain rfl := Option.some.inj (z.symm.trans e)
    exact L.tab b m
  · obtain rfl := Option.some.inj (z.symm.trans e)
    exact ⟨L.scr, by rw [List.length_map]; exact L.small, us, _, vals_ints L.nums, L.scr⟩
  · rw [z] at e
    cases e
theorem LawStart.seq (L : LawStart K h ts a us ns) : SqL K (lawHp K ts a (scrO us) (ns.map V.int)) a (ns.map V.int) := by
  rcases lawB K ts a (scrO us) (ns.map V.int) a with ⟨m, _⟩ | ⟨_, _, _, z⟩ | ⟨_, far, _⟩
  · exact absurd m L.apart
  · exact .inl (.inr ⟨_, z⟩)
  · rcases far with far | far
    · exact absurd rfl far
    · cases own : K.lookup a with
      | none => exact absurd own far
      | some o =>
        obtain rfl := Option.some.inj ((L.kin a o own).symm.trans L.scr)
        exact .inr ⟨_, us.toArray, _, own, rfl, rfl, rfl, by rw [List.size_toArray, L.nums.length]; exact L.small, by simpa using vals_ints L.nums⟩
/-- an object of another kind stands in the base, too -/
theorem LawStart.hid (L : LawStart K h ts a us ns) {b : Addr} {o : Obj} (e : h.get? b = some o) (n1 : o.data ≠ (scrO us).data) (n2 : o.data ≠ .fields #[]) : (hidT h (lawHp K ts a (scrO us) (ns.map V.int))).get? b = some o := by
  refine hidT_get e ?_
  rcases lawB K ts a (scrO us) (ns.map V.int) b with ⟨m, _⟩ | ⟨_, rfl, _, _⟩ | ⟨_, _, z⟩
  · exact absurd (congrArg Obj.data (Option.some.inj (e.symm.trans (L.tab b m)))) n2
  · exact absurd (congrArg Obj.data (Option.some.inj (e.symm.trans L.scr))) n1
  · exact z
theorem LawStart.hidK (L : LawStart K h ts a us ns) : K.In (hidT h (lawHp K ts a (scrO us) (ns.map V.int))) := fun b o e => by
  refine hidT_get (L.kin b o e) ?_
  rcases lawB K ts a (scrO us) (ns.map V.int) b with ⟨m, _⟩ | ⟨_, rfl, own, _⟩ | ⟨_, _, z⟩
  · rw [L.ntab b m] at e
    cases e
  · rw [own] at e
    cases e
  · exact z
theorem LawStart.hidN (L : LawStart K h ts a us ns) {b : Addr} {m : Str → Option Value} (N : h.Ns b m) : (hidT h (lawHp K ts a (scrO us) (ns.map V.int))).Ns b m := by
  obtain ⟨o, es, ep, e, dd, r⟩ := N
  exact ⟨o, es, ep, L.hid e (fun z => by rw [dd] at z; cases z) (fun z => by rw [dd] at z; cases z), dd, r⟩
/-- the tables' code objects stand in the base -/
theorem LawStart.tabB (L : LawStart K h ts a us ns) {mg : Str → Option Value} {c p : Addr} (m : p ∈ ts) (C : PySem.W.CodeHd h c p) (top : h.Ns mainGlobals mg)
    (bm : ∃ (bm : Addr) (ob : Obj), mg "__builtins__" = some (.ref bm) ∧ bm ≠ builtinsNs ∧ h.get? bm = some ob ∧ ob.cls = .type "module" ∧ ob.dict = some builtinsNs ∧ ob.data = .plain) : TabB (hidT h (lawHp K ts a (scrO us) (ns.map V.int))) mg c p := by
  obtain ⟨q, qo, q1, q2, q3, q4, q5, q6⟩ := bm
  obtain ⟨go, es, ep, g1, g2, _⟩ := top
  obtain ⟨o, vs, file, tf, flags, tg, inF, text, tt, c1, c2, c3, c4, rest⟩ := C
  refine ⟨⟨o, vs, file, tf, flags, tg, inF, text, tt, L.hid c1 (fun z => ?_) (fun z => ?_), c2, c3, c4, rest⟩, ⟨q, qo, q1, q2, fun z => ?_, fun z => ?_, L.hid q3 (fun z => ?_) (fun z => ?_), q4, q5, q6⟩, fun z => ?_⟩
  · rw [c3] at z; cases z
  · rw [c3] at z; cases z; simp at c4
  · rw [z, g1] at q3; cases q3; rw [g2] at q6; cases q6
  · rw [z, L.tab p m] at q3; cases q3; cases q6
  · rw [q6] at z; cases z
  · rw [q6] at z; cases z
  · rw [z, L.tab p m] at g1; cases g1; cases g2
/-- what a run may have changed: the tables alone -/
theorem LawStart.old (L : LawStart K h ts a us ns) (code : ∀ b ∈ ts, ∃ c, PySem.W.CodeHd h c b) {H' : Hp} {h' : Heap} (un : Un [] [] (lawHp K ts a (scrO us) (ns.map V.int)) H' h h') (ok : HOk P w H' h') : OldK h h' := by
  have after : ∀ b o, h.get? b = some o → (b ∉ ts ∧ h'.get? b = some o) ∨ (b ∈ ts ∧ o = PySem.W.tabObj #[] ∧ ∃ more : Array Value, h'.get? b = some (PySem.W.tabObj more)) := fun b o e => by
    rcases lawB K ts a (scrO us) (ns.map V.int) b with ⟨m, z⟩ | ⟨m, rfl, _, z⟩ | ⟨m, _, z⟩
    · obtain ⟨more, g⟩ := un.tbls b #[] z
      rw [Array.empty_append] at g
      exact .inr ⟨m, (Option.some.inj (e.symm.trans (L.tab b m))), more, ok b _ g⟩
    · obtain rfl := Option.some.inj (e.symm.trans L.scr)
      exact .inl ⟨m, (ok b _ (un.frzs b _ _ z)).1⟩
    · exact .inl ⟨m, un.keep b o e z List.not_mem_nil List.not_mem_nil⟩
  refine ⟨fun b o e => ?_, fun b o e => ?_⟩
  · rcases after b o e with ⟨_, r⟩ | ⟨m, rfl, more, r⟩
    · exact .inl r
    · obtain ⟨c, C⟩ := code b m
      exact .inr (.inl ⟨(C.tab (L.tab b m)).isCodeTable, rfl, #[], more, rfl, by rw [Array.empty_append]; exact r⟩)
  · rcases after b o e with ⟨_, r⟩ | ⟨_, _, more, r⟩
    · exact ⟨_, r⟩
    · exact ⟨_, r⟩
end
/-- what is known of a law that may show lists, and makes lambdas -/
def LawAtG (l : PySem.W.OpenLaw) (w : World) (K : PySem.W.Frag) (CX : CXT) (k n : Nat) (x : Str) (mg : Str → Option Value) (fa : Addr) (h : Heap) : Prop :=
  ∃ (fd : FuncData) (cs : List (Addr × Addr)) (sp : Sp), (∀ p ∈ cs, h.get? p.2 = some (PySem.W.tabObj #[]) ∧ K.lookup p.2 = none ∧ PySem.W.CodeHd h p.1 p.2) ∧ (∀ (s : Shared) (u : Value), BindsTo s fd ⟨[u], []⟩ [(x, u)]) ∧
    (∀ (H : Hp) (a : Addr) (ns : List Int), ns.length ≤ n → (∀ p ∈ cs, H p.2 = some (.tbl #[])) → SqL K H a (ns.map V.int) → sp [.ref a] H (fun v _ => v = .bl true) fun _ _ _ => False) ∧
    ∀ base : Heap, K.In base → base.Ns mainGlobals mg → (∀ p ∈ cs, TabB base mg p.1 p.2) → FnG l.prog w K mg base CX k fa fd [x] sp
theorem walkGT {l : PySem.W.OpenLaw} {n k : Nat} {q : Program} {loose : List Str} {XP : (Str → Option Value) → Heap → Prop} {YP : World → Heap → Prop} {d : DefRec} {K : Params → PySem.W.Frag} {CX : World → CXT} {x : Str}
    (most : l.most = some n) (small : n ≤ sizeLine) (nodef : d.params.defaults = []) (room : Room k callerA) (inK : ∀ (w : World) (h : Heap), YP w h → (K w.params).In h)
    (F : ∀ (w : World) (mg : Str → Option Value) (fa : Addr) (h : Heap), YP w h → (K w.params).In h → h.Ns mainGlobals mg → mg d.name = some (.ref fa) → LawAtG l w (K w.params) (CX w) k n x mg fa h)
    (noX : ∀ (w : World) (H : Hp) (s : Shared) (e : Value) (s' : Shared), CX w [] H s (fun _ _ _ => False) e s' → False) : PySem.W.WalkO q loose XP YP l.row.toRowW d [] (fun f vs => PySem.call f vs) := by
  refine Att.attach_call most nodef fun w s0 s1 mg mb fa o pm cd doc a us ns G Y h1 h2 h3 at_ scr isI len gen0 => ?_
  obtain ⟨fd, cs, sp, tabs, bt, want, keep⟩ := F w mg fa _ Y (inK w _ Y) G.T.g at_
  have mem : ∀ p ∈ cs, p.2 ∈ cs.map (·.2) := fun p hp => List.mem_map.mpr ⟨p, hp, rfl⟩
  have back : ∀ b ∈ cs.map (·.2), ∃ p ∈ cs, p.2 = b := fun b hb => List.mem_map.mp hb
  have L : LawStart (K w.params) s1.heap (cs.map (·.2)) a us ns := ⟨inK w _ Y, fun b hb => by obtain ⟨p, hp, rfl⟩ := back b hb; exact (tabs p hp).1, fun b hb => by obtain ⟨p, hp, rfl⟩ := back b hb; exact (tabs p hp).2.1, scr, isI, Nat.le_trans len small⟩
  have TB : ∀ p ∈ cs, TabB (hidT s1.heap (lawHp (K w.params) (cs.map (·.2)) a (scrO us) (ns.map V.int))) mg p.1 p.2 := fun p hp => L.tabB (mem p hp) (tabs p hp).2.2 G.T.g G.T.bmain
  obtain ⟨mc, f1, f2⟩ := G.T.nolimit
  have ev : Env0 l.prog w (K w.params) mg (hidT s1.heap (lawHp (K w.params) (cs.map (·.2)) a (scrO us) (ns.map V.int))) callerA [] s1 (lawHp (K w.params) (cs.map (·.2)) a (scrO us) (ns.map V.int)) :=
    ⟨rfl, ⟨L.hidK, L.hidN G.T.g, ⟨mb, L.hidN G.T.b, G.T.builtins⟩, ⟨mc, L.hidN f1, f2⟩⟩, fun b o e => of_hidT e, Nat.le_of_eq (hidT_size _ _), trivial, fun b hb => absurd (show b ∈ ([] : List Addr) from hb) List.not_mem_nil, L.ok, .of_eq gen0⟩
  have starts := want (lawHp (K w.params) (cs.map (·.2)) a (scrO us) (ns.map V.int)) a ns len (fun p hp => by
    rcases lawB (K w.params) (cs.map (·.2)) a (scrO us) (ns.map V.int) p.2 with ⟨_, z⟩ | ⟨m, _, _, _⟩ | ⟨m, _, _⟩
    · exact z
    · exact absurd (mem p hp) m
    · exact absurd (mem p hp) m) L.seq
  refine codeAny_mono ((keep _ L.hidK (L.hidN G.T.g) TB).go (us := [.ref a]) (vs := [.ref a]) rfl room ev (bt s1 (.ref a)) (.cons rfl .nil) starts) fun r s' res => ?_
  match r, res with
  | .error e, res => exact (noX w _ s1 e s' res).elim
  | .ok .next, res => exact (show False from res).elim
  | .ok .brk, res => exact (show False from res).elim
  | .ok .cont, res => exact (show False from res).elim
  | .ok (.ret u), ⟨v, H', os, bare, un, ok', rv, qq⟩ =>
    obtain rfl : v = .bl true := qq
    obtain rfl : u = Value.bool true := rv
    exact ⟨rfl, L.old (fun b hb => by obtain ⟨p, hp, rfl⟩ := back b hb; exact ⟨_, (tabs p hp).2.2⟩) un ok', os, bare⟩
/-- the same, the frame told by a Hook -/
theorem walkGTE {l : PySem.W.OpenLaw} {n k : Nat} {q : Program} {loose : List Str} {XP : (Str → Option Value) → Heap → Prop} {YP : World → Heap → Prop} {d : DefRec} {CX : World → CXT} {x : Str}
    (most : l.most = some n) (small : n ≤ sizeLine) (nodef : d.params.defaults = []) (room : Room k callerA)
    (F : ∀ (w : World) (mg : Str → Option Value) (fa : Addr) (h : Heap), YP w h → h.Ns mainGlobals mg → mg d.name = some (.ref fa) → ∃ K : PySem.W.Frag, K.In h ∧ LawAtG l w K (CX w) k n x mg fa h)
    (noX : ∀ (w : World) (H : Hp) (s : Shared) (e : Value) (s' : Shared), CX w [] H s (fun _ _ _ => False) e s' → False) : PySem.W.WalkO q loose XP YP l.row.toRowW d [] (fun f vs => PySem.call f vs) := by
  refine Att.attach_call most nodef fun w s0 s1 mg mb fa o pm cd doc a us ns G Y h1 h2 h3 at_ scr isI len gen0 => ?_
  obtain ⟨K, inK, fd, cs, sp, tabs, bt, want, keep⟩ := F w mg fa _ Y G.T.g at_
  have mem : ∀ p ∈ cs, p.2 ∈ cs.map (·.2) := fun p hp => List.mem_map.mpr ⟨p, hp, rfl⟩
  have back : ∀ b ∈ cs.map (·.2), ∃ p ∈ cs, p.2 = b := fun b hb => List.mem_map.mp hb
  have L : LawStart K s1.heap (cs.map (·.2)) a us ns := ⟨inK, fun b hb => by obtain ⟨p, hp, rfl⟩ := back b hb; exact (tabs p hp).1, fun b hb => by obtain ⟨p, hp, rfl⟩ := back b hb; exact (tabs p hp).2.1, scr, isI, Nat.le_trans len small⟩
  have TB : ∀ p ∈ cs, TabB (hidT s1.heap (lawHp K (cs.map (·.2)) a (scrO us) (ns.map V.int))) mg p.1 p.2 := fun p hp => L.tabB (mem p hp) (tabs p hp).2.2 G.T.g G.T.bmain
  obtain ⟨mc, f1, f2⟩ := G.T.nolimit
  have ev : Env0 l.prog w K mg (hidT s1.heap (lawHp K (cs.map (·.2)) a (scrO us) (ns.map V.int))) callerA [] s1 (lawHp K (cs.map (·.2)) a (scrO us) (ns.map V.int)) :=
    ⟨rfl, ⟨L.hidK, L.hidN G.T.g, ⟨mb, L.hidN G.T.b, G.T.builtins⟩, ⟨mc, L.hidN f1, f2⟩⟩, fun b o e => of_hidT e, Nat.le_of_eq (hidT_size _ _), trivial, fun b hb => absurd (show b ∈ ([] : List Addr) from hb) List.not_mem_nil, L.ok, .of_eq gen0⟩
  have starts := want (lawHp K (cs.map (·.2)) a (scrO us) (ns.map V.int)) a ns len (fun p hp => by
    rcases lawB K (cs.map (·.2)) a (scrO us) (ns.map V.int) p.2 with ⟨_, z⟩ | ⟨m, _, _, _⟩ | ⟨m, _, _⟩
    · exact z
    · exact absurd (mem p hp) m
    · exact absurd (mem p hp) m) L.seq
  refine codeAny_mono ((keep _ L.hidK (L.hidN G.T.g) TB).go (us := [.ref a]) (vs := [.ref a]) rfl room ev (bt s1 (.ref a)) (.cons rfl .nil) starts) fun r s' res => ?_
  match r, res with
  | .error e, res => exact (noX w _ s1 e s' res).elim
  | .ok .next, res => exact (show False from res).elim
  | .ok .brk, res => exact (show False from res).elim
  | .ok .cont, res => exact (show False from res).elim
  | .ok (.ret u), ⟨v, H', os, bare, un, ok', rv, qq⟩ =>
    obtain rfl : v = .bl true := qq
    obtain rfl : u = Value.bool true := rv
    exact ⟨rfl, L.old (fun b hb => by obtain ⟨p, hp, rfl⟩ := back b hb; exact ⟨_, (tabs p hp).2.2⟩) un ok', os, bare⟩
end L2

/-! what repr can show, part by part -/
namespace L2
open PySem PySem.Spec PyProof.Rows LamX
structure Shw (n k : Nat) (d : PyData) : Prop where
  sh : d.showable = true
  lv : d.leavesShort 24 = true
  dp : d.depth ≤ k
  bk : d.bulk ≤ n
structure Shws (n k : Nat) (ds : List PyData) : Prop where
  sh : PyData.showableAll ds = true
  lv : PyData.leavesShortAll 24 ds = true
  dp : PyData.depthAll ds ≤ k
  bk : PyData.bulkAll ds ≤ n
theorem Shw.mono {n k n2 k2 : Nat} {d : PyData} (h : Shw n k d) (a : n ≤ n2) (b : k ≤ k2) : Shw n2 k2 d := ⟨h.sh, h.lv, Nat.le_trans h.dp b, Nat.le_trans h.bk a⟩
theorem Shws.mono {n k n2 k2 : Nat} {d : List PyData} (h : Shws n k d) (a : n ≤ n2) (b : k ≤ k2) : Shws n2 k2 d := ⟨h.sh, h.lv, Nat.le_trans h.dp b, Nat.le_trans h.bk a⟩
theorem Shws.nil : Shws 0 0 [] := ⟨rfl, rfl, Nat.le_refl _, Nat.le_refl _⟩
theorem Shws.cons {n m k : Nat} {d : PyData} {ds : List PyData} (h : Shw n k d) (t : Shws m k ds) : Shws (n + 1 + m) k (d :: ds) := by
  refine ⟨?_, ?_, ?_, ?_⟩
  · show (d.showable && PyData.showableAll ds) = true
    rw [h.sh, t.sh]
    rfl
  · show (d.leavesShort 24 && PyData.leavesShortAll 24 ds) = true
    rw [h.lv, t.lv]
    rfl
  · exact Nat.max_le.mpr ⟨h.dp, t.dp⟩
  · have := h.bk
    have := t.bk
    show d.bulk + 1 + PyData.bulkAll ds ≤ _
    omega
theorem Shws.app {n m k : Nat} : ∀ {xs ys : List PyData}, Shws n k xs → Shws m k ys → Shws (n + m) k (xs ++ ys)
  | [], ys, _, t => t.mono (Nat.le_add_left _ _) (Nat.le_refl _)
  | x :: xs, ys, h, t => by
    have s1 : (x.showable && PyData.showableAll xs) = true := h.sh
    have s2 : (x.leavesShort 24 && PyData.leavesShortAll 24 xs) = true := h.lv
    obtain ⟨a1, a2⟩ := Bool.and_eq_true_iff.mp s1
    obtain ⟨b1, b2⟩ := Bool.and_eq_true_iff.mp s2
    have d0 : max x.depth (PyData.depthAll xs) ≤ k := h.dp
    have c0 : x.bulk + 1 + PyData.bulkAll xs ≤ n := h.bk
    have r := Shws.cons (n := x.bulk) ⟨a1, b1, Nat.le_trans (Nat.le_max_left _ _) d0, Nat.le_refl _⟩ (Shws.app (n := PyData.bulkAll xs) ⟨a2, b2, Nat.le_trans (Nat.le_max_right _ _) d0, Nat.le_refl _⟩ t)
    exact r.mono (by omega) (Nat.le_refl _)
theorem Shw.int {i : Int} (h : i.natAbs < 10 ^ 23) : Shw 0 0 (.int i) := by
  refine ⟨?_, ?_, Nat.le_refl _, Nat.le_refl _⟩
  · simp only [PyData.showable, decide_eq_true_eq]
    by_cases z : i.natAbs = 0
    · rw [z]
      decide
    · exact (Nat.log2_lt z).mpr (Nat.lt_trans h (Nat.lt_of_lt_of_le (by decide : (10 : Nat) ^ 23 < 2 ^ 80) (Nat.pow_le_pow_right (by decide) (by decide))))
  · simp only [PyData.leavesShort, decide_eq_true_eq]
    have e := int_text_length_le10 (k := 23) (by decide) h
    show (Str.ofString (toString i)).length ≤ 24
    rw [PySem.ofString_length]
    exact e
theorem Shw.non : Shw 0 0 .none := ⟨rfl, rfl, Nat.le_refl _, Nat.le_refl _⟩
theorem Shw.bl (b : Bool) : Shw 0 0 (.bool b) := ⟨rfl, rfl, Nat.le_refl _, Nat.le_refl _⟩
theorem Shws.ints : ∀ {ns : List Int}, (∀ z ∈ ns, z.natAbs < 10 ^ 23) → Shws ns.length 0 (ns.map PyData.int)
  | [], _ => Shws.nil
  | z :: ns, h => by
    have r := Shws.cons (Shw.int (h z List.mem_cons_self)) (Shws.ints fun y hy => h y (List.mem_cons_of_mem _ hy))
    exact r.mono (by rw [List.length_cons]; omega) (Nat.le_refl _)
theorem Shws.lst {n k : Nat} {ds : List PyData} (h : Shws n k ds) : Shw n (k + 1) (.list ds) := ⟨h.sh, h.lv, Nat.succ_le_succ h.dp, h.bk⟩
theorem Shws.tup {n k : Nat} {ds : List PyData} (h : Shws n k ds) : Shw n (k + 1) (.tuple ds) := ⟨h.sh, h.lv, Nat.succ_le_succ h.dp, h.bk⟩
theorem Shw.fits {n k : Nat} {d : PyData} (h : Shw n k d) (hn : n ≤ 2 ^ 19) : d.shown.length ≤ sizeLine := by
  have h1 := PyData.shown_le_bulk 24 (by decide) d h.lv
  have e : (2 : Nat) ^ 19 = 524288 := by decide
  have h2 : (24 + 2) * d.bulk ≤ 26 * 524288 := Nat.mul_le_mul (by omega) (by have := h.bk; omega)
  rw [sizeLine_eq]
  omega
/-- items that stand for data -/
def ShDs (K : PySem.W.Frag) (H : Hp) (xs : List V) (ds : List PyData) : Prop := xs.length = ds.length ∧ ∀ (i : Nat) (v : V) (d : PyData), xs[i]? = some v → ds[i]? = some d → ShD K H v d
section
variable {K : PySem.W.Frag} {H : Hp}
theorem ShDs.nil : ShDs K H [] [] := ⟨rfl, fun i v d h => by simp at h⟩
theorem ShDs.cons {v : V} {d : PyData} {xs : List V} {ds : List PyData} (h : ShD K H v d) (t : ShDs K H xs ds) : ShDs K H (v :: xs) (d :: ds) := by
  refine ⟨by rw [List.length_cons, List.length_cons, t.1], fun i u e h1 h2 => ?_⟩
  cases i with
  | zero =>
    cases h1
    cases h2
    exact h
  | succ i => exact t.2 i u e h1 h2
theorem ShDs.app : ∀ {xs ys : List V} {ds es : List PyData}, ShDs K H xs ds → ShDs K H ys es → ShDs K H (xs ++ ys) (ds ++ es)
  | [], ys, [], es, _, t => t
  | x :: xs, ys, d :: ds, es, h, t => by
    refine ShDs.cons (h.2 0 x d rfl rfl) (ShDs.app ⟨Nat.succ.inj h.1, fun i u e h1 h2 => h.2 (i + 1) u e h1 h2⟩ t)
  | [], _, _ :: _, _, h, _ => nomatch h.1
  | _ :: _, _, [], _, h, _ => nomatch h.1
theorem ShDs.ints : ∀ (ns : List Int), ShDs K H (ns.map V.int) (ns.map PyData.int)
  | [] => ShDs.nil
  | z :: ns => ShDs.cons (.flat (.int z) rfl) (ShDs.ints ns)
theorem ShDs.lst {a : Addr} {xs : List V} {ds : List PyData} (h : SqL K H a xs) (t : ShDs K H xs ds) : ShD K H (.ref a) (.list ds) := .lst h t.1 t.2
theorem ShDs.tup {a : Addr} {xs : List V} {ds : List PyData} (h : SqT K H a xs) (t : ShDs K H xs ds) : ShD K H (.ref a) (.tuple ds) := .tup h t.1 t.2
end
end L2

/-! sources of draws whose first number may be of any sign; ints by draws, with a bound told of each -/
namespace L2
open PySem PySem.Spec PyProof.Rows
def SrcZ (H : Hp) (p : Addr) : Prop := ∃ x y z : Int, H p = some (.lst [.int x, .int y, .int z])
theorem SrcZ.put {H : Hp} {p : Addr} {x y z : Int} : SrcZ (L2.upd H p (.lst [.int x, .int y, .int z])) p := ⟨x, y, z, upd_same⟩
theorem SrcZ.ne {H : Hp} {p q : Addr} (h : SrcZ H p) (n : H q = none) : q ≠ p := fun e => by
  obtain ⟨x, y, z, hp⟩ := h
  rw [← e, n] at hp
  cases hp
theorem SrcZ.at {H H' : Hp} {p : Addr} (h : SrcZ H p) (e : H' p = H p) : SrcZ H' p := by
  obtain ⟨x, y, z, hp⟩ := h
  exact ⟨x, y, z, e.trans hp⟩
theorem SrcZ.upd {H : Hp} {p q : Addr} {o : HO} (h : SrcZ H p) (n : q ≠ p) : SrcZ (L2.upd H q o) p := h.at (upd_ne (Ne.symm n))
theorem SrcZ.new {H : Hp} {p q : Addr} {o : HO} (h : SrcZ H p) (n : H q = none) : SrcZ (L2.upd H q o) p := h.upd (h.ne n)
theorem SrcZ.same {H H' : Hp} {p : Addr} (h : SrcZ H p) (e : Same H H') : SrcZ H' p := by
  obtain ⟨x, y, z, hp⟩ := h
  exact ⟨x, y, z, e _ _ hp⟩
def DnZ (p : Addr) (H H' : Hp) : Prop := SB p H H' ∧ SrcZ H' p
theorem DnZ.put {p : Addr} {H : Hp} {x y z : Int} : DnZ p H (L2.upd H p (.lst [.int x, .int y, .int z])) := ⟨SB.put, .put⟩
theorem DnZ.trans {p : Addr} {H H1 H2 : Hp} (a : DnZ p H H1) (b : DnZ p H1 H2) : DnZ p H H2 := ⟨a.1.trans b.1, b.2⟩
theorem DnZ.new {p q : Addr} {H H' : Hp} {o : HO} (a : DnZ p H H') (n : H' q = none) : DnZ p H (L2.upd H' q o) := ⟨a.1.trans (SB.new n), a.2.new n⟩
theorem DnZ.same {p : Addr} {H H' H2 : Hp} (a : DnZ p H H') (e : Same H' H2) : DnZ p H H2 := ⟨a.1.trans (SB.of e), a.2.same e⟩
theorem DnZ.refl {p : Addr} {H : Hp} (h : SrcZ H p) : DnZ p H H := ⟨SB.refl p H, h⟩
theorem DnZ.free {p q : Addr} {H H' : Hp} (a : DnZ p H H') (n : H' q = none) : H q = none := a.1.free (a.2.ne n) n
/-- a comprehension over range(n), each item an int reckoned by draws, of which something is told -/
theorem lc_intsZ {te : TE} {σ : L2.St} {H1 : Hp} {D p : Addr} {n j : Nat} {vs : List Nat} {Qd : Hp → Prop} (Pr : Int → Prop) (hn : n ≤ 1000000) (hs : SrcZ H1 p) (hD : H1 D = none)
    (hw : ∀ v, wipe ((wipe σ vs).set j v) vs = wipe σ vs)
    (he : ∀ (k : Nat) (H3 : Hp) (R : VK), k < n → DnZ p H1 H3 → (∀ (v : Int) (H4 : Hp), Pr v → DnZ p H3 H4 → R (.int v) H4) → te ((wipe σ vs).set j (some (.int (0 + (k : Nat))))) H3 R)
    (hd : ∀ (ms : List Int) (H' : Hp), ms.length = n → (∀ v ∈ ms, Pr v) → DnZ p H1 H' → H' D = some (.lst (ms.map V.int)) → Qd H') :
    ∃ W : Nat → Nat → Hp → Prop, (∃ m, W 0 m (L2.upd H1 D (.lst []))) ∧ ∀ i m H, W i m H →
      ((Itr 0 n).stop i H ∧ Qd H) ∨ ((Itr 0 n).go i H ∧ ∃ Nx : Hp → Prop, (∀ H', Nx H' → ∃ m', m' < m ∧ W (i + 1) m' H') ∧ ∀ x H', (Itr 0 n).yld i H x H' → gName j x (wipe σ vs) H' fun σ2 H2 => wipe σ2 vs = wipe σ vs ∧ tYes σ2 H2 fun b H3 =>
        if b = true then te σ2 H3 fun y H4 => ∃ acc, H4 D = some (.lst acc) ∧ acc.length < sizeLine ∧ Nx (L2.upd H4 D (.lst (acc ++ [y]))) else Nx H3) := by
  have nD : D ≠ p := hs.ne hD
  refine lc_range (lo := 0) (n := n) (fun i H => ∃ ms : List Int, ms.length = i ∧ (∀ v ∈ ms, Pr v) ∧ DnZ p H1 H ∧ H D = some (.lst (ms.map V.int))) ⟨[], rfl, fun v h => by simp at h, (DnZ.refl hs).new hD, upd_same⟩ ?_ ?_
  · rintro i H hi ⟨ms, hl, hp, dr, hh⟩
    refine ⟨hw _, ?_⟩
    refine he i H _ hi dr fun v H4 pv d4 => ?_
    have h4 := d4.1 _ _ nD hh
    refine ⟨_, h4, ?_, ms ++ [v], by simp [hl], fun u hu => ?_, ?_, ?_⟩
    · rw [List.length_map, hl]
      exact Nat.lt_of_le_of_lt (Nat.le_trans (Nat.le_of_lt hi) hn) (by decide)
    · rcases List.mem_append.mp hu with hu | hu
      · exact hp u hu
      · rw [List.mem_singleton.mp hu]
        exact pv
    · have dd := dr.trans d4
      refine ⟨fun b o nb e => ?_, dd.2.upd nD⟩
      rw [upd_ne (ne_of_none e hD)]
      exact dd.1 b o nb e
    · rw [map_snoc]
      exact upd_same
  · rintro H ⟨ms, hl, hp, dr, hh⟩
    exact hd ms H hl hp dr hh
/-- a comprehension over a list of ints, each item an int reckoned by draws -/
theorem lc_listZ {K : PySem.W.Frag} {te : TE} {σ : L2.St} {H1 : Hp} {D p l : Addr} {ns : List Int} {j : Nat} {vs : List Nat} {Qd : Hp → Prop} (Pr : Int → Prop) (hn : ns.length ≤ 1000000) (hs : SrcZ H1 p) (hD : H1 D = none) (hl : H1 l = some (.lst (ns.map V.int))) (nl : l ≠ p)
    (hw : ∀ v, wipe ((wipe σ vs).set j v) vs = wipe σ vs)
    (he : ∀ (z : Int) (H3 : Hp) (R : VK), z ∈ ns → DnZ p H1 H3 → (∀ (v : Int) (H4 : Hp), Pr v → DnZ p H3 H4 → R (.int v) H4) → te ((wipe σ vs).set j (some (.int z))) H3 R)
    (hd : ∀ (ms : List Int) (H' : Hp), ms.length = ns.length → (∀ v ∈ ms, Pr v) → DnZ p H1 H' → H' D = some (.lst (ms.map V.int)) → Qd H') :
    ∃ W : Nat → Nat → Hp → Prop, (∃ m, W 0 m (L2.upd H1 D (.lst []))) ∧ ∀ i m H, W i m H →
      ((Itl K l).stop i H ∧ Qd H) ∨ ((Itl K l).go i H ∧ ∃ Nx : Hp → Prop, (∀ H', Nx H' → ∃ m', m' < m ∧ W (i + 1) m' H') ∧ ∀ x H', (Itl K l).yld i H x H' → gName j x (wipe σ vs) H' fun σ2 H2 => wipe σ2 vs = wipe σ vs ∧ tYes σ2 H2 fun b H3 =>
        if b = true then te σ2 H3 fun y H4 => ∃ acc, H4 D = some (.lst acc) ∧ acc.length < sizeLine ∧ Nx (L2.upd H4 D (.lst (acc ++ [y]))) else Nx H3) := by
  have nD : D ≠ p := hs.ne hD
  refine lc_list (K := K) (a := l) (xs := ns.map V.int) (fun i H => ∃ ms : List Int, ms.length = i ∧ (∀ v ∈ ms, Pr v) ∧ DnZ p H1 H ∧ H D = some (.lst (ms.map V.int))) ⟨[], rfl, fun v h => by simp at h, (DnZ.refl hs).new hD, upd_same⟩ (fun i H _ ⟨ms, _, _, dr, _⟩ => L2.sq_of (dr.1 _ _ nl hl)) ?_ ?_
  · rintro i y H hy ⟨ms, hm, hp, dr, hh⟩
    obtain ⟨z, hz, rfl⟩ : ∃ z, z ∈ ns ∧ y = .int z := by
      rw [List.getElem?_map] at hy
      cases e : ns[i]? with
      | none => rw [e] at hy; cases hy
      | some z => rw [e] at hy; exact ⟨z, List.mem_of_getElem? e, (Option.some.inj hy).symm⟩
    have hi : i < ns.length := by
      have := (List.getElem?_eq_some_iff.mp hy).1
      rwa [List.length_map] at this
    refine ⟨hw _, ?_⟩
    refine he z H _ hz dr fun v H4 pv d4 => ?_
    have h4 := d4.1 _ _ nD hh
    refine ⟨_, h4, ?_, ms ++ [v], by simp [hm], fun u hu => ?_, ?_, ?_⟩
    · rw [List.length_map, hm]
      exact Nat.lt_of_le_of_lt (Nat.le_trans (Nat.le_of_lt hi) hn) (by decide)
    · rcases List.mem_append.mp hu with hu | hu
      · exact hp u hu
      · rw [List.mem_singleton.mp hu]
        exact pv
    · have dd := dr.trans d4
      refine ⟨fun b o nb e => ?_, dd.2.upd nD⟩
      rw [upd_ne (ne_of_none e hD)]
      exact dd.1 b o nb e
    · rw [map_snoc]
      exact upd_same
  · rintro H ⟨ms, hm, hp, dr, hh⟩
    exact hd ms H (by rw [hm, List.length_map]) hp dr hh
end L2

/-! {(i, j): v for target in iter}: dict comprehensions whose keys are tuples -/
namespace L2
open PySem PySem.Spec PyProof.Rows
/-- one entry more, its key a tuple that stands in H -/
def PutT (H : Hp) (D : Addr) (y v : V) (H' : Hp) : Prop := ∃ kvs k b, H D = some (.dT kvs) ∧ y = .ref b ∧ H b = some (.tup (k.map kV)) ∧ kvs.length < sizeLine ∧ H' = upd H D (.dT (putK kvs k v))
theorem putT_run {X : Cx} {pins : List (Addr × Obj)} {σ : St} {H H' : Hp} {s : Shared} {E : Value → Shared → Prop} {D : Addr} {y v : V} {u r : Value} {Q : Unit → Shared → Prop} (hu : X.A.units + 1 < cLine) (I : Inv X pins σ H s) (g : PutT H D y v H')
    (ry : RelV y u) (rv : RelV v r) (h : ∀ s', Inv X pins σ H' s' → Q () s') : wpAny (model X.prog X.w) X.A (dictSet D u r) Q E s := by
  obtain ⟨kvs, k, b, hD, rfl, hb, hz, rfl⟩ := g
  cases (show u = Value.ref b from ry)
  obtain ⟨z, hd, xs, rel, dd⟩ := dt_of I.hok hD
  have lx : xs.length ≤ sizeLine := Paired.length rel ▸ z
  have room : (putK kvs k v).length ≤ sizeLine := Nat.le_trans (length_putK kvs k v) hz
  refine wpAny_dictSet_heap (hsz := lx) (show X.A.units < cLine by omega) (key_of I.hok hb) dd fun h' ⟨q, es, ep, hq, g1, g2, g3, _, g5⟩ hs => h _ (d_write I (by rw [hD]; exact True.intro) hs ⟨q, hq⟩ ⟨room, hd, _, (rel.put k hb rv).keeps fun c ys ec => ?_, q, es, ep, hq, g1, g2, g3, g5⟩)
  rw [upd_ne (ne_of ec hD (fun z => nomatch z))]
  exact ec
section
variable {X : Cx}
/-- what a turn of the comprehension asks: the target set, the tests, key and value, and the entry put -/
def turnT (g : TG) (tt : TT) (tk tv : TE) (D : Addr) (Nx : Hp → Prop) (σ : St) (vs : List Nat) (x : V) (H : Hp) : Prop := g x (wipe σ vs) H fun σ2 H2 => wipe σ2 vs = wipe σ vs ∧ tt σ2 H2 fun b H3 =>
  if b = true then tk σ2 H3 fun y H4 => tv σ2 H4 fun z H5 => ∃ H6, PutT H5 D y z H6 ∧ Nx H6 else Nx H3
def tDcT (wi : TI) (g : TG) (tt : TT) (tk tv : TE) (vs : List Nat) : TE := fun σ H Q => wi σ H fun J H1 => ∀ D, H1 D = none → ∃ W : Nat → Nat → Hp → Prop, (∃ m, W 0 m (upd H1 D (.dT []))) ∧ ∀ i m H, W i m H →
  (J.stop i H ∧ Q (.ref D) H) ∨ (J.go i H ∧ ∃ Nx : Hp → Prop, (∀ H', Nx H' → ∃ m', m' < m ∧ W (i + 1) m' H') ∧ ∀ x H', J.yld i H x H' → turnT g tt tk tv D Nx σ vs x H')
/-- the dict as it begins -/
abbrev dk0 : Obj := { cls := .type "dict", data := .dict #[] }
/-- the loop, turn by turn, in the block's context -/
theorem loopT {scope : Scope} {own : List (Str × Nat)} {pos : Pos} {kx vx tg iter : Expr} {ifs : List Expr} {g : TG} {tt : TT} {tk tv : TE} {σ : St} {Q : VK} {s3 : Shared} {H3 : Hp} {ce : Env} {fp : List Addr} {it D : Addr} {J : It} {tn : Nat → Heap → Prop} {R : Result → Shared → Prop}
    (hu : X.A.units + 1 < cLine) (hc : X.calm = true) (T : Turn X.prog X.w X.K tg J fp it tn)
    (pg : PG (X.blk s3 H3 scope ce fp) tg g) (pt : PTs (X.blk s3 H3 scope ce fp) ifs tt) (pk : PE (X.blk s3 H3 scope ce fp) kx tk) (pv : PE (X.blk s3 H3 scope ce fp) vx tv)
    {W : Nat → Nat → Hp → Prop} (turn : ∀ i m H, W i m H → (J.stop i H ∧ Q (.ref D) H) ∨ (J.go i H ∧ ∃ Nx : Hp → Prop, (∀ H', Nx H' → ∃ m', m' < m ∧ W (i + 1) m' H') ∧ ∀ x H', J.yld i H x H' → turnT g tt tk tv D Nx σ (own.map (·.2)) x H'))
    (out : ∀ (s : Shared) (H : Hp), Inv (X.blk s3 H3 scope ce fp) [] (wipe σ (own.map (·.2))) H s → (∀ b ∈ fp, H b = none) → Q (.ref D) H → R (.ok .next) s)
    {s4 : Shared} (I4 : Inv (X.blk s3 H3 scope ce fp) [] (wipe σ (own.map (·.2))) H3 s4) (st4 : tn 0 s4.heap) (n4 : ∀ b ∈ fp, H3 b = none) {m0 : Nat} (w0 : W 0 m0 H3) :
    codeAny (model X.prog X.w) X.A (.compLoop (.DictComp kx vx [⟨tg, iter, ifs, 0⟩] scope pos) 0 (.ref it) (.ref D) ce) R s4 := by
  have fpk : ∀ {σ' : St} {H : Hp} {s : Shared}, Inv (X.blk s3 H3 scope ce fp) [] σ' H s → (∀ b ∈ fp, H b = none) → ∀ b ∈ fp, FpOk (X.blk s3 H3 scope ce fp) [] H b := fun I n b hb =>
    have e := I.ok.exf b hb
    ⟨n b hb, e.1, I.ok.exfs b hb, .inl hb, fun x c z => e.2 x c z, fun p hp => by simp at hp⟩
  refine compLoop_anyD (fun n s => ∃ i H, W i n H ∧ Inv (X.blk s3 H3 scope ce fp) [] (wipe σ (own.map (·.2))) H s ∧ tn i s.heap ∧ ∀ b ∈ fp, H b = none) (fun n s ⟨i, H, w, I, st, nf⟩ => ?_) m0 ⟨0, H3, w0, I4, st4, n4⟩
  rcases turn i n H w with ⟨stop, q⟩ | ⟨go, Nx, less, step⟩
  · refine thnF (T.done (X.blk s3 H3 scope ce fp) rfl rfl rfl hc i [] s _ H (fun _ _ => False) I (fpk I nf) st stop) fun r s' h => ?_
    obtain ⟨rfl, I'⟩ := h
    exact out s' H I' nf q
  refine thnF (T.item (X.blk s3 H3 scope ce fp) rfl rfl rfl hc i [] s _ H (fun _ _ => False) I (fpk I nf) st go) fun r s1 h => ?_
  obtain ⟨u, rfl, h⟩ := h
  refine thnF h fun _ s2 ⟨x, H2, I2, ru, y2, st2, n2⟩ => ?_
  refine thnF (pg.run _ s2 _ H2 x u _ (I2.pinned (fpk I2 n2) (T.obj _ _ st2)) ru (step x H2 y2)) fun _ s5 ⟨σ5, H5, I5, ws, q5⟩ => ?_
  have back : ∀ {s' : Shared} {H' : Hp}, Inv (X.blk s3 H3 scope ce fp) ([] ++ pinsAt fp s2.heap) σ5 H' s' → Nx H' → ∃ m, m < n ∧ ∃ i H, W i m H ∧ Inv (X.blk s3 H3 scope ce fp) [] (wipe σ (own.map (·.2))) H s' ∧ tn i s'.heap ∧ ∀ b ∈ fp, H b = none := fun {s' H'} I' nx => by
    obtain ⟨m', lt, w'⟩ := less H' nx
    have held : ∀ b ∈ fp, ∀ o, s2.heap.get? b = some o → s'.heap.get? b = some o ∧ H' b = none := fun b hb o e => by
      have z := I'.pin (b, o) (List.mem_append_right _ (List.mem_append_right _ (mem_pinsAt hb e)))
      exact ⟨z.1, z.2.1⟩
    refine ⟨m', lt, i + 1, H', w', I'.unpinned.weak (by rw [← ws, wipe_length]) (fun j v e => by rw [← ws] at e; exact (wipe_some e).1), T.keep _ _ _ st2 fun b hb o e => (held b hb o e).1, fun b hb => ?_⟩
    obtain ⟨o, e, _⟩ := T.obj _ _ st2 b hb
    exact (held b hb o e).2
  refine thnF (pt.run _ s5 σ5 H5 _ I5 q5) fun b s6 ⟨H6, I6, q6⟩ => ?_
  cases b with
  | false =>
    rw [if_neg (fun z => nomatch z)] at q6 ⊢
    exact back I6 q6
  | true =>
    rw [if_pos rfl] at q6 ⊢
    refine thnF (pk.run _ s6 σ5 H6 _ I6 q6) fun kv s7 ⟨yk, H7, I7, rk, q7⟩ => thnF (pv.run _ s7 σ5 H7 _ I7 q7) fun vv s8 ⟨yv, H8, I8, rv, H9, put, nx⟩ => ?_
    exact putT_run (X := X.blk s3 H3 scope ce fp) hu I8 put rk rv fun s9 I9 => back I9 nx
theorem pe_dcT {kx vx tg iter : Expr} {ifs : List Expr} {scope : Scope} {own : List (Str × Nat)} {pos : Pos} {wi : TI} {g : TG} {tt : TT} {tk tv : TE} (hu : X.A.units + 1 < cLine) (hc : X.calm = true) (hN : X.N.Nodup) (hi : PI X tg iter wi) (ok : BlkOk X.N X.env.scope scope own)
    (hg : ∀ (s : Shared) (H : Hp) (C : Addr) (cl : List (Str × Addr)) (fp : List Addr), PG (X.blk s H scope (compEnvC scope cl C X.env) fp) tg g) (ht : ∀ (s : Shared) (H : Hp) (C : Addr) (cl : List (Str × Addr)) (fp : List Addr), PTs (X.blk s H scope (compEnvC scope cl C X.env) fp) ifs tt)
    (hk : ∀ (s : Shared) (H : Hp) (C : Addr) (cl : List (Str × Addr)) (fp : List Addr), PE (X.blk s H scope (compEnvC scope cl C X.env) fp) kx tk)
    (he : ∀ (s : Shared) (H : Hp) (C : Addr) (cl : List (Str × Addr)) (fp : List Addr), PE (X.blk s H scope (compEnvC scope cl C X.env) fp) vx tv) (hs : ∀ x, foldedSetIterable iter X.env x = pure x := by intro _; rfl) :
    PE X (.DictComp kx vx [⟨tg, iter, ifs, 0⟩] scope pos) (tDcT wi g tt tk tv (own.map (·.2))) := by
  refine ⟨fun pins s σ H Q I h => ?_⟩
  rw [arm_eval_DictComp]
  have cf : ∀ y ∈ scope.names, y.2 = .free → ∃ c, X.env.cells.lookup y.1 = some c := fun y hy e => I.ok.has _ (ok.free y hy e)
  refine wpAny_comprehension_free (use := none) rfl hs (closure_ok cf) ok.kind (fun y hy e => by rw [ok.uniq y hy, e]) (thn (hi.run pins s σ H _ I h) fun xv s1 hx => thn hx fun itv s2 ⟨it, fp, tn, J, H2, ev, I2, T, st2, f2, q⟩ => ?_)
  subst ev
  refine wpAny_newObj_type (newEnv_comp ?_)
  have nD : H2 s2.heap.objs.size = none := I2.hok.fresh (Nat.le_refl _)
  obtain ⟨W, ⟨m0, w0⟩, turn⟩ := q _ nD
  have I3 : Inv X pins σ (upd H2 s2.heap.objs.size (.dT [])) { s2 with heap := s2.heap.push dk0 } := I2.laid (t' := s2.toks) (fun b o e => Heap.get?_push_of_some _ e) (Nat.le_refl _) (dt_empty s2.heap I2.big)
  have lt : ∀ b ∈ fp, b < s2.heap.objs.size := fun b hb => by
    obtain ⟨o, e, _⟩ := T.obj _ _ st2 b hb
    exact Heap.lt_size e
  generalize hD : s2.heap.objs.size = D at nD w0 turn I3 lt ⊢
  have f3 : ∀ b ∈ fp, FpOk X pins (upd H2 D (.dT [])) b ∧ b < (s2.heap.push dk0).objs.size := fun b hb => by
    refine ⟨⟨?_, (f2 b hb).2⟩, by rw [Heap.size_push, hD]; exact Nat.lt_succ_of_lt (lt b hb)⟩
    rw [upd_ne (Nat.ne_of_lt (lt b hb))]
    exact (f2 b hb).1
  generalize hs3 : ({ s2 with heap := s2.heap.push dk0 } : Shared) = s3 at I3
  have e3 : s3.heap = s2.heap.push dk0 := by rw [← hs3]
  rw [← e3] at f3
  have st3 : tn 0 s3.heap := T.keep _ _ _ st2 fun b _ o e => by rw [e3]; exact Heap.get?_push_of_some _ e
  generalize hH3 : upd H2 D (.dT []) = H3 at w0 I3 f3
  have B := block_start I3 ok hN f3
  have pg := hg s3 H3 s3.heap.objs.size (cellsFrom (s3.heap.objs.size + 1) scope.names (cloFrom X.env.cells scope.names [])) fp
  have pt := ht s3 H3 s3.heap.objs.size (cellsFrom (s3.heap.objs.size + 1) scope.names (cloFrom X.env.cells scope.names [])) fp
  have pk := hk s3 H3 s3.heap.objs.size (cellsFrom (s3.heap.objs.size + 1) scope.names (cloFrom X.env.cells scope.names [])) fp
  have pv := he s3 H3 s3.heap.objs.size (cellsFrom (s3.heap.objs.size + 1) scope.names (cloFrom X.env.cells scope.names [])) fp
  show codeAny _ _ (.compStart (.DictComp kx vx [⟨tg, iter, ifs, 0⟩] scope pos) 0 (.ref it) (.ref D) (compEnvC scope (cellsFrom (s3.heap.objs.size + 1) scope.names (cloFrom X.env.cells scope.names [])) s3.heap.objs.size X.env)) _ { s3 with heap := pushCells (s3.heap.push dk0) scope.names }
  have n3 : ∀ b ∈ fp, H3 b = none := fun b hb => (f3 b hb).1.1
  have st4 : tn 0 (pushCells (s3.heap.push dk0) scope.names) := T.keep _ _ _ st3 fun b _ o e => pushCells_keeps _ _ _ _ (Heap.get?_push_of_some _ e)
  have run := loopT (kx := kx) (vx := vx) (tg := tg) (iter := iter) (ifs := ifs) (pos := pos) (own := own) (σ := σ) (Q := Q) (D := D) (R := compPost (model X.prog X.w) X.A X.xe none (EP X pins σ Q) (Value.ref D) s3.heap.objs.size) hu hc T pg pt pk pv turn (fun s H I' nf qq => ?_) B st4 n3 w0
  · exact codeAny_compStart_dict run (T.self X.A 0 _ _ _ st4 run)
  · have J' : Inv X pins σ H s := I3.call' (ch := fp) I'.os I'.base I'.hok I'.bare fun b hb =>
      have z := (f3 b hb).1
      ⟨z.2.2.2.1, z.2.1, z.2.2.2.2.1, z.2.2.2.2.2⟩
    obtain ⟨m, ns, _⟩ := I'.loc
    obtain ⟨g0, g1, g2, g3, g4, g5⟩ := I3.fpOk (Nat.le_refl _) (show H s3.heap.objs.size = none from I'.free)
    exact ⟨m, ns, fun h' same => ⟨.ref D, H, J'.turned (t' := s.toks) (fun b o hb e => (same.2 b hb).trans e) g0 g1 g3 g4 g5, rfl, qq⟩⟩
/-- over the numbers from lo on -/
theorem dcT_range {lo : Int} {n : Nat} {g : TG} {tt : TT} {tk tv : TE} {vs : List Nat} {σ : St} {H1 : Hp} {D : Addr} {Qd : Hp → Prop} (Pv : Nat → Hp → Prop) (h0 : Pv 0 (upd H1 D (.dT [])))
    (hs : ∀ i H, i < n → Pv i H → turnT g tt tk tv D (Pv (i + 1)) σ vs (.int (lo + i)) H) (hd : ∀ H, Pv n H → Qd H) :
    ∃ W : Nat → Nat → Hp → Prop, (∃ m, W 0 m (upd H1 D (.dT []))) ∧ ∀ i m H, W i m H →
      ((Itr lo n).stop i H ∧ Qd H) ∨ ((Itr lo n).go i H ∧ ∃ Nx : Hp → Prop, (∀ H', Nx H' → ∃ m', m' < m ∧ W (i + 1) m' H') ∧ ∀ x H', (Itr lo n).yld i H x H' → turnT g tt tk tv D Nx σ vs x H') := by
  refine ⟨fun i m H => i + m = n ∧ Pv i H, ⟨n, Nat.zero_add n, h0⟩, fun i m H ⟨e, p⟩ => ?_⟩
  cases m with
  | zero =>
    obtain rfl : i = n := e
    exact .inl ⟨Nat.le_refl _, hd H p⟩
  | succ m =>
    have hi : i < n := by omega
    refine .inr ⟨hi, Pv (i + 1), fun H' p' => ⟨m, Nat.lt_succ_self m, by omega, p'⟩, fun x H' y => ?_⟩
    obtain ⟨rfl, rfl⟩ := y
    exact hs i _ hi p
end
end L2

/-! a slice of a list or of a tuple, when only its items matter -/
namespace L2
open PySem PySem.Spec PyProof.Rows
def rSlQ (K : PySem.W.Frag) : V → Option Int → Option Int → Hp → VK → Prop := fun x lo hi H Q => ∃ a xs, x = .ref a ∧ (H a = some (.lst xs) ∨ H a = some (.tup xs)) ∧ ∀ p H', Same H H' → (H' p = some (.lst (cutV xs lo hi)) ∨ H' p = some (.tup (cutV xs lo hi))) → Q (.ref p) H'
theorem sl_seq {X : Cx} : SlR X (rSlQ X.K) := by
  intro pins s σ H x v vl vu lo hi sl Q I rx hs pl pu h
  obtain ⟨a, xs, rfl, h | h, q⟩ := h
  · exact sl_list pins s σ H _ v vl vu lo hi sl Q I rx hs pl pu ⟨a, xs, rfl, L2.sq_of h, fun p hp => q p _ (same_upd hp) (.inl upd_same)⟩
  · refine sl_tupA pins s σ H _ v vl vu lo hi sl Q I rx hs pl pu ⟨a, xs, rfl, L2.st_of h, fun w => q a H (Same.refl _) (.inr ?_), fun _ p hp => q p _ (same_upd hp) (.inr upd_same)⟩
    unfold cutV
    rw [w.1, w.2, List.drop_zero, Nat.sub_zero, List.take_length]
    exact h
end L2

/-! what follows from a log of honest answers: steps that are known, and steps that are known to be strict -/
namespace Rel
abbrev Ent := (Nat × Nat) × Bool
structure R where
  B : Nat → Nat → Bool
  S : Nat → Nat → Bool
def init (n : Nat) : R := ⟨fun i j => decide (i < n) && decide (i = j), fun _ _ => false⟩
def fol (r : R) (q : Nat × Nat) : Option Bool := if r.S q.1 q.2 = true then some true else if r.B q.2 q.1 = true then some false else none
def join (r : R) (lo hi : Nat) (st : Bool) : R :=
  ⟨fun i j => r.B i j || (r.B i lo && r.B hi j), fun i j => r.S i j || (r.B i lo && (if (st || r.S i lo) = true then r.B hi j else r.S hi j))⟩
def lo (e : Ent) : Nat := if e.2 = true then e.1.1 else e.1.2
def hi (e : Ent) : Nat := if e.2 = true then e.1.2 else e.1.1
def learn (r : R) (e : Ent) : R := if fol r e.1 = none then join r (lo e) (hi e) e.2 else r
def run (r : R) : List Ent → R
  | [] => r
  | e :: l => run (learn r e) l
/-- the place of the first lie -/
def lie (r : R) : List Ent → Nat → Option Nat
  | [], _ => none
  | e :: l, k => if fol r e.1 ≠ none ∧ fol r e.1 ≠ some e.2 then some k else lie (learn r e) l (k + 1)
def Sat (k : Nat → Nat) (l : List Ent) : Prop := ∀ e ∈ l, decide (k e.1.1 < k e.1.2) = e.2
structure Good (n : Nat) (r : R) : Prop where
  inB : ∀ i j, r.B i j = true → i < n ∧ j < n
  refl : ∀ i, i < n → r.B i i = true
  trans : ∀ i j m, r.B i j = true → r.B j m = true → r.B i m = true
  sub : ∀ i j, r.S i j = true → r.B i j = true
  sb : ∀ i j m, r.S i j = true → r.B j m = true → r.S i m = true
  bs : ∀ i j m, r.B i j = true → r.S j m = true → r.S i m = true
  irr : ∀ i, r.S i i = false
theorem good_init (n : Nat) : Good n (init n) where
  inB i j h := by simp [init] at h; omega
  refl i h := by simp [init, h]
  trans i j m h1 h2 := by simp [init] at h1 h2 ⊢; omega
  sub i j h := by cases h
  sb i j m h _ := by cases h
  bs i j m _ h := by cases h
  irr i := rfl
theorem join_B {r : R} {lo hi : Nat} {st : Bool} {i j : Nat} : (join r lo hi st).B i j = true ↔ r.B i j = true ∨ (r.B i lo = true ∧ r.B hi j = true) := by
  simp [join]
theorem join_S {r : R} {lo hi : Nat} {st : Bool} {i j : Nat} : (join r lo hi st).S i j = true ↔ r.S i j = true ∨ (r.B i lo = true ∧ (((st = true ∨ r.S i lo = true) ∧ r.B hi j = true) ∨ (¬ (st = true ∨ r.S i lo = true) ∧ r.S hi j = true))) := by
  unfold join
  by_cases c : st = true ∨ r.S i lo = true
  · have : (st || r.S i lo) = true := by rcases c with c | c <;> simp [c]
    simp [this, c]
  · have : (st || r.S i lo) = false := by
      have h1 : st = false := by cases h : st <;> simp_all
      have h2 : r.S i lo = false := by cases h : r.S i lo <;> simp_all
      simp [h1, h2]
    simp [this, c]
/-- more simply: a strict step is known on the way -/
theorem join_S' {n : Nat} {r : R} (g : Good n r) {lo hi : Nat} {st : Bool} {i j : Nat} : (join r lo hi st).S i j = true ↔ r.S i j = true ∨ (r.B i lo = true ∧ r.B hi j = true ∧ (st = true ∨ r.S i lo = true ∨ r.S hi j = true)) := by
  rw [join_S]
  constructor
  · rintro (h | ⟨h1, ⟨c | c, h2⟩ | ⟨_, h2⟩⟩)
    · exact .inl h
    · exact .inr ⟨h1, h2, .inl c⟩
    · exact .inr ⟨h1, h2, .inr (.inl c)⟩
    · exact .inr ⟨h1, g.sub _ _ h2, .inr (.inr h2)⟩
  · rintro (h | ⟨h1, h2, h3⟩)
    · exact .inl h
    · refine .inr ⟨h1, ?_⟩
      by_cases c : st = true ∨ r.S i lo = true
      · exact .inl ⟨c, h2⟩
      · refine .inr ⟨c, ?_⟩
        rcases h3 with h3 | h3 | h3
        · exact absurd (.inl h3) c
        · exact absurd (.inr h3) c
        · exact h3
theorem good_join {n : Nat} {r : R} (g : Good n r) {lo hi : Nat} {st : Bool} (hl : lo < n) (hh : hi < n) (n1 : r.S hi lo = false) (n2 : st = true → r.B hi lo = false) : Good n (join r lo hi st) where
  inB i j h := by
    rcases join_B.mp h with h | ⟨h1, h2⟩
    · exact g.inB _ _ h
    · exact ⟨(g.inB _ _ h1).1, (g.inB _ _ h2).2⟩
  refl i h := join_B.mpr (.inl (g.refl i h))
  trans i j m h1 h2 := by
    rw [join_B] at h1 h2 ⊢
    rcases h1 with h1 | ⟨a, b⟩
    · rcases h2 with h2 | ⟨c, d⟩
      · exact .inl (g.trans _ _ _ h1 h2)
      · exact .inr ⟨g.trans _ _ _ h1 c, d⟩
    · rcases h2 with h2 | ⟨c, d⟩
      · exact .inr ⟨a, g.trans _ _ _ b h2⟩
      · exact .inr ⟨a, d⟩
  sub i j h := by
    rcases (join_S' g).mp h with h | ⟨h1, h2, _⟩
    · exact join_B.mpr (.inl (g.sub _ _ h))
    · exact join_B.mpr (.inr ⟨h1, h2⟩)
  sb i j m h1 h2 := by
    rw [join_S' g] at h1 ⊢
    rcases h1 with h1 | ⟨a, b, c⟩
    · rcases join_B.mp h2 with h2 | ⟨d, e⟩
      · exact .inl (g.sb _ _ _ h1 h2)
      · exact .inr ⟨g.trans _ _ _ (g.sub _ _ h1) d, e, .inr (.inl (g.sb _ _ _ h1 d))⟩
    · rcases join_B.mp h2 with h2 | ⟨d, e⟩
      · refine .inr ⟨a, g.trans _ _ _ b h2, ?_⟩
        rcases c with c | c | c
        · exact .inl c
        · exact .inr (.inl c)
        · exact .inr (.inr (g.sb _ _ _ c h2))
      · refine .inr ⟨a, e, ?_⟩
        rcases c with c | c | c
        · exact .inl c
        · exact .inr (.inl c)
        · exact absurd (g.sb _ _ _ c d) (by rw [n1]; simp)
  bs i j m h1 h2 := by
    rw [join_S' g] at h2 ⊢
    rcases h2 with h2 | ⟨a, b, c⟩
    · rcases join_B.mp h1 with h1 | ⟨d, e⟩
      · exact .inl (g.bs _ _ _ h1 h2)
      · exact .inr ⟨d, g.trans _ _ _ e (g.sub _ _ h2), .inr (.inr (g.bs _ _ _ e h2))⟩
    · rcases join_B.mp h1 with h1 | ⟨d, e⟩
      · refine .inr ⟨g.trans _ _ _ h1 a, b, ?_⟩
        rcases c with c | c | c
        · exact .inl c
        · exact .inr (.inl (g.bs _ _ _ h1 c))
        · exact .inr (.inr c)
      · refine .inr ⟨d, b, ?_⟩
        rcases c with c | c | c
        · exact .inl c
        · exact absurd (g.bs _ _ _ e c) (by rw [n1]; simp)
        · exact .inr (.inr c)
  irr i := by
    cases h : (join r lo hi st).S i i with
    | false => rfl
    | true =>
      rcases (join_S' g).mp h with h | ⟨a, b, c⟩
      · rw [g.irr] at h
        cases h
      · have hb := g.trans _ _ _ b a
        rcases c with c | c | c
        · rw [n2 c] at hb
          cases hb
        · have := g.bs _ _ _ b c
          rw [n1] at this
          cases this
        · have := g.sb _ _ _ c a
          rw [n1] at this
          cases this
theorem fol_none {r : R} {q : Nat × Nat} : fol r q = none ↔ r.S q.1 q.2 = false ∧ r.B q.2 q.1 = false := by
  unfold fol
  by_cases c : r.S q.1 q.2 = true
  · simp [c]
  · by_cases d : r.B q.2 q.1 = true
    · simp [c, d]
    · simp [c, d]
theorem fol_true {r : R} {q : Nat × Nat} : fol r q = some true ↔ r.S q.1 q.2 = true := by
  unfold fol
  by_cases c : r.S q.1 q.2 = true
  · simp [c]
  · by_cases d : r.B q.2 q.1 = true
    · simp [c, d]
    · simp [c, d]
theorem fol_false {n : Nat} {r : R} (g : Good n r) {q : Nat × Nat} : fol r q = some false ↔ r.B q.2 q.1 = true := by
  unfold fol
  by_cases c : r.S q.1 q.2 = true
  · have : ¬ r.B q.2 q.1 = true := fun z => by
      have := g.sb _ _ _ c z
      rw [g.irr] at this
      cases this
    simp [c, this]
  · by_cases d : r.B q.2 q.1 = true
    · simp [c, d]
    · simp [c, d]
def InN (n : Nat) (l : List Ent) : Prop := ∀ e ∈ l, e.1.1 < n ∧ e.1.2 < n
theorem good_learn {n : Nat} {r : R} (g : Good n r) {e : Ent} (he : e.1.1 < n ∧ e.1.2 < n) : Good n (learn r e) := by
  unfold learn
  by_cases c : fol r e.1 = none
  · rw [if_pos c]
    obtain ⟨c1, c2⟩ := fol_none.mp c
    unfold lo hi
    cases h : e.2 with
    | true =>
      simp only [if_true]
      refine good_join g he.1 he.2 ?_ fun _ => c2
      cases z : r.S e.1.2 e.1.1 with
      | false => rfl
      | true =>
        have := g.sub _ _ z
        rw [c2] at this
        cases this
    | false =>
      simp only [Bool.false_eq_true, if_false]
      exact good_join g he.2 he.1 c1 fun z => by cases z
  · rw [if_neg c]
    exact g
theorem good_run {n : Nat} : ∀ {l : List Ent} {r : R}, Good n r → InN n l → Good n (run r l)
  | [], r, g, _ => g
  | e :: l, r, g, h => good_run (l := l) (r := learn r e) (good_learn g (h e (List.mem_cons_self ..))) fun x hx => h x (List.mem_cons_of_mem _ hx)
/-- keys that keep what is known -/
def Keeps (r : R) (k : Nat → Nat) : Prop := (∀ i j, r.B i j = true → k i ≤ k j) ∧ ∀ i j, r.S i j = true → k i < k j
theorem keeps_init {n : Nat} {k : Nat → Nat} : Keeps (init n) k := ⟨fun i j h => by simp [init] at h; rw [h.2]; exact Nat.le_refl _, fun i j h => by cases h⟩
theorem keeps_learn {n : Nat} {r : R} (g : Good n r) {k : Nat → Nat} {e : Ent} (h : Keeps r k) (s : decide (k e.1.1 < k e.1.2) = e.2) : Keeps (learn r e) k := by
  unfold learn
  by_cases c : fol r e.1 = none
  · rw [if_pos c]
    have st : k (lo e) ≤ k (hi e) ∧ (e.2 = true → k (lo e) < k (hi e)) := by
      unfold lo hi
      cases z : e.2 with
      | true =>
        rw [z] at s
        have := of_decide_eq_true s
        simp only [if_true]
        exact ⟨Nat.le_of_lt this, fun _ => this⟩
      | false =>
        rw [z] at s
        have := of_decide_eq_false s
        simp only [Bool.false_eq_true, if_false]
        exact ⟨by omega, fun z => by cases z⟩
    refine ⟨fun i j b => ?_, fun i j b => ?_⟩
    · rcases join_B.mp b with b | ⟨b1, b2⟩
      · exact h.1 _ _ b
      · have := h.1 _ _ b1
        have := h.1 _ _ b2
        omega
    · rcases (join_S' g).mp b with b | ⟨b1, b2, b3⟩
      · exact h.2 _ _ b
      · have a1 := h.1 _ _ b1
        have a2 := h.1 _ _ b2
        rcases b3 with b3 | b3 | b3
        · have := st.2 b3
          omega
        · have := h.2 _ _ b3
          omega
        · have := h.2 _ _ b3
          omega
  · rw [if_neg c]
    exact h
theorem keeps_run {n : Nat} {k : Nat → Nat} : ∀ {l : List Ent} {r : R}, Good n r → InN n l → Keeps r k → Sat k l → Keeps (run r l) k
  | [], r, _, _, h, _ => h
  | e :: l, r, g, i, h, s => keeps_run (l := l) (r := learn r e) (good_learn g (i e (List.mem_cons_self ..))) (fun x hx => i x (List.mem_cons_of_mem _ hx)) (keeps_learn g h (s e (List.mem_cons_self ..))) fun x hx => s x (List.mem_cons_of_mem _ hx)
/-- what follows holds of all keys that keep it -/
theorem fol_keeps {r : R} {k : Nat → Nat} (h : Keeps r k) {q : Nat × Nat} {b : Bool} (f : fol r q = some b) : decide (k q.1 < k q.2) = b := by
  unfold fol at f
  by_cases c : r.S q.1 q.2 = true
  · rw [if_pos c] at f
    rw [← Option.some.inj f]
    exact decide_eq_true (h.2 _ _ c)
  · rw [if_neg c] at f
    by_cases d : r.B q.2 q.1 = true
    · rw [if_pos d] at f
      rw [← Option.some.inj f]
      have := h.1 _ _ d
      exact decide_eq_false (by omega)
    · rw [if_neg d] at f
      cases f
/-- honest logs have no lies -/
theorem lie_none {n : Nat} {k : Nat → Nat} : ∀ {l : List Ent} {r : R} {m : Nat}, Good n r → InN n l → Keeps r k → Sat k l → lie r l m = none
  | [], r, m, _, _, _, _ => rfl
  | e :: l, r, m, g, i, h, s => by
    show (if _ then _ else _) = none
    rw [if_neg]
    · exact lie_none (l := l) (r := learn r e) (good_learn g (i e (List.mem_cons_self ..))) (fun x hx => i x (List.mem_cons_of_mem _ hx)) (keeps_learn g h (s e (List.mem_cons_self ..))) fun x hx => s x (List.mem_cons_of_mem _ hx)
    · rintro ⟨c1, c2⟩
      cases f : fol r e.1 with
      | none => exact c1 f
      | some b =>
        have := fol_keeps h f
        rw [s e (List.mem_cons_self ..)] at this
        rw [f, this] at c2
        exact c2 rfl
/-- what is known grows -/
def Le (r r' : R) : Prop := (∀ i j, r.B i j = true → r'.B i j = true) ∧ ∀ i j, r.S i j = true → r'.S i j = true
theorem Le.refl (r : R) : Le r r := ⟨fun _ _ h => h, fun _ _ h => h⟩
theorem Le.trans {a b c : R} (h : Le a b) (h' : Le b c) : Le a c := ⟨fun _ _ z => h'.1 _ _ (h.1 _ _ z), fun _ _ z => h'.2 _ _ (h.2 _ _ z)⟩
theorem le_learn (r : R) (e : Ent) : Le r (learn r e) := by
  unfold learn
  by_cases c : fol r e.1 = none
  · rw [if_pos c]
    exact ⟨fun _ _ h => join_B.mpr (.inl h), fun _ _ h => join_S.mpr (.inl h)⟩
  · rw [if_neg c]
    exact .refl r
theorem le_run : ∀ {l : List Ent} {r : R}, Le r (run r l)
  | [], r => .refl r
  | e :: l, r => (le_learn r e).trans le_run
/-- an entry that is no lie is known behind it -/
def Holds (r : R) (e : Ent) : Prop := if e.2 = true then r.S e.1.1 e.1.2 = true else r.B e.1.2 e.1.1 = true
theorem Holds.le {r r' : R} {e : Ent} (h : Holds r e) (l : Le r r') : Holds r' e := by
  unfold Holds at h ⊢
  by_cases c : e.2 = true
  · rw [if_pos c] at h ⊢
    exact l.2 _ _ h
  · rw [if_neg c] at h ⊢
    exact l.1 _ _ h
theorem holds_learn {n : Nat} {r : R} (g : Good n r) {e : Ent} (he : e.1.1 < n ∧ e.1.2 < n) (no : ¬ (fol r e.1 ≠ none ∧ fol r e.1 ≠ some e.2)) : Holds (learn r e) e := by
  unfold learn
  by_cases c : fol r e.1 = none
  · rw [if_pos c]
    unfold Holds lo hi
    cases z : e.2 with
    | true =>
      simp only [if_true]
      exact (join_S' g).mpr (.inr ⟨g.refl _ he.1, g.refl _ he.2, .inl rfl⟩)
    | false =>
      simp only [Bool.false_eq_true, if_false]
      exact join_B.mpr (.inr ⟨g.refl _ he.2, g.refl _ he.1⟩)
  · rw [if_neg c]
    have f : fol r e.1 = some e.2 := Classical.byContradiction fun z => no ⟨c, z⟩
    unfold Holds
    cases z : e.2 with
    | true =>
      rw [z] at f
      simp only [if_true]
      exact fol_true.mp f
    | false =>
      rw [z] at f
      simp only [Bool.false_eq_true, if_false]
      exact (fol_false g).mp f
theorem holds_run {n : Nat} : ∀ {l : List Ent} {r : R} {m : Nat}, Good n r → InN n l → lie r l m = none → ∀ e ∈ l, Holds (run r l) e
  | [], _, _, _, _, _, e, he => by cases he
  | x :: l, r, m, g, i, h, e, he => by
    have h : (if fol r x.1 ≠ none ∧ fol r x.1 ≠ some x.2 then some m else lie (learn r x) l (m + 1)) = none := h
    by_cases c : fol r x.1 ≠ none ∧ fol r x.1 ≠ some x.2
    · rw [if_pos c] at h
      cases h
    · rw [if_neg c] at h
      have ix := i x (List.mem_cons_self ..)
      rcases List.mem_cons.mp he with rfl | he
      · exact (holds_learn g ix c).le le_run
      · exact holds_run (l := l) (r := learn r x) (good_learn g ix) (fun y hy => i y (List.mem_cons_of_mem _ hy)) h e he
/-- keys that keep what is known are keys of the log -/
theorem sat_of {r : R} {k : Nat → Nat} {l : List Ent} (h : Keeps r k) (hl : ∀ e ∈ l, Holds r e) : Sat k l := by
  intro e he
  have := hl e he
  unfold Holds at this
  cases z : e.2 with
  | true =>
    rw [z, if_pos rfl] at this
    exact decide_eq_true (h.2 _ _ this)
  | false =>
    rw [z, if_neg (by decide)] at this
    have := h.1 _ _ this
    exact decide_eq_false (by omega)
/-- how many are known to stand strictly below -/
def rank (n : Nat) (r : R) (i : Nat) : Nat := ((List.range n).filter fun j => r.S j i).length
theorem len_lt {p q : Nat → Bool} {a : Nat} : ∀ {l : List Nat}, (∀ x ∈ l, p x = true → q x = true) → a ∈ l → p a = false → q a = true → (l.filter p).length < (l.filter q).length
  | [], _, h, _, _ => by cases h
  | x :: l, s, h, pa, qa => by
    have le : ∀ {l : List Nat}, (∀ x ∈ l, p x = true → q x = true) → (l.filter p).length ≤ (l.filter q).length := fun {l} s => by
      induction l with
      | nil => exact Nat.le_refl _
      | cons y l ih =>
        have ih := ih fun z hz => s z (List.mem_cons_of_mem _ hz)
        by_cases c : p y = true
        · rw [List.filter_cons_of_pos c, List.filter_cons_of_pos (s y (List.mem_cons_self ..) c), List.length_cons, List.length_cons]
          omega
        · rw [List.filter_cons_of_neg c]
          by_cases d : q y = true
          · rw [List.filter_cons_of_pos d, List.length_cons]
            omega
          · rw [List.filter_cons_of_neg d]
            exact ih
    have s' : ∀ y ∈ l, p y = true → q y = true := fun z hz => s z (List.mem_cons_of_mem _ hz)
    rcases List.mem_cons.mp h with rfl | h
    · rw [List.filter_cons_of_neg (by rw [pa]; decide), List.filter_cons_of_pos qa, List.length_cons]
      have := le s'
      omega
    · have ih := len_lt s' h pa qa
      by_cases c : p x = true
      · rw [List.filter_cons_of_pos c, List.filter_cons_of_pos (s x (List.mem_cons_self ..) c), List.length_cons, List.length_cons]
        omega
      · rw [List.filter_cons_of_neg c]
        by_cases d : q x = true
        · rw [List.filter_cons_of_pos d, List.length_cons]
          omega
        · rw [List.filter_cons_of_neg d]
          exact ih
theorem rank_keeps {n : Nat} {r : R} (g : Good n r) : Keeps r (rank n r) := by
  refine ⟨fun i j h => ?_, fun i j h => ?_⟩
  · unfold rank
    by_cases c : ∀ m, m < n → r.S m j = true → r.S m i = true
    · -- alike
      have : ((List.range n).filter fun m => r.S m i) = ((List.range n).filter fun m => r.S m j) := List.filter_congr fun m hm => by
        have hm := List.mem_range.mp hm
        rw [Bool.eq_iff_iff]
        exact ⟨fun z => g.sb _ _ _ z h, c m hm⟩
      rw [this]
      exact Nat.le_refl _
    · have ⟨m, hm⟩ := Classical.not_forall.mp c
      have ⟨m1, hm⟩ := Classical.not_forall.mp hm
      have ⟨m2, hm⟩ := Classical.not_forall.mp hm
      refine Nat.le_of_lt (len_lt (a := m) (fun x _ z => g.sb _ _ _ z h) (List.mem_range.mpr m1) ?_ m2)
      cases z : r.S m i with
      | false => rfl
      | true => exact absurd z hm
  · unfold rank
    have ij := g.sub _ _ h
    exact len_lt (a := i) (fun x _ z => g.sb _ _ _ z ij) (List.mem_range.mpr (g.inB _ _ ij).1) (g.irr i) h
theorem rank_lt {n : Nat} {r : R} (g : Good n r) {i : Nat} (h : i < n) : rank n r i < n := by
  unfold rank
  have := len_lt (p := fun j => r.S j i) (q := fun _ => true) (l := List.range n) (a := i) (fun _ _ _ => rfl) (List.mem_range.mpr h) (g.irr i) rfl
  rw [List.filter_eq_self.mpr (fun _ _ => rfl), List.length_range] at this
  exact this
/-- what does not follow may be either way -/
theorem both {n : Nat} {l : List Ent} (i : InN n l) (h : lie (init n) l 0 = none) {q : Nat × Nat} (h1 : q.1 < n) (h2 : q.2 < n) (f : fol (run (init n) l) q = none) (b : Bool) :
    ∃ k : Nat → Nat, Sat k l ∧ (∀ m, m < n → k m < n) ∧ decide (k q.1 < k q.2) = b := by
  have g := good_run (good_init n) i
  have hl := holds_run (good_init n) i h
  generalize run (init n) l = r at g hl f
  have g' := good_learn g (e := (q, b)) ⟨h1, h2⟩
  have kp := rank_keeps g'
  have hq := holds_learn g (e := (q, b)) ⟨h1, h2⟩ (fun z => z.1 f)
  refine ⟨rank n (learn r (q, b)), sat_of kp fun e he => (hl e he).le (le_learn _ _), fun m hm => rank_lt g' hm, ?_⟩
  exact sat_of (l := [(q, b)]) kp (fun e he => by rw [List.mem_singleton.mp he]; exact hq) _ (List.mem_singleton_self _)
/-- there are keys -/
theorem keys_ex {n : Nat} {l : List Ent} (i : InN n l) (h : lie (init n) l 0 = none) : ∃ k : Nat → Nat, Sat k l ∧ ∀ m, m < n → k m < n := by
  have g := good_run (good_init n) i
  exact ⟨rank n (run (init n) l), sat_of (rank_keeps g) (holds_run (good_init n) i h), fun m hm => rank_lt g hm⟩
/-- no lie is there if and only if keys are -/
theorem lie_iff {n : Nat} {l : List Ent} (i : InN n l) : lie (init n) l 0 = none ↔ ∃ k, Sat k l :=
  ⟨fun h => let ⟨k, s, _⟩ := keys_ex i h; ⟨k, s⟩, fun ⟨_, s⟩ => lie_none (good_init n) i keeps_init s⟩
/-- what follows is so for all keys of the log -/
theorem fol_all {n : Nat} {l : List Ent} (i : InN n l) {q : Nat × Nat} {b : Bool} (f : fol (run (init n) l) q = some b) {k : Nat → Nat} (s : Sat k l) : decide (k q.1 < k q.2) = b :=
  fol_keeps (keeps_run (good_init n) i keeps_init s) f
end Rel
namespace Rel
/-! the least closed relations; steps through one item after another find them -/
theorem le_join {r r' : R} {n : Nat} (g : Good n r) (t : ∀ i j m, r'.B i j = true → r'.B j m = true → r'.B i m = true) (sb : ∀ i j m, r'.S i j = true → r'.B j m = true → r'.S i m = true) (bs : ∀ i j m, r'.B i j = true → r'.S j m = true → r'.S i m = true) (sub : ∀ i j, r'.S i j = true → r'.B i j = true)
    (h : Le r r') {e : Ent} (he : Holds r' e) : Le (learn r e) r' := by
  unfold learn
  by_cases c : fol r e.1 = none
  · rw [if_pos c]
    have hb : r'.B (lo e) (hi e) = true ∧ (e.2 = true → r'.S (lo e) (hi e) = true) := by
      unfold Holds at he
      unfold lo hi
      cases z : e.2 with
      | true =>
        rw [z, if_pos rfl] at he
        simp only [if_true]
        exact ⟨sub _ _ he, fun _ => he⟩
      | false =>
        rw [z, if_neg (by decide)] at he
        simp only [Bool.false_eq_true, if_false]
        exact ⟨he, fun z => by cases z⟩
    refine ⟨fun i j b => ?_, fun i j b => ?_⟩
    · rcases join_B.mp b with b | ⟨b1, b2⟩
      · exact h.1 _ _ b
      · exact t _ _ _ (t _ _ _ (h.1 _ _ b1) hb.1) (h.1 _ _ b2)
    · rcases (join_S' g).mp b with b | ⟨b1, b2, b3⟩
      · exact h.2 _ _ b
      · have a1 := h.1 _ _ b1
        have a2 := h.1 _ _ b2
        rcases b3 with b3 | b3 | b3
        · exact sb _ _ _ (bs _ _ _ a1 (hb.2 b3)) a2
        · exact sb _ _ _ (sb _ _ _ (h.2 _ _ b3) hb.1) a2
        · exact bs _ _ _ (t _ _ _ a1 hb.1) (h.2 _ _ b3)
  · rw [if_neg c]
    exact h
theorem run_least {n : Nat} {r' : R} (t : ∀ i j m, r'.B i j = true → r'.B j m = true → r'.B i m = true) (sb : ∀ i j m, r'.S i j = true → r'.B j m = true → r'.S i m = true) (bs : ∀ i j m, r'.B i j = true → r'.S j m = true → r'.S i m = true) (sub : ∀ i j, r'.S i j = true → r'.B i j = true) :
    ∀ {l : List Ent} {r : R}, Good n r → InN n l → Le r r' → (∀ e ∈ l, Holds r' e) → Le (run r l) r'
  | [], _, _, _, h, _ => h
  | e :: l, r, g, i, h, s => run_least t sb bs sub (l := l) (r := learn r e) (good_learn g (i e (List.mem_cons_self ..))) (fun x hx => i x (List.mem_cons_of_mem _ hx)) (le_join g t sb bs sub h (s e (List.mem_cons_self ..))) fun x hx => s x (List.mem_cons_of_mem _ hx)
/-- 0: nothing is known; 1: a step; 2: a strict one -/
def val (r : R) (i j : Nat) : Nat := if r.S i j = true then 2 else if r.B i j = true then 1 else 0
theorem val_pos {n : Nat} {r : R} (g : Good n r) {i j : Nat} : 0 < val r i j ↔ r.B i j = true := by
  unfold val
  by_cases c : r.S i j = true
  · rw [if_pos c]
    exact ⟨fun _ => g.sub _ _ c, fun _ => by decide⟩
  · rw [if_neg c]
    by_cases d : r.B i j = true
    · rw [if_pos d]
      exact ⟨fun _ => d, fun _ => by decide⟩
    · rw [if_neg d]
      exact ⟨fun z => absurd z (by decide), fun z => absurd z d⟩
theorem val_two {r : R} {i j : Nat} : 2 ≤ val r i j ↔ r.S i j = true := by
  unfold val
  by_cases c : r.S i j = true
  · rw [if_pos c]
    exact ⟨fun _ => c, fun _ => Nat.le_refl 2⟩
  · rw [if_neg c]
    refine ⟨fun z => ?_, fun z => absurd z c⟩
    by_cases d : r.B i j = true
    · rw [if_pos d] at z
      omega
    · rw [if_neg d] at z
      omega
theorem val_le (r : R) (i j : Nat) : val r i j ≤ 2 := by
  unfold val
  split
  · exact Nat.le_refl 2
  · split <;> decide
def wstep (m : Nat) (W : Nat → Nat → Nat) (i j : Nat) : Nat := if 0 < W i m ∧ 0 < W m j then max (W i j) (max (W i m) (W m j)) else W i j
def war (W : Nat → Nat → Nat) : Nat → Nat → Nat → Nat
  | 0 => W
  | m + 1 => wstep m (war W m)
theorem wstep_le {n : Nat} {r : R} (g : Good n r) {W : Nat → Nat → Nat} (h : ∀ i j, W i j ≤ val r i j) (m : Nat) : ∀ i j, wstep m W i j ≤ val r i j := fun i j => by
  unfold wstep
  by_cases c : 0 < W i m ∧ 0 < W m j
  · rw [if_pos c]
    have b1 : r.B i m = true := (val_pos g).mp (Nat.lt_of_lt_of_le c.1 (h i m))
    have b2 : r.B m j = true := (val_pos g).mp (Nat.lt_of_lt_of_le c.2 (h m j))
    have b3 := (val_pos g).mpr (g.trans _ _ _ b1 b2)
    have t1 : W i m ≤ val r i j := by
      by_cases d : 2 ≤ val r i m
      · have := val_two.mpr (g.sb _ _ _ (val_two.mp d) b2)
        have := h i m
        have := val_le r i m
        omega
      · have := h i m
        omega
    have t2 : W m j ≤ val r i j := by
      by_cases d : 2 ≤ val r m j
      · have := val_two.mpr (g.bs _ _ _ b1 (val_two.mp d))
        have := h m j
        have := val_le r m j
        omega
      · have := h m j
        omega
    have := h i j
    omega
  · rw [if_neg c]
    exact h i j
theorem war_le {n : Nat} {r : R} (g : Good n r) {W : Nat → Nat → Nat} (h : ∀ i j, W i j ≤ val r i j) : ∀ m i j, war W m i j ≤ val r i j
  | 0 => h
  | m + 1 => wstep_le g (war_le g h m) m
theorem wstep_ge (m : Nat) (W : Nat → Nat → Nat) (i j : Nat) : W i j ≤ wstep m W i j := by
  unfold wstep
  split
  · exact Nat.le_max_left _ _
  · exact Nat.le_refl _
theorem war_ge {W : Nat → Nat → Nat} : ∀ m i j, W i j ≤ war W m i j
  | 0, _, _ => Nat.le_refl _
  | m + 1, i, j => Nat.le_trans (war_ge m i j) (wstep_ge m _ i j)
/-- steps through the first items are there -/
def Via (m : Nat) (W : Nat → Nat → Nat) : Prop := ∀ k, k < m → ∀ i j, 0 < W i k → 0 < W k j → max (W i k) (W k j) ≤ W i j
theorem wstep_self {m : Nat} {W : Nat → Nat → Nat} (h1 : W m m ≤ 1) (i : Nat) : wstep m W i m = W i m := by
  unfold wstep
  split
  · rename_i c
    omega
  · rfl
theorem wstep_self' {m : Nat} {W : Nat → Nat → Nat} (h1 : W m m ≤ 1) (j : Nat) : wstep m W m j = W m j := by
  unfold wstep
  split
  · rename_i c
    omega
  · rfl
theorem wstep_pos {m : Nat} {W : Nat → Nat → Nat} {i j : Nat} (a : 0 < W i m) (b : 0 < W m j) : max (W i m) (W m j) ≤ wstep m W i j := by
  unfold wstep
  rw [if_pos ⟨a, b⟩]
  exact Nat.le_max_right _ _
theorem wstep_via {m : Nat} {W : Nat → Nat → Nat} (h : Via m W) (one : ∀ i, W i i ≤ 1) : Via (m + 1) (wstep m W) := by
  intro k hk i j a b
  rcases Nat.lt_or_ge k m with lt | ge
  · have ge0 := wstep_ge m W i j
    by_cases c1 : 0 < W i m ∧ 0 < W m k
    · have e1 : wstep m W i k = max (W i k) (max (W i m) (W m k)) := by unfold wstep; rw [if_pos c1]
      by_cases c2 : 0 < W k m ∧ 0 < W m j
      · have e2 : wstep m W k j = max (W k j) (max (W k m) (W m j)) := by unfold wstep; rw [if_pos c2]
        have p := wstep_pos (i := i) (j := j) c1.1 c2.2
        have mm := h k lt m m c1.2 c2.1
        have := one m
        have q1 : W i k ≤ max (W i m) (W m j) := by
          by_cases z : 0 < W i k
          · have := h k lt i m z c2.1
            omega
          · omega
        have q2 : W k j ≤ max (W i m) (W m j) := by
          by_cases z : 0 < W k j
          · have := h k lt m j c1.2 z
            omega
          · omega
        rw [e1, e2]
        omega
      · have e2 : wstep m W k j = W k j := by unfold wstep; rw [if_neg c2]
        rw [e2] at b ⊢
        have := h k lt m j c1.2 b
        have p := wstep_pos (i := i) (j := j) c1.1 (by omega)
        have q1 : W i k ≤ wstep m W i j := by
          by_cases z : 0 < W i k
          · have := h k lt i j z b
            omega
          · omega
        rw [e1]
        omega
    · have e1 : wstep m W i k = W i k := by unfold wstep; rw [if_neg c1]
      rw [e1] at a ⊢
      by_cases c2 : 0 < W k m ∧ 0 < W m j
      · have e2 : wstep m W k j = max (W k j) (max (W k m) (W m j)) := by unfold wstep; rw [if_pos c2]
        have := h k lt i m a c2.1
        have p := wstep_pos (i := i) (j := j) (by omega) c2.2
        have q2 : W k j ≤ wstep m W i j := by
          by_cases z : 0 < W k j
          · have := h k lt i j a z
            omega
          · omega
        rw [e2]
        omega
      · have e2 : wstep m W k j = W k j := by unfold wstep; rw [if_neg c2]
        rw [e2] at b ⊢
        have := h k lt i j a b
        omega
  · have : k = m := by omega
    subst this
    rw [wstep_self (one k)] at a ⊢
    rw [wstep_self' (one k)] at b ⊢
    exact wstep_pos a b
theorem war_via {n : Nat} {r : R} (g : Good n r) {W : Nat → Nat → Nat} (h : ∀ i j, W i j ≤ val r i j) : ∀ m, Via m (war W m)
  | 0 => fun k hk => absurd hk (Nat.not_lt_zero _)
  | m + 1 => wstep_via (war_via g h m) fun i => by
    have := war_le g h m i i
    have z : ¬ 2 ≤ val r i i := fun z => by
      have := val_two.mp z
      rw [g.irr] at this
      cases this
    omega
/-- by hand: what is known is found -/
theorem war_val {n : Nat} {l : List Ent} (i : InN n l) {W : Nat → Nat → Nat} (h : ∀ i j, W i j ≤ val (run (init n) l) i j) (h1 : ∀ i, i < n → 0 < W i i) (he : ∀ e ∈ l, 1 + (if e.2 = true then 1 else 0) ≤ W (lo e) (hi e)) (a b : Nat) : war W n a b = val (run (init n) l) a b := by
  have g := good_run (good_init n) i
  refine Nat.le_antisymm (war_le g h n a b) ?_
  have via := war_via g h n
  have le := war_le g h n
  have ge := war_ge (W := W) n
  have low : ∀ i j, 0 < war W n i j → i < n ∧ j < n := fun i j z => g.inB _ _ ((val_pos g).mp (Nat.lt_of_lt_of_le z (le i j)))
  have L : Le (run (init n) l) ⟨fun i j => decide (0 < war W n i j), fun i j => decide (2 ≤ war W n i j)⟩ := by
    refine run_least (n := n) (fun i j m x y => ?_) (fun i j m x y => ?_) (fun i j m x y => ?_) (fun i j x => ?_) (good_init n) i ⟨fun i j x => ?_, fun i j x => by cases x⟩ fun e me => ?_
    · have x := of_decide_eq_true x
      have y := of_decide_eq_true y
      have := via j (low _ _ x).2 i m x y
      exact decide_eq_true (by omega)
    · have x := of_decide_eq_true x
      have y := of_decide_eq_true y
      have := via j (low i j (by omega)).2 i m (by omega) y
      exact decide_eq_true (by omega)
    · have x := of_decide_eq_true x
      have y := of_decide_eq_true y
      have := via j (low i j (by omega)).2 i m x (by omega)
      exact decide_eq_true (by omega)
    · have x := of_decide_eq_true x
      exact decide_eq_true (by omega)
    · have x : (decide (i < n) && decide (i = j)) = true := x
      simp only [Bool.and_eq_true, decide_eq_true_eq] at x
      rw [← x.2]
      have := h1 i x.1
      have := ge i i
      exact decide_eq_true (by omega)
    · have z := he e me
      have z2 := ge (lo e) (hi e)
      unfold Holds
      unfold lo hi at z z2
      cases y : e.2 with
      | true =>
        rw [y] at z z2
        simp only [if_true] at z z2 ⊢
        exact decide_eq_true (by omega)
      | false =>
        rw [y] at z z2
        simp only [Bool.false_eq_true, if_false] at z z2 ⊢
        exact decide_eq_true (by omega)
  unfold val
  by_cases c : (run (init n) l).S a b = true
  · rw [if_pos c]
    exact of_decide_eq_true (L.2 _ _ c)
  · rw [if_neg c]
    by_cases d : (run (init n) l).B a b = true
    · rw [if_pos d]
      exact of_decide_eq_true (L.1 _ _ d)
    · rw [if_neg d]
      exact Nat.zero_le _
end Rel

/-! rows of bits: x >> j & 1, row[i] |= x -/
namespace L2
open PySem PySem.Spec PyProof.Rows
/-- a list's item by a number that is not below zero -/
def rGetL (K : PySem.W.Frag) : V → V → Hp → VK → Prop := fun o i H Q => ∃ (a : Addr) (xs : List V) (k : Nat) (z : V), o = .ref a ∧ i = .int (k : Int) ∧ SqL K H a xs ∧ xs.length < 2 ^ 62 ∧ xs[k]? = some z ∧ Q z H
theorem pget_list {X : Cx} : PGet X (rGetL X.K) := by
  intro pins s σ H o i ov iv Q I r1 r2 h
  obtain ⟨a, xs, k, z, rfl, rfl, hq, lx, hz, q⟩ := h
  cases r1
  obtain ⟨t, rfl⟩ := r2
  obtain ⟨its, r, pl, hsz⟩ := I.list hq
  obtain ⟨w, ew, rw'⟩ := r.get hz
  have lk := (List.getElem?_eq_some_iff.mp hz).1
  refine getItem_listL pl.isList (Int.natCast_nonneg k) (by omega) ?_ ⟨z, H, I, rw', q⟩
  rw [Int.toNat_natCast]
  exact ew
theorem ip_or {X : Cx} : PIp X .BitOr (rI0 fun i j => .int (Builtin.bitOr i j)) := fun pins s σ H x y v u Q I r1 r2 h => iop_or pins s σ H x y v u Q I r1 r2 h
theorem bitOr_nat (a b : Nat) : Builtin.bitOr (a : Int) (b : Int) = ((a ||| b : Nat) : Int) := by
  rw [bitOr_nn (Int.natCast_nonneg a) (Int.natCast_nonneg b), Int.toNat_natCast, Int.toNat_natCast]
theorem bitAnd_nat (a b : Nat) : Builtin.bitAnd (a : Int) (b : Int) = ((a &&& b : Nat) : Int) := by
  rfl
/-- the bit j -/
theorem bit_at (a j : Nat) : Builtin.bitAnd ((a : Int) / 2 ^ j) 1 = if a.testBit j = true then 1 else 0 := by
  have e : ((a : Int) / 2 ^ j) = ((a >>> j : Nat) : Int) := by
    rw [Nat.shiftRight_eq_div_pow, Int.natCast_ediv, Int.natCast_pow]
    rfl
  rw [e, show (1 : Int) = ((1 : Nat) : Int) from rfl, bitAnd_nat, Nat.and_one_is_mod]
  have : a.testBit j = decide ((a >>> j) % 2 = 1) := by
    rw [Nat.testBit, Nat.one_and_eq_mod_two]
    have := Nat.mod_two_eq_zero_or_one (a >>> j)
    rcases this with h | h <;> simp [h]
  rw [this]
  rcases Nat.mod_two_eq_zero_or_one (a >>> j) with h | h <;> simp [h]
/-- numbers below 2 ^ n whose bits are told -/
def Bits (n a : Nat) (f : Nat → Bool) : Prop := a < 2 ^ n ∧ ∀ j, a.testBit j = f j
theorem Bits.or {n a b : Nat} {f g : Nat → Bool} (h : Bits n a f) (h' : Bits n b g) : Bits n (a ||| b) fun j => f j || g j :=
  ⟨Nat.or_lt_two_pow h.1 h'.1, fun j => by rw [Nat.testBit_or, h.2, h'.2]⟩
theorem Bits.one {n i : Nat} (h : i < n) : Bits n (2 ^ i) fun j => decide (i = j) :=
  ⟨Nat.pow_lt_pow_right (by decide) h, fun j => Nat.testBit_two_pow⟩
theorem Bits.zero {n : Nat} : Bits n 0 fun _ => false := ⟨Nat.two_pow_pos n, fun j => Nat.zero_testBit j⟩
end L2

/-! a tuple turned about: t[::-1] -/
namespace HT
open PySem PySem.Spec PyProof.Rows
variable {prog : Program} {w : World} {A : Around} {E : Value → Shared → Prop} {s : Shared}
theorem rev_places (n : Nat) : Builtin.Slice.slicePlaces ((n : Int) - 1) (-1) (-1) = n := by
  unfold Builtin.Slice.slicePlaces
  rw [if_neg (by decide)]
  by_cases h : n = 0
  · subst h
    rfl
  · rw [if_pos (by omega), show (-(-1) : Int) = 1 from rfl, Int.ediv_one]
    omega
theorem sliceApplied_rev {sl : Addr} {vl vu vs : Value} {n : Nat} {Q : Int × Int × Nat → Shared → Prop} (hs : s.heap.IsSliceOf sl vl vu vs) (pl : IsPart vl none) (pu : IsPart vu none) (ps : IsPart vs (some (-1)))
    (h : Q ((n : Int) - 1, -1, n) s) : wpAny (model prog w) A (Builtin.Slice.sliceApplied (.ref sl) (pure (n : Int))) Q E s := by
  obtain ⟨os, hos, hcs, hds⟩ := id hs
  unfold Builtin.Slice.sliceApplied Builtin.Slice.sliceFields
  refine wpAny_bind (wpAny_bind (wpAny_field hos hds (x := vl) rfl (wpAny_bind (wpAny_field hos hds (x := vu) rfl (wpAny_bind (wpAny_field hos hds (x := vs) rfl (wpAny_pure ?_)))))))
  refine wpAny_bind (slicePart_ ps ?_)
  show wpAny _ _ (if ((-1 : Int) == 0) = true then _ else _) _ _ s
  rw [if_neg (by decide)]
  refine wpAny_bind (slicePart_ pl (wpAny_bind (slicePart_ pu (wpAny_bind (wpAny_pure ?_)))))
  show wpAny _ _ (pure ((n : Int) - 1, (-1 : Int), Builtin.Slice.slicePlaces ((n : Int) - 1) (-1) (-1))) _ _ s
  rw [rev_places]
  exact wpAny_pure h
theorem fm_congr {α : Type} {f g : Nat → Option α} : ∀ {l : List Nat}, (∀ x ∈ l, f x = g x) → l.filterMap f = l.filterMap g
  | [], _ => rfl
  | x :: l, h => by
    rw [List.filterMap_cons, List.filterMap_cons, h x (List.mem_cons_self ..), fm_congr fun y hy => h y (List.mem_cons_of_mem _ hy)]
theorem rev_pick (xs : Array Value) : ((List.range xs.size).filterMap fun (m : Nat) => xs[(((xs.size : Int) - 1) + (m : Int) * (-1)).toNat]?).toArray = xs.toList.reverse.toArray := by
  have e : (List.range xs.size).filterMap (fun (m : Nat) => xs[(((xs.size : Int) - 1) + (m : Int) * (-1)).toNat]?) = ((List.range xs.size).map fun k => xs.size - 1 - k).filterMap (xs[·]?) := by
    rw [List.filterMap_map]
    refine fm_congr fun m hm => ?_
    have := List.mem_range.mp hm
    have e : (((xs.size : Int) - 1) + (m : Int) * (-1)).toNat = xs.size - 1 - m := by omega
    show xs[(((xs.size : Int) - 1) + (m : Int) * (-1)).toNat]? = xs[xs.size - 1 - m]?
    rw [e]
  rw [e, PySem.W.krv_range, List.filterMap_reverse, PySem.W.krv_all]
theorem getItem_tuple_rev {t sl : Addr} {items : Array Value} {vl vu vs : Value} {Q : Value → Shared → Prop} (ht : IsTup s.heap t items) (hs : s.heap.IsSliceOf sl vl vu vs) (pl : IsPart vl none) (pu : IsPart vu none) (ps : IsPart vs (some (-1)))
    (h : Q (.ref s.heap.objs.size) { s with heap := s.heap.push { cls := .type "tuple", data := .seq items.toList.reverse.toArray } })
    (hsz : items.size ≤ sizeLine) : wpAny (model prog w) A (getItem (.ref t) (.ref sl)) Q E s := by
  have htake : sizeOk (.seq items.toList.reverse.toArray) := by
    show items.toList.reverse.toArray.size ≤ sizeLine
    rw [List.size_toArray, List.length_reverse, Array.length_toList]
    exact hsz
  obtain ⟨os, hos, hcs, hds⟩ := id hs
  have hTs : s.TypeIs (.ref sl) "slice" := ⟨os, hos, hcs⟩
  unfold getItem
  try with_reducible refine wpAny_holding ?_
  first | refine wpAny_bind (wpAny_pure ?_) | skip
  refine wpAny_bind (wpAny_sequenceKey ht.typeIs (by decide) ?_)
  refine wpAny_bind (wpAny_callSpecial?_slot (name := Str.ofString "__getitem__") ht.typeIs PyProof.Rows.slot_tuple_getitem
    (wpAny_call_entry PyProof.Rows.slot_tuple_getitem ht.typeIs entry_tuple_getitem ?_ (args_tuple_getitem _ _)))
  show wpAny _ _ (Builtin.Tuple.tupleItemsOf (.ref t) >>= _) _ _ s
  refine wpAny_bind (tupleItemsOf_ ht ?_)
  refine wpAny_bind (wpAny_typeOf hTs ?_)
  rw [if_pos (by decide)]
  refine wpAny_bind (sliceApplied_rev hs pl pu ps ?_)
  have hno : ¬ ((((items.size : Int) - 1) == 0 && (-1 : Int) == 1 && items.size == items.size) = true) := by
    rw [show ((-1 : Int) == 1) = false from rfl, Bool.and_false, Bool.false_and]
    decide
  show wpAny _ _ (if ((((items.size : Int) - 1) == 0 && (-1 : Int) == 1 && items.size == items.size) = true) then _ else _) _ _ s
  rw [if_neg hno, rev_pick]
  first
    | exact wpAny_bind (m := Builtin.Tuple.tupleExact _) (wpAny_newObj_type (wpAny_pure ⟨_, rfl, wpAny_pure h⟩) htake)
    | exact wpAny_bind (m := Builtin.Tuple.tupleExact _) (wpAny_newObj_type (wpAny_bind (wpAny_pure (wpAny_pure ⟨_, rfl, wpAny_pure h⟩))) htake)
    | exact wpAny_bind (wpAny_bind (m := Builtin.Tuple.tupleExact _) (wpAny_newObj_type (wpAny_pure (wpAny_pure ⟨_, rfl, wpAny_pure h⟩)) htake))
    | exact wpAny_bind (wpAny_bind (m := Builtin.Tuple.tupleExact _) (wpAny_newObj_type (wpAny_pure ⟨_, rfl, wpAny_pure h⟩) htake))
end HT
namespace L2
open PySem PySem.Spec PyProof.Rows
def tRevT (K : PySem.W.Frag) (te : TE) : TE := fun σ H Q => te σ H fun x H1 => ∃ a xs, x = .ref a ∧ SqT K H1 a xs ∧ ∀ p, H1 p = none → Q (.ref p) (upd H1 p (.tup xs.reverse))
theorem pe_revT {X : Cx} {e : Expr} {te : TE} {k : Nat} {p1 p2 p3 pos : Pos} (he : PE X e te) : PE X (.Subscript e (.Slice none none (some (.UnaryOp .USub (.Constant (.int 1) k p1) p2)) p3) pos) (tRevT X.K te) := by
  refine ⟨fun pins s σ H Q I h => ?_⟩
  refine Subscript_ (thn (he.run pins s σ H _ I h) fun v s1 ⟨x, H1, I1, r1, q1⟩ => ?_)
  obtain ⟨a, xs, rfl, hx, q⟩ := q1
  cases r1
  have hst : PO X (some (.UnaryOp .USub (.Constant (.int 1) k p1) p2)) (tPart (tUn (rU fun i => .int (-i)) (tC (.int 1)))) := po_some (pe_un un_neg pe_int)
  refine wpAny_Slice (thn (po_none.run pins s1 σ H1 (fun o H2 => o = none ∧ H2 = H1) I1 ⟨rfl, rfl⟩) fun vl s2 ⟨l, H2, I2, pl, el, e2⟩ => ?_)
  subst el e2
  refine thn (po_none.run pins s2 σ H2 (fun o H3 => o = none ∧ H3 = H2) I2 ⟨rfl, rfl⟩) fun vu s3 ⟨u, H3, I3, pu, eu, e3⟩ => ?_
  subst eu e3
  refine thn (hst.run pins s3 σ H3 (fun o H4 => o = some (-1) ∧ H4 = H3) I3 ⟨1, rfl, -1, rfl, rfl, rfl⟩) fun vs s4 ⟨o, H4, I4, ps, eo, e4⟩ => ?_
  subst eo e4
  have I5 : Inv X pins σ H4 { s4 with heap := s4.heap.push { cls := .type "slice", data := .fields #[vl, vu, vs] } } := I4.kept (t' := s4.toks) fun b ob q => Heap.get?_push_of_some _ q
  obtain ⟨its, r, ht, hz⟩ := I5.tuple hx
  have hlen := r.length
  show wpAny (model X.prog X.w) X.A (subscriptTail e (.Slice none none (some (.UnaryOp .USub (.Constant (.int 1) k p1) p2)) p3) (.ref a) (.ref s4.heap.objs.size)) (EP X pins σ Q) X.xe { s4 with heap := s4.heap.push { cls := .type "slice", data := .fields #[vl, vu, vs] } }
  refine tail_any (ops := [.ref a, .ref s4.heap.objs.size]) ht.typeIs (PyProof.Rows.slot_tuple_getitem.lookup) ?_ (by with_unfolding_all rfl)
  refine HT.getItem_tuple_rev ht (Heap.IsSliceOf.new _ vl vu vs) pl pu ps ?_ (by rw [List.size_toArray]; omega)
  refine ⟨.ref _, _, I5.laid (t' := s4.toks) (o := .tup xs.reverse) (fun b ob q => Heap.get?_push_of_some _ q) (Nat.le_refl _) ?_, rfl, q _ (I5.hok.fresh (Nat.le_refl _))⟩
  exact ⟨by rw [List.length_reverse]; exact hz, _, r.reverse, IsTup.new _ _⟩
end L2

/-! max of three ints -/
namespace L2
open PySem PySem.Spec PyProof.Rows
theorem call_max3 {X : Cx} (hc : X.calm = true) : CallR X (.builtin "max") (fun xs H Q => ∃ i j k : Int, xs = [.int i, .int j, .int k] ∧ Q (.int (max i (max j k))) H) := by
  intro pins s σ H xs us Q I r h
  obtain ⟨i, j, k, rfl, q⟩ := h
  cases r with
  | cons r1 r =>
    obtain ⟨u2, u3, rfl, ⟨t2, rfl⟩, ⟨t3, rfl⟩⟩ := vals2 r
    obtain ⟨t1, rfl⟩ := r1
    refine max_three_ints (I.ok.hd hc) fun h' tk kp => ⟨_, H, I.kept kp, ?_, q⟩
    by_cases c1 : j > i
    · rw [if_pos c1]
      by_cases c2 : k > j
      · rw [if_pos c2, show max i (max j k) = k by omega]; exact ⟨_, rfl⟩
      · rw [if_neg c2, show max i (max j k) = j by omega]; exact ⟨_, rfl⟩
    · rw [if_neg c1]
      by_cases c2 : k > i
      · rw [if_pos c2, show max i (max j k) = k by omega]; exact ⟨_, rfl⟩
      · rw [if_neg c2, show max i (max j k) = i by omega]; exact ⟨_, rfl⟩
end L2

/-! the table of what a log tells, made step by step -/
namespace Rel
def W0 (n : Nat) (i j : Nat) : Nat := if i < n ∧ i = j then 1 else 0
def ent (W : Nat → Nat → Nat) (e : Ent) : Nat → Nat → Nat := fun i j => if i = lo e ∧ j = hi e then max (W i j) (1 + if e.2 = true then 1 else 0) else W i j
def tab (n : Nat) (l : List Ent) : Nat → Nat → Nat := l.foldl ent (W0 n)
theorem ent_ge (W : Nat → Nat → Nat) (e : Ent) (i j : Nat) : W i j ≤ ent W e i j := by
  unfold ent
  split
  · exact Nat.le_max_left _ _
  · exact Nat.le_refl _
theorem fold_ge : ∀ (l : List Ent) (W : Nat → Nat → Nat) (i j : Nat), W i j ≤ l.foldl ent W i j
  | [], _, _, _ => Nat.le_refl _
  | e :: l, W, i, j => Nat.le_trans (ent_ge W e i j) (fold_ge l _ i j)
theorem fold_le {n : Nat} {r : R} (g : Good n r) : ∀ (l : List Ent) (W : Nat → Nat → Nat), (∀ e ∈ l, Holds r e) → (∀ i j, W i j ≤ val r i j) → ∀ i j, l.foldl ent W i j ≤ val r i j
  | [], _, _, h => h
  | e :: l, W, hl, h => fold_le g l (ent W e) (fun x hx => hl x (List.mem_cons_of_mem _ hx)) fun i j => by
    have he := hl e (List.mem_cons_self ..)
    unfold ent
    by_cases c : i = lo e ∧ j = hi e
    · rw [if_pos c]
      have := h i j
      refine Nat.max_le.mpr ⟨this, ?_⟩
      unfold Holds at he
      unfold lo hi at c
      cases z : e.2 with
      | true =>
        rw [z] at he c
        simp only [if_true] at he c ⊢
        rw [c.1, c.2]
        exact val_two.mpr he
      | false =>
        rw [z] at he c
        simp only [Bool.false_eq_true, if_false] at he c ⊢
        rw [c.1, c.2]
        exact (val_pos g).mpr he
    · rw [if_neg c]
      exact h i j
theorem fold_ent : ∀ (l : List Ent) (W : Nat → Nat → Nat) (e : Ent), e ∈ l → 1 + (if e.2 = true then 1 else 0) ≤ l.foldl ent W (lo e) (hi e)
  | [], _, _, h => by cases h
  | x :: l, W, e, h => by
    rcases List.mem_cons.mp h with rfl | h
    · refine Nat.le_trans ?_ (fold_ge l _ _ _)
      have e2 : ent W e (lo e) (hi e) = max (W (lo e) (hi e)) (1 + if e.2 = true then 1 else 0) := by
        show (if lo e = lo e ∧ hi e = hi e then _ else _) = _
        rw [if_pos (And.intro rfl rfl)]
      rw [e2]
      exact Nat.le_max_right _ _
    · exact fold_ent l _ e h
theorem tab_le {n : Nat} {l : List Ent} (i : InN n l) (h : lie (init n) l 0 = none) : ∀ a b, tab n l a b ≤ val (run (init n) l) a b := by
  have g := good_run (good_init n) i
  refine fold_le g l (W0 n) (holds_run (good_init n) i h) fun a b => ?_
  unfold W0
  split
  · rename_i c
    obtain ⟨c1, rfl⟩ := c
    exact (val_pos g).mpr (g.refl a c1)
  · exact Nat.zero_le _
theorem tab_war {n : Nat} {l : List Ent} (i : InN n l) (h : lie (init n) l 0 = none) (a b : Nat) : war (tab n l) n a b = val (run (init n) l) a b :=
  war_val i (tab_le i h) (fun k hk => Nat.lt_of_lt_of_le (by unfold W0; rw [if_pos ⟨hk, rfl⟩]; decide) (fold_ge l _ k k)) (fun e he => fold_ent l _ e he) a b
theorem tab_one {n : Nat} {l : List Ent} (i : InN n l) (h : lie (init n) l 0 = none) (m a : Nat) : war (tab n l) m a a ≤ 1 := by
  have g := good_run (good_init n) i
  have := war_le g (tab_le i h) m a a
  have z : ¬ 2 ≤ val (run (init n) l) a a := fun z => by
    have := val_two.mp z
    rw [g.irr] at this
    cases this
  omega
/-- rows that are done -/
def rowsDone (m : Nat) (W : Nat → Nat → Nat) (S : List Nat) : Nat → Nat → Nat := fun i j => if i ∈ S then wstep m W i j else W i j
/-- and the first places of one more row -/
def cells (m : Nat) (W : Nat → Nat → Nat) (S : List Nat) (i c : Nat) : Nat → Nat → Nat := fun a j => if a = i ∧ j < c then wstep m W i j else rowsDone m W S a j
theorem cells_mid {m : Nat} {W : Nat → Nat → Nat} (one : W m m ≤ 1) (S : List Nat) (i c : Nat) : cells m W S i c m c = W m c := by
  unfold cells
  rw [if_neg (fun z => absurd z.2 (Nat.lt_irrefl _))]
  unfold rowsDone
  split
  · exact wstep_self' one c
  · rfl
theorem cells_at {m : Nat} {W : Nat → Nat → Nat} {S : List Nat} {i : Nat} (h : i ∉ S) (c : Nat) : cells m W S i c i c = W i c := by
  unfold cells
  rw [if_neg (fun z => absurd z.2 (Nat.lt_irrefl _))]
  unfold rowsDone
  rw [if_neg h]
theorem cells_m {m : Nat} {W : Nat → Nat → Nat} (one : W m m ≤ 1) {S : List Nat} {i : Nat} (h : i ∉ S) (c : Nat) : cells m W S i c i m = W i m := by
  unfold cells
  split
  · exact wstep_self one i
  · unfold rowsDone
    rw [if_neg h]
theorem cells_step {m : Nat} {W : Nat → Nat → Nat} {S : List Nat} {i : Nat} (c : Nat) (a j : Nat) : cells m W S i (c + 1) a j = if a = i ∧ j = c then wstep m W i c else cells m W S i c a j := by
  unfold cells
  by_cases h : a = i ∧ j = c
  · rw [if_pos h, if_pos ⟨h.1, by omega⟩, h.2]
  · rw [if_neg h]
    by_cases k : a = i ∧ j < c
    · rw [if_pos k, if_pos ⟨k.1, by omega⟩]
    · rw [if_neg k, if_neg (fun z => k ⟨z.1, by have := z.2; have : j ≠ c := fun y => h ⟨z.1, y⟩; omega⟩)]
theorem cells_end {m n : Nat} {W : Nat → Nat → Nat} {S : List Nat} {i : Nat} (a j : Nat) (hj : j < n) : cells m W S i n a j = rowsDone m W (S ++ [i]) a j := by
  unfold cells rowsDone
  by_cases h : a = i
  · subst h
    rw [if_pos ⟨rfl, hj⟩, if_pos (by simp)]
  · rw [if_neg (fun z => h z.1)]
    by_cases k : a ∈ S
    · rw [if_pos k, if_pos (by simp [k])]
    · rw [if_neg k, if_neg (by simp [k, h])]
theorem rows_end {m n : Nat} {W : Nat → Nat → Nat} (a j : Nat) (ha : a < n) : rowsDone m W ((List.range n).filter fun k => decide (0 < W k m)) a j = wstep m W a j := by
  unfold rowsDone
  by_cases h : 0 < W a m
  · rw [if_pos (by rw [List.mem_filter]; exact ⟨List.mem_range.mpr ha, decide_eq_true h⟩)]
  · rw [if_neg (by rw [List.mem_filter]; exact fun z => h (of_decide_eq_true z.2))]
    unfold wstep
    rw [if_neg (fun z => h z.1)]
theorem wstep_pos' {m : Nat} {W : Nat → Nat → Nat} {i j : Nat} (a : 0 < W i m) (b : 0 < W m j) : wstep m W i j = max (W i j) (max (W i m) (W m j)) := by
  unfold wstep
  rw [if_pos ⟨a, b⟩]
theorem wstep_zero {m : Nat} {W : Nat → Nat → Nat} {i j : Nat} (b : ¬ 0 < W m j) : wstep m W i j = W i j := by
  unfold wstep
  rw [if_neg (fun z => b z.2)]
end Rel

/-! rows of bools as data; a bool or none, shown -/
namespace L2
open PySem PySem.Spec PyProof.Rows
theorem dpAll_bools {K : PySem.W.Frag} {H : Hp} : ∀ bs : List Bool, DpAll K H (bs.map V.bl) (bs.map PyData.bool)
  | [] => .nil
  | b :: r => .cons (.bl b) (dpAll_bools r)
theorem dp_bools {K : PySem.W.Frag} {H : Hp} {p : Addr} {bs : List Bool} (h : SqL K H p (bs.map V.bl)) : Dp K H (.ref p) (.list (bs.map PyData.bool)) := .lst h (dpAll_bools bs)
theorem eqvAll_bools : ∀ xs ys : List Bool, PyData.eqvAll (xs.map PyData.bool) (ys.map PyData.bool) = decide (xs = ys)
  | [], [] => rfl
  | [], _ :: _ => rfl
  | _ :: _, [] => rfl
  | x :: xs, y :: ys => by
    show (PyData.eqv (.bool x) (.bool y) && PyData.eqvAll (xs.map PyData.bool) (ys.map PyData.bool)) = _
    rw [eqvAll_bools xs ys]
    show (x == y && decide (xs = ys)) = _
    by_cases h1 : x = y
    · subst h1
      by_cases h2 : xs = ys
      · subst h2
        simp
      · simp [h2]
    · simp [h1]
theorem eqv_bools (xs ys : List Bool) : PyData.eqv (.list (xs.map PyData.bool)) (.list (ys.map PyData.bool)) = decide (xs = ys) := eqvAll_bools xs ys
theorem shaped_bools (bs : List Bool) : SeqAt.shaped (.list (bs.map PyData.bool)) = true :=
  shaped_of (canLay_of PyData.bool (fun _ => rfl) bs) (Nat.le_trans (Nat.add_le_add_right (depth_of PyData.bool (n := 0) (fun _ => Nat.le_refl 0) bs) 1) (by decide))
def optD : Option Bool → PyData
  | none => .none
  | some b => .bool b
def optBV : Option Bool → V
  | none => .non
  | some b => .bl b
theorem dp_opt {K : PySem.W.Frag} {H : Hp} (o : Option Bool) : Dp K H (optBV o) (optD o) := by
  cases o with
  | none => exact .non
  | some b => exact .bl b
theorem shd_opt {K : PySem.W.Frag} {H : Hp} (o : Option Bool) : ShD K H (optBV o) (optD o) := .flat (dp_opt o) (by cases o <;> rfl)
theorem showable_opt (o : Option Bool) : (optD o).showable = true ∧ (optD o).depth ≤ 64 ∧ (optD o).shown.length ≤ sizeLine := by
  cases o with
  | none => exact ⟨rfl, Nat.zero_le _, by decide⟩
  | some b => cases b <;> exact ⟨rfl, Nat.zero_le _, by decide⟩
/-- all alike: the first one, as often -/
theorem rep_first {bs : List Bool} : (decide (bs = (List.replicate bs.length (bs.take 1)).flatten) = true) ↔ ∀ b ∈ bs, some b = bs.head? := by
  cases bs with
  | nil => exact ⟨fun _ b h => (by cases h), fun _ => decide_eq_true rfl⟩
  | cons x l =>
    have e : (List.replicate (x :: l).length ((x :: l).take 1)).flatten = List.replicate (l.length + 1) x := by
      show (List.replicate (l.length + 1) [x]).flatten = _
      generalize l.length + 1 = n
      induction n with
      | zero => rfl
      | succ n ih => rw [List.replicate_succ, List.flatten_cons, ih]; rfl
    rw [e]
    constructor
    · intro h b hb
      have h := of_decide_eq_true h
      rw [h] at hb
      rw [List.eq_of_mem_replicate hb]
      rfl
    · intro h
      refine decide_eq_true ?_
      rw [List.eq_replicate_iff]
      exact ⟨rfl, fun b hb => Option.some.inj (h b hb)⟩
end L2

/-! a chain of items: what follows along it -/
namespace Rel
/-- the entry for two neighbours of a row -/
def chE (r : List Nat) (ms : List Bool) (j : Nat) : Ent := if ms.getD j false = true then ((r.getD j 0, r.getD (j + 1) 0), true) else ((r.getD (j + 1) 0, r.getD j 0), false)
theorem chE_snoc {r : List Nat} {ms : List Bool} {b : Bool} {j : Nat} (h : j < ms.length) : chE r (ms ++ [b]) j = chE r ms j := by
  unfold chE
  rw [List.getD_eq_getElem?_getD, List.getElem?_append_left h, ← List.getD_eq_getElem?_getD]
theorem chE_last {r : List Nat} {ms : List Bool} {b : Bool} : chE r (ms ++ [b]) ms.length = if b = true then ((r.getD ms.length 0, r.getD (ms.length + 1) 0), true) else ((r.getD (ms.length + 1) 0, r.getD ms.length 0), false) := by
  unfold chE
  rw [List.getD_eq_getElem?_getD, List.getElem?_append_right (Nat.le_refl _), Nat.sub_self]
  rfl
def IsChain (r : List Nat) (ms : List Bool) (es : List Ent) : Prop := ∀ e, e ∈ es ↔ ∃ j, j < ms.length ∧ e = chE r ms j
theorem chain_sat {r : List Nat} {ms : List Bool} {es : List Ent} (h : IsChain r ms es) {k : Nat → Nat} : Sat k es ↔ ∀ j, j < ms.length → k (r.getD j 0) ≤ k (r.getD (j + 1) 0) ∧ (ms.getD j false = true → k (r.getD j 0) < k (r.getD (j + 1) 0)) := by
  constructor
  · intro s j hj
    have := s _ ((h _).mpr ⟨j, hj, rfl⟩)
    unfold chE at this
    by_cases c : ms.getD j false = true
    · rw [if_pos c] at this
      have := of_decide_eq_true this
      exact ⟨Nat.le_of_lt this, fun _ => this⟩
    · rw [if_neg c] at this
      have := of_decide_eq_false this
      exact ⟨Nat.le_of_not_lt this, fun z => absurd z c⟩
  · intro s e he
    obtain ⟨j, hj, rfl⟩ := (h e).mp he
    obtain ⟨s1, s2⟩ := s j hj
    unfold chE
    by_cases c : ms.getD j false = true
    · rw [if_pos c]
      exact decide_eq_true (s2 c)
    · rw [if_neg c]
      exact decide_eq_false (Nat.not_lt.mpr s1)
theorem chain_le {r : List Nat} {ms : List Bool} {es : List Ent} (h : IsChain r ms es) {k : Nat → Nat} (s : Sat k es) {a : Nat} : ∀ {d : Nat}, a + d ≤ ms.length → k (r.getD a 0) ≤ k (r.getD (a + d) 0)
  | 0, _ => Nat.le_refl _
  | d + 1, hb => Nat.le_trans (chain_le h s (a := a) (d := d) (by omega)) ((chain_sat h).mp s (a + d) (by omega)).1
theorem chain_lt {r : List Nat} {ms : List Bool} {es : List Ent} (h : IsChain r ms es) {k : Nat → Nat} (s : Sat k es) {a b j : Nat} (h1 : a ≤ j) (h2 : j < b) (hb : b ≤ ms.length) (m : ms.getD j false = true) : k (r.getD a 0) < k (r.getD b 0) := by
  have e1 := chain_le h s (a := a) (d := j - a) (by omega)
  have e2 := ((chain_sat h).mp s j (by omega)).2 m
  have e3 := chain_le h s (a := j + 1) (d := b - (j + 1)) (by omega)
  rw [show a + (j - a) = j by omega] at e1
  rw [show j + 1 + (b - (j + 1)) = b by omega] at e3
  omega
/-- how many steps ahead of a place are strict -/
def cnt (ms : List Bool) : Nat → Nat
  | 0 => 0
  | j + 1 => cnt ms j + if ms.getD j false = true then 1 else 0
theorem cnt_same {ms : List Bool} {a : Nat} : ∀ {d : Nat}, (∀ j, a ≤ j → j < a + d → ms.getD j false ≠ true) → cnt ms (a + d) = cnt ms a
  | 0, _ => rfl
  | d + 1, h => by
    show cnt ms (a + d) + (if ms.getD (a + d) false = true then 1 else 0) = _
    rw [if_neg (h _ (by omega) (by omega)), cnt_same (d := d) fun j h1 h2 => h j h1 (by omega)]
    rfl
theorem idx_at {r : List Nat} (nd : r.Nodup) {j : Nat} (hj : j < r.length) : r.idxOf (r.getD j 0) = j := by
  rw [List.getD_eq_getElem?_getD, List.getElem?_eq_getElem hj]
  exact nd.idxOf_getElem j hj
theorem sat_pos {r : List Nat} {ms : List Bool} {es : List Ent} (h : IsChain r ms es) (nd : r.Nodup) (hl : ms.length + 1 = r.length) : Sat (fun x => r.idxOf x) es := by
  rw [chain_sat h]
  intro j hj
  rw [idx_at nd (by omega), idx_at nd (by omega)]
  exact ⟨by omega, fun _ => by omega⟩
theorem sat_cnt {r : List Nat} {ms : List Bool} {es : List Ent} (h : IsChain r ms es) (nd : r.Nodup) (hl : ms.length + 1 = r.length) : Sat (fun x => cnt ms (r.idxOf x)) es := by
  rw [chain_sat h]
  intro j hj
  rw [idx_at nd (by omega), idx_at nd (by omega)]
  show _ ≤ cnt ms j + _ ∧ (_ → _ < cnt ms j + _)
  by_cases c : ms.getD j false = true
  · rw [if_pos c]
    exact ⟨by omega, fun _ => by omega⟩
  · exact ⟨Nat.le_add_right _ _, fun z => absurd z c⟩
def anyM (ms : List Bool) (a b : Nat) : Bool := ((ms.drop a).take (b - a)).any id
theorem anyM_iff {ms : List Bool} {a b : Nat} (h : a ≤ b) : anyM ms a b = true ↔ ∃ j, a ≤ j ∧ j < b ∧ ms.getD j false = true := by
  unfold anyM
  rw [List.any_eq_true]
  constructor
  · rintro ⟨x, hx, e⟩
    obtain ⟨i, hi⟩ := List.getElem?_of_mem hx
    rw [List.getElem?_take] at hi
    by_cases c : i < b - a
    · rw [if_pos c, List.getElem?_drop] at hi
      refine ⟨a + i, by omega, by omega, ?_⟩
      rw [List.getD_eq_getElem?_getD, hi]
      exact e
    · rw [if_neg c] at hi
      cases hi
  · rintro ⟨j, j1, j2, j3⟩
    refine ⟨true, ?_, rfl⟩
    have hj : ms[j]? = some true := by
      rw [List.getD_eq_getElem?_getD] at j3
      cases e : ms[j]? with
      | none => rw [e] at j3; cases j3
      | some v => rw [e] at j3; exact congrArg some j3
    refine List.mem_of_getElem? (i := j - a) ?_
    rw [List.getElem?_take, if_pos (by omega), List.getElem?_drop, show a + (j - a) = j by omega, hj]
theorem chain_fol {n : Nat} {r : List Nat} {ms : List Bool} {es : List Ent} (h : IsChain r ms es) (nd : r.Nodup) (hl : ms.length + 1 = r.length) (inn : InN n es) (hr : ∀ j, j < r.length → r.getD j 0 < n) {a b : Nat} (hab : a < b) (hb : b < r.length) :
    lie (init n) es 0 = none ∧ fol (run (init n) es) (r.getD a 0, r.getD b 0) = (if anyM ms a b = true then some true else none) ∧ fol (run (init n) es) (r.getD b 0, r.getD a 0) = some false := by
  have hlie := (lie_iff inn).mpr ⟨_, sat_pos h nd hl⟩
  have ha := hr a (by omega)
  have hb' := hr b hb
  have back : ∀ k, Sat k es → decide (k (r.getD b 0) < k (r.getD a 0)) = false := fun k s => by
    have := chain_le h s (a := a) (d := b - a) (by omega)
    rw [show a + (b - a) = b by omega] at this
    exact decide_eq_false (by omega)
  refine ⟨hlie, ?_, ?_⟩
  · by_cases c : ∃ j, a ≤ j ∧ j < b ∧ ms.getD j false = true
    · rw [if_pos ((anyM_iff (Nat.le_of_lt hab)).mpr c)]
      obtain ⟨j, j1, j2, j3⟩ := c
      have lt : ∀ k, Sat k es → decide (k (r.getD a 0) < k (r.getD b 0)) = true := fun k s => decide_eq_true (chain_lt h s j1 j2 (by omega) j3)
      cases f : fol (run (init n) es) (r.getD a 0, r.getD b 0) with
      | none =>
        obtain ⟨k, s, _, e⟩ := both inn hlie (q := (r.getD a 0, r.getD b 0)) ha hb' f false
        have := lt k s
        rw [this] at e
        cases e
      | some v =>
        have := fol_all inn f (sat_pos h nd hl)
        rw [← this]
        exact congrArg some (lt _ (sat_pos h nd hl))
    · rw [if_neg (fun z => c ((anyM_iff (Nat.le_of_lt hab)).mp z))]
      cases f : fol (run (init n) es) (r.getD a 0, r.getD b 0) with
      | none => rfl
      | some v =>
        have e1 : decide (r.idxOf (r.getD a 0) < r.idxOf (r.getD b 0)) = v := fol_all inn f (sat_pos h nd hl)
        have e2 : decide (cnt ms (r.idxOf (r.getD a 0)) < cnt ms (r.idxOf (r.getD b 0))) = v := fol_all inn f (sat_cnt h nd hl)
        rw [idx_at nd (by omega), idx_at nd hb] at e1 e2
        have e3 := cnt_same (ms := ms) (a := a) (d := b - a) fun j h1 h2 z => c ⟨j, h1, by omega, z⟩
        rw [show a + (b - a) = b by omega] at e3
        rw [e3, decide_eq_false (Nat.lt_irrefl _)] at e2
        rw [decide_eq_true hab] at e1
        rw [← e1] at e2
        cases e2
  · cases f : fol (run (init n) es) (r.getD b 0, r.getD a 0) with
    | none =>
      obtain ⟨k, s, _, e⟩ := both inn hlie (q := (r.getD b 0, r.getD a 0)) hb' ha f true
      have := back k s
      rw [this] at e
      cases e
    | some v =>
      have := fol_all inn f (sat_pos h nd hl)
      rw [← this]
      exact congrArg some (back _ (sat_pos h nd hl))
/-- one more entry, put anywhere -/
theorem chain_put {r : List Nat} {ms : List Bool} {b : Bool} {es : List Ent} (h : IsChain r ms es) (i : Nat) : IsChain r (ms ++ [b]) (es.take i ++ [chE r (ms ++ [b]) ms.length] ++ es.drop i) := by
  intro e
  have mem : e ∈ es.take i ++ [chE r (ms ++ [b]) ms.length] ++ es.drop i ↔ e ∈ es ∨ e = chE r (ms ++ [b]) ms.length := by
    have : e ∈ es ↔ e ∈ es.take i ++ es.drop i := by rw [List.take_append_drop]
    rw [this]
    simp only [List.mem_append, List.mem_singleton]
    constructor
    · rintro ((h | h) | h)
      · exact .inl (.inl h)
      · exact .inr h
      · exact .inl (.inr h)
    · rintro ((h | h) | h)
      · exact .inl (.inl h)
      · exact .inr h
      · exact .inl (.inr h)
  rw [mem, h e, List.length_append, List.length_singleton]
  constructor
  · rintro (⟨j, hj, rfl⟩ | rfl)
    · exact ⟨j, by omega, (chE_snoc hj).symm⟩
    · exact ⟨ms.length, by omega, rfl⟩
  · rintro ⟨j, hj, rfl⟩
    rcases Nat.lt_or_ge j ms.length with z | z
    · exact .inl ⟨j, z, chE_snoc z⟩
    · have : j = ms.length := by omega
      subst this
      exact .inr rfl
end Rel

namespace K80
open PySem PySem.Spec PyProof.Rows L2 
def topS (i : Nat) : Stmt := PySem.Challenge.pw_askedorder_k80_what_follows.main.body.getD i (.Pass ⟨0, 0, 0, 0⟩)
abbrev s_wall : Stmt := topS 0
abbrev N_wall : List Str := ["k"]
abbrev P_wall : List Str := ["k"]
theorem sc_wall : FnScope N_wall P_wall (defScope s_wall) := ⟨rfl, rfl, rfl, by decide +kernel, rfl, by decide +kernel, by decide +kernel⟩
abbrev s_InvalidQuestion___init__ : Stmt := inClass (topS 3) 0
abbrev N_InvalidQuestion___init__ : List Str := ["self", "question"]
abbrev P_InvalidQuestion___init__ : List Str := ["self", "question"]
theorem sc_InvalidQuestion___init__ : FnScope N_InvalidQuestion___init__ P_InvalidQuestion___init__ (defScope s_InvalidQuestion___init__) := ⟨rfl, rfl, rfl, by decide +kernel, rfl, by decide +kernel, by decide +kernel⟩
abbrev s_InvalidAnswers___init__ : Stmt := inClass (topS 4) 0
abbrev N_InvalidAnswers___init__ : List Str := ["self", "index"]
abbrev P_InvalidAnswers___init__ : List Str := ["self", "index"]
theorem sc_InvalidAnswers___init__ : FnScope N_InvalidAnswers___init__ P_InvalidAnswers___init__ (defScope s_InvalidAnswers___init__) := ⟨rfl, rfl, rfl, by decide +kernel, rfl, by decide +kernel, by decide +kernel⟩
abbrev s_InvalidNumber___init__ : Stmt := inClass (topS 5) 0
abbrev N_InvalidNumber___init__ : List Str := ["self", "name"]
abbrev P_InvalidNumber___init__ : List Str := ["self", "name"]
theorem sc_InvalidNumber___init__ : FnScope N_InvalidNumber___init__ P_InvalidNumber___init__ (defScope s_InvalidNumber___init__) := ⟨rfl, rfl, rfl, by decide +kernel, rfl, by decide +kernel, by decide +kernel⟩
abbrev s_Mismatch___init__ : Stmt := inClass (topS 6) 0
abbrev N_Mismatch___init__ : List Str := ["self", "name"]
abbrev P_Mismatch___init__ : List Str := ["self", "name"]
theorem sc_Mismatch___init__ : FnScope N_Mismatch___init__ P_Mismatch___init__ (defScope s_Mismatch___init__) := ⟨rfl, rfl, rfl, by decide +kernel, rfl, by decide +kernel, by decide +kernel⟩
abbrev s_is_integer : Stmt := topS 9
abbrev N_is_integer : List Str := ["value"]
abbrev P_is_integer : List Str := ["value"]
theorem sc_is_integer : FnScope N_is_integer P_is_integer (defScope s_is_integer) := ⟨rfl, rfl, rfl, by decide +kernel, rfl, by decide +kernel, by decide +kernel⟩
abbrev s_is_within : Stmt := topS 10
abbrev N_is_within : List Str := ["value", "least", "most"]
abbrev P_is_within : List Str := ["value", "least", "most"]
theorem sc_is_within : FnScope N_is_within P_is_within (defScope s_is_within) := ⟨rfl, rfl, rfl, by decide +kernel, rfl, by decide +kernel, by decide +kernel⟩
abbrev s_is_item : Stmt := topS 11
abbrev N_is_item : List Str := ["value", "many"]
abbrev P_is_item : List Str := ["value", "many"]
theorem sc_is_item : FnScope N_is_item P_is_item (defScope s_is_item) := ⟨rfl, rfl, rfl, by decide +kernel, rfl, by decide +kernel, by decide +kernel⟩
abbrev s_is_question : Stmt := topS 12
abbrev N_is_question : List Str := ["value", "many", "one", "other"]
abbrev P_is_question : List Str := ["value", "many"]
theorem sc_is_question : FnScope N_is_question P_is_question (defScope s_is_question) := ⟨rfl, rfl, rfl, by decide +kernel, rfl, by decide +kernel, by decide +kernel⟩
abbrev s_check_question : Stmt := topS 13
abbrev N_check_question : List Str := ["question", "many"]
abbrev P_check_question : List Str := ["question", "many"]
theorem sc_check_question : FnScope N_check_question P_check_question (defScope s_check_question) := ⟨rfl, rfl, rfl, by decide +kernel, rfl, by decide +kernel, by decide +kernel⟩
abbrev s_check_log : Stmt := topS 14
abbrev N_check_log : List Str := ["log", "many", "index", "entry"]
abbrev P_check_log : List Str := ["log", "many"]
theorem sc_check_log : FnScope N_check_log P_check_log (defScope s_check_log) := ⟨rfl, rfl, rfl, by decide +kernel, rfl, by decide +kernel, by decide +kernel⟩
abbrev s_is_entry : Stmt := topS 15
abbrev N_is_entry : List Str := ["value", "many", "question", "answer"]
abbrev P_is_entry : List Str := ["value", "many"]
theorem sc_is_entry : FnScope N_is_entry P_is_entry (defScope s_is_entry) := ⟨rfl, rfl, rfl, by decide +kernel, rfl, by decide +kernel, by decide +kernel⟩
abbrev s_check_number : Stmt := topS 16
abbrev N_check_number : List Str := ["name", "value", "least", "most"]
abbrev P_check_number : List Str := ["name", "value", "least", "most"]
theorem sc_check_number : FnScope N_check_number P_check_number (defScope s_check_number) := ⟨rfl, rfl, rfl, by decide +kernel, rfl, by decide +kernel, by decide +kernel⟩
abbrev s_Relations___init__ : Stmt := inClass (topS 18) 0
abbrev N_Relations___init__ : List Str := ["self", "many", "item"]
abbrev P_Relations___init__ : List Str := ["self", "many"]
theorem sc_Relations___init__ : FnScope N_Relations___init__ P_Relations___init__ (defScope s_Relations___init__) := ⟨rfl, rfl, rfl, by decide +kernel, rfl, by decide +kernel, by decide +kernel⟩
abbrev s_Relations_follows : Stmt := inClass (topS 18) 1
abbrev N_Relations_follows : List Str := ["self", "question", "one", "other"]
abbrev P_Relations_follows : List Str := ["self", "question"]
theorem sc_Relations_follows : FnScope N_Relations_follows P_Relations_follows (defScope s_Relations_follows) := ⟨rfl, rfl, rfl, by decide +kernel, rfl, by decide +kernel, by decide +kernel⟩
abbrev s_Relations_learn : Stmt := inClass (topS 18) 2
abbrev N_Relations_learn : List Str := ["self", "question", "answer", "followed"]
abbrev P_Relations_learn : List Str := ["self", "question", "answer"]
theorem sc_Relations_learn : FnScope N_Relations_learn P_Relations_learn (defScope s_Relations_learn) := ⟨rfl, rfl, rfl, by decide +kernel, rfl, by decide +kernel, by decide +kernel⟩
abbrev s_Relations_first_lie : Stmt := inClass (topS 18) 3
abbrev N_Relations_first_lie : List Str := ["self", "log", "place", "question", "answer", "followed"]
abbrev P_Relations_first_lie : List Str := ["self", "log"]
theorem sc_Relations_first_lie : FnScope N_Relations_first_lie P_Relations_first_lie (defScope s_Relations_first_lie) := ⟨rfl, rfl, rfl, by decide +kernel, rfl, by decide +kernel, by decide +kernel⟩
abbrev s_Relations_least_keys : Stmt := inClass (topS 18) 4
abbrev N_Relations_least_keys : List Str := ["self"]
abbrev P_Relations_least_keys : List Str := ["self"]
theorem sc_Relations_least_keys : FnScope N_Relations_least_keys P_Relations_least_keys (defScope s_Relations_least_keys) := ⟨rfl, rfl, rfl, by decide +kernel, rfl, by decide +kernel, by decide +kernel⟩
abbrev s_Relations__join_steps : Stmt := inClass (topS 18) 5
abbrev N_Relations__join_steps : List Str := ["self", "question", "answer", "low", "high", "beyond", "strictly_beyond", "item", "is_strict"]
abbrev P_Relations__join_steps : List Str := ["self", "question", "answer"]
theorem sc_Relations__join_steps : FnScope N_Relations__join_steps P_Relations__join_steps (defScope s_Relations__join_steps) := ⟨rfl, rfl, rfl, by decide +kernel, rfl, by decide +kernel, by decide +kernel⟩
abbrev s_follows : Stmt := topS 21
abbrev N_follows : List Str := ["many", "log", "question"]
abbrev P_follows : List Str := ["many", "log", "question"]
theorem sc_follows : FnScope N_follows P_follows (defScope s_follows) := ⟨rfl, rfl, rfl, by decide +kernel, rfl, by decide +kernel, by decide +kernel⟩
abbrev s_honest_relations : Stmt := topS 22
abbrev N_honest_relations : List Str := ["many", "log", "relations"]
abbrev P_honest_relations : List Str := ["many", "log"]
theorem sc_honest_relations : FnScope N_honest_relations P_honest_relations (defScope s_honest_relations) := ⟨rfl, rfl, rfl, by decide +kernel, rfl, by decide +kernel, by decide +kernel⟩
abbrev s_check_many_and_log : Stmt := topS 23
abbrev N_check_many_and_log : List Str := ["many", "log"]
abbrev P_check_many_and_log : List Str := ["many", "log"]
theorem sc_check_many_and_log : FnScope N_check_many_and_log P_check_many_and_log (defScope s_check_many_and_log) := ⟨rfl, rfl, rfl, by decide +kernel, rfl, by decide +kernel, by decide +kernel⟩
abbrev s_mixed : Stmt := topS 25
abbrev N_mixed : List Str := ["cell", "draw", "figure"]
abbrev P_mixed : List Str := ["cell", "draw"]
theorem sc_mixed : FnScope N_mixed P_mixed (defScope s_mixed) := ⟨rfl, rfl, rfl, by decide +kernel, rfl, by decide +kernel, by decide +kernel⟩
abbrev s_source : Stmt := topS 26
abbrev N_source : List Str := ["cell"]
abbrev P_source : List Str := ["cell"]
theorem sc_source : FnScope N_source P_source (defScope s_source) := ⟨rfl, rfl, rfl, by decide +kernel, rfl, by decide +kernel, by decide +kernel⟩
abbrev s_take : Stmt := topS 27
abbrev N_take : List Str := ["source", "bound", "drawn"]
abbrev P_take : List Str := ["source", "bound"]
theorem sc_take : FnScope N_take P_take (defScope s_take) := ⟨rfl, rfl, rfl, by decide +kernel, rfl, by decide +kernel, by decide +kernel⟩
abbrev s_known : Stmt := topS 28
abbrev N_known : List Str := ["size", "rows", "words", "other", "one", "is_less", "low", "high", "middle", "row", "line"]
abbrev P_known : List Str := ["size", "rows"]
theorem sc_known : FnScope N_known P_known (defScope s_known) := ⟨rfl, rfl, rfl, by decide +kernel, rfl, by decide +kernel, by decide +kernel⟩
abbrev s_lfollows : Stmt := topS 29
abbrev N_lfollows : List Str := ["words", "pair"]
abbrev P_lfollows : List Str := ["words", "pair"]
theorem sc_lfollows : FnScope N_lfollows P_lfollows (defScope s_lfollows) := ⟨rfl, rfl, rfl, by decide +kernel, rfl, by decide +kernel, by decide +kernel⟩
abbrev s_pair : Stmt := topS 30
abbrev N_pair : List Str := ["source", "size", "one"]
abbrev P_pair : List Str := ["source", "size"]
theorem sc_pair : FnScope N_pair P_pair (defScope s_pair) := ⟨rfl, rfl, rfl, by decide +kernel, rfl, by decide +kernel, by decide +kernel⟩
abbrev s_honest_log : Stmt := topS 31
abbrev N_honest_log : List Str := ["source", "size", "upper", "keys", "k", "pairs", "pair"]
abbrev P_honest_log : List Str := ["source", "size", "upper"]
theorem sc_honest_log : FnScope N_honest_log P_honest_log (defScope s_honest_log) := ⟨rfl, rfl, rfl, by decide +kernel, rfl, by decide +kernel, by decide +kernel⟩
abbrev s_all_keys : Stmt := topS 32
abbrev N_all_keys : List Str := ["size", "found", "turn", "longer", "keys", "key"]
abbrev P_all_keys : List Str := ["size"]
theorem sc_all_keys : FnScope N_all_keys P_all_keys (defScope s_all_keys) := ⟨rfl, rfl, rfl, by decide +kernel, rfl, by decide +kernel, by decide +kernel⟩
abbrev s_small_right : Stmt := topS 33
abbrev N_small_right : List Str := ["source", "size", "mine", "some", "keys", "pair", "answer", "one", "other", "k", "marks", "due"]
abbrev P_small_right : List Str := ["source"]
theorem sc_small_right : FnScope N_small_right P_small_right (defScope s_small_right) := ⟨rfl, rfl, rfl, by decide +kernel, rfl, by decide +kernel, by decide +kernel⟩
abbrev s_chain_right : Stmt := topS 34
abbrev N_chain_right : List Str := ["source", "size", "left", "row", "mine", "marks", "turn", "one", "other", "entry", "at", "end", "due"]
abbrev P_chain_right : List Str := ["source"]
theorem sc_chain_right : FnScope N_chain_right P_chain_right (defScope s_chain_right) := ⟨rfl, rfl, rfl, by decide +kernel, rfl, by decide +kernel, by decide +kernel⟩
abbrev s_law : Stmt := topS 35
abbrev N_law : List Str := ["script", "cell", "source", "size", "mine", "words", "stood", "turn", "pair", "due", "some"]
abbrev P_law : List Str := ["script"]
theorem sc_law : FnScope N_law P_law (defScope s_law) := ⟨rfl, rfl, rfl, by decide +kernel, rfl, by decide +kernel, by decide +kernel⟩
def kg_follows_0_question_log_many {α : Type} : List α → List α → List α
  | [], [a, b, c] => [c, b, a]
  | _, _ => []
theorem kg_vals_follows_0_question_log_many : ∀ {vs zs : List V} {us ws : List Value}, Vals vs us → Vals zs ws → Vals (kg_follows_0_question_log_many vs zs) (kg_follows_0_question_log_many us ws)
  | _, _, _, _, .nil, .cons r_a (.cons r_b (.cons r_c .nil)) => .cons r_c (.cons r_b (.cons r_a .nil))
  | _, _, _, _, .cons _ _, _ => .nil
  | _, _, _, _, .nil, .nil => .nil
  | _, _, _, _, .nil, .cons _ .nil => .nil
  | _, _, _, _, .nil, .cons _ (.cons _ .nil) => .nil
  | _, _, _, _, .nil, .cons _ (.cons _ (.cons _ (.cons _ _))) => .nil
structure Ad where
  (wall : Addr) (InvalidQuestion___init__ : Addr) (InvalidAnswers___init__ : Addr) (InvalidNumber___init__ : Addr) (Mismatch___init__ : Addr) (is_integer : Addr) (is_within : Addr) (is_item : Addr) (is_question : Addr) (check_question : Addr) (check_log : Addr) (is_entry : Addr) (check_number : Addr) (Relations___init__ : Addr) (Relations_follows : Addr) (Relations_learn : Addr) (Relations_first_lie : Addr) (Relations_least_keys : Addr) (Relations__join_steps : Addr) (follows : Addr) (honest_relations : Addr) (check_many_and_log : Addr) (mixed : Addr) (source : Addr) (take : Addr) (known : Addr) (lfollows : Addr) (pair : Addr) (honest_log : Addr) (all_keys : Addr) (small_right : Addr) (chain_right : Addr) (law : Addr) (t_MOST_ENTRIES : Tok) (t_MOST_ITEMS : Tok) (c_Relations : Addr) (c_InvalidQuestion : Addr) (c_InvalidNumber : Addr) (c_InvalidAnswers : Addr) (c_Mismatch : Addr) (c_SortError : Addr)
structure Fd where
  (wall : FuncData) (InvalidQuestion___init__ : FuncData) (InvalidAnswers___init__ : FuncData) (InvalidNumber___init__ : FuncData) (Mismatch___init__ : FuncData) (is_integer : FuncData) (is_within : FuncData) (is_item : FuncData) (is_question : FuncData) (check_question : FuncData) (check_log : FuncData) (is_entry : FuncData) (check_number : FuncData) (Relations___init__ : FuncData) (Relations_follows : FuncData) (Relations_learn : FuncData) (Relations_first_lie : FuncData) (Relations_least_keys : FuncData) (Relations__join_steps : FuncData) (follows : FuncData) (honest_relations : FuncData) (check_many_and_log : FuncData) (mixed : FuncData) (source : FuncData) (take : FuncData) (known : FuncData) (lfollows : FuncData) (pair : FuncData) (honest_log : FuncData) (all_keys : FuncData) (small_right : FuncData) (chain_right : FuncData) (law : FuncData)
/-- what the top has written -/
structure Txt (K : PySem.W.Frag) (mg : Str → Option Value) (a : Ad) (d : Fd) : Prop where
  g_wall : mg "_wall" = some (.ref a.wall)
  k_wall : PySem.W.keepIn K (.ref a.wall) = true
  f_wall : Fun K "_wall" "_wall" s_wall a.wall d.wall
  b_wall : Binds K d.wall P_wall []
  f_InvalidQuestion___init__ : Fun K "__init__" "InvalidQuestion.__init__" s_InvalidQuestion___init__ a.InvalidQuestion___init__ d.InvalidQuestion___init__
  b_InvalidQuestion___init__ : Binds K d.InvalidQuestion___init__ P_InvalidQuestion___init__ []
  f_InvalidAnswers___init__ : Fun K "__init__" "InvalidAnswers.__init__" s_InvalidAnswers___init__ a.InvalidAnswers___init__ d.InvalidAnswers___init__
  b_InvalidAnswers___init__ : Binds K d.InvalidAnswers___init__ P_InvalidAnswers___init__ []
  f_InvalidNumber___init__ : Fun K "__init__" "InvalidNumber.__init__" s_InvalidNumber___init__ a.InvalidNumber___init__ d.InvalidNumber___init__
  b_InvalidNumber___init__ : Binds K d.InvalidNumber___init__ P_InvalidNumber___init__ []
  f_Mismatch___init__ : Fun K "__init__" "Mismatch.__init__" s_Mismatch___init__ a.Mismatch___init__ d.Mismatch___init__
  b_Mismatch___init__ : Binds K d.Mismatch___init__ P_Mismatch___init__ []
  g_is_integer : mg "is_integer" = some (.ref a.is_integer)
  k_is_integer : PySem.W.keepIn K (.ref a.is_integer) = true
  f_is_integer : Fun K "is_integer" "is_integer" s_is_integer a.is_integer d.is_integer
  b_is_integer : Binds K d.is_integer P_is_integer []
  g_is_within : mg "is_within" = some (.ref a.is_within)
  k_is_within : PySem.W.keepIn K (.ref a.is_within) = true
  f_is_within : Fun K "is_within" "is_within" s_is_within a.is_within d.is_within
  b_is_within : Binds K d.is_within P_is_within []
  g_is_item : mg "is_item" = some (.ref a.is_item)
  k_is_item : PySem.W.keepIn K (.ref a.is_item) = true
  f_is_item : Fun K "is_item" "is_item" s_is_item a.is_item d.is_item
  b_is_item : Binds K d.is_item P_is_item []
  g_is_question : mg "is_question" = some (.ref a.is_question)
  k_is_question : PySem.W.keepIn K (.ref a.is_question) = true
  f_is_question : Fun K "is_question" "is_question" s_is_question a.is_question d.is_question
  b_is_question : Binds K d.is_question P_is_question []
  g_check_question : mg "check_question" = some (.ref a.check_question)
  k_check_question : PySem.W.keepIn K (.ref a.check_question) = true
  f_check_question : Fun K "check_question" "check_question" s_check_question a.check_question d.check_question
  b_check_question : Binds K d.check_question P_check_question []
  g_check_log : mg "check_log" = some (.ref a.check_log)
  k_check_log : PySem.W.keepIn K (.ref a.check_log) = true
  f_check_log : Fun K "check_log" "check_log" s_check_log a.check_log d.check_log
  b_check_log : Binds K d.check_log P_check_log []
  g_is_entry : mg "_is_entry" = some (.ref a.is_entry)
  k_is_entry : PySem.W.keepIn K (.ref a.is_entry) = true
  f_is_entry : Fun K "_is_entry" "_is_entry" s_is_entry a.is_entry d.is_entry
  b_is_entry : Binds K d.is_entry P_is_entry []
  g_check_number : mg "check_number" = some (.ref a.check_number)
  k_check_number : PySem.W.keepIn K (.ref a.check_number) = true
  f_check_number : FunV K "check_number" "check_number" s_check_number a.check_number d.check_number
  b_check_number : Binds K d.check_number P_check_number []
  m_Relations___init__ : Meth K a.c_Relations "__init__" a.Relations___init__
  f_Relations___init__ : Fun K "__init__" "Relations.__init__" s_Relations___init__ a.Relations___init__ d.Relations___init__
  b_Relations___init__ : Binds K d.Relations___init__ P_Relations___init__ []
  m_Relations_follows : Meth K a.c_Relations "follows" a.Relations_follows
  f_Relations_follows : Fun K "follows" "Relations.follows" s_Relations_follows a.Relations_follows d.Relations_follows
  b_Relations_follows : Binds K d.Relations_follows P_Relations_follows []
  m_Relations_learn : Meth K a.c_Relations "learn" a.Relations_learn
  f_Relations_learn : Fun K "learn" "Relations.learn" s_Relations_learn a.Relations_learn d.Relations_learn
  b_Relations_learn : Binds K d.Relations_learn P_Relations_learn []
  m_Relations_first_lie : Meth K a.c_Relations "first_lie" a.Relations_first_lie
  f_Relations_first_lie : Fun K "first_lie" "Relations.first_lie" s_Relations_first_lie a.Relations_first_lie d.Relations_first_lie
  b_Relations_first_lie : Binds K d.Relations_first_lie P_Relations_first_lie []
  m_Relations_least_keys : Meth K a.c_Relations "least_keys" a.Relations_least_keys
  f_Relations_least_keys : Fun K "least_keys" "Relations.least_keys" s_Relations_least_keys a.Relations_least_keys d.Relations_least_keys
  b_Relations_least_keys : Binds K d.Relations_least_keys P_Relations_least_keys []
  m_Relations__join_steps : Meth K a.c_Relations "_join_steps" a.Relations__join_steps
  f_Relations__join_steps : Fun K "_join_steps" "Relations._join_steps" s_Relations__join_steps a.Relations__join_steps d.Relations__join_steps
  b_Relations__join_steps : Binds K d.Relations__join_steps P_Relations__join_steps []
  g_follows : mg "follows" = some (.ref a.follows)
  k_follows : PySem.W.keepIn K (.ref a.follows) = true
  f_follows : Fun K "follows" "follows" s_follows a.follows d.follows
  b_follows : Binds K d.follows P_follows []
  kn_follows_0_question_log_many : KBn K d.follows P_follows 0 ["question", "log", "many"] (fun us ws => kg_follows_0_question_log_many us ws) (fun us ws => kg_follows_0_question_log_many us ws)
  g_honest_relations : mg "_honest_relations" = some (.ref a.honest_relations)
  k_honest_relations : PySem.W.keepIn K (.ref a.honest_relations) = true
  f_honest_relations : Fun K "_honest_relations" "_honest_relations" s_honest_relations a.honest_relations d.honest_relations
  b_honest_relations : Binds K d.honest_relations P_honest_relations []
  g_check_many_and_log : mg "_check_many_and_log" = some (.ref a.check_many_and_log)
  k_check_many_and_log : PySem.W.keepIn K (.ref a.check_many_and_log) = true
  f_check_many_and_log : Fun K "_check_many_and_log" "_check_many_and_log" s_check_many_and_log a.check_many_and_log d.check_many_and_log
  b_check_many_and_log : Binds K d.check_many_and_log P_check_many_and_log []
  g_mixed : mg "_law_mixed" = some (.ref a.mixed)
  k_mixed : PySem.W.keepIn K (.ref a.mixed) = true
  f_mixed : Fun K "_law_mixed" "_law_mixed" s_mixed a.mixed d.mixed
  b_mixed : Binds K d.mixed P_mixed []
  g_source : mg "_law_source" = some (.ref a.source)
  k_source : PySem.W.keepIn K (.ref a.source) = true
  f_source : Fun K "_law_source" "_law_source" s_source a.source d.source
  b_source : Binds K d.source P_source []
  g_take : mg "_law_take" = some (.ref a.take)
  k_take : PySem.W.keepIn K (.ref a.take) = true
  f_take : Fun K "_law_take" "_law_take" s_take a.take d.take
  b_take : Binds K d.take P_take []
  g_known : mg "_law_known" = some (.ref a.known)
  k_known : PySem.W.keepIn K (.ref a.known) = true
  f_known : Fun K "_law_known" "_law_known" s_known a.known d.known
  b_known : Binds K d.known P_known []
  g_lfollows : mg "_law_follows" = some (.ref a.lfollows)
  k_lfollows : PySem.W.keepIn K (.ref a.lfollows) = true
  f_lfollows : Fun K "_law_follows" "_law_follows" s_lfollows a.lfollows d.lfollows
  b_lfollows : Binds K d.lfollows P_lfollows []
  g_pair : mg "_law_pair" = some (.ref a.pair)
  k_pair : PySem.W.keepIn K (.ref a.pair) = true
  f_pair : Fun K "_law_pair" "_law_pair" s_pair a.pair d.pair
  b_pair : Binds K d.pair P_pair []
  g_honest_log : mg "_law_honest_log" = some (.ref a.honest_log)
  k_honest_log : PySem.W.keepIn K (.ref a.honest_log) = true
  f_honest_log : Fun K "_law_honest_log" "_law_honest_log" s_honest_log a.honest_log d.honest_log
  b_honest_log : Binds K d.honest_log P_honest_log []
  g_all_keys : mg "_law_all_keys" = some (.ref a.all_keys)
  k_all_keys : PySem.W.keepIn K (.ref a.all_keys) = true
  f_all_keys : Fun K "_law_all_keys" "_law_all_keys" s_all_keys a.all_keys d.all_keys
  b_all_keys : Binds K d.all_keys P_all_keys []
  g_small_right : mg "_law_small_right" = some (.ref a.small_right)
  k_small_right : PySem.W.keepIn K (.ref a.small_right) = true
  f_small_right : Fun K "_law_small_right" "_law_small_right" s_small_right a.small_right d.small_right
  b_small_right : Binds K d.small_right P_small_right []
  g_chain_right : mg "_law_chain_right" = some (.ref a.chain_right)
  k_chain_right : PySem.W.keepIn K (.ref a.chain_right) = true
  f_chain_right : Fun K "_law_chain_right" "_law_chain_right" s_chain_right a.chain_right d.chain_right
  b_chain_right : Binds K d.chain_right P_chain_right []
  g_law : mg "law" = some (.ref a.law)
  k_law : PySem.W.keepIn K (.ref a.law) = true
  f_law : Fun K "law" "law" s_law a.law d.law
  b_law : Binds K d.law P_law []
  g_MOST_ENTRIES : mg "MOST_ENTRIES" = some (.int 5000 a.t_MOST_ENTRIES)
  g_MOST_ITEMS : mg "MOST_ITEMS" = some (.int 40 a.t_MOST_ITEMS)
  z_bool : mg "bool" = none
  z_enumerate : mg "enumerate" = none
  z_int : mg "int" = none
  z_isinstance : mg "isinstance" = none
  z_len : mg "len" = none
  z_list : mg "list" = none
  z_max : mg "max" = none
  z_range : mg "range" = none
  z_repr : mg "repr" = none
  z_tuple : mg "tuple" = none
  z_zip : mg "zip" = none
  x_InvalidQuestion : ExC K mg a.c_InvalidQuestion a.InvalidQuestion___init__ "InvalidQuestion" "question"
  x_InvalidNumber : ExC K mg a.c_InvalidNumber a.InvalidNumber___init__ "InvalidNumber" "name"
  x_InvalidAnswers : ExC K mg a.c_InvalidAnswers a.InvalidAnswers___init__ "InvalidAnswers" "index"
  x_Mismatch : ExC K mg a.c_Mismatch a.Mismatch___init__ "Mismatch" "name"
  xb : ExB K mg a.c_SortError "SortError"
  s_InvalidQuestion_InvalidQuestion : ExS K a.c_InvalidQuestion a.c_InvalidQuestion true
  s_InvalidQuestion_InvalidNumber : ExS K a.c_InvalidQuestion a.c_InvalidNumber false
  s_InvalidQuestion_InvalidAnswers : ExS K a.c_InvalidQuestion a.c_InvalidAnswers false
  s_InvalidQuestion_Mismatch : ExS K a.c_InvalidQuestion a.c_Mismatch false
  s_InvalidQuestion_SortError : ExS K a.c_InvalidQuestion a.c_SortError true
  s_InvalidNumber_InvalidQuestion : ExS K a.c_InvalidNumber a.c_InvalidQuestion false
  s_InvalidNumber_InvalidNumber : ExS K a.c_InvalidNumber a.c_InvalidNumber true
  s_InvalidNumber_InvalidAnswers : ExS K a.c_InvalidNumber a.c_InvalidAnswers false
  s_InvalidNumber_Mismatch : ExS K a.c_InvalidNumber a.c_Mismatch false
  s_InvalidNumber_SortError : ExS K a.c_InvalidNumber a.c_SortError true
  s_InvalidAnswers_InvalidQuestion : ExS K a.c_InvalidAnswers a.c_InvalidQuestion false
  s_InvalidAnswers_InvalidNumber : ExS K a.c_InvalidAnswers a.c_InvalidNumber false
  s_InvalidAnswers_InvalidAnswers : ExS K a.c_InvalidAnswers a.c_InvalidAnswers true
  s_InvalidAnswers_Mismatch : ExS K a.c_InvalidAnswers a.c_Mismatch false
  s_InvalidAnswers_SortError : ExS K a.c_InvalidAnswers a.c_SortError true
  s_Mismatch_InvalidQuestion : ExS K a.c_Mismatch a.c_InvalidQuestion false
  s_Mismatch_InvalidNumber : ExS K a.c_Mismatch a.c_InvalidNumber false
  s_Mismatch_InvalidAnswers : ExS K a.c_Mismatch a.c_InvalidAnswers false
  s_Mismatch_Mismatch : ExS K a.c_Mismatch a.c_Mismatch true
  s_Mismatch_SortError : ExS K a.c_Mismatch a.c_SortError true
  ec_InvalidQuestion : ExcC K a.c_InvalidQuestion
  ec_InvalidNumber : ExcC K a.c_InvalidNumber
  ec_InvalidAnswers : ExcC K a.c_InvalidAnswers
  ec_Mismatch : ExcC K a.c_Mismatch
  cl_Relations : Cls K a.c_Relations
  g_Relations : mg "Relations" = some (.ref a.c_Relations)
  mk_Relations : Mk K a.c_Relations a.Relations___init__
  n_many : NoAttr K a.c_Relations "many"
  n_below : NoAttr K a.c_Relations "below"
  n_strictly_below : NoAttr K a.c_Relations "strictly_below"
/-! keywords -/
theorem kbn_follows_0_question_log_many {K : PySem.W.Frag} {f : Addr} {fd : FuncData} (F : Fun K "follows" "follows" s_follows f fd) : KBn K fd P_follows 0 ["question", "log", "many"] (fun us ws => kg_follows_0_question_log_many us ws) (fun us ws => kg_follows_0_question_log_many us ws) := by
  obtain ⟨oc, od, kV, doc, pm, an, cdv, ct, osl, rfl, lk, hcd⟩ := F.ex
  refine ⟨fun s us ws _ h1 h2 => ?_, fun {vs us zs ws} r1 r2 => ?_⟩
  · match us, ws, h1, h2 with
    | [], [_, _, _], _, _ => exact .of_eq rfl
  · exact kg_vals_follows_0_question_log_many r1 r2
end K80

namespace K80
open PySem PySem.Spec PyProof.Rows L2 
theorem tru_bit {K : PySem.W.Frag} {H : Hp} (a j : Nat) : TruV K (.int (Builtin.bitAnd ((a : Int) / 2 ^ j) 1)) H (a.testBit j) := by
  show a.testBit j = (Builtin.bitAnd ((a : Int) / 2 ^ j) 1 != 0)
  rw [bit_at]
  cases a.testBit j <;> rfl
def RowB (n : Nat) (xs : List Nat) (f : Nat → Nat → Bool) : Prop := xs.length = n ∧ ∀ i, i < n → Bits n (xs.getD i 0) (f i)
def RelAt (C : Addr) (H : Hp) (x b s : Addr) (n : Nat) (r : Rel.R) : Prop := x ≠ b ∧ x ≠ s ∧ b ≠ s ∧ (∃ dx, H x = some (.ins C dx [("many", .int (n : Int)), ("below", .ref b), ("strictly_below", .ref s)])) ∧ (∃ bs, H b = some (.lst (nV bs)) ∧ RowB n bs r.B) ∧ ∃ ss, H s = some (.lst (nV ss)) ∧ RowB n ss r.S
def FrR (x b s : Addr) (H H' : Hp) : Prop := ∀ q o, q ≠ x → q ≠ b → q ≠ s → H q = some o → H' q = some o
theorem FrR.refl {x b s : Addr} {H : Hp} : FrR x b s H H := fun _ _ _ _ _ h => h
theorem FrR.trans {x b s : Addr} {H H1 H2 : Hp} (h : FrR x b s H H1) (h' : FrR x b s H1 H2) : FrR x b s H H2 := fun q o a b c e => h' q o a b c (h q o a b c e)
def optB : Option Bool → V
  | none => .non
  | some b => .bl b
theorem nV_snoc' {xs : List Nat} {x : Nat} : nV xs ++ [V.int (x : Int)] = nV (xs ++ [x]) := by
  unfold nV
  rw [List.map_append]
  rfl
theorem sfree {H H' : Hp} {l : Addr} (s : Same H H') (h : H' l = none) : H l = none := by
  cases e : H l with
  | none => rfl
  | some o => rw [s _ _ e] at h; cases h
def spRinit (C : Addr) : Sp := fun vs H Q _ => ∃ (x dx : Addr) (n : Nat), vs = [.ref x, .int (n : Int)] ∧ H x = some (.ins C dx []) ∧ n ≤ 2000 ∧ ∀ (b s : Addr) (H' : Hp), H b = none → H s = none → RelAt C H' x b s n (Rel.init n) → FrR x b s H H' → Q .non H'
theorem shl_one {k : Nat} (h : k ≤ 2000) : CShl 1 (k : Int) := by
  refine ⟨Int.natCast_nonneg _, ?_⟩
  have : (Builtin.Int.intBits 1 : Int) = 1 := by decide +kernel
  rw [this]
  omega
theorem row_ones (n : Nat) : RowB n ((List.range n).map fun i => 2 ^ i) (Rel.init n).B := by
  refine ⟨by rw [List.length_map, List.length_range], fun i hi => ?_⟩
  have e : ((List.range n).map fun i => 2 ^ i).getD i 0 = 2 ^ i := by
    rw [List.getD_eq_getElem?_getD, List.getElem?_map, List.getElem?_range hi]
    rfl
  rw [e]
  have b := Bits.one hi
  refine ⟨b.1, fun j => ?_⟩
  rw [b.2]
  show decide (i = j) = (decide (i < n) && decide (i = j))
  rw [decide_eq_true hi, Bool.true_and]
theorem row_zeros (n : Nat) : RowB n (List.replicate n 0) (Rel.init n).S := by
  refine ⟨List.length_replicate, fun i hi => ?_⟩
  have e : (List.replicate n 0).getD i 0 = 0 := by
    rw [List.getD_eq_getElem?_getD, List.getElem?_replicate, if_pos hi]
    rfl
  rw [e]
  exact Bits.zero
def spRfol (C : Addr) : Sp := fun vs H Q _ => ∃ (x b s t : Addr) (n i j : Nat) (r : Rel.R), vs = [.ref x, .ref t] ∧ RelAt C H x b s n r ∧ H t = some (.tup [.int (i : Int), .int (j : Int)]) ∧ i < n ∧ j < n ∧ Q (optB (Rel.fol r (i, j))) H
theorem row_at {xs : List Nat} {i : Nat} (h : i < xs.length) : (nV xs)[i]? = some (.int ((xs.getD i 0 : Nat) : Int)) := by
  unfold nV
  rw [List.getElem?_map, List.getElem?_eq_getElem h, List.getD_eq_getElem?_getD, List.getElem?_eq_getElem h]
  rfl
section
variable {P : Program} {w : World} {K : PySem.W.Frag} {mg : Str → Option Value} {base : Heap} {a : Ad} {d : Fd}
theorem ok_rel_follows (T : Txt K mg a d) : FnOk P w K mg base CX0 1 a.Relations_follows d.Relations_follows P_Relations_follows (spRfol a.c_Relations) := by
  refine T.f_Relations_follows.ok sc_Relations_follows (fun vs H Q E h => ?_) (fun cdv A outer s0 H vs Q E hr h => ?_)
  · obtain ⟨x, b, s, t, n, i, j, r, rfl, _⟩ := h
    rfl
  · obtain ⟨x, b, s, t, n, i, j, r, rfl, R, ht, hi, hj, q⟩ := h
    refine ⟨_, (pss_cons (ps_asg (pv 1) (pg_tup rfl (pgs_cons (pg_name (i := 2) sc_Relations_follows.nd rfl (Or.inl rfl)) (pgs_cons (pg_name (i := 3) sc_Relations_follows.nd rfl (Or.inl rfl)) pgs_nil))))
    (pss_cons (ps_if (pt_truth (pe_op op_and (pe_op op_shrN (pe_ix ix_list (pe_fld (pv 0) rfl) (pv 2) (fun _ _ => rfl)) (pv 3)) pe_int) (by intro _; rfl)) (pss_one (ps_ret pe_bl)) pss_nil)
    (pss_cons (ps_if (pt_truth (pe_op op_and (pe_op op_shrN (pe_ix ix_list (pe_fld (pv 0) rfl) (pv 3) (fun _ _ => rfl)) (pv 2)) pe_int) (by intro _; rfl)) (pss_one (ps_ret pe_bl)) pss_nil)
    (pss_one (ps_ret pe_non))))), ?_⟩
    obtain ⟨n1, n2, n3, ⟨dx, hx⟩, ⟨bs, hb, lb, Bb⟩, ss, hs, ls, Bs⟩ := id R
    refine ⟨_, rfl, t, _, rfl, L2.st_of ht, rfl, _, _, rfl, _, _, rfl, rfl, ?_⟩
    refine ⟨_, rfl, x, a.c_Relations, dx, _, _, rfl, hx, T.cl_Relations, T.n_strictly_below, rfl, _, rfl, s, nV ss, _, _, rfl, rfl, L2.sq_of hs, atI_nat (row_at (i := i) (by omega)), _, rfl, _, j, rfl, rfl, _, _, rfl, rfl, _, tru_bit _ _, ?_⟩
    have e1 : (ss.getD i 0).testBit j = r.S i j := (Bs i hi).2 j
    have e2 : (bs.getD j 0).testBit i = r.B j i := (Bb j hj).2 i
    unfold Rel.fol at q
    dsimp only at q
    rw [e1]
    cases c1 : r.S i j with
    | true =>
      rw [c1, if_pos rfl] at q
      exact iteT q
    | false =>
      rw [c1, if_neg (by decide)] at q
      refine iteF ?_
      refine ⟨_, rfl, x, a.c_Relations, dx, _, _, rfl, hx, T.cl_Relations, T.n_below, rfl, _, rfl, b, nV bs, _, _, rfl, rfl, L2.sq_of hb, atI_nat (row_at (i := j) (by omega)), _, rfl, _, i, rfl, rfl, _, _, rfl, rfl, _, tru_bit _ _, ?_⟩
      rw [e2]
      cases c2 : r.B j i with
      | true =>
        rw [c2, if_pos rfl] at q
        exact iteT q
      | false =>
        rw [c2, if_neg (by decide)] at q
        exact iteF q
theorem ok_rel_init (T : Txt K mg a d) : FnOk P w K mg base CX0 1 a.Relations___init__ d.Relations___init__ P_Relations___init__ (spRinit a.c_Relations) := by
  refine T.f_Relations___init__.ok sc_Relations___init__ (fun vs H Q E h => ?_) (fun cdv A outer s0 H vs Q E hr h => ?_)
  · obtain ⟨x, dx, n, rfl, _⟩ := h
    rfl
  · obtain ⟨x, dx, n, rfl, hx, hn, q⟩ := h
    refine ⟨_, (pss_cons (ps_fld (pv 0) (pv 1) rfl)
    (pss_cons (ps_fld (pv 0) (pe_lc (own := [("item", 2)]) (g := gName 2) (tt := tYes) rfl sc_Relations___init__.nd (pi_range1 (by rfl) T.z_range (pa_cons (pv 1) pa_nil)) (blkOk_by (N := N_Relations___init__) (sc := defScope s_Relations___init__) (by decide +kernel)) (fun _ _ _ _ _ => pg_name (i := 2) sc_Relations___init__.nd rfl (Or.inl rfl)) (fun _ _ _ _ _ => pts_nil) (fun _ _ _ _ _ => (pe_op op_shlN pe_int (pv 2)))) rfl)
    (pss_one (ps_fld (pv 0) (pe_op op_rep (pe_lst (pa_cons pe_int pa_nil)) (pv 1)) rfl)))), ?_⟩
    refine ⟨_, rfl, _, rfl, x, a.c_Relations, dx, _, rfl, hx, T.cl_Relations, T.n_many, by show 0 < 1000; decide, ?_⟩
    have hx1 : upd H x (.ins a.c_Relations dx (putF "many" (.int (n : Int)) [])) x = some (.ins a.c_Relations dx [("many", .int (n : Int))]) := upd_same
    have fr1 : ∀ q o, q ≠ x → H q = some o → upd H x (.ins a.c_Relations dx (putF "many" (.int (n : Int)) [])) q = some o := fun q o nq e => by rw [upd_ne nq]; exact e
    have no1 : ∀ q, upd H x (.ins a.c_Relations dx (putF "many" (.int (n : Int)) [])) q = none → H q = none ∧ q ≠ x := fun q e => by
      have nq : q ≠ x := fun z => by rw [z, upd_same] at e; cases e
      exact ⟨by rw [upd_ne nq] at e; exact e, nq⟩
    generalize upd H x (.ins a.c_Relations dx (putF "many" (.int (n : Int)) [])) = H1 at hx1 fr1 no1 ⊢
    refine ⟨_, rfl, _, rfl, by omega, by omega, fun b hb => ?_⟩
    have nb := no1 b hb
    rw [Int.toNat_natCast]
    refine lc_range (lo := 0) (n := n) (fun i H' => (∀ q o, H1 q = some o → H' q = some o) ∧ H' b = some (.lst (nV ((List.range i).map fun k => 2 ^ k)))) ⟨same_upd hb, upd_same⟩ ?_ ?_
    · rintro i H2 hi ⟨k2, h2⟩
      refine ⟨rfl, _, rfl, _, i, rfl, ?_, shl_one (by omega), nV ((List.range i).map fun k => 2 ^ k), h2, ?_, fun q o e => ?_, ?_⟩
      · exact congrArg V.int (by omega)
      · exact Nat.lt_of_le_of_lt (show (nV ((List.range i).map fun k => 2 ^ k)).length ≤ 2000 by unfold nV; rw [List.length_map, List.length_map, List.length_range]; omega) (by decide)
      · rw [upd_ne (ne_of_none e hb)]
        exact k2 q o e
      · rw [upd_same, List.range_succ, List.map_append, show ([i].map fun k => 2 ^ k) = [2 ^ i] from rfl, ← nV_snoc']
        refine congrArg (fun z => some (HO.lst (_ ++ [V.int z]))) ?_
        rw [Int.one_mul, Int.natCast_pow]
        rfl
    · rintro H2 ⟨k2, h2⟩
      have hx2 := k2 _ _ hx1
      refine ⟨_, rfl, x, a.c_Relations, dx, _, rfl, hx2, T.cl_Relations, T.n_below, by show 1 < 1000; decide, ?_⟩
      have nxb : b ≠ x := nb.2
      have fr3 : ∀ q o, q ≠ x → H q = some o → upd H2 x (.ins a.c_Relations dx (putF "below" (.ref b) [("many", .int (n : Int))])) q = some o := fun q o nq e => by rw [upd_ne nq]; exact k2 _ _ (fr1 _ _ nq e)
      have hx3 : upd H2 x (.ins a.c_Relations dx (putF "below" (.ref b) [("many", .int (n : Int))])) x = some (.ins a.c_Relations dx (putF "below" (.ref b) [("many", .int (n : Int))])) := upd_same
      have h3 : upd H2 x (.ins a.c_Relations dx (putF "below" (.ref b) [("many", .int (n : Int))])) b = some (.lst (nV ((List.range n).map fun k => 2 ^ k))) := by rw [upd_ne nxb]; exact h2
      generalize upd H2 x (.ins a.c_Relations dx (putF "below" (.ref b) [("many", .int (n : Int))])) = H3 at fr3 hx3 h3 ⊢
      refine ⟨by show 1 ≤ sizeLine; decide, fun z hz => ⟨_, rfl, z, (n : Int), _, rfl, rfl, upd_same, by omega, by omega, ?_, fun s hs => ?_⟩⟩
      · exact Nat.le_trans (show 1 * ((n : Int)).toNat ≤ 2000 by omega) (by decide)
      rw [Int.toNat_natCast, rep_flat]
      have s4 := (same_upd (o := .lst [.int 0]) hz).trans (same_upd (o := .lst ((List.replicate n (0 : Int)).map V.int)) hs)
      have hx4 := s4 _ _ hx3
      have h4 := s4 _ _ h3
      have hs4 : upd (upd H3 z (.lst [.int 0])) s (.lst ((List.replicate n (0 : Int)).map V.int)) s = some (.lst ((List.replicate n (0 : Int)).map V.int)) := upd_same
      have ns : H s = none ∧ s ≠ x ∧ s ≠ b := by
        have n3 : H3 s = none := sfree (same_upd (o := .lst [.int 0]) hz) hs
        have nsx : s ≠ x := fun z => by rw [z, hx3] at n3; cases n3
        refine ⟨?_, nsx, fun z => by rw [z, h3] at n3; cases n3⟩
        cases e : H s with
        | none => rfl
        | some o => rw [fr3 s o nsx e] at n3; cases n3
      have fr4 : ∀ q o, q ≠ x → H q = some o → upd (upd H3 z (.lst [.int 0])) s (.lst ((List.replicate n (0 : Int)).map V.int)) q = some o := fun q o nq e => s4 _ _ (fr3 q o nq e)
      generalize upd (upd H3 z (.lst [.int 0])) s (.lst ((List.replicate n (0 : Int)).map V.int)) = H4 at hx4 h4 hs4 fr4 ⊢
      refine ⟨_, rfl, x, a.c_Relations, dx, _, rfl, hx4, T.cl_Relations, T.n_strictly_below, by show 2 < 1000; decide, ?_⟩
      refine q b s _ nb.1 ns.1 ⟨nxb.symm, ns.2.1.symm, ns.2.2.symm, ⟨dx, upd_same⟩, ⟨_, by rw [upd_ne nxb]; exact h4, row_ones n⟩, List.replicate n 0, ?_, row_zeros n⟩ fun q o nq _ _ e => by rw [upd_ne nq]; exact fr4 q o nq e
      rw [upd_ne ns.2.1, hs4]
      unfold nV
      rw [List.map_replicate, List.map_replicate]
      rfl
end

end K80

namespace K80
open PySem PySem.Spec PyProof.Rows L2 
def spRjoin (C : Addr) : Sp := fun vs H Q _ => ∃ (x b s t : Addr) (n i j : Nat) (st : Bool) (r : Rel.R), vs = [.ref x, .ref t, .bl st] ∧ RelAt C H x b s n r ∧ n ≤ 2000 ∧ H t = some (.tup [.int (i : Int), .int (j : Int)]) ∧ i < n ∧ j < n ∧ ∀ H', RelAt C H' x b s n (Rel.join r (Rel.lo ((i, j), st)) (Rel.hi ((i, j), st)) st) → FrR x b s H H' → Q .non H'
/-- the first rows are joined -/
def half (r r' : Rel.R) (k : Nat) : Rel.R := ⟨fun i => if i < k then r'.B i else r.B i, fun i => if i < k then r'.S i else r.S i⟩
theorem RowB.set {n : Nat} {xs : List Nat} {f g : Nat → Nat → Bool} {k v : Nat} (h : RowB n xs f) (hk : k < n) (hv : Bits n v (g k)) (same : ∀ i, i ≠ k → g i = f i) : RowB n (xs.set k v) g := by
  refine ⟨by rw [List.length_set]; exact h.1, fun i hi => ?_⟩
  rw [List.getD_eq_getElem?_getD, List.getElem?_set]
  by_cases c : k = i
  · subst c
    rw [if_pos rfl, if_pos (by rw [h.1]; exact hk)]
    exact hv
  · rw [if_neg c, ← List.getD_eq_getElem?_getD, same i (fun z => c z.symm)]
    exact h.2 i hi
theorem RowB.congr {n : Nat} {xs : List Nat} {f g : Nat → Nat → Bool} (h : RowB n xs f) (e : ∀ i, i < n → f i = g i) : RowB n xs g := ⟨h.1, fun i hi => e i hi ▸ h.2 i hi⟩
theorem Bits.congr {n a : Nat} {f g : Nat → Bool} (h : Bits n a f) (e : ∀ j, f j = g j) : Bits n a g := ⟨h.1, fun j => by rw [h.2, e]⟩
theorem ix_ok' {l : List Nat} {i : Nat} (h : i < l.length) : ixN (nV l).length (i : Int) = some i := by
  unfold ixN
  rw [if_pos (Int.natCast_nonneg _), if_pos (by unfold nV; rw [List.length_map]; exact Int.ofNat_lt.mpr h), Int.toNat_natCast]
theorem half_no {r r' : Rel.R} {k n : Nat} {f g : Rel.R → Nat → Nat → Bool} (hf : ∀ m, f (half r r' m) = fun i => if i < m then f r' i else f r i) (e : f r' k = f r k) : ∀ i, i < n → f (half r r' k) i = f (half r r' (k + 1)) i := fun i _ => by
  rw [hf, hf]
  show (if i < k then f r' i else f r i) = if i < k + 1 then f r' i else f r i
  by_cases c : i < k
  · rw [if_pos c, if_pos (by omega)]
  · rw [if_neg c]
    by_cases d : i = k
    · subst d
      rw [if_pos (by omega), e]
    · rw [if_neg (by omega)]
section
variable {P : Program} {w : World} {K : PySem.W.Frag} {mg : Str → Option Value} {base : Heap} {a : Ad} {d : Fd}
theorem ok_rel_join (T : Txt K mg a d) : FnOk P w K mg base CX0 1 a.Relations__join_steps d.Relations__join_steps P_Relations__join_steps (spRjoin a.c_Relations) := by
  refine T.f_Relations__join_steps.ok sc_Relations__join_steps (fun vs H Q E h => ?_) (fun cdv A outer s0 H vs Q E hr h => ?_)
  · obtain ⟨x, b, s, t, n, i, j, st, r, rfl, _⟩ := h
    rfl
  · obtain ⟨x, b, s, t, n, i, j, st, r, rfl, R, hn, ht, hi, hj, q⟩ := h
    refine ⟨_, (pss_cons (ps_asg (pe_ifExp (pt_val (pv 2)) (pv 1) (pe_revT (pv 1))) (pg_tup rfl (pgs_cons (pg_name (i := 3) sc_Relations__join_steps.nd rfl (Or.inl rfl)) (pgs_cons (pg_name (i := 4) sc_Relations__join_steps.nd rfl (Or.inl rfl)) pgs_nil))))
    (pss_cons (ps_set (i := 5) sc_Relations__join_steps.nd rfl (Or.inl rfl) (pe_ix ix_list (pe_fld (pv 0) rfl) (pv 4) (fun _ _ => rfl)))
    (pss_cons (ps_set (i := 6) sc_Relations__join_steps.nd rfl (Or.inl rfl) (pe_ix ix_list (pe_fld (pv 0) rfl) (pv 4) (fun _ _ => rfl)))
    (pss_one (ps_for PassesOwn.never rfl (pi_range1 (by rfl) T.z_range (pa_cons (pe_fld (pv 0) rfl) pa_nil)) (pg_name (i := 7) sc_Relations__join_steps.nd rfl (Or.inl rfl))
      (pss_one (ps_if (pt_truth (pe_op op_and (pe_op op_shrN (pe_ix ix_list (pe_fld (pv 0) rfl) (pv 7) (fun _ _ => rfl)) (pv 3)) pe_int) (by intro _; rfl)) (pss_cons (ps_set (i := 8) sc_Relations__join_steps.nd rfl (Or.inl rfl) (pe_or (pv 2) (pe_one (pe_op op_and (pe_op op_shrN (pe_ix ix_list (pe_fld (pv 0) rfl) (pv 7) (fun _ _ => rfl)) (pv 3)) pe_int))))
          (pss_cons (ps_augS (pe_fld (pv 0) rfl) (pv 7) pget_list (pe_ifExp (pt_truth (pv 8) (by intro _; rfl)) (pv 5) (pv 6)) ip_or set_list)
          (pss_one (ps_augS (pe_fld (pv 0) rfl) (pv 7) pget_list (pv 5) ip_or set_list)))) pss_nil))))))), ?_⟩
    obtain ⟨n1, n2, n3, ⟨dx, hx⟩, ⟨bs, hb, RB⟩, ss, hs, RS⟩ := id R
    refine ⟨_, rfl, st, rfl, ?_⟩
    cases st
    case' true =>
      refine iteT ⟨_, rfl, t, _, rfl, L2.st_of ht, rfl, _, _, rfl, _, _, rfl, rfl, ?_⟩
      have q' : ∀ H', RelAt a.c_Relations H' x b s n (Rel.join r i j true) → FrR x b s H H' → Q .non H' := q
      have g1 := And.intro hi hj
      obtain ⟨H1, e1⟩ : ∃ H1, H1 = H := ⟨H, rfl⟩
      have f1 : FrR x b s H H1 := by rw [e1]; exact .refl
      rw [← e1] at hx hb hs ⊢
      generalize true = sb at q' ⊢
      generalize i = lo at q' g1 ⊢
      generalize j = hi' at q' g1 ⊢
    case' false =>
      refine iteF ⟨_, rfl, t, _, rfl, L2.st_of ht, fun u hu => ⟨u, _, rfl, L2.st_of upd_same, rfl, _, _, rfl, _, _, rfl, rfl, ?_⟩⟩
      have q' : ∀ H', RelAt a.c_Relations H' x b s n (Rel.join r j i false) → FrR x b s H H' → Q .non H' := q
      have f1 : FrR x b s H (upd H u (.tup [V.int (i : Int), V.int (j : Int)].reverse)) := fun y o _ _ _ e => same_upd hu _ _ e
      have g1 := And.intro hj hi
      have hx := same_upd (o := .tup [V.int (i : Int), V.int (j : Int)].reverse) hu _ _ hx
      have hb := same_upd (o := .tup [V.int (i : Int), V.int (j : Int)].reverse) hu _ _ hb
      have hs := same_upd (o := .tup [V.int (i : Int), V.int (j : Int)].reverse) hu _ _ hs
      generalize upd H u (.tup [V.int (i : Int), V.int (j : Int)].reverse) = H1 at f1 hx hb hs ⊢
      generalize false = sb at q' ⊢
      generalize j = lo at q' g1 ⊢
      generalize i = hi' at q' g1 ⊢
    all_goals
      obtain ⟨gl, gh⟩ := g1
      have lb := RB.1
      have lss := RS.1
      refine ⟨_, rfl, x, a.c_Relations, dx, _, _, rfl, hx, T.cl_Relations, T.n_below, rfl, _, rfl, b, nV bs, _, _, rfl, rfl, L2.sq_of hb, atI_nat (row_at (i := hi') (by omega)), ?_⟩
      refine ⟨_, rfl, x, a.c_Relations, dx, _, _, rfl, hx, T.cl_Relations, T.n_strictly_below, rfl, _, rfl, s, nV ss, _, _, rfl, rfl, L2.sq_of hs, atI_nat (row_at (i := hi') (by omega)), ?_⟩
      have bB := RB.2 hi' gh
      have bS := RS.2 hi' gh
      generalize bs.getD hi' 0 = vB at bB ⊢
      generalize ss.getD hi' 0 = vS at bS ⊢
      refine ⟨_, rfl, x, a.c_Relations, dx, _, _, rfl, hx, T.cl_Relations, T.n_many, rfl, _, rfl, by omega, by omega, ?_⟩
      rw [Int.toNat_natCast]
      have R1 : RelAt a.c_Relations H1 x b s n (half r (Rel.join r lo hi' sb) 0) := ⟨n1, n2, n3, ⟨dx, hx⟩, ⟨bs, hb, RB.congr fun i _ => rfl⟩, ss, hs, RS.congr fun i _ => rfl⟩
      refine for_range (lo := 0) (n := n) (fun k σ H' => (∃ u7 u8, σ = [some (.ref x), some (.ref t), some (.bl sb), some (.int (lo : Int)), some (.int (hi' : Int)), some (.int (vB : Int)), some (.int (vS : Int)), u7, u8]) ∧ RelAt a.c_Relations H' x b s n (half r (Rel.join r lo hi' sb) k) ∧ FrR x b s H H') ⟨⟨_, _, rfl⟩, R1, f1⟩ ?_ ?_
      · rintro k σ H2 hk ⟨⟨u7, u8, rfl⟩, R2, f2⟩
        obtain ⟨_, _, _, ⟨dx2, hx2⟩, ⟨bs2, hb2, RB2⟩, ss2, hs2, RS2⟩ := R2
        have lb2 := RB2.1
        have ls2 := RS2.1
        have eB : (bs2.getD k 0).testBit lo = r.B k lo := by
          rw [(RB2.2 k hk).2]
          show (if k < k then _ else r.B k) lo = _
          rw [if_neg (Nat.lt_irrefl _)]
        have eS : (ss2.getD k 0).testBit lo = r.S k lo := by
          rw [(RS2.2 k hk).2]
          show (if k < k then _ else r.S k) lo = _
          rw [if_neg (Nat.lt_irrefl _)]
        refine ⟨_, rfl, x, a.c_Relations, dx2, _, _, rfl, hx2, T.cl_Relations, T.n_below, rfl, _, rfl, b, nV bs2, _, _, rfl, rfl, L2.sq_of hb2, (by rw [Int.zero_add]; exact atI_nat (row_at (i := k) (by omega))), _, rfl, _, lo, rfl, rfl, _, _, rfl, rfl, _, tru_bit _ _, ?_⟩
        rw [eB]
        cases cB : r.B k lo with
        | false =>
          have j1 : (Rel.join r lo hi' sb).B k = r.B k := funext fun m => by
            show (r.B k m || (r.B k lo && r.B hi' m)) = r.B k m
            rw [cB, Bool.false_and, Bool.or_false]
          have j2 : (Rel.join r lo hi' sb).S k = r.S k := funext fun m => by
            show (r.S k m || (r.B k lo && _)) = r.S k m
            rw [cB, Bool.false_and, Bool.or_false]
          refine iteF ⟨⟨_, _, rfl⟩, ⟨n1, n2, n3, ⟨dx2, hx2⟩, ⟨bs2, hb2, RB2.congr (half_no (f := Rel.R.B) (g := Rel.R.B) (fun _ => rfl) j1)⟩, ss2, hs2, RS2.congr (half_no (f := Rel.R.S) (g := Rel.R.S) (fun _ => rfl) j2)⟩, f2⟩
        | true =>
          refine iteT ?_
          have jB : ∀ m, (Rel.join r lo hi' sb).B k m = (r.B k m || r.B hi' m) := fun m => by
            show (r.B k m || (r.B k lo && r.B hi' m)) = _
            rw [cB, Bool.true_and]
          have jS : ∀ m, (Rel.join r lo hi' sb).S k m = (r.S k m || (if (sb || r.S k lo) = true then r.B hi' m else r.S hi' m)) := fun m => by
            show (r.S k m || (r.B k lo && _)) = _
            rw [cB, Bool.true_and]
          have wB : Bits n (bs2.getD k 0 ||| vB) ((half r (Rel.join r lo hi' sb) (k + 1)).B k) := Bits.congr (Bits.or (RB2.2 k hk) bB) fun m => by
            show ((if k < k then _ else r.B k) m || r.B hi' m) = (if k < k + 1 then (Rel.join r lo hi' sb).B k else _) m
            rw [if_neg (Nat.lt_irrefl _), if_pos (by omega), jB]
          have wS : ∀ kb : Bool, kb = (sb || r.S k lo) → Bits n (ss2.getD k 0 ||| (if kb = true then vB else vS)) ((half r (Rel.join r lo hi' sb) (k + 1)).S k) := fun kb e => by
            subst e
            cases z : (sb || r.S k lo) with
            | true =>
              refine Bits.congr (Bits.or (RS2.2 k hk) bB) fun m => ?_
              show ((if k < k then _ else r.S k) m || r.B hi' m) = (if k < k + 1 then (Rel.join r lo hi' sb).S k else _) m
              rw [if_neg (Nat.lt_irrefl _), if_pos (by omega), jS, z, if_pos rfl]
            | false =>
              refine Bits.congr (Bits.or (RS2.2 k hk) bS) fun m => ?_
              show ((if k < k then _ else r.S k) m || r.S hi' m) = (if k < k + 1 then (Rel.join r lo hi' sb).S k else _) m
              rw [if_neg (Nat.lt_irrefl _), if_pos (by omega), jS, z, if_neg (by decide)]
          have other : ∀ {f : Rel.R → Nat → Nat → Bool}, (∀ m, f (half r (Rel.join r lo hi' sb) m) = fun i => if i < m then f (Rel.join r lo hi' sb) i else f r i) → ∀ i, i ≠ k → f (half r (Rel.join r lo hi' sb) (k + 1)) i = f (half r (Rel.join r lo hi' sb) k) i := fun hf i ne => by
            rw [hf, hf]
            by_cases c : i < k
            · show (if i < k + 1 then _ else _) = if i < k then _ else _
              rw [if_pos c, if_pos (by omega)]
            · show (if i < k + 1 then _ else _) = if i < k then _ else _
              rw [if_neg c, if_neg (by omega)]
          have fin : ∀ w1 : Nat, Bits n w1 ((half r (Rel.join r lo hi' sb) (k + 1)).S k) → RelAt a.c_Relations (upd (upd H2 s (.lst ((nV ss2).set k (.int (w1 : Int))))) b (.lst ((nV bs2).set k (.int ((bs2.getD k 0 ||| vB : Nat) : Int))))) x b s n (half r (Rel.join r lo hi' sb) (k + 1)) ∧ FrR x b s H (upd (upd H2 s (.lst ((nV ss2).set k (.int (w1 : Int))))) b (.lst ((nV bs2).set k (.int ((bs2.getD k 0 ||| vB : Nat) : Int))))) := fun w1 h1 => by
            have set_nV : ∀ (l : List Nat) (v : Nat), (nV l).set k (.int (v : Int)) = nV (l.set k v) := fun l v => by
              show (l.map fun (n : Nat) => V.int (n : Int)).set k ((fun (n : Nat) => V.int (n : Int)) v) = _
              rw [← List.map_set]
            rw [set_nV, set_nV]
            refine ⟨⟨n1, n2, n3, ⟨dx2, by rw [upd_ne n1, upd_ne n2]; exact hx2⟩, ⟨_, upd_same, RB2.set hk wB (other (f := Rel.R.B) fun _ => rfl)⟩, _, by rw [upd_ne n3.symm]; exact upd_same, RS2.set hk h1 (other (f := Rel.R.S) fun _ => rfl)⟩, fun y o a1 a2 a3 e => ?_⟩
            rw [upd_ne a2, upd_ne a3]
            exact f2 y o a1 a2 a3 e
          refine ⟨_, rfl, sb, rfl, ?_⟩
          -- the strict row, then the other one
          have lS : (nV ss2).length < 2 ^ 62 := Nat.lt_of_le_of_lt (show (nV ss2).length ≤ 2000 by unfold nV; rw [List.length_map]; omega) (by decide)
          have lB : (nV bs2).length < 2 ^ 62 := Nat.lt_of_le_of_lt (show (nV bs2).length ≤ 2000 by unfold nV; rw [List.length_map]; omega) (by decide)
          have iS : ixN (nV ss2).length (0 + (k : Int)) = some k := by rw [Int.zero_add]; exact ix_ok' (by omega)
          have iB : ixN (nV bs2).length (0 + (k : Int)) = some k := by rw [Int.zero_add]; exact ix_ok' (by omega)
          cases hsb : sb
          case' true =>
            refine iteT ?_
            obtain ⟨kb, tk, wk⟩ : ∃ kb, TruV K (.bl true) H2 kb ∧ Bits n (ss2.getD k 0 ||| (if kb = true then vB else vS)) ((half r (Rel.join r lo hi' sb) (k + 1)).S k) := ⟨true, rfl, wS true (by rw [hsb, Bool.true_or])⟩
          case' false =>
            refine iteF ⟨_, rfl, x, a.c_Relations, dx2, _, _, rfl, hx2, T.cl_Relations, T.n_strictly_below, rfl, _, rfl, s, nV ss2, _, _, rfl, rfl, L2.sq_of hs2, (by rw [Int.zero_add]; exact atI_nat (row_at (i := k) (by omega))), _, rfl, _, lo, rfl, rfl, _, _, rfl, rfl, ?_⟩
            obtain ⟨kb, tk, wk⟩ : ∃ kb, TruV K (.int (Builtin.bitAnd (((ss2.getD k 0 : Nat) : Int) / 2 ^ lo) 1)) H2 kb ∧ Bits n (ss2.getD k 0 ||| (if kb = true then vB else vS)) ((half r (Rel.join r lo hi' sb) (k + 1)).S k) := ⟨_, tru_bit _ _, wS _ (by rw [hsb, Bool.false_or, eS])⟩
          all_goals
            refine ⟨_, rfl, x, a.c_Relations, dx2, _, _, rfl, hx2, T.cl_Relations, T.n_strictly_below, rfl, _, rfl, s, nV ss2, k, _, rfl, congrArg V.int (Int.zero_add _), L2.sq_of hs2, lS, row_at (by omega), _, rfl, kb, tk, ?_⟩
            clear tk
            cases kb
            case' true =>
              refine iteT ⟨_, rfl, ?_⟩
              rw [if_pos rfl] at wk
            case' false =>
              refine iteF ⟨_, rfl, ?_⟩
              rw [if_neg (by decide)] at wk
            all_goals
              refine ⟨_, _, rfl, rfl, s, nV ss2, _, k, rfl, rfl, hs2, iS, ?_⟩
              dsimp only
              rw [bitOr_nat]
              have ff := fin _ wk
              have hx3 : ∀ o : HO, upd H2 s o x = H2 x := fun o => upd_ne n2
              have hb3 : ∀ o : HO, upd H2 s o b = H2 b := fun o => upd_ne n3
              refine ⟨_, rfl, x, a.c_Relations, dx2, _, _, rfl, (hx3 _).trans hx2, T.cl_Relations, T.n_below, rfl, _, rfl, b, nV bs2, k, _, rfl, congrArg V.int (Int.zero_add _), L2.sq_of ((hb3 _).trans hb2), lB, row_at (by omega), _, rfl, _, _, rfl, rfl, b, nV bs2, _, k, rfl, rfl, (hb3 _).trans hb2, iB, ?_⟩
              dsimp only
              rw [bitOr_nat]
              rw [hsb] at ff
              exact ⟨⟨_, _, rfl⟩, ff⟩
      · rintro σ H2 ⟨⟨u7, u8, rfl⟩, R2, f2⟩
        refine q' H2 ?_ f2
        obtain ⟨a1, a2, a3, a4, ⟨bs2, hb2, RB2⟩, ss2, hs2, RS2⟩ := R2
        exact ⟨a1, a2, a3, a4, ⟨bs2, hb2, RB2.congr fun i hi => if_pos hi⟩, ss2, hs2, RS2.congr fun i hi => if_pos hi⟩
end

end K80

namespace K80
open PySem PySem.Spec PyProof.Rows L2 
def spRlearn (C : Addr) : Sp := fun vs H Q _ => ∃ (x b s t : Addr) (n i j : Nat) (st : Bool) (r : Rel.R), vs = [.ref x, .ref t, .bl st] ∧ RelAt C H x b s n r ∧ n ≤ 2000 ∧ H t = some (.tup [.int (i : Int), .int (j : Int)]) ∧ i < n ∧ j < n ∧ ∀ H', RelAt C H' x b s n (Rel.learn r ((i, j), st)) → FrR x b s H H' → Q (optB (Rel.fol r (i, j))) H'
/-- a log's entries -/
def EntA (H : Hp) (v : V) (e : Rel.Ent) : Prop := ∃ t u : Addr, v = .ref u ∧ H u = some (.tup [.ref t, .bl e.2]) ∧ H t = some (.tup [.int (e.1.1 : Int), .int (e.1.2 : Int)])
def LogR (H : Hp) (l : Addr) (es : List Rel.Ent) : Prop := ∃ ts : List V, RowAt H l ts ∧ ts.length = es.length ∧ ∀ (k : Nat) (v : V) (e : Rel.Ent), ts[k]? = some v → es[k]? = some e → EntA H v e
def spRlie (C : Addr) : Sp := fun vs H Q _ => ∃ (x b s l : Addr) (n : Nat) (es : List Rel.Ent) (r : Rel.R), vs = [.ref x, .ref l] ∧ RelAt C H x b s n r ∧ n ≤ 2000 ∧ LogR H l es ∧ l ≠ b ∧ l ≠ s ∧ es.length ≤ 5000 ∧ Rel.InN n es ∧ ∀ H', (Rel.lie r es 0 = none → RelAt C H' x b s n (Rel.run r es)) → FrR x b s H H' → Q (optV (Rel.lie r es 0)) H'
section
variable {P : Program} {w : World} {K : PySem.W.Frag} {mg : Str → Option Value} {base : Heap} {a : Ad} {d : Fd}
theorem ok_rel_learn (T : Txt K mg a d) : FnOk P w K mg base CX0 2 a.Relations_learn d.Relations_learn P_Relations_learn (spRlearn a.c_Relations) := by
  have G_Relations_follows : FnOk P w K mg base CX0 1 a.Relations_follows d.Relations_follows P_Relations_follows (spRfol a.c_Relations) := ok_rel_follows T
  have G_Relations__join_steps : FnOk P w K mg base CX0 1 a.Relations__join_steps d.Relations__join_steps P_Relations__join_steps (spRjoin a.c_Relations) := ok_rel_join T
  refine T.f_Relations_learn.ok sc_Relations_learn (fun vs H Q E h => ?_) (fun cdv A outer s0 H vs Q E hr h => ?_)
  · obtain ⟨x, b, s, t, n, i, j, st, r, rfl, _⟩ := h
    rfl
  · obtain ⟨x, b, s, t, n, i, j, st, r, rfl, R, hn, ht, hi, hj, q⟩ := h
    refine ⟨_, (pss_cons (ps_set (i := 3) sc_Relations_learn.nd rfl (Or.inl rfl) (pe_meth (pv 0) T.cl_Relations T.m_Relations_follows G_Relations_follows (hr.mono (by decide)) T.b_Relations_follows .nil pass0 (pa_cons (pv 1) pa_nil)))
    (pss_cons (ps_if (pt_cmpR op_isN (pv 3) pe_non (nomark _)) (pss_one (ps_expr (pe_meth (pv 0) T.cl_Relations T.m_Relations__join_steps G_Relations__join_steps (hr.mono (by decide)) T.b_Relations__join_steps .nil pass0 (pa_cons (pv 1) (pa_cons (pv 2) pa_nil))))) pss_nil)
    (pss_one (ps_ret (pv 3))))), ?_⟩
    obtain ⟨n1, n2, n3, ⟨dx, hx⟩, _, _⟩ := id R
    refine ⟨_, rfl, x, dx, _, rfl, hx, rfl, _, rfl, x, b, s, t, n, i, j, r, rfl, R, ht, hi, hj, ?_⟩
    cases f : Rel.fol r (i, j) with
    | none =>
      rw [f] at q
      have e : Rel.learn r ((i, j), st) = Rel.join r (Rel.lo ((i, j), st)) (Rel.hi ((i, j), st)) st := by
        unfold Rel.learn
        rw [if_pos f]
      rw [e] at q
      refine ⟨_, rfl, rfl, true, rfl, iteT ?_⟩
      exact ⟨_, rfl, x, dx, _, rfl, hx, rfl, _, rfl, _, rfl, x, b, s, t, n, i, j, st, r, rfl, R, hn, ht, hi, hj, fun H' R' f' => ⟨_, rfl, q H' R' f'⟩⟩
    | some o =>
      rw [f] at q
      have e : Rel.learn r ((i, j), st) = r := by
        unfold Rel.learn
        rw [if_neg (by rw [f]; exact fun z => by cases z)]
      rw [e] at q
      refine ⟨_, rfl, rfl, false, rfl, iteF ?_⟩
      exact ⟨_, rfl, q H R .refl⟩
theorem FrR.tup {C x b s u : Addr} {n : Nat} {r : Rel.R} {H H' : Hp} {xs : List V} (f : FrR x b s H H') (R : RelAt C H x b s n r) (h : H u = some (.tup xs)) : H' u = some (.tup xs) := by
  obtain ⟨_, _, _, ⟨dx, hx⟩, ⟨bs, hb, _⟩, ss, hs, _⟩ := R
  exact f _ _ (fun z => by rw [z, hx] at h; cases h) (fun z => by rw [z, hb] at h; cases h) (fun z => by rw [z, hs] at h; cases h) h
theorem RelAt.same {C x b s : Addr} {n : Nat} {r : Rel.R} {H H' : Hp} (R : RelAt C H x b s n r) (e : Same H H') : RelAt C H' x b s n r := by
  obtain ⟨a1, a2, a3, ⟨dx, hx⟩, ⟨bs, hb, RB⟩, ss, hs, RS⟩ := R
  exact ⟨a1, a2, a3, ⟨dx, e _ _ hx⟩, ⟨bs, e _ _ hb, RB⟩, ss, e _ _ hs, RS⟩
theorem RelAt.new {C x b s t : Addr} {n : Nat} {r : Rel.R} {H : Hp} {o : HO} (R : RelAt C H x b s n r) (h : H t = none) : RelAt C (upd H t o) x b s n r := R.same (same_upd h)
theorem ok_rel_lie (T : Txt K mg a d) : FnOk P w K mg base CX0 3 a.Relations_first_lie d.Relations_first_lie P_Relations_first_lie (spRlie a.c_Relations) := by
  have G_Relations_learn : FnOk P w K mg base CX0 2 a.Relations_learn d.Relations_learn P_Relations_learn (spRlearn a.c_Relations) := ok_rel_learn T
  refine T.f_Relations_first_lie.ok sc_Relations_first_lie (fun vs H Q E h => ?_) (fun cdv A outer s0 H vs Q E hr h => ?_)
  · obtain ⟨x, b, s, l, n, es, r, rfl, _⟩ := h
    rfl
  · obtain ⟨x, b, s, l, n, es, r, rfl, R, hn, ⟨ts, hl, lts, its⟩, nlb, nls, l5, inn, q⟩ := h
    refine ⟨_, (pss_cons (ps_for PassesOwn.never rfl (pi_enumA (by rfl) T.z_enumerate (pa_cons (pv 1) pa_nil)) (pg_tup rfl (pgs_cons (pg_name (i := 2) sc_Relations_first_lie.nd rfl (Or.inl rfl)) (pgs_cons (pg_tup rfl (pgs_cons (pg_name (i := 3) sc_Relations_first_lie.nd rfl (Or.inl rfl)) (pgs_cons (pg_name (i := 4) sc_Relations_first_lie.nd rfl (Or.inl rfl)) pgs_nil))) pgs_nil)))
      (pss_cons (ps_set (i := 5) sc_Relations_first_lie.nd rfl (Or.inl rfl) (pe_meth (pv 0) T.cl_Relations T.m_Relations_learn G_Relations_learn (hr.mono (by decide)) T.b_Relations_learn .nil pass0 (pa_cons (pv 3) (pa_cons (pv 4) pa_nil))))
        (pss_one (ps_if (PW.pt (pw_and (pt_cmpR op_notN (pv 5) pe_non (nomark _)) (pw_and1 (pt_cmpR op_ne (pv 5) (pv 4) (nomark _))))) (pss_one (ps_ret (pv 2))) pss_nil))))
    (pss_one (ps_ret pe_non))), ?_⟩
    have nlx : l ≠ x := fun z => by
      obtain ⟨_, _, _, ⟨dx, hx⟩, _⟩ := R
      rcases hl with hl | hl <;> rw [z, hx] at hl <;> cases hl
    rcases hl with hl | hl
    case inl =>
      refine ⟨_, rfl, l, ts, rfl, .inl ⟨L2.sq_of hl, ?_⟩⟩
      refine for_iteL (K := K) (a := l) (xs := ts) (fun i σ H' => (∃ u2 u3 u4 u5, σ = [some (.ref x), some (.ref l), u2, u3, u4, u5]) ∧ FrR x b s H H' ∧ ∃ r', RelAt a.c_Relations H' x b s n r' ∧ Rel.lie r es 0 = Rel.lie r' (es.drop i) i ∧ Rel.run r es = Rel.run r' (es.drop i)) ⟨⟨_, _, _, _, rfl⟩, .refl, r, R, rfl, rfl⟩ (fun i σ H' _ h => L2.sq_of (h.2.1 _ _ nlx nlb nls hl)) ?_ ?_
      · rintro i y σ H1 Tp hy ⟨⟨u2, u3, u4, u5, rfl⟩, f1, r', R1, e1, e2⟩ hn1
        have li := (List.getElem?_eq_some_iff.mp hy).1
        have he : es[i]? = some es[i] := List.getElem?_eq_getElem (by omega)
        have ed : es.drop i = es[i] :: es.drop (i + 1) := List.drop_eq_getElem_cons (by omega)
        have hin := inn es[i] (List.getElem_mem _)
        obtain ⟨t, u, rfl, hu, ht⟩ := its i y es[i] hy he
        rw [ed] at e1 e2
        generalize es[i] = en at e1 e2 hu ht hin
        obtain ⟨⟨o1, o2⟩, an⟩ := en
        have hu1 := f1.tup R hu
        have ht1 := f1.tup R ht
        have R2 := R1.new hn1 (o := .tup [.int (i : Nat), .ref u])
        have hu2 := same_upd (o := .tup [.int (i : Nat), .ref u]) hn1 _ _ hu1
        have ht2 := same_upd (o := .tup [.int (i : Nat), .ref u]) hn1 _ _ ht1
        have f2 : FrR x b s H (upd H1 Tp (.tup [.int (i : Nat), .ref u])) := f1.trans fun q o _ _ _ e => same_upd hn1 _ _ e
        refine ⟨Tp, _, rfl, L2.st_of upd_same, rfl, _, _, rfl, ?_⟩
        generalize upd H1 Tp (.tup [.int (i : Nat), .ref u]) = H2 at R2 hu2 ht2 f2 ⊢
        obtain ⟨_, _, _, ⟨dx2, hx2⟩, _, _⟩ := id R2
        refine ⟨_, _, rfl, ⟨u, _, rfl, L2.st_of hu2, rfl, _, _, rfl, _, _, rfl, rfl, rfl, ?_⟩⟩
        refine ⟨_, rfl, x, dx2, _, rfl, hx2, rfl, _, rfl, _, rfl, x, b, s, t, n, o1, o2, an, r', rfl, R2, hn, ht2, hin.1, hin.2, fun H3 R3 f3 => ?_⟩
        have l3 : Rel.lie r es 0 = if Rel.fol r' (o1, o2) ≠ none ∧ Rel.fol r' (o1, o2) ≠ some an then some i else Rel.lie (Rel.learn r' ((o1, o2), an)) (es.drop (i + 1)) (i + 1) := e1
        have goon : ¬ (Rel.fol r' (o1, o2) ≠ none ∧ Rel.fol r' (o1, o2) ≠ some an) → ∃ r', RelAt a.c_Relations H3 x b s n r' ∧ Rel.lie r es 0 = Rel.lie r' (es.drop (i + 1)) (i + 1) ∧ Rel.run r es = Rel.run r' (es.drop (i + 1)) := fun z => ⟨_, R3, by rw [l3, if_neg z], e2⟩
        cases f : Rel.fol r' (o1, o2) with
        | none =>
          rw [f] at goon
          refine ⟨_, rfl, rfl, false, rfl, iteF ?_⟩
          exact ⟨⟨_, _, _, _, rfl⟩, f2.trans f3, goon fun z => z.1 rfl⟩
        | some o =>
          rw [f] at goon l3
          refine ⟨_, rfl, rfl, true, rfl, iteT ?_⟩
          by_cases c : o = an
          · subst c
            refine ⟨_, rfl, _, rfl, rfl, false, (by show V.bl (!decide (V.bl o = V.bl o)) = V.bl false; rw [decide_eq_true rfl]; rfl), iteF ?_⟩
            exact ⟨⟨_, _, _, _, rfl⟩, f2.trans f3, goon fun z => z.2 rfl⟩
          · refine ⟨_, rfl, _, rfl, by cases o <;> cases an <;> rfl, true, ?_, iteT ⟨_, rfl, ?_⟩⟩
            · show V.bl (!decide (V.bl o = V.bl an)) = V.bl true
              rw [decide_eq_false (fun z => c (V.bl.inj z))]
              rfl
            · have z := q H3 (fun w => by rw [l3, if_pos ⟨(fun y => by cases y), fun y => c (Option.some.inj y)⟩] at w; cases w) (f2.trans f3)
              rw [l3, if_pos ⟨(fun y => by cases y), fun y => c (Option.some.inj y)⟩] at z
              exact z
      · rintro σ H1 ⟨⟨u2, u3, u4, u5, rfl⟩, f1, r', R1, e1, e2⟩
        rw [lts, List.drop_length] at e1 e2
        have z := q H1 (fun _ => by rw [e2]; exact R1) f1
        rw [e1] at z
        exact z
    case inr =>
      refine ⟨_, rfl, l, ts, rfl, .inr ⟨L2.st_of hl, ?_⟩⟩
      refine for_iteT (K := K) (a := l) (xs := ts) (fun i σ H' => (∃ u2 u3 u4 u5, σ = [some (.ref x), some (.ref l), u2, u3, u4, u5]) ∧ FrR x b s H H' ∧ ∃ r', RelAt a.c_Relations H' x b s n r' ∧ Rel.lie r es 0 = Rel.lie r' (es.drop i) i ∧ Rel.run r es = Rel.run r' (es.drop i)) ⟨⟨_, _, _, _, rfl⟩, .refl, r, R, rfl, rfl⟩ (fun i σ H' _ h => L2.st_of (h.2.1 _ _ nlx nlb nls hl)) ?_ ?_
      · rintro i y σ H1 Tp hy ⟨⟨u2, u3, u4, u5, rfl⟩, f1, r', R1, e1, e2⟩ hn1
        have li := (List.getElem?_eq_some_iff.mp hy).1
        have he : es[i]? = some es[i] := List.getElem?_eq_getElem (by omega)
        have ed : es.drop i = es[i] :: es.drop (i + 1) := List.drop_eq_getElem_cons (by omega)
        have hin := inn es[i] (List.getElem_mem _)
        obtain ⟨t, u, rfl, hu, ht⟩ := its i y es[i] hy he
        rw [ed] at e1 e2
        generalize es[i] = en at e1 e2 hu ht hin
        obtain ⟨⟨o1, o2⟩, an⟩ := en
        have hu1 := f1.tup R hu
        have ht1 := f1.tup R ht
        have R2 := R1.new hn1 (o := .tup [.int (i : Nat), .ref u])
        have hu2 := same_upd (o := .tup [.int (i : Nat), .ref u]) hn1 _ _ hu1
        have ht2 := same_upd (o := .tup [.int (i : Nat), .ref u]) hn1 _ _ ht1
        have f2 : FrR x b s H (upd H1 Tp (.tup [.int (i : Nat), .ref u])) := f1.trans fun q o _ _ _ e => same_upd hn1 _ _ e
        refine ⟨Tp, _, rfl, L2.st_of upd_same, rfl, _, _, rfl, ?_⟩
        generalize upd H1 Tp (.tup [.int (i : Nat), .ref u]) = H2 at R2 hu2 ht2 f2 ⊢
        obtain ⟨_, _, _, ⟨dx2, hx2⟩, _, _⟩ := id R2
        refine ⟨_, _, rfl, ⟨u, _, rfl, L2.st_of hu2, rfl, _, _, rfl, _, _, rfl, rfl, rfl, ?_⟩⟩
        refine ⟨_, rfl, x, dx2, _, rfl, hx2, rfl, _, rfl, _, rfl, x, b, s, t, n, o1, o2, an, r', rfl, R2, hn, ht2, hin.1, hin.2, fun H3 R3 f3 => ?_⟩
        have l3 : Rel.lie r es 0 = if Rel.fol r' (o1, o2) ≠ none ∧ Rel.fol r' (o1, o2) ≠ some an then some i else Rel.lie (Rel.learn r' ((o1, o2), an)) (es.drop (i + 1)) (i + 1) := e1
        have goon : ¬ (Rel.fol r' (o1, o2) ≠ none ∧ Rel.fol r' (o1, o2) ≠ some an) → ∃ r', RelAt a.c_Relations H3 x b s n r' ∧ Rel.lie r es 0 = Rel.lie r' (es.drop (i + 1)) (i + 1) ∧ Rel.run r es = Rel.run r' (es.drop (i + 1)) := fun z => ⟨_, R3, by rw [l3, if_neg z], e2⟩
        cases f : Rel.fol r' (o1, o2) with
        | none =>
          rw [f] at goon
          refine ⟨_, rfl, rfl, false, rfl, iteF ?_⟩
          exact ⟨⟨_, _, _, _, rfl⟩, f2.trans f3, goon fun z => z.1 rfl⟩
        | some o =>
          rw [f] at goon l3
          refine ⟨_, rfl, rfl, true, rfl, iteT ?_⟩
          by_cases c : o = an
          · subst c
            refine ⟨_, rfl, _, rfl, rfl, false, (by show V.bl (!decide (V.bl o = V.bl o)) = V.bl false; rw [decide_eq_true rfl]; rfl), iteF ?_⟩
            exact ⟨⟨_, _, _, _, rfl⟩, f2.trans f3, goon fun z => z.2 rfl⟩
          · refine ⟨_, rfl, _, rfl, by cases o <;> cases an <;> rfl, true, ?_, iteT ⟨_, rfl, ?_⟩⟩
            · show V.bl (!decide (V.bl o = V.bl an)) = V.bl true
              rw [decide_eq_false (fun z => c (V.bl.inj z))]
              rfl
            · have z := q H3 (fun w => by rw [l3, if_pos ⟨(fun y => by cases y), fun y => c (Option.some.inj y)⟩] at w; cases w) (f2.trans f3)
              rw [l3, if_pos ⟨(fun y => by cases y), fun y => c (Option.some.inj y)⟩] at z
              exact z
      · rintro σ H1 ⟨⟨u2, u3, u4, u5, rfl⟩, f1, r', R1, e1, e2⟩
        rw [lts, List.drop_length] at e1 e2
        have z := q H1 (fun _ => by rw [e2]; exact R1) f1
        rw [e1] at z
        exact z
end

end K80

namespace K80
open PySem PySem.Spec PyProof.Rows L2 
def spIsInt : Sp := fun vs H Q _ => ∃ i, vs = [.int i] ∧ Q (.bl true) H
section
variable {P : Program} {w : World} {K : PySem.W.Frag} {mg : Str → Option Value} {base : Heap} {a : Ad} {d : Fd}
theorem ok_is_integer (T : Txt K mg a d) : FnOk P w K mg base CX0 1 a.is_integer d.is_integer P_is_integer spIsInt := by
  refine T.f_is_integer.ok sc_is_integer (fun vs H Q E h => ?_) (fun cdv A outer s H vs Q E hr h => ?_)
  · obtain ⟨i, rfl, _⟩ := h
    rfl
  · obtain ⟨i, rfl, q⟩ := h
    refine ⟨_, (pss_one (ps_ret (pe_and (pe_callB call_isi (by rfl) T.z_isinstance (by decide +kernel) (pa_cons (pv 0) (pa_cons (pe_bltn (v := .ty "int") (u := .type "int") (by rfl) T.z_int (by decide +kernel) rfl) pa_nil))) (pe_one (pe_not (pe_callB call_isi (by rfl) T.z_isinstance (by decide +kernel) (pa_cons (pv 0) (pa_cons (pe_bltn (v := .ty "bool") (u := .type "bool") (by rfl) T.z_bool (by decide +kernel) rfl) pa_nil)))))))), ?_⟩
    refine ⟨_, rfl, .int i, .ty "int", .type "int", .type "int", true, rfl, .ty _, .base (.int i), kit_ty (by decide +kernel), true, rfl, iteT ?_⟩
    exact ⟨_, rfl, .int i, .ty "bool", .type "int", .type "bool", false, rfl, .ty _, .base (.int i), kit_ty (by decide +kernel), false, rfl, q⟩
end
def spWithin : Sp := fun vs H Q _ => ∃ v lo hi, vs = [.int v, .int lo, .int hi] ∧ lo ≤ v ∧ v ≤ hi ∧ Q (.bl true) H
section
variable {P : Program} {w : World} {K : PySem.W.Frag} {mg : Str → Option Value} {base : Heap} {a : Ad} {d : Fd}
theorem ok_is_within (T : Txt K mg a d) : FnOk P w K mg base CX0 2 a.is_within d.is_within P_is_within spWithin := by
  have G_is_integer : FnOk P w K mg base CX0 1 a.is_integer d.is_integer P_is_integer spIsInt := ok_is_integer T
  refine T.f_is_within.ok sc_is_within (fun vs H Q E h => ?_) (fun cdv A outer s H vs Q E hr h => ?_)
  · obtain ⟨v, lo, hi, rfl, _⟩ := h
    rfl
  · obtain ⟨v, lo, hi, rfl, h1, h2, q⟩ := h
    refine ⟨_, (pss_one (ps_ret (pe_and (pe_call G_is_integer (hr.mono (by decide)) (by rfl) T.g_is_integer T.k_is_integer T.b_is_integer .nil pass0 (pa_cons (pv 0) pa_nil)) (pe_and (pe_cmpR op_ge (pv 0) (pv 1) (nomark _)) (pe_one (pe_or (pe_cmpR op_isN (pv 2) pe_non (nomark _)) (pe_one (pe_cmpR op_le (pv 0) (pv 2) (nomark _))))))))), ?_⟩
    refine ⟨_, rfl, v, rfl, true, rfl, iteT ?_⟩
    refine ⟨_, rfl, _, rfl, _, _, rfl, rfl, true, congrArg V.bl (decide_eq_true h1), iteT ?_⟩
    refine ⟨_, rfl, rfl, false, rfl, iteF ?_⟩
    refine ⟨_, rfl, _, rfl, _, _, rfl, rfl, ?_⟩
    show Q (V.bl (decide (v ≤ hi))) H
    rw [decide_eq_true h2]
    exact q
end


def spIsItem : Sp := fun vs H Q _ => ∃ i n, vs = [.int i, .int n] ∧ 0 ≤ i ∧ i < n ∧ Q (.bl true) H
section
variable {P : Program} {w : World} {K : PySem.W.Frag} {mg : Str → Option Value} {base : Heap} {a : Ad} {d : Fd}
theorem ok_is_item (T : Txt K mg a d) : FnOk P w K mg base CX0 3 a.is_item d.is_item P_is_item spIsItem := by
  have G_is_within : FnOk P w K mg base CX0 2 a.is_within d.is_within P_is_within spWithin := ok_is_within T
  refine T.f_is_item.ok sc_is_item (fun vs H Q E h => ?_) (fun cdv A outer s H vs Q E hr h => ?_)
  · obtain ⟨i, n, rfl, _⟩ := h
    rfl
  · obtain ⟨i, n, rfl, h0, h1, q⟩ := h
    refine ⟨_, (pss_one (ps_ret (pe_call G_is_within (hr.mono (by decide)) (by rfl) T.g_is_within T.k_is_within T.b_is_within .nil pass0 (pa_cons (pv 0) (pa_cons pe_int (pa_cons (pe_op op_sub (pv 1) pe_int) pa_nil)))))), ?_⟩
    exact ⟨_, rfl, _, rfl, _, _, rfl, rfl, i, 0, n - 1, rfl, h0, by omega, q⟩
end

def spCheckNumber : Sp := fun vs H Q _ => ∃ (nm : Str) (v lo hi : Int), vs = [.str nm, .int v, .int lo, .int hi] ∧ lo ≤ v ∧ v ≤ hi ∧ Q .non H
section
variable {P : Program} {w : World} {K : PySem.W.Frag} {mg : Str → Option Value} {base : Heap} {a : Ad} {d : Fd}
theorem ok_check_number (T : Txt K mg a d) : FnOk P w K mg base CX0 3 a.check_number d.check_number P_check_number spCheckNumber := by
  have G_is_within : FnOk P w K mg base CX0 2 a.is_within d.is_within P_is_within spWithin := ok_is_within T
  refine T.f_check_number.ok sc_check_number (fun vs H Q E h => ?_) (fun cdv A outer s H vs Q E hr h => ?_)
  · obtain ⟨nm, v, lo, hi, rfl, _⟩ := h
    rfl
  · obtain ⟨nm, v, lo, hi, rfl, h1, h2, q⟩ := h
    refine ⟨_, (pss_one (ps_if (pt_not (pt_val (pe_call G_is_within (hr.mono (by decide)) (by rfl) T.g_is_within T.k_is_within T.b_is_within .nil pass0 (pa_cons (pv 1) (pa_cons (pv 2) (pa_cons (pv 3) pa_nil)))))) (pss_one ps_never) pss_nil)), ?_⟩
    exact ⟨_, rfl, _, rfl, _, rfl, v, lo, hi, rfl, h1, h2, true, rfl, iteF q⟩
end

def spQuest (n : Nat) : Sp := fun vs H Q _ => ∃ (t : Addr) (i j : Nat), vs = [.ref t, .int (n : Int)] ∧ H t = some (.tup [.int (i : Int), .int (j : Int)]) ∧ i < n ∧ j < n ∧ i ≠ j ∧ Q (.bl true) H
def spCheckQ (n : Nat) : Sp := fun vs H Q _ => ∃ (t : Addr) (i j : Nat), vs = [.ref t, .int (n : Int)] ∧ H t = some (.tup [.int (i : Int), .int (j : Int)]) ∧ i < n ∧ j < n ∧ i ≠ j ∧ Q .non H
section
variable {P : Program} {w : World} {K : PySem.W.Frag} {mg : Str → Option Value} {base : Heap} {a : Ad} {d : Fd}
theorem ok_is_question (T : Txt K mg a d) (n : Nat) : FnOk P w K mg base CX0 4 a.is_question d.is_question P_is_question (spQuest n) := by
  have G_is_item : FnOk P w K mg base CX0 3 a.is_item d.is_item P_is_item spIsItem := ok_is_item T
  refine T.f_is_question.ok sc_is_question (fun vs H Q E h => ?_) (fun cdv A outer s0 H vs Q E hr h => ?_)
  · obtain ⟨t, i, j, rfl, _⟩ := h
    rfl
  · obtain ⟨t, i, j, rfl, ht, hi, hj, ne, q⟩ := h
    refine ⟨_, (pss_cons (ps_if (PW.pt (pw_or (pt_not (pt_val (pe_callB call_isi (by rfl) T.z_isinstance (by decide +kernel) (pa_cons (pv 0) (pa_cons (pe_bltn (v := .ty "tuple") (u := .type "tuple") (by rfl) T.z_tuple (by decide +kernel) rfl) pa_nil))))) (pw_or1 (pt_cmpR op_ne (pe_callB call_len_seq (by rfl) T.z_len PySem.boot_len (pa_cons (pv 0) pa_nil)) pe_int (nomark _))))) (pss_one (ps_ret pe_bl)) pss_nil)
    (pss_cons (ps_asg (pv 0) (pg_tup rfl (pgs_cons (pg_name (i := 2) sc_is_question.nd rfl (Or.inl rfl)) (pgs_cons (pg_name (i := 3) sc_is_question.nd rfl (Or.inl rfl)) pgs_nil))))
    (pss_one (ps_ret (pe_and (pe_call G_is_item (hr.mono (by decide)) (by rfl) T.g_is_item T.k_is_item T.b_is_item .nil pass0 (pa_cons (pv 2) (pa_cons (pv 1) pa_nil))) (pe_and (pe_call G_is_item (hr.mono (by decide)) (by rfl) T.g_is_item T.k_is_item T.b_is_item .nil pass0 (pa_cons (pv 3) (pa_cons (pv 1) pa_nil))) (pe_one (pe_cmpR op_ne (pv 2) (pv 3) (nomark _))))))))), ?_⟩
    refine ⟨_, rfl, .ref t, .ty "tuple", _, .type "tuple", true, rfl, .ty _, .base (.tup ht), kit_ty (by decide +kernel), true, rfl, iteF ?_⟩
    refine ⟨_, rfl, t, _, rfl, .inr (L2.st_of ht), rfl, false, rfl, iteF ?_⟩
    refine ⟨_, rfl, t, _, rfl, L2.st_of ht, rfl, _, _, rfl, _, _, rfl, rfl, ?_⟩
    refine ⟨_, rfl, _, rfl, (i : Int), (n : Int), rfl, by omega, by omega, true, rfl, iteT ?_⟩
    refine ⟨_, rfl, _, rfl, (j : Int), (n : Int), rfl, by omega, by omega, true, rfl, iteT ?_⟩
    refine ⟨_, rfl, _, rfl, rfl, ?_⟩
    rw [decide_eq_false (fun z => ne (by have := V.int.inj z; omega))]
    exact q
theorem ok_check_question (T : Txt K mg a d) (n : Nat) : FnOk P w K mg base CX0 5 a.check_question d.check_question P_check_question (spCheckQ n) := by
  have G_is_question : FnOk P w K mg base CX0 4 a.is_question d.is_question P_is_question (spQuest n) := ok_is_question T n
  refine T.f_check_question.ok sc_check_question (fun vs H Q E h => ?_) (fun cdv A outer s0 H vs Q E hr h => ?_)
  · obtain ⟨t, i, j, rfl, _⟩ := h
    rfl
  · obtain ⟨t, i, j, rfl, ht, hi, hj, ne, q⟩ := h
    refine ⟨_, (pss_one (ps_if (pt_not (pt_val (pe_call G_is_question (hr.mono (by decide)) (by rfl) T.g_is_question T.k_is_question T.b_is_question .nil pass0 (pa_cons (pv 0) (pa_cons (pv 1) pa_nil))))) (pss_one ps_never) pss_nil)), ?_⟩
    exact ⟨_, rfl, _, rfl, t, i, j, rfl, ht, hi, hj, ne, true, rfl, iteF q⟩
def spIsEntry (n : Nat) : Sp := fun vs H Q _ => ∃ (v : V) (e : Rel.Ent), vs = [v, .int (n : Int)] ∧ EntA H v e ∧ e.1.1 < n ∧ e.1.2 < n ∧ e.1.1 ≠ e.1.2 ∧ Q (.bl true) H
def spCheckLog (n : Nat) : Sp := fun vs H Q _ => ∃ (l : Addr) (es : List Rel.Ent), vs = [.ref l, .int (n : Int)] ∧ LogR H l es ∧ es.length ≤ 5000 ∧ Rel.InN n es ∧ (∀ e ∈ es, e.1.1 ≠ e.1.2) ∧ ∀ H', Same H H' → Q .non H'
theorem ok_is_entry (T : Txt K mg a d) (n : Nat) : FnOk P w K mg base CX0 5 a.is_entry d.is_entry P_is_entry (spIsEntry n) := by
  have G_is_question : FnOk P w K mg base CX0 4 a.is_question d.is_question P_is_question (spQuest n) := ok_is_question T n
  refine T.f_is_entry.ok sc_is_entry (fun vs H Q E h => ?_) (fun cdv A outer s0 H vs Q E hr h => ?_)
  · obtain ⟨v, e, rfl, _⟩ := h
    rfl
  · obtain ⟨v, ⟨⟨i, j⟩, an⟩, rfl, ⟨t, u, rfl, hu, ht⟩, hi, hj, ne, q⟩ := h
    refine ⟨_, (pss_cons (ps_if (PW.pt (pw_or (pt_not (pt_val (pe_callB call_isi (by rfl) T.z_isinstance (by decide +kernel) (pa_cons (pv 0) (pa_cons (pe_bltn (v := .ty "tuple") (u := .type "tuple") (by rfl) T.z_tuple (by decide +kernel) rfl) pa_nil))))) (pw_or1 (pt_cmpR op_ne (pe_callB call_len_seq (by rfl) T.z_len PySem.boot_len (pa_cons (pv 0) pa_nil)) pe_int (nomark _))))) (pss_one (ps_ret pe_bl)) pss_nil)
    (pss_cons (ps_asg (pv 0) (pg_tup rfl (pgs_cons (pg_name (i := 2) sc_is_entry.nd rfl (Or.inl rfl)) (pgs_cons (pg_name (i := 3) sc_is_entry.nd rfl (Or.inl rfl)) pgs_nil))))
    (pss_one (ps_ret (pe_and (pe_call G_is_question (hr.mono (by decide)) (by rfl) T.g_is_question T.k_is_question T.b_is_question .nil pass0 (pa_cons (pv 2) (pa_cons (pv 1) pa_nil))) (pe_one (pe_callB call_isi (by rfl) T.z_isinstance (by decide +kernel) (pa_cons (pv 3) (pa_cons (pe_bltn (v := .ty "bool") (u := .type "bool") (by rfl) T.z_bool (by decide +kernel) rfl) pa_nil))))))))), ?_⟩
    refine ⟨_, rfl, .ref u, .ty "tuple", _, .type "tuple", true, rfl, .ty _, .base (.tup hu), kit_ty (by decide +kernel), true, rfl, iteF ?_⟩
    refine ⟨_, rfl, u, _, rfl, .inr (L2.st_of hu), rfl, false, rfl, iteF ?_⟩
    refine ⟨_, rfl, u, _, rfl, L2.st_of hu, rfl, _, _, rfl, _, _, rfl, rfl, ?_⟩
    refine ⟨_, rfl, _, rfl, t, i, j, rfl, ht, hi, hj, ne, true, rfl, iteT ?_⟩
    exact ⟨_, rfl, .bl an, .ty "bool", _, .type "bool", true, rfl, .ty _, .base (.bl _), kit_ty (by decide +kernel), q⟩
theorem ok_check_log (T : Txt K mg a d) (n : Nat) : FnOk P w K mg base CX0 6 a.check_log d.check_log P_check_log (spCheckLog n) := by
  have G_is_entry : FnOk P w K mg base CX0 5 a.is_entry d.is_entry P_is_entry (spIsEntry n) := ok_is_entry T n
  refine T.f_check_log.ok sc_check_log (fun vs H Q E h => ?_) (fun cdv A outer s0 H vs Q E hr h => ?_)
  · obtain ⟨l, es, rfl, _⟩ := h
    rfl
  · obtain ⟨l, es, rfl, ⟨ts, hl, lts, its⟩, l5, inn, dif, q⟩ := h
    refine ⟨_, (pss_cons (ps_if (PW.pt (pw_or (pt_not (pt_val (pe_callB call_isiT (by rfl) T.z_isinstance (by decide +kernel) (pa_cons (pv 0) (pa_cons (pe_tup (pa_cons (pe_bltn (v := .ty "list") (u := .type "list") (by rfl) T.z_list (by decide +kernel) rfl) (pa_cons (pe_bltn (v := .ty "tuple") (u := .type "tuple") (by rfl) T.z_tuple (by decide +kernel) rfl) pa_nil))) pa_nil))))) (pw_or1 (pt_cmpR op_gt (pe_callB call_len_seq (by rfl) T.z_len PySem.boot_len (pa_cons (pv 0) pa_nil)) (pe_glob (v := .int 5000) rfl T.g_MOST_ENTRIES ⟨_, rfl⟩) (nomark _))))) (pss_one ps_never) pss_nil)
    (pss_one (ps_for PassesOwn.never rfl (pi_enumA (by rfl) T.z_enumerate (pa_cons (pv 0) pa_nil)) (pg_tup rfl (pgs_cons (pg_name (i := 2) sc_check_log.nd rfl (Or.inl rfl)) (pgs_cons (pg_name (i := 3) sc_check_log.nd rfl (Or.inl rfl)) pgs_nil)))
      (pss_one (ps_if (pt_not (pt_val (pe_call G_is_entry (hr.mono (by decide)) (by rfl) T.g_is_entry T.k_is_entry T.b_is_entry .nil pass0 (pa_cons (pv 3) (pa_cons (pv 1) pa_nil))))) (pss_one ps_never) pss_nil))))), ?_⟩
    refine ⟨_, rfl, by show 2 ≤ sizeLine; decide, fun tp htp => ?_⟩
    have s1 : Same H (upd H tp (.tup [.ty "list", .ty "tuple"])) := same_upd htp
    have hT1 : upd H tp (.tup [.ty "list", .ty "tuple"]) tp = some (.tup [.ty "list", .ty "tuple"]) := upd_same
    generalize upd H tp (.tup [.ty "list", .ty "tuple"]) = H1 at s1 hT1 ⊢
    have cs : Paired ClsV [.ty "list", .ty "tuple"] [.type "list", .type "tuple"] := .cons (.ty _) (.cons (.ty _) .nil)
    have hl := hl.imp (s1 _ _) (s1 _ _)
    obtain ⟨ty, hty, hkit⟩ : ∃ t, TyX K H1 (.ref l) t ∧ PySem.W.kitAny K t [.type "list", .type "tuple"] = some true := by
      rcases hl with h | h
      · exact ⟨_, .base (.lst h), kitAny_cons (b := true) (kit_ty (by decide +kernel)) (fun z => nomatch z) (fun _ => rfl)⟩
      · exact ⟨_, .base (.tup h), kitAny_cons (b := false) (kit_ty (by decide +kernel)) (fun _ => kitAny_cons (b := true) (kit_ty (by decide +kernel)) (fun z => nomatch z) (fun _ => rfl)) (fun z => nomatch z)⟩
    refine ⟨.ref l, tp, _, ty, _, true, rfl, hT1, cs, hty, hkit, true, rfl, iteF ?_⟩
    refine ⟨_, rfl, l, ts, rfl, hl.imp L2.sq_of L2.st_of, _, _, rfl, rfl, false, congrArg V.bl (decide_eq_false (by omega)), iteF ?_⟩
    rcases hl with hl | hl
    case inl =>
      refine ⟨_, rfl, l, ts, rfl, .inl ⟨L2.sq_of hl, ?_⟩⟩
      refine for_iteL (K := K) (a := l) (xs := ts) (fun i σ H' => (∃ u2 u3, σ = [some (.ref l), some (.int (n : Int)), u2, u3]) ∧ Same H1 H') ⟨⟨_, _, rfl⟩, .refl _⟩ (fun i σ H' _ h => L2.sq_of (h.2 _ _ hl)) ?_ ?_
      · rintro i y σ H2 Tp hy ⟨⟨u2, u3, rfl⟩, s2⟩ hn1
        have li : i < es.length := by have := (List.getElem?_eq_some_iff.mp hy).1; omega
        have he : es[i]? = some es[i] := List.getElem?_eq_getElem li
        have hin := inn es[i] (List.getElem_mem _)
        have hne := dif es[i] (List.getElem_mem _)
        obtain ⟨t, u, rfl, hu, ht⟩ := its i y es[i] hy he
        have s3 := s2.trans (same_upd (o := .tup [.int (i : Nat), .ref u]) hn1)
        refine ⟨Tp, _, rfl, L2.st_of upd_same, rfl, _, _, rfl, _, _, rfl, rfl, ?_⟩
        generalize upd H2 Tp (.tup [.int (i : Nat), .ref u]) = H3 at s3 ⊢
        exact ⟨_, rfl, _, rfl, .ref u, es[i], rfl, ⟨t, u, rfl, s3 _ _ (s1 _ _ hu), s3 _ _ (s1 _ _ ht)⟩, hin.1, hin.2, hne, true, rfl, iteF ⟨⟨_, _, rfl⟩, s3⟩⟩
      · rintro σ H2 ⟨⟨u2, u3, rfl⟩, s2⟩
        exact q H2 (s1.trans s2)
    case inr =>
      refine ⟨_, rfl, l, ts, rfl, .inr ⟨L2.st_of hl, ?_⟩⟩
      refine for_iteT (K := K) (a := l) (xs := ts) (fun i σ H' => (∃ u2 u3, σ = [some (.ref l), some (.int (n : Int)), u2, u3]) ∧ Same H1 H') ⟨⟨_, _, rfl⟩, .refl _⟩ (fun i σ H' _ h => L2.st_of (h.2 _ _ hl)) ?_ ?_
      · rintro i y σ H2 Tp hy ⟨⟨u2, u3, rfl⟩, s2⟩ hn1
        have li : i < es.length := by have := (List.getElem?_eq_some_iff.mp hy).1; omega
        have he : es[i]? = some es[i] := List.getElem?_eq_getElem li
        have hin := inn es[i] (List.getElem_mem _)
        have hne := dif es[i] (List.getElem_mem _)
        obtain ⟨t, u, rfl, hu, ht⟩ := its i y es[i] hy he
        have s3 := s2.trans (same_upd (o := .tup [.int (i : Nat), .ref u]) hn1)
        refine ⟨Tp, _, rfl, L2.st_of upd_same, rfl, _, _, rfl, _, _, rfl, rfl, ?_⟩
        generalize upd H2 Tp (.tup [.int (i : Nat), .ref u]) = H3 at s3 ⊢
        exact ⟨_, rfl, _, rfl, .ref u, es[i], rfl, ⟨t, u, rfl, s3 _ _ (s1 _ _ hu), s3 _ _ (s1 _ _ ht)⟩, hin.1, hin.2, hne, true, rfl, iteF ⟨⟨_, _, rfl⟩, s3⟩⟩
      · rintro σ H2 ⟨⟨u2, u3, rfl⟩, s2⟩
        exact q H2 (s1.trans s2)
end

end K80

namespace K80
open PySem PySem.Spec PyProof.Rows L2 



theorem LogR.same {H H' : Hp} {l : Addr} {es : List Rel.Ent} (h : LogR H l es) (s : Same H H') : LogR H' l es := by
  obtain ⟨ts, hl, lts, its⟩ := h
  refine ⟨ts, hl.imp (s _ _) (s _ _), lts, fun k v e a b => ?_⟩
  obtain ⟨t, u, ev, hu, ht⟩ := its k v e a b
  exact ⟨t, u, ev, s _ _ hu, s _ _ ht⟩
def LogOk (H : Hp) (l : Addr) (n : Nat) (es : List Rel.Ent) : Prop := LogR H l es ∧ es.length ≤ 5000 ∧ Rel.InN n es ∧ ∀ e ∈ es, e.1.1 ≠ e.1.2
theorem LogOk.same {H H' : Hp} {l : Addr} {n : Nat} {es : List Rel.Ent} (h : LogOk H l n es) (s : Same H H') : LogOk H' l n es := ⟨h.1.same s, h.2⟩
theorem LogR.some {H : Hp} {l : Addr} {es : List Rel.Ent} (h : LogR H l es) : H l ≠ none := fun z => by
  obtain ⟨ts, hl, _⟩ := h
  rcases hl with hl | hl <;> rw [z] at hl <;> cases hl
def spCML : Sp := fun vs H Q _ => ∃ (l : Addr) (n : Nat) (es : List Rel.Ent), vs = [.int (n : Int), .ref l] ∧ n ≤ 40 ∧ LogOk H l n es ∧ ∀ H', Same H H' → Q .non H'
def spHonest (C : Addr) : Sp := fun vs H Q _ => ∃ (l : Addr) (n : Nat) (es : List Rel.Ent), vs = [.int (n : Int), .ref l] ∧ n ≤ 40 ∧ LogOk H l n es ∧ Rel.lie (Rel.init n) es 0 = none ∧ ∀ (x b s : Addr) (H' : Hp), RelAt C H' x b s n (Rel.run (Rel.init n) es) → Same H H' → Q (.ref x) H'
def spF : Sp := fun vs H Q _ => ∃ (l t : Addr) (n i j : Nat) (es : List Rel.Ent), vs = [.int (n : Int), .ref l, .ref t] ∧ n ≤ 40 ∧ LogOk H l n es ∧ Rel.lie (Rel.init n) es 0 = none ∧ H t = some (.tup [.int (i : Int), .int (j : Int)]) ∧ i < n ∧ j < n ∧ i ≠ j ∧ ∀ H', Same H H' → Q (optB (Rel.fol (Rel.run (Rel.init n) es) (i, j))) H'
section
variable {P : Program} {w : World} {K : PySem.W.Frag} {mg : Str → Option Value} {base : Heap} {a : Ad} {d : Fd}
theorem ok_cml (T : Txt K mg a d) : FnOk P w K mg base CX0 7 a.check_many_and_log d.check_many_and_log P_check_many_and_log spCML := by
  have G_check_number : FnOk P w K mg base CX0 3 a.check_number d.check_number P_check_number spCheckNumber := ok_check_number T
  refine T.f_check_many_and_log.ok sc_check_many_and_log (fun vs H Q E h => ?_) (fun cdv A outer s0 H vs Q E hr h => ?_)
  · obtain ⟨l, n, es, rfl, _⟩ := h
    rfl
  · obtain ⟨l, n, es, rfl, hn, LO, q⟩ := h
    have G_check_log : FnOk P w K mg base CX0 6 a.check_log d.check_log P_check_log (spCheckLog n) := ok_check_log T n
    refine ⟨_, (pss_cons (ps_expr (pe_call G_check_number (hr.mono (by decide)) (by rfl) T.g_check_number T.k_check_number T.b_check_number .nil pass0 (pa_cons pe_str (pa_cons (pv 0) (pa_cons pe_int (pa_cons (pe_glob (v := .int 40) rfl T.g_MOST_ITEMS ⟨_, rfl⟩) pa_nil))))))
    (pss_one (ps_expr (pe_call G_check_log (hr.mono (by decide)) (by rfl) T.g_check_log T.k_check_log T.b_check_log .nil pass0 (pa_cons (pv 1) (pa_cons (pv 0) pa_nil)))))), ?_⟩
    refine ⟨_, rfl, _, n, 0, 40, rfl, by omega, by omega, ?_⟩
    exact ⟨_, rfl, _, rfl, l, es, rfl, LO.1, LO.2.1, LO.2.2.1, LO.2.2.2, fun H' s => q H' s⟩
theorem ok_honest (T : Txt K mg a d) : FnOk P w K mg base CX0 4 a.honest_relations d.honest_relations P_honest_relations (spHonest a.c_Relations) := by
  have G_Relations___init__ : FnOk P w K mg base CX0 1 a.Relations___init__ d.Relations___init__ P_Relations___init__ (spRinit a.c_Relations) := ok_rel_init T
  have G_Relations_first_lie : FnOk P w K mg base CX0 3 a.Relations_first_lie d.Relations_first_lie P_Relations_first_lie (spRlie a.c_Relations) := ok_rel_lie T
  refine T.f_honest_relations.ok sc_honest_relations (fun vs H Q E h => ?_) (fun cdv A outer s0 H vs Q E hr h => ?_)
  · obtain ⟨l, n, es, rfl, _⟩ := h
    rfl
  · obtain ⟨l, n, es, rfl, hn, LO, hlie, q⟩ := h
    refine ⟨_, (pss_cons (ps_set (i := 2) sc_honest_relations.nd rfl (Or.inl rfl) (pe_make T.mk_Relations G_Relations___init__ (hr.mono (by decide)) (by rfl) T.g_Relations T.b_Relations___init__ .nil pass0 (pa_cons (pv 0) pa_nil)))
    (pss_cons (ps_if (pt_cmpR op_notN (pe_meth (pv 2) T.cl_Relations T.m_Relations_first_lie G_Relations_first_lie (hr.mono (by decide)) T.b_Relations_first_lie .nil pass0 (pa_cons (pv 1) pa_nil)) pe_non (nomark _)) (pss_one ps_never) pss_nil)
    (pss_one (ps_ret (pv 2))))), ?_⟩
    refine ⟨_, rfl, ?_⟩
    intro x dx hx hdx nxd
    have s1 : Same H (upd (upd H dx (.own x)) x (.ins a.c_Relations dx [])) := (same_upd hdx).trans (same_upd (by rw [upd_ne nxd.symm]; exact hx))
    have hxi : upd (upd H dx (.own x)) x (.ins a.c_Relations dx []) x = some (.ins a.c_Relations dx []) := upd_same
    generalize upd (upd H dx (.own x)) x (.ins a.c_Relations dx []) = H1 at s1 hxi ⊢
    refine ⟨x, dx, n, rfl, hxi, by omega, fun b s H2 hb hs R f => ⟨rfl, ?_⟩⟩
    have hbH := sfree s1 hb
    have hsH := sfree s1 hs
    have s2 : ∀ {H2 H3 : Hp}, Same H H2 → FrR x b s H2 H3 → Same H H3 := fun {H2 H3} s2 f y o e => f y o (fun z => by rw [z, hx] at e; cases e) (fun z => by rw [z, hbH] at e; cases e) (fun z => by rw [z, hsH] at e; cases e) (s2 _ _ e)
    have s12 := s2 s1 f
    have LO2 := LO.same s12
    obtain ⟨_, _, _, ⟨dx2, hx2⟩, _, _⟩ := id R
    have nl : ∀ y, H y = none → l ≠ y := fun y e z => LO.1.some (z ▸ e)
    refine ⟨_, rfl, x, dx2, _, rfl, hx2, rfl, _, rfl, x, b, s, l, n, es, _, rfl, R, by omega, LO2.1, nl b hbH, nl s hsH, LO.2.1, LO.2.2.1, fun H3 R3 f3 => ?_⟩
    have R3 := R3 hlie
    rw [hlie]
    exact ⟨rfl, false, rfl, iteF ⟨_, rfl, q x b s H3 R3 (s2 s12 f3)⟩⟩
theorem ok_F (T : Txt K mg a d) : FnOk P w K mg base CX0 8 a.follows d.follows P_follows spF := by
  have G_check_many_and_log : FnOk P w K mg base CX0 7 a.check_many_and_log d.check_many_and_log P_check_many_and_log spCML := ok_cml T
  have G_honest_relations : FnOk P w K mg base CX0 4 a.honest_relations d.honest_relations P_honest_relations (spHonest a.c_Relations) := ok_honest T
  have G_Relations_follows : FnOk P w K mg base CX0 1 a.Relations_follows d.Relations_follows P_Relations_follows (spRfol a.c_Relations) := ok_rel_follows T
  refine T.f_follows.ok sc_follows (fun vs H Q E h => ?_) (fun cdv A outer s0 H vs Q E hr h => ?_)
  · obtain ⟨l, t, n, i, j, es, rfl, _⟩ := h
    rfl
  · obtain ⟨l, t, n, i, j, es, rfl, hn, LO, hlie, ht, hi, hj, ne, q⟩ := h
    have G_check_question : FnOk P w K mg base CX0 5 a.check_question d.check_question P_check_question (spCheckQ n) := ok_check_question T n
    refine ⟨_, (pss_cons (ps_expr (pe_call G_check_many_and_log (hr.mono (by decide)) (by rfl) T.g_check_many_and_log T.k_check_many_and_log T.b_check_many_and_log .nil pass0 (pa_cons (pv 0) (pa_cons (pv 1) pa_nil))))
    (pss_cons (ps_expr (pe_call G_check_question (hr.mono (by decide)) (by rfl) T.g_check_question T.k_check_question T.b_check_question .nil pass0 (pa_cons (pv 2) (pa_cons (pv 0) pa_nil))))
    (pss_one (ps_ret (pe_meth (pe_call G_honest_relations (hr.mono (by decide)) (by rfl) T.g_honest_relations T.k_honest_relations T.b_honest_relations .nil pass0 (pa_cons (pv 0) (pa_cons (pv 1) pa_nil))) T.cl_Relations T.m_Relations_follows G_Relations_follows (hr.mono (by decide)) T.b_Relations_follows .nil pass0 (pa_cons (pv 2) pa_nil)))))), ?_⟩
    refine ⟨_, rfl, _, rfl, l, n, es, rfl, hn, LO, fun H1 s1 => ?_⟩
    refine ⟨_, rfl, _, rfl, t, i, j, rfl, s1 _ _ ht, hi, hj, ne, ?_⟩
    refine ⟨_, rfl, _, rfl, l, n, es, rfl, hn, LO.same s1, hlie, fun x b s H2 R s2 => ?_⟩
    obtain ⟨_, _, _, ⟨dx, hx⟩, _, _⟩ := id R
    exact ⟨x, dx, _, rfl, hx, rfl, _, rfl, x, b, s, t, n, i, j, _, rfl, R, s2 _ _ (s1 _ _ ht), hi, hj, q _ (s1.trans s2)⟩
end

end K80

namespace K80
open PySem PySem.Spec PyProof.Rows L2 



/-- a table: rows by their addresses, each a list of ints -/
def rowV (n : Nat) (f : Nat → Nat) : List V := (List.range n).map fun j => V.int ((f j : Nat) : Int)
structure MatAt (H : Hp) (w : Addr) (n : Nat) (rs : List Addr) (W : Nat → Nat → Nat) : Prop where
  h : H w = some (.lst (rs.map V.ref))
  len : rs.length = n
  nd : rs.Nodup
  nw : w ∉ rs
  row : ∀ (i : Nat) (r : Addr), rs[i]? = some r → H r = some (.lst (rowV n (W i)))
theorem row_len (n : Nat) (f : Nat → Nat) : (rowV n f).length = n := by unfold rowV; rw [List.length_map, List.length_range]
theorem rowV_get {n j : Nat} (f : Nat → Nat) (h : j < n) : (rowV n f)[j]? = some (.int ((f j : Nat) : Int)) := by
  unfold rowV
  rw [List.getElem?_map, List.getElem?_range h]
  rfl
theorem rowV_ix {n j : Nat} (f : Nat → Nat) (h : j < n) : atI (rowV n f) (j : Int) = some (.int ((f j : Nat) : Int)) := atI_nat (rowV_get f h)
theorem MatAt.ix {H : Hp} {w : Addr} {n i : Nat} {rs : List Addr} {W : Nat → Nat → Nat} {r : Addr} (M : MatAt H w n rs W) (h : rs[i]? = some r) : atI (rs.map V.ref) (i : Int) = some (.ref r) := atI_nat (by rw [List.getElem?_map, h]; rfl)
theorem MatAt.has {H : Hp} {w : Addr} {n i : Nat} {rs : List Addr} {W : Nat → Nat → Nat} (M : MatAt H w n rs W) (h : i < n) : ∃ r, rs[i]? = some r := ⟨_, List.getElem?_eq_getElem (by rw [M.len]; exact h)⟩
theorem MatAt.same {H H' : Hp} {w : Addr} {n : Nat} {rs : List Addr} {W : Nat → Nat → Nat} (M : MatAt H w n rs W) (s : Same H H') : MatAt H' w n rs W := ⟨s _ _ M.h, M.len, M.nd, M.nw, fun i r e => s _ _ (M.row i r e)⟩
theorem MatAt.congr {H : Hp} {w : Addr} {n : Nat} {rs : List Addr} {W W' : Nat → Nat → Nat} (M : MatAt H w n rs W) (e : ∀ i j, i < n → j < n → W i j = W' i j) : MatAt H w n rs W' :=
  ⟨M.h, M.len, M.nd, M.nw, fun i r h => by
    have hi : i < n := by rw [← M.len]; exact (List.getElem?_eq_some_iff.mp h).1
    rw [M.row i r h]
    unfold rowV
    refine congrArg (fun z => some (HO.lst z)) (List.map_congr_left fun j hj => ?_)
    rw [e i j hi (List.mem_range.mp hj)]⟩
theorem MatAt.put {H : Hp} {w : Addr} {n i j v : Nat} {rs : List Addr} {W W' : Nat → Nat → Nat} {r : Addr} (M : MatAt H w n rs W) (hr : rs[i]? = some r) (hj : j < n) (e : ∀ a b, W' a b = if a = i ∧ b = j then v else W a b) : MatAt (upd H r (.lst ((rowV n (W i)).set j (.int (v : Int))))) w n rs W' := by
  have mr := List.mem_of_getElem? hr
  refine ⟨by rw [upd_ne (fun z => M.nw (by rw [z]; exact mr))]; exact M.h, M.len, M.nd, M.nw, fun k q hk => ?_⟩
  by_cases c : k = i
  · subst c
    rw [hr] at hk
    obtain rfl := Option.some.inj hk
    rw [upd_same]
    refine congrArg (fun z => some (HO.lst z)) (List.ext_getElem? fun b => ?_)
    rw [List.getElem?_set]
    by_cases d : b < n
    · rw [rowV_get (W' k) d, e]
      by_cases f : j = b
      · subst f
        rw [if_pos rfl, if_pos (by rw [row_len]; exact hj), if_pos ⟨rfl, rfl⟩]
      · rw [if_neg f, rowV_get _ d, if_neg (fun z => f z.2.symm)]
    · rw [if_neg (by omega), List.getElem?_eq_none (by rw [row_len]; omega), List.getElem?_eq_none (by rw [row_len]; omega)]
  · have ne : q ≠ r := fun z => by
      subst z
      exact c ((List.getElem?_inj (List.getElem?_eq_some_iff.mp hk).1 M.nd).mp (hk.trans hr.symm))
    rw [upd_ne ne, M.row k q hk]
    unfold rowV
    refine congrArg (fun z => some (HO.lst z)) (List.map_congr_left fun b _ => ?_)
    rw [e, if_neg (fun z => c z.1)]
theorem same_put {H H' : Hp} {r : Addr} {o : HO} (s : Same H H') (h : H r = none) : Same H (upd H' r o) := fun q x e => by rw [upd_ne (ne_of_none e h)]; exact s q x e
theorem w0_int {n i j : Nat} (hi : i < n) : (if decide (V.int (0 + (i : Int)) = V.int (0 + (j : Int))) = true then (1 : Int) else 0) = ((Rel.W0 n i j : Nat) : Int) := by
  unfold Rel.W0
  by_cases c : i = j
  · subst c
    rw [decide_eq_true rfl, if_pos rfl, if_pos ⟨hi, rfl⟩]
    rfl
  · rw [decide_eq_false (fun z => c (by have := V.int.inj z; omega)), if_neg (by decide), if_neg (fun z => c z.2)]
    rfl
theorem ix_row {n j : Nat} {f : Nat → Nat} (h : j < n) : ixN (rowV n f).length (j : Int) = some j := by
  unfold ixN
  rw [if_pos (Int.natCast_nonneg _), if_pos (by rw [row_len]; exact Int.ofNat_lt.mpr h), Int.toNat_natCast]
theorem max_int (i j : Nat) : (if ((1 : Int) + (j : Int)) > (i : Int) then ((1 : Int) + (j : Int)) else (i : Int)) = ((max i (1 + j) : Nat) : Int) := by
  split <;> omega
theorem max3_int (i j k : Nat) : max (i : Int) (max (j : Int) (k : Int)) = ((max i (max j k) : Nat) : Int) := by omega
def LogL (H : Hp) (l : Addr) (es : List Rel.Ent) : Prop := ∃ ts : List V, H l = some (.lst ts) ∧ ts.length = es.length ∧ ∀ (k : Nat) (v : V) (e : Rel.Ent), ts[k]? = some v → es[k]? = some e → EntA H v e
theorem LogL.row {H : Hp} {l : Addr} {es : List Rel.Ent} (h : LogL H l es) : LogR H l es := let ⟨ts, a, b, c⟩ := h; ⟨ts, .inl a, b, c⟩
theorem LogL.same {H H' : Hp} {l : Addr} {es : List Rel.Ent} (h : LogL H l es) (s : Same H H') : LogL H' l es := by
  obtain ⟨ts, hl, lts, its⟩ := h
  refine ⟨ts, s _ _ hl, lts, fun k v e a b => ?_⟩
  obtain ⟨t, u, ev, hu, ht⟩ := its k v e a b
  exact ⟨t, u, ev, s _ _ hu, s _ _ ht⟩
def spKnown : Sp := fun vs H Q _ => ∃ (l : Addr) (n : Nat) (es : List Rel.Ent), vs = [.int (n : Int), .ref l] ∧ n ≤ 40 ∧ LogL H l es ∧ Rel.InN n es ∧ Rel.lie (Rel.init n) es 0 = none ∧ ∀ (w : Addr) (rs : List Addr) (H' : Hp), Same H H' → H w = none → (∀ r ∈ rs, H r = none) → MatAt H' w n rs (Rel.val (Rel.run (Rel.init n) es)) → Q (.ref w) H'
section
variable {P : Program} {w : World} {K : PySem.W.Frag} {mg : Str → Option Value} {base : Heap} {a : Ad} {d : Fd}
theorem ok_known (T : Txt K mg a d) : FnOk P w K mg base CX0 1 a.known d.known P_known spKnown := by
  refine T.f_known.ok sc_known (fun vs H Q E h => ?_) (fun cdv A outer s0 H vs Q E hr h => ?_)
  · obtain ⟨l, n, es, rfl, _⟩ := h
    rfl
  · obtain ⟨l, n, es, rfl, hn, ⟨ts, hl, lts, its⟩, inn, hlie, q⟩ := h
    refine ⟨_, (pss_cons (ps_setLc (i := 2) (own := [("one", 4)]) (g := gName 4) (tt := tYes) rfl sc_known.nd rfl rfl (sw_true rfl rfl rfl (by decide +kernel)) (pi_range1 (by rfl) T.z_range (pa_cons (pv 0) pa_nil)) (blkOk_by (N := N_known) (sc := defScope s_known) (by decide +kernel)) (fun _ _ _ _ _ => pg_name (i := 4) sc_known.nd rfl (Or.inr rfl)) (fun _ _ _ _ _ => pts_nil) (fun _ _ _ _ _ => (pe_lc (own := [("other", 3)]) (g := gName 3) (tt := tYes) rfl sc_known.nd (pi_range1 (by rfl) T.z_range (pa_cons (pv 0) pa_nil)) (blkOk_by (by kernel_rfl)) (fun _ _ _ _ _ => pg_name (i := 3) sc_known.nd rfl (Or.inl rfl)) (fun _ _ _ _ _ => pts_nil) (fun _ _ _ _ _ => (pe_callTy call_int1 (by rfl) T.z_int (by decide +kernel) (pa_cons (pe_cmpR op_eq (pv 4) (pv 3) (nomark _)) pa_nil))))))
    (pss_cons (ps_for PassesOwn.never rfl (pi_list (pv 1)) (pg_tup rfl (pgs_cons (pg_tup rfl (pgs_cons (pg_name (i := 4) sc_known.nd rfl (Or.inl rfl)) (pgs_cons (pg_name (i := 3) sc_known.nd rfl (Or.inl rfl)) pgs_nil))) (pgs_cons (pg_name (i := 5) sc_known.nd rfl (Or.inl rfl)) pgs_nil)))
      (pss_cons (ps_asg (pe_ifExp (pt_val (pv 5)) (pe_tup (pa_cons (pv 4) (pa_cons (pv 3) pa_nil))) (pe_tup (pa_cons (pv 3) (pa_cons (pv 4) pa_nil)))) (pg_tup rfl (pgs_cons (pg_name (i := 6) sc_known.nd rfl (Or.inl rfl)) (pgs_cons (pg_name (i := 7) sc_known.nd rfl (Or.inl rfl)) pgs_nil))))
        (pss_one (ps_asg (pe_callB (call_max2 rfl) (by rfl) T.z_max (by decide +kernel) (pa_cons (pe_ix ix_list (pe_ix ix_list (pv 2) (pv 6) (fun _ _ => rfl)) (pv 7) (fun _ _ => rfl)) (pa_cons (pe_op op_add pe_int (pe_callTy call_int1 (by rfl) T.z_int (by decide +kernel) (pa_cons (pv 5) pa_nil))) pa_nil))) (pg_sub (pe_ix ix_list (pv 2) (pv 6) (fun _ _ => rfl)) (pv 7) set_list)))))
    (pss_cons (ps_for PassesOwn.never rfl (pi_range1 (by rfl) T.z_range (pa_cons (pv 0) pa_nil)) (pg_name (i := 8) sc_known.nd rfl (Or.inr rfl))
      (pss_one (ps_for PassesOwn.never rfl (pi_list (pe_lc (own := [("line", 10)]) (g := gName 10)  rfl sc_known.nd (pi_list (pv 2)) (blkOk_by (N := N_known) (sc := defScope s_known) (by decide +kernel)) (fun _ _ _ _ _ => pg_name (i := 10) sc_known.nd rfl (Or.inl rfl)) (fun _ _ _ _ _ => (pts_one (pt_cmpR op_gt (pe_ix (show IxR _ (rIxL K) from ix_list) (pv 10) (pv 8) (fun _ _ => rfl)) pe_int (nomark _)))) (fun _ _ _ _ _ => (pv 10)))) (pg_name (i := 9) sc_known.nd rfl (Or.inl rfl))
          (pss_one (ps_for PassesOwn.never rfl (pi_range1 (by rfl) T.z_range (pa_cons (pv 0) pa_nil)) (pg_name (i := 3) sc_known.nd rfl (Or.inl rfl))
              (pss_one (ps_if (pt_cmpR op_gt (pe_ix ix_list (pe_ix ix_list (pv 2) (pv 8) (fun _ _ => rfl)) (pv 3) (fun _ _ => rfl)) pe_int (nomark _)) (pss_one (ps_asg (pe_callB (call_max3 rfl) (by rfl) T.z_max (by decide +kernel) (pa_cons (pe_ix ix_list (pv 9) (pv 3) (fun _ _ => rfl)) (pa_cons (pe_ix ix_list (pv 9) (pv 8) (fun _ _ => rfl)) (pa_cons (pe_ix ix_list (pe_ix ix_list (pv 2) (pv 8) (fun _ _ => rfl)) (pv 3) (fun _ _ => rfl)) pa_nil)))) (pg_sub (pv 9) (pv 3) set_list))) pss_nil)))))))
    (pss_one (ps_ret (pv 2)))))), ?_⟩
    refine ⟨_, rfl, (n : Int), rfl, by omega, by omega, fun D hD => ?_⟩
    rw [Int.toNat_natCast]
    refine lc_range (lo := 0) (n := n) (fun i H' => ∃ rs : List Addr, Same H H' ∧ H' D = some (.lst (rs.map V.ref)) ∧ rs.length = i ∧ rs.Nodup ∧ (∀ r ∈ rs, H r = none ∧ r ≠ D) ∧ ∀ (k : Nat) (r : Addr), rs[k]? = some r → H' r = some (.lst (rowV n (Rel.W0 n k)))) ⟨[], same_upd hD, upd_same, rfl, List.nodup_nil, (by intro r h; cases h), (by intro k r h; cases h)⟩ ?_ ?_
    · rintro i H1 hi ⟨rs, s1, h1, lr, nd, fr, row⟩
      refine ⟨rfl, _, rfl, (n : Int), rfl, by omega, by omega, fun D2 hD2 => ?_⟩
      rw [Int.toNat_natCast]
      refine lc_range (lo := 0) (n := n) (fun j H' => Same H1 H' ∧ H' D2 = some (.lst ((List.range j).map fun j => V.int ((Rel.W0 n i j : Nat) : Int)))) ⟨same_upd hD2, upd_same⟩ ?_ ?_
      · rintro j H2 hj ⟨s2, h2⟩
        refine ⟨rfl, _, rfl, _, rfl, rfl, .inr ⟨_, rfl, _, h2, ?_, same_put s2 hD2, ?_⟩⟩
        · rw [List.length_map, List.length_range]
          exact Nat.lt_of_le_of_lt (by omega : j ≤ 40) (by decide)
        · rw [upd_same, List.range_succ, List.map_append]
          exact congrArg (fun z => some (HO.lst (_ ++ [V.int z]))) (w0_int hi)
      · rintro H2 ⟨s2, h2⟩
        have h1' := s2 _ _ h1
        have nDD : D2 ≠ D := fun z => by rw [z, h1] at hD2; cases hD2
        have nD2 : D2 ∉ rs := fun z => by
          obtain ⟨k, hk⟩ := List.getElem?_of_mem z
          rw [row k _ hk] at hD2
          cases hD2
        refine ⟨_, h1', by rw [List.length_map, lr]; exact Nat.lt_of_le_of_lt (by omega : i ≤ 40) (by decide), rs ++ [D2], same_put (s1.trans s2) hD, by rw [upd_same, List.map_append]; rfl, by rw [List.length_append, lr]; rfl, ?_, fun r hr => ?_, fun k r hk => ?_⟩
        · rw [List.nodup_append]
          refine ⟨nd, List.pairwise_singleton .., fun x hx y hy z => ?_⟩
          rw [List.mem_singleton.mp hy] at z
          exact nD2 (z ▸ hx)
        · rcases List.mem_append.mp hr with hr | hr
          · exact fr r hr
          · rw [List.mem_singleton.mp hr]
            exact ⟨sfree s1 hD2, nDD⟩
        · rw [List.getElem?_append] at hk
          by_cases c : k < rs.length
          · rw [if_pos c] at hk
            rw [upd_ne (fr r (List.mem_of_getElem? hk)).2]
            exact s2 _ _ (row k r hk)
          · rw [if_neg c] at hk
            have : k - rs.length = 0 := by
              rcases Nat.eq_zero_or_pos (k - rs.length) with z | z
              · exact z
              · rw [List.getElem?_eq_none (by rw [List.length_singleton]; exact z)] at hk
                cases hk
            have ek : k = i := by omega
            subst ek
            rw [this] at hk
            obtain rfl := Option.some.inj hk
            rw [upd_ne nDD]
            exact h2
    · rintro H1 ⟨rs, s1, h1, lr, nd, fr, row⟩
      have M0 : MatAt H1 D n rs (Rel.W0 n) := ⟨h1, lr, nd, fun z => (fr D z).2 rfl, row⟩
      have frH : ∀ {i : Nat} {r : Addr}, rs[i]? = some r → H r = none := fun h => (fr _ (List.mem_of_getElem? h)).1
      clear row h1 nd
      refine ⟨_, rfl, l, rfl, ⟨_, L2.sq_of (s1 _ _ hl)⟩, ?_⟩
      refine for_list (K := K) (a := l) (xs := ts) (fun k σ H' => (∃ u3 u4 u5 u6 u7 u8 u9 u10, σ = [some (.int (n : Int)), some (.ref l), some (.ref D), u3, u4, u5, u6, u7, u8, u9, u10]) ∧ Same H H' ∧ MatAt H' D n rs ((es.take k).foldl Rel.ent (Rel.W0 n))) ⟨⟨_, _, _, _, _, _, _, _, rfl⟩, s1, M0⟩ (fun k σ H' _ h => L2.sq_of (h.2.1 _ _ hl)) ?_ ?_
      · rintro k y σ H2 hy ⟨⟨u3, u4, u5, u6, u7, u8, u9, u10, rfl⟩, s2, M⟩
        have li : k < es.length := by have := (List.getElem?_eq_some_iff.mp hy).1; omega
        have he : es[k]? = some es[k] := List.getElem?_eq_getElem li
        have hin := inn es[k] (List.getElem_mem _)
        obtain ⟨t, u, rfl, hu, ht⟩ := its k y es[k] hy he
        have tk : es.take (k + 1) = es.take k ++ [es[k]] := by rw [List.take_add_one, he]; rfl
        rw [tk, List.foldl_append]
        generalize es[k] = e at hin hu ht ⊢
        obtain ⟨⟨o1, o2⟩, an⟩ := e
        generalize (es.take k).foldl Rel.ent (Rel.W0 n) = W at M ⊢
        refine ⟨u, _, rfl, L2.st_of (s2 _ _ hu), rfl, _, _, rfl, t, _, rfl, L2.st_of (s2 _ _ ht), rfl, _, _, rfl, _, _, rfl, rfl, _, _, rfl, rfl, ?_⟩
        refine ⟨_, rfl, an, rfl, ?_⟩
        have fin : ∀ (lo hi' : Nat), lo = Rel.lo ((o1, o2), an) → hi' = Rel.hi ((o1, o2), an) → ∀ i j, Rel.ent W ((o1, o2), an) i j = if i = lo ∧ j = hi' then max (W lo hi') (1 + if an = true then 1 else 0) else W i j := fun lo hi' e1 e2 i j => by
          show (if i = _ ∧ j = _ then _ else _) = _
          rw [← e1, ← e2]
          by_cases c : i = lo ∧ j = hi'
          · rw [if_pos c, if_pos c, c.1, c.2]
          · rw [if_neg c, if_neg c]
        cases an
        case' true =>
          refine iteT ⟨_, rfl, _, rfl, by show 2 ≤ sizeLine; decide, fun p hp => ?_⟩
          have s3 := s2.trans (same_upd (o := .tup [.int (o1 : Int), .int (o2 : Int)]) hp)
          have M3 := M.same (same_upd (o := .tup [.int (o1 : Int), .int (o2 : Int)]) hp)
          refine ⟨p, _, rfl, L2.st_of upd_same, rfl, _, _, rfl, _, _, rfl, rfl, ?_⟩
          have fn := fin o1 o2 rfl rfl
          have g1 : o1 < n ∧ o2 < n := hin
          generalize upd H2 p (.tup [.int (o1 : Int), .int (o2 : Int)]) = H3 at s3 M3 ⊢
          have ev : (if true = true then (1 : Int) else 0) = ((if true = true then 1 else 0 : Nat) : Int) := rfl
          generalize true = an at fn ev ⊢
        case' false =>
          refine iteF ⟨_, rfl, _, rfl, by show 2 ≤ sizeLine; decide, fun p hp => ?_⟩
          have s3 := s2.trans (same_upd (o := .tup [.int (o2 : Int), .int (o1 : Int)]) hp)
          have M3 := M.same (same_upd (o := .tup [.int (o2 : Int), .int (o1 : Int)]) hp)
          refine ⟨p, _, rfl, L2.st_of upd_same, rfl, _, _, rfl, _, _, rfl, rfl, ?_⟩
          have fn := fin o2 o1 rfl rfl
          have g1 : o2 < n ∧ o1 < n := ⟨hin.2, hin.1⟩
          generalize upd H2 p (.tup [.int (o2 : Int), .int (o1 : Int)]) = H3 at s3 M3 ⊢
          have ev : (if false = true then (1 : Int) else 0) = ((if false = true then 1 else 0 : Nat) : Int) := rfl
          generalize false = an at fn ev ⊢
          generalize o2 = lo at fn g1 ⊢
          generalize o1 = hi' at fn g1 ⊢
        all_goals
          obtain ⟨gl, gh⟩ := g1
          obtain ⟨r, hr⟩ := M3.has gl
          have hrow := M3.row _ r hr
          refine ⟨_, rfl, _, rfl, D, _, _, _, rfl, rfl, L2.sq_of M3.h, M3.ix hr, _, rfl, r, _, _, _, rfl, rfl, L2.sq_of hrow, rowV_ix _ gh, _, rfl, .inr ⟨_, rfl, _, _, rfl, rfl, _, _, rfl, ?_⟩⟩
          refine ⟨_, rfl, _, rfl, D, _, _, _, rfl, rfl, L2.sq_of M3.h, M3.ix hr, _, rfl, r, _, _, _, rfl, rfl, hrow, ix_row gh, ?_⟩
          refine ⟨⟨_, _, _, _, _, _, _, _, rfl⟩, same_put s3 (frH hr), ?_⟩
          rw [ev, max_int]
          exact M3.put hr gh fn
      · rintro σ H2 ⟨⟨u3, u4, u5, u6, u7, u8, u9, u10, rfl⟩, s2, M⟩
        rw [lts, List.take_length] at M
        have M : MatAt H2 D n rs (Rel.tab n es) := M
        refine ⟨_, rfl, (n : Int), rfl, by omega, by omega, ?_⟩
        rw [Int.toNat_natCast]
        refine for_range (lo := 0) (n := n) (fun m σ H' => (∃ u3 u4 u5 u6 u7 u8 u9 u10, σ = [some (.int (n : Int)), some (.ref l), some (.ref D), u3, u4, u5, u6, u7, u8, u9, u10]) ∧ Same H H' ∧ MatAt H' D n rs (Rel.war (Rel.tab n es) m)) ⟨⟨_, _, _, _, _, _, _, _, rfl⟩, s2, M⟩ ?_ ?_
        · rintro m σ H3 hm ⟨⟨u3, u4, u5, u6, u7, u8, u9, u10, rfl⟩, s3, M3⟩
          have one := Rel.tab_one inn hlie m m
          rw [show Rel.war (Rel.tab n es) (m + 1) = Rel.wstep m (Rel.war (Rel.tab n es) m) from rfl]
          generalize Rel.war (Rel.tab n es) m = W at M3 one ⊢
          obtain ⟨rm, hrm⟩ := M3.has hm
          refine ⟨_, rfl, D, rfl, ⟨_, L2.sq_of M3.h⟩, fun B hB => ?_⟩
          refine lc_list (K := K) (a := D) (xs := rs.map V.ref) (fun i H' => Same H3 H' ∧ H' B = some (.lst (((List.range i).filter fun k => decide (0 < W k m)).map fun k => V.ref (rs.getD k D)))) ⟨same_upd hB, upd_same⟩ (fun i H' _ h => L2.sq_of (h.1 _ _ M3.h)) ?_ ?_
          · rintro i y H4 hy ⟨s4, h4⟩
            rw [List.getElem?_map] at hy
            obtain ⟨r, hr⟩ : ∃ r, rs[i]? = some r := by
              cases e : rs[i]? with
              | none => rw [e] at hy; cases hy
              | some r => exact ⟨r, rfl⟩
            rw [hr] at hy
            obtain rfl := Option.some.inj hy
            have hrow := s4 _ _ (M3.row i r hr)
            have er : rs.getD i D = r := by rw [List.getD_eq_getElem?_getD, hr]; rfl
            have li : i < n := by rw [← M3.len]; exact (List.getElem?_eq_some_iff.mp hr).1
            refine ⟨rfl, _, rfl, _, rfl, r, _, (m : Int), _, rfl, congrArg V.int (Int.zero_add _), L2.sq_of hrow, rowV_ix _ hm, _, _, rfl, rfl, _, rfl, ?_⟩
            dsimp only
            by_cases c : 0 < W i m
            · rw [if_pos (decide_eq_true (by omega))]
              refine ⟨_, rfl, _, h4, ?_, same_put s4 hB, ?_⟩
              · rw [List.length_map]
                have := List.length_filter_le (fun k => decide (0 < W k m)) (List.range i)
                rw [List.length_range] at this
                exact Nat.lt_of_le_of_lt (by omega : _ ≤ 40) (by decide)
              · rw [upd_same, List.range_succ, List.filter_append, List.map_append, List.filter_cons_of_pos (by exact decide_eq_true c), List.filter_nil, List.map_cons, List.map_nil, er]
            · rw [if_neg (fun z => c (by have := of_decide_eq_true z; omega))]
              refine ⟨s4, ?_⟩
              rw [List.range_succ, List.filter_append, List.filter_cons_of_neg (by exact fun z => c (of_decide_eq_true z)), List.filter_nil, List.append_nil]
              exact h4
          · rintro H4 ⟨s4, h4⟩
            rw [List.length_map, M3.len] at h4
            have M4 := M3.same s4
            have nBr : ∀ {i : Nat} {r : Addr}, rs[i]? = some r → B ≠ r := fun h z => by rw [z, M3.row _ _ h] at hB; cases hB
            have s04 := s3.trans s4
            have Flt : ∀ k ∈ (List.range n).filter (fun k => decide (0 < W k m)), k < n ∧ 0 < W k m := fun k hk => ⟨List.mem_range.mp (List.mem_filter.mp hk).1, of_decide_eq_true (List.mem_filter.mp hk).2⟩
            have Fnd : ((List.range n).filter (fun k => decide (0 < W k m))).Nodup := List.nodup_range.filter _
            have Fend : ∀ a j, a < n → j < n → Rel.rowsDone m W ((List.range n).filter fun k => decide (0 < W k m)) a j = Rel.wstep m W a j := fun a j ha _ => Rel.rows_end a j ha
            generalize (List.range n).filter (fun k => decide (0 < W k m)) = F at h4 Flt Fnd Fend ⊢
            refine ⟨B, rfl, ⟨_, L2.sq_of h4⟩, ?_⟩
            refine for_list (K := K) (a := B) (xs := F.map fun k => V.ref (rs.getD k D)) (fun k σ H' => (∃ u3 u4 u5 u6 u7 u9 u10, σ = [some (.int (n : Int)), some (.ref l), some (.ref D), u3, u4, u5, u6, u7, some (.int (m : Int)), u9, u10]) ∧ Same H H' ∧ H' B = some (.lst (F.map fun k => V.ref (rs.getD k D))) ∧ MatAt H' D n rs (Rel.rowsDone m W (F.take k))) ⟨⟨_, _, _, _, _, _, _, by rw [show (0 + (m : Int)) = m by omega]; rfl⟩, s04, h4, M4.congr fun i j _ _ => by unfold Rel.rowsDone; rw [List.take_zero, if_neg (by simp)]⟩ (fun k σ H' _ h => L2.sq_of h.2.2.1) ?_ ?_
            · rintro k y σ H5 hy ⟨⟨u3, u4, u5, u6, u7, u9, u10, rfl⟩, s5, h5, M5⟩
              rw [List.getElem?_map] at hy
              obtain ⟨i, hi⟩ : ∃ i, F[k]? = some i := by
                cases e : F[k]? with
                | none => rw [e] at hy; cases hy
                | some r => exact ⟨r, rfl⟩
              rw [hi] at hy
              obtain ⟨li, pi⟩ := Flt i (List.mem_of_getElem? hi)
              have ni : i ∉ F.take k := fun z => by
                obtain ⟨b, hb⟩ := List.getElem?_of_mem z
                rw [List.getElem?_take] at hb
                by_cases c : b < k
                · rw [if_pos c] at hb
                  have := (List.getElem?_inj (List.getElem?_eq_some_iff.mp hb).1 Fnd).mp (hb.trans hi.symm)
                  omega
                · rw [if_neg c] at hb
                  cases hb
              obtain ⟨r, hr⟩ := M5.has li
              have er : rs.getD i D = r := by rw [List.getD_eq_getElem?_getD, hr]; rfl
              have tk : F.take (k + 1) = F.take k ++ [i] := by rw [List.take_add_one, hi]; rfl
              have ey : y = .ref r := by
                rw [← Option.some.inj hy]
                show V.ref (rs.getD i D) = _
                rw [er]
              subst ey
              rw [tk]
              generalize F.take k = S at ni M5 ⊢
              refine ⟨_, rfl, (n : Int), rfl, by omega, by omega, ?_⟩
              rw [Int.toNat_natCast]
              refine for_range (lo := 0) (n := n) (fun c σ H' => (∃ u3 u4 u5 u6 u7 u10, σ = [some (.int (n : Int)), some (.ref l), some (.ref D), u3, u4, u5, u6, u7, some (.int (m : Int)), some (.ref r), u10]) ∧ Same H H' ∧ H' B = some (.lst (F.map fun k => V.ref (rs.getD k D))) ∧ MatAt H' D n rs (Rel.cells m W S i c)) ⟨⟨_, _, _, _, _, _, rfl⟩, s5, h5, M5.congr fun a j _ _ => by unfold Rel.cells; rw [if_neg (fun z => absurd z.2 (Nat.not_lt_zero _))]⟩ ?_ ?_
              · rintro c σ H6 hc ⟨⟨u3, u4, u5, u6, u7, u10, rfl⟩, s6, h6, M6⟩
                have hrm6 := M6.row m rm hrm
                have hr6 := M6.row i r hr
                refine ⟨_, rfl, _, rfl, D, _, _, _, rfl, rfl, L2.sq_of M6.h, M6.ix hrm, _, rfl, rm, _, (c : Int), _, rfl, congrArg V.int (Int.zero_add _), L2.sq_of hrm6, rowV_ix _ hc, _, _, rfl, rfl, _, rfl, ?_⟩
                dsimp only
                have st := Rel.cells_step (m := m) (W := W) (S := S) (i := i) c
                refine ite2 (fun z => ?_) (fun z => ?_)
                · rw [Rel.cells_mid one] at z
                  have z : 0 < W m c := by have := of_decide_eq_true z; omega
                  refine ⟨_, rfl, _, rfl, r, _, (c : Int), _, rfl, congrArg V.int (Int.zero_add _), L2.sq_of hr6, rowV_ix _ hc, _, rfl, _, rfl, r, _, _, _, rfl, rfl, L2.sq_of hr6, rowV_ix _ hm, ?_⟩
                  refine ⟨_, rfl, _, rfl, D, _, _, _, rfl, rfl, L2.sq_of M6.h, M6.ix hrm, _, rfl, rm, _, (c : Int), _, rfl, congrArg V.int (Int.zero_add _), L2.sq_of hrm6, rowV_ix _ hc, _, _, _, rfl, ?_⟩
                  rw [Rel.cells_mid one, Rel.cells_at ni, Rel.cells_m one ni, max3_int]
                  refine ⟨_, rfl, _, rfl, r, _, (c : Int), _, rfl, congrArg V.int (Int.zero_add _), hr6, ix_row hc, ?_⟩
                  refine ⟨⟨_, _, _, _, _, _, rfl⟩, same_put s6 (frH hr), by rw [upd_ne (nBr hr)]; exact h6, ?_⟩
                  refine M6.put hr hc fun a b => ?_
                  rw [st, Rel.wstep_pos' pi z]
                · rw [Rel.cells_mid one] at z
                  have z : ¬ 0 < W m c := fun y => z (decide_eq_true (by omega))
                  refine ⟨⟨_, _, _, _, _, _, rfl⟩, s6, h6, M6.congr fun a b _ _ => ?_⟩
                  rw [st]
                  by_cases y : a = i ∧ b = c
                  · rw [if_pos y, y.1, y.2, Rel.cells_at ni, Rel.wstep_zero z]
                  · rw [if_neg y]
              · rintro σ H6 ⟨⟨u3, u4, u5, u6, u7, u10, rfl⟩, s6, h6, M6⟩
                exact ⟨⟨_, _, _, _, _, _, _, rfl⟩, s6, h6, M6.congr fun a b _ hb => Rel.cells_end a b hb⟩
            · rintro σ H5 ⟨⟨u3, u4, u5, u6, u7, u9, u10, rfl⟩, s5, h5, M5⟩
              rw [List.length_map, List.take_length] at M5
              exact ⟨⟨_, _, _, _, _, _, _, _, rfl⟩, s5, M5.congr Fend⟩
        · rintro σ H3 ⟨⟨u3, u4, u5, u6, u7, u8, u9, u10, rfl⟩, s3, M3⟩
          exact ⟨_, rfl, q D rs H3 s3 hD (fun r hr => (fr r hr).1) (M3.congr fun i j _ _ => Rel.tab_war inn hlie i j)⟩
end

end K80

namespace K80
open PySem PySem.Spec PyProof.Rows L2 



def spMixed : Sp := fun vs H Q _ => ∃ c e, vs = [.int c, .int e] ∧ ∀ v : Int, Q (.int v) H
def spSource : Sp := fun vs H Q _ => ∃ c, vs = [.int c] ∧ ∀ p x y z, H p = none → Q (.ref p) (upd H p (.lst [.int x, .int y, .int z]))
def spTake : Sp := fun vs H Q _ => ∃ p b, vs = [.ref p, .int b] ∧ SrcZ H p ∧ 0 < b ∧ b.natAbs < 2 ^ 64 ∧ ∀ v x y z : Int, 0 ≤ v → v < b → Q (.int v) (upd H p (.lst [.int x, .int y, .int z]))
section
variable {P : Program} {w : World} {K : PySem.W.Frag} {mg : Str → Option Value} {base : Heap} {a : Ad} {d : Fd}
theorem ok_mixed (T : Txt K mg a d) : FnOk P w K mg base CX0 1 a.mixed d.mixed P_mixed spMixed := by
  refine T.f_mixed.ok sc_mixed (fun vs H Q E h => ?_) (fun cdv A outer s H vs Q E hr h => ?_)
  · obtain ⟨c, e, rfl, _⟩ := h
    rfl
  · obtain ⟨c, e, rfl, q⟩ := h
    refine ⟨_, (pss_cons (ps_set (i := 2) sc_mixed.nd rfl (Or.inl rfl) (pe_op op_mod (pe_callTy call_int1 (by rfl) T.z_int (by decide +kernel) (pa_cons (pe_op op_mul (pe_op op_add (pe_op op_mod (pe_callTy call_int1 (by rfl) T.z_int (by decide +kernel) (pa_cons (pv 0) pa_nil)) pe_int) pe_int) (pe_op op_add (pe_op op_mul (pv 1) pe_int) pe_int)) pa_nil)) pe_int))
    (pss_cons (ps_set (i := 2) sc_mixed.nd rfl (Or.inl rfl) (pe_op op_mod (pe_callTy call_int1 (by rfl) T.z_int (by decide +kernel) (pa_cons (pe_op op_mul (pe_op op_add (pv 2) (pe_op op_mul (pe_op op_mod (pe_callTy call_int1 (by rfl) T.z_int (by decide +kernel) (pa_cons (pe_op op_fdivW (pv 0) pe_int) pa_nil)) pe_int) (pe_op op_add (pv 1) pe_int))) pe_int) pa_nil)) pe_int))
    (pss_cons (ps_set (i := 2) sc_mixed.nd rfl (Or.inl rfl) (pe_op op_mod (pe_callTy call_int1 (by rfl) T.z_int (by decide +kernel) (pa_cons (pe_op op_mul (pv 2) (pe_op op_add (pe_op op_add (pe_op op_fdivW (pv 2) pe_int) pe_int) (pv 1))) pa_nil)) pe_int))
    (pss_one (ps_ret (pe_op op_mod (pe_callTy call_int1 (by rfl) T.z_int (by decide +kernel) (pa_cons (pe_op op_mul (pv 2) (pe_op op_add (pe_op op_fdivW (pv 2) pe_int) pe_int)) pa_nil)) pe_int)))))), ?_⟩
    have k1 := mb c (c := 2147483646) (by decide)
    refine ⟨_, rfl, .inl ⟨_, rfl, _, _, rfl, rfl, (by show (0 : Int) < 2147483646; decide), _, _, rfl, rfl, _, rfl, _, _, rfl, rfl, .inr ⟨by decide, by decide⟩, _, _, rfl, rfl, _, _, rfl, rfl, .inl (lt64 (c := 2147483647) (by omega) (by omega) (by decide)), .inl ⟨_, rfl, _, _, rfl, rfl, (by show (0 : Int) < 2147483647; decide), ?_⟩⟩⟩
    have k2 := mb (c / 2147483646) (c := 1000003) (by decide)
    refine ⟨_, rfl, _, rfl, _, _, rfl, rfl, ⟨by decide, by decide⟩, .inl ⟨_, rfl, _, _, rfl, rfl, (by show (0 : Int) < 1000003; decide), _, rfl, _, _, rfl, rfl, _, _, rfl, rfl, .inl (lt64 (c := 1000003) (by omega) (by omega) (by decide)), _, _, rfl, rfl, _, _, rfl, rfl, .inr ⟨by decide, by decide⟩, .inl ⟨_, rfl, _, _, rfl, rfl, (by show (0 : Int) < 2147483629; decide), ?_⟩⟩⟩
    refine ⟨_, rfl, _, rfl, _, _, rfl, rfl, ⟨by decide, by decide⟩, _, _, rfl, rfl, _, rfl, _, _, rfl, rfl, _, _, rfl, rfl, .inl (mbw _ (c := 2147483629) (by decide) (by decide)), .inl ⟨_, rfl, _, _, rfl, rfl, (by show (0 : Int) < 2147483587; decide), ?_⟩⟩
    refine ⟨_, rfl, _, rfl, _, _, rfl, rfl, ⟨by decide, by decide⟩, _, _, rfl, rfl, _, _, rfl, rfl, .inl (mbw _ (c := 2147483587) (by decide) (by decide)), .inl ⟨_, rfl, _, _, rfl, rfl, (by show (0 : Int) < 2147483563; decide), q _⟩⟩
theorem ok_source (T : Txt K mg a d) : FnOk P w K mg base CX0 1 a.source d.source P_source spSource := by
  refine T.f_source.ok sc_source (fun vs H Q E h => ?_) (fun cdv A outer s H vs Q E hr h => ?_)
  · obtain ⟨c, rfl, _⟩ := h
    rfl
  · obtain ⟨c, rfl, q⟩ := h
    refine ⟨_, (pss_one (ps_ret (pe_lst (pa_cons (pv 0) (pa_cons (pv 0) (pa_cons pe_int pa_nil)))))), ?_⟩
    exact ⟨_, rfl, _, rfl, by show 3 ≤ sizeLine; decide, fun p hp => q p _ _ _ hp⟩
theorem ok_take (T : Txt K mg a d) : FnOk P w K mg base CX0 2 a.take d.take P_take spTake := by
  have G_mixed : FnOk P w K mg base CX0 1 a.mixed d.mixed P_mixed spMixed := ok_mixed T
  refine T.f_take.ok sc_take (fun vs H Q E h => ?_) (fun cdv A outer s H vs Q E hr h => ?_)
  · obtain ⟨p, b, rfl, _⟩ := h
    rfl
  · obtain ⟨p, b, rfl, ⟨x, y, z, hp⟩, b0, b64, q⟩ := h
    refine ⟨_, (pss_cons (ps_if (pt_cmpR op_ge (pe_ix ix_list (pv 0) pe_int (fun _ _ => rfl)) (pe_op op_powW pe_int pe_int) (nomark _)) (pss_cons (ps_set (i := 2) sc_take.nd rfl (Or.inl rfl) (pe_op op_mod (pe_callTy call_int1 (by rfl) T.z_int (by decide +kernel) (pa_cons (pe_ix ix_list (pv 0) pe_int (fun _ _ => rfl)) pa_nil)) (pv 1)))
      (pss_cons (ps_asg (pe_op op_fdivW (pe_ix ix_list (pv 0) pe_int (fun _ _ => rfl)) (pv 1)) (pg_sub (pv 0) pe_int set_list))
      (pss_one (ps_ret (pv 2))))) pss_nil)
    (pss_cons (ps_asg (pe_op op_add (pe_ix ix_list (pv 0) pe_int (fun _ _ => rfl)) pe_int) (pg_sub (pv 0) pe_int set_list))
    (pss_one (ps_ret (pe_op op_mod (pe_callTy call_int1 (by rfl) T.z_int (by decide +kernel) (pa_cons (pe_call G_mixed (hr.mono (by decide)) (by rfl) T.g_mixed T.k_mixed T.b_mixed .nil pass0 (pa_cons (pe_ix ix_list (pv 0) pe_int (fun _ _ => rfl)) (pa_cons (pe_ix ix_list (pv 0) pe_int (fun _ _ => rfl)) pa_nil))) pa_nil)) (pv 1)))))), ?_⟩
    have hS := L2.sq_of (K := K) hp
    have g0 : atI [V.int x, V.int y, V.int z] 0 = some (.int x) := atI_nat (j := 0) rfl
    have g1 : atI [V.int x, V.int y, V.int z] 1 = some (.int y) := atI_nat (j := 1) rfl
    have g2 : atI [V.int x, V.int y, V.int z] 2 = some (.int z) := atI_nat (j := 2) rfl
    refine ⟨_, rfl, p, _, _, _, rfl, rfl, hS, g0, _, _, rfl, rfl, ⟨by decide, by decide⟩, _, _, rfl, rfl, _, rfl, ite2 (fun _ => ?_) (fun _ => ?_)⟩
    · refine ⟨_, rfl, p, _, _, _, rfl, rfl, hS, g0, .inl ⟨_, rfl, _, rfl, _, _, rfl, rfl, b0, ?_⟩⟩
      refine ⟨_, rfl, p, _, _, _, rfl, rfl, hS, g0, _, rfl, _, _, rfl, rfl, wide_div b0 b64 (by decide) (by decide), ?_⟩
      refine ⟨_, rfl, p, _, _, 0, rfl, rfl, hp, rfl, ?_⟩
      exact ⟨_, rfl, q _ _ _ _ (mb x b0).1 (mb x b0).2⟩
    · refine ⟨_, rfl, p, _, _, _, rfl, rfl, hS, g2, _, _, rfl, rfl, ?_⟩
      refine ⟨_, rfl, p, _, _, 2, rfl, rfl, hp, rfl, ?_⟩
      have hp' : upd H p (.lst ([V.int x, V.int y, V.int z].set 2 (.int (z + 1)))) p = some (.lst [V.int x, V.int y, V.int (z + 1)]) := upd_same
      have hS' := L2.sq_of (K := K) hp'
      have g1' : atI [V.int x, V.int y, V.int (z + 1)] 1 = some (.int y) := atI_nat (j := 1) rfl
      have g2' : atI [V.int x, V.int y, V.int (z + 1)] 2 = some (.int (z + 1)) := atI_nat (j := 2) rfl
      refine ⟨_, rfl, p, _, _, _, rfl, rfl, hS', g1', _, rfl, p, _, _, _, rfl, rfl, hS', g2', y, z + 1, rfl, fun v => ?_⟩
      exact .inl ⟨_, rfl, _, rfl, _, _, rfl, rfl, b0, q _ _ _ _ (mb v b0).1 (mb v b0).2⟩
end

def spLF : Sp := fun vs H Q _ => ∃ (w t : Addr) (n i j : Nat) (rs : List Addr) (r : Rel.R), vs = [.ref w, .ref t] ∧ MatAt H w n rs (Rel.val r) ∧ Rel.Good n r ∧ H t = some (.tup [.int (i : Int), .int (j : Int)]) ∧ i < n ∧ j < n ∧ Q (optB (Rel.fol r (i, j))) H
def spPair : Sp := fun vs H Q _ => ∃ (p : Addr) (n : Nat), vs = [.ref p, .int (n : Int)] ∧ SrcZ H p ∧ 2 ≤ n ∧ n ≤ 40 ∧ ∀ (t : Addr) (H' : Hp) (i j : Nat), i < n → j < n → i ≠ j → H t = none → DnZ p H H' → H' t = some (.tup [.int (i : Int), .int (j : Int)]) → Q (.ref t) H'
def spLog : Sp := fun vs H Q _ => ∃ (p : Addr) (n u : Nat), vs = [.ref p, .int (n : Int), .int (u : Int)] ∧ SrcZ H p ∧ n ≤ 40 ∧ u ≤ 100 ∧ 0 < n ∧ ∀ (l : Addr) (H' : Hp) (es : List Rel.Ent) (k : Nat → Nat), H l = none → DnZ p H H' → LogL H' l es → es.length ≤ u → Rel.InN n es → (∀ e ∈ es, e.1.1 ≠ e.1.2) → Rel.Sat k es → Q (.ref l) H'
theorem DnZ.tup {p t : Addr} {H H' : Hp} {xs : List V} (d : DnZ p H H') (hs : SrcZ H p) (h : H t = some (.tup xs)) : H' t = some (.tup xs) := by
  obtain ⟨x, y, z, hp⟩ := hs
  exact d.1 _ _ (fun e => by rw [e, hp] at h; cases h) h
theorem DnZ.lst {p l : Addr} {H H' : Hp} {xs : List V} (d : DnZ p H H') (n : l ≠ p) (h : H l = some (.lst xs)) : H' l = some (.lst xs) := d.1 _ _ n h
theorem mul_ok {v : Int} {b : Bool} (h0 : 0 ≤ v) (h1 : v < 2 ^ 20) : CMul v (if b = true then (1 : Int) else 0) := by
  cases b
  · exact .inl ⟨by omega, by omega⟩
  · exact .inl ⟨by omega, by omega⟩
theorem pair_mod {v u n : Int} (v0 : 0 ≤ v) (v1 : v < n) (u0 : 0 ≤ u) (u1 : u < n - 1) : 0 ≤ (v + 1 + u) % n ∧ (v + 1 + u) % n < n ∧ (v + 1 + u) % n ≠ v := by
  have np : 0 < n := by omega
  refine ⟨Int.emod_nonneg _ (by omega), Int.emod_lt_of_pos _ np, ?_⟩
  by_cases c : v + 1 + u < n
  · rw [Int.emod_eq_of_lt (by omega) c]
    omega
  · have e : (v + 1 + u) % n = (v + 1 + u - n) % n := by
      rw [Int.sub_emod_right]
    rw [e, Int.emod_eq_of_lt (by omega) (by omega)]
    omega
theorem key_atm {ns : List Int} {i : Nat} (hi : i < ns.length) : atI (ns.map V.int) (i : Int) = some (.int (ns.getD i 0)) := by
  refine atI_nat ?_
  rw [List.getElem?_map, List.getElem?_eq_getElem hi]
  simp [List.getD_eq_getElem?_getD, List.getElem?_eq_getElem hi]
theorem getD_nn {ms : List Int} (h : ∀ v ∈ ms, 0 ≤ v) (i : Nat) : 0 ≤ ms.getD i 0 := by
  rw [List.getD_eq_getElem?_getD]
  cases e : ms[i]? with
  | none => exact Int.le_refl 0
  | some v => exact h v (List.mem_of_getElem? e)
section
variable {P : Program} {w : World} {K : PySem.W.Frag} {mg : Str → Option Value} {base : Heap} {a : Ad} {d : Fd}
theorem ok_lfollows (T : Txt K mg a d) : FnOk P w K mg base CX0 1 a.lfollows d.lfollows P_lfollows spLF := by
  refine T.f_lfollows.ok sc_lfollows (fun vs H Q E h => ?_) (fun cdv A outer s0 H vs Q E hr h => ?_)
  · obtain ⟨w, t, n, i, j, rs, r, rfl, _⟩ := h
    rfl
  · obtain ⟨w, t, n, i, j, rs, r, rfl, M, g, ht, hi, hj, q⟩ := h
    refine ⟨_, (pss_cons (ps_if (pt_cmpR op_eq (pe_ix ix_list (pe_ix ix_list (pv 0) (pe_ix ix_tup (pv 1) pe_int (fun _ _ => rfl)) (fun _ _ => rfl)) (pe_ix ix_tup (pv 1) pe_int (fun _ _ => rfl)) (fun _ _ => rfl)) pe_int (nomark _)) (pss_one (ps_ret pe_bl)) pss_nil)
    (pss_one (ps_ret (pe_ifExp (pt_cmpR op_gt (pe_ix ix_list (pe_ix ix_list (pv 0) (pe_ix ix_tup (pv 1) pe_int (fun _ _ => rfl)) (fun _ _ => rfl)) (pe_ix ix_tup (pv 1) pe_int (fun _ _ => rfl)) (fun _ _ => rfl)) pe_int (nomark _)) pe_bl pe_non)))), ?_⟩
    obtain ⟨ri, hri⟩ := M.has hi
    obtain ⟨rj, hrj⟩ := M.has hj
    refine ⟨_, rfl, _, rfl, t, _, _, _, rfl, rfl, L2.st_of ht, atI_nat (j := 0) rfl, w, _, _, _, rfl, rfl, L2.sq_of M.h, M.ix hri, _, rfl, t, _, _, _, rfl, rfl, L2.st_of ht, atI_nat (j := 1) rfl, ri, _, _, _, rfl, rfl, L2.sq_of (M.row i ri hri), rowV_ix _ hj, rfl, _, rfl, ite2 (fun z => ?_) (fun z => ?_)⟩
    · have z : Rel.val r i j = 2 := by have := V.int.inj (of_decide_eq_true z); omega
      have s := Rel.val_two.mp (Nat.le_of_eq z.symm)
      unfold Rel.fol at q
      dsimp only at q
      rw [s, if_pos rfl] at q
      exact q
    · have s : r.S i j ≠ true := fun y => z (decide_eq_true (by
        have a1 := Rel.val_two.mpr y
        have a2 := Rel.val_le r i j
        have : Rel.val r i j = 2 := by omega
        rw [this]
        rfl))
      unfold Rel.fol at q
      dsimp only at q
      rw [if_neg s] at q
      refine ⟨_, rfl, _, rfl, t, _, _, _, rfl, rfl, L2.st_of ht, atI_nat (j := 1) rfl, w, _, _, _, rfl, rfl, L2.sq_of M.h, M.ix hrj, _, rfl, t, _, _, _, rfl, rfl, L2.st_of ht, atI_nat (j := 0) rfl, rj, _, _, _, rfl, rfl, L2.sq_of (M.row j rj hrj), rowV_ix _ hi, _, _, rfl, rfl, _, rfl, ite2 (fun y => ?_) (fun y => ?_)⟩
      · have y := of_decide_eq_true y
        rw [if_pos ((Rel.val_pos g).mp (by omega))] at q
        exact q
      · rw [if_neg (fun x => y (decide_eq_true (by have := (Rel.val_pos g).mpr x; omega)))] at q
        exact q
theorem ok_pair (T : Txt K mg a d) : FnOk P w K mg base CX0 3 a.pair d.pair P_pair spPair := by
  have G_take : FnOk P w K mg base CX0 2 a.take d.take P_take spTake := ok_take T
  refine T.f_pair.ok sc_pair (fun vs H Q E h => ?_) (fun cdv A outer s0 H vs Q E hr h => ?_)
  · obtain ⟨p, n, rfl, _⟩ := h
    rfl
  · obtain ⟨p, n, rfl, hs, h2, h40, q⟩ := h
    refine ⟨_, (pss_cons (ps_set (i := 2) sc_pair.nd rfl (Or.inl rfl) (pe_call G_take (hr.mono (by decide)) (by rfl) T.g_take T.k_take T.b_take .nil pass0 (pa_cons (pv 0) (pa_cons (pv 1) pa_nil))))
    (pss_one (ps_ret (pe_tup (pa_cons (pv 2) (pa_cons (pe_op op_mod (pe_callTy call_int1 (by rfl) T.z_int (by decide +kernel) (pa_cons (pe_op op_add (pe_op op_add (pv 2) pe_int) (pe_call G_take (hr.mono (by decide)) (by rfl) T.g_take T.k_take T.b_take .nil pass0 (pa_cons (pv 0) (pa_cons (pe_op op_sub (pv 1) pe_int) pa_nil)))) pa_nil)) (pv 1)) pa_nil)))))), ?_⟩
    refine ⟨_, rfl, _, rfl, p, n, rfl, hs, by omega, by omega, fun v x y z v0 v1 => ?_⟩
    refine ⟨_, rfl, _, rfl, _, _, rfl, rfl, _, rfl, _, rfl, _, _, rfl, rfl, p, (n : Int) - 1, rfl, .put, by omega, by omega, fun u x2 y2 z2 u0 u1 => ⟨_, _, rfl, rfl, .inl ⟨_, rfl, _, rfl, _, _, rfl, rfl, by omega, ?_⟩⟩⟩
    refine ⟨by show 2 ≤ sizeLine; decide, fun t ht => ?_⟩
    rw [upd_upd] at ht ⊢
    dsimp only
    obtain ⟨m0, m1, m2⟩ := pair_mod v0 v1 u0 u1
    generalize (v + 1 + u) % (n : Int) = b at m0 m1 m2 ht ⊢
    have hp := hs
    refine q t _ v.toNat b.toNat (by omega) (by omega) (by omega) ?_ (DnZ.put.new ht) ?_
    · exact DnZ.put.free ht
    · rw [upd_same, Int.toNat_of_nonneg v0, Int.toNat_of_nonneg m0]
theorem ok_honest_log (T : Txt K mg a d) : FnOk P w K mg base CX0 4 a.honest_log d.honest_log P_honest_log spLog := by
  have G_take : FnOk P w K mg base CX0 2 a.take d.take P_take spTake := ok_take T
  have G_pair : FnOk P w K mg base CX0 3 a.pair d.pair P_pair spPair := ok_pair T
  refine T.f_honest_log.ok sc_honest_log (fun vs H Q E h => ?_) (fun cdv A outer s0 H vs Q E hr h => ?_)
  · obtain ⟨p, n, u, rfl, _⟩ := h
    rfl
  · obtain ⟨p, n, u, rfl, hs, h40, h100, n0, q⟩ := h
    refine ⟨_, (pss_cons (ps_set (i := 3) sc_honest_log.nd rfl (Or.inr rfl) (pe_lc (own := [("k", 4)]) (g := gName 4) (tt := tYes) rfl sc_honest_log.nd (pi_range1 (by rfl) T.z_range (pa_cons (pv 1) pa_nil)) (blkOk_by (N := N_honest_log) (sc := defScope s_honest_log) (by decide +kernel)) (fun _ _ _ _ _ => pg_name (i := 4) sc_honest_log.nd rfl (Or.inl rfl)) (fun _ _ _ _ _ => pts_nil) (fun _ _ _ _ _ => (pe_call G_take (hr.mono (by decide)) (by rfl) T.g_take T.k_take T.b_take .nil pass0 (pa_cons (pv 0) (pa_cons (pe_op op_add pe_int (pe_call G_take (hr.mono (by decide)) (by rfl) T.g_take T.k_take T.b_take .nil pass0 (pa_cons (pv 0) (pa_cons (pv 1) pa_nil)))) pa_nil))))))
    (pss_cons (ps_setLc (i := 5) (own := [("k", 4)]) (g := gName 4) (tt := tYes) rfl sc_honest_log.nd rfl rfl (sw_true rfl rfl rfl (by decide +kernel)) (pi_range1 (by rfl) T.z_range (pa_cons (pe_op op_mul (pe_call G_take (hr.mono (by decide)) (by rfl) T.g_take T.k_take T.b_take .nil pass0 (pa_cons (pv 0) (pa_cons (pe_op op_add (pv 2) pe_int) pa_nil))) (pe_callTy call_int1 (by rfl) T.z_int (by decide +kernel) (pa_cons (pe_cmpR op_gt (pv 1) pe_int (nomark _)) pa_nil))) pa_nil)) (blkOk_by (N := N_honest_log) (sc := defScope s_honest_log) (by decide +kernel)) (fun _ _ _ _ _ => pg_name (i := 4) sc_honest_log.nd rfl (Or.inl rfl)) (fun _ _ _ _ _ => pts_nil) (fun _ _ _ _ _ => (pe_call G_pair (hr.mono (by decide)) (by rfl) T.g_pair T.k_pair T.b_pair .nil pass0 (pa_cons (pv 0) (pa_cons (pv 1) pa_nil)))))
    (pss_one (ps_ret (pe_lc (own := [("pair", 6)]) (g := gName 6) (tt := tYes) rfl sc_honest_log.nd (pi_list (pv 5)) (blkOk_by (N := N_honest_log) (sc := defScope s_honest_log) (by decide +kernel)) (fun _ _ _ _ _ => pg_name (i := 6) sc_honest_log.nd rfl (Or.inl rfl)) (fun _ _ _ _ _ => pts_nil) (fun _ _ _ _ _ => (pe_tup (pa_cons (pv 6) (pa_cons (pe_cmpR op_lt (pe_ix (show IxR _ (rIxL K) from ix_list) (pv 3) (pe_ix (show IxR _ (rIxT K) from ix_tup) (pv 6) pe_int (fun _ _ => rfl)) (fun _ _ => rfl)) (pe_ix (show IxR _ (rIxL K) from ix_list) (pv 3) (pe_ix (show IxR _ (rIxT K) from ix_tup) (pv 6) pe_int (fun _ _ => rfl)) (fun _ _ => rfl)) (nomark _)) pa_nil))))))))), ?_⟩
    refine ⟨_, rfl, (n : Int), rfl, by omega, by omega, fun A1 hA1 => ?_⟩
    rw [Int.toNat_natCast]
    refine lc_intsZ (n := n) (fun v => 0 ≤ v) (by omega) hs hA1 (fun _ => rfl) (fun k H3 R hk dr h => ?_) (fun ms H1 lm pm d1 h1 => ?_)
    · exact ⟨_, rfl, _, rfl, _, rfl, p, n, rfl, dr.2, by omega, by omega, fun v x y z v0 v1 => ⟨_, _, rfl, rfl, p, 1 + v, rfl, .put, by omega, by omega, fun v2 x2 y2 z2 w0 w1 => h _ _ w0 (DnZ.put.trans .put)⟩⟩
    refine ⟨_, rfl, _, rfl, _, _, rfl, rfl, p, (u : Int) + 1, rfl, d1.2, by omega, by omega, fun v x y z v0 v1 => ?_⟩
    refine ⟨_, rfl, _, _, rfl, rfl, .inr ⟨_, rfl, _, _, rfl, rfl, ?_⟩⟩
    have d2 : DnZ p H (upd H1 p (.lst [.int x, .int y, .int z])) := d1.trans .put
    have nAp : A1 ≠ p := hs.ne hA1
    have h2 : upd H1 p (.lst [.int x, .int y, .int z]) A1 = some (.lst (ms.map V.int)) := by rw [upd_ne nAp]; exact h1
    generalize upd H1 p (.lst [.int x, .int y, .int z]) = H2 at d2 h2 ⊢
    obtain ⟨c, ec, c1, c2⟩ : ∃ c : Nat, v * (if decide ((n : Int) > 1) = true then (1 : Int) else 0) = (c : Int) ∧ c ≤ u ∧ (0 < c → 2 ≤ n) := by
      by_cases z : (n : Int) > 1
      · refine ⟨v.toNat, ?_, by omega, fun _ => by omega⟩
        rw [decide_eq_true z, if_pos rfl, Int.mul_one, Int.toNat_of_nonneg v0]
      · refine ⟨0, ?_, Nat.zero_le _, fun y => absurd y (Nat.lt_irrefl _)⟩
        rw [decide_eq_false z, if_neg (by decide), Int.mul_zero]
        rfl
    refine ⟨mul_ok v0 (by omega), (c : Int), by show [V.int (v * (if decide ((n : Int) > 1) = true then (1 : Int) else 0))] = [V.int (c : Int)]; rw [ec], by omega, by omega, fun D hD => ?_⟩
    rw [Int.toNat_natCast]
    have nDp : D ≠ p := d2.2.ne hD
    refine lc_range (lo := 0) (n := c) (fun i H' => ∃ (ts : List V) (ps : List (Nat × Nat)), DnZ p H2 H' ∧ H' D = some (.lst ts) ∧ ts.length = i ∧ ps.length = i ∧ (∀ q ∈ ps, q.1 < n ∧ q.2 < n ∧ q.1 ≠ q.2) ∧ ∀ (k : Nat) (v : V) (q : Nat × Nat), ts[k]? = some v → ps[k]? = some q → ∃ t, v = .ref t ∧ H' t = some (.tup [.int (q.1 : Int), .int (q.2 : Int)])) ⟨[], [], (DnZ.refl d2.2).new hD, upd_same, rfl, rfl, (by intro q h; cases h), (by intro k v q h; cases h)⟩ ?_ ?_
    · rintro i H3 hi ⟨ts, ps, d3, h3, lt, lp, ok, its⟩
      refine ⟨rfl, _, rfl, _, rfl, p, n, rfl, d3.2, c2 (by omega), h40, fun t H4 a b ha hb nab ht d4 h4 => ?_⟩
      have h3' := d4.1 _ _ nDp h3
      have d34 := d3.trans d4
      refine ⟨_, h3', by rw [lt]; exact Nat.lt_of_le_of_lt (by omega : i ≤ 100) (by decide), ts ++ [.ref t], ps ++ [(a, b)], ⟨fun b o nb e => ?_, d34.2.upd nDp⟩, upd_same, by rw [List.length_append, lt]; rfl, by rw [List.length_append, lp]; rfl, fun q hq => ?_, fun k v q hv hq => ?_⟩
      · rw [upd_ne (ne_of_none e hD)]
        exact d34.1 b o nb e
      · rcases List.mem_append.mp hq with hq | hq
        · exact ok q hq
        · rw [List.mem_singleton.mp hq]
          exact ⟨ha, hb, nab⟩
      · have up : ∀ {t' : Addr} {xs : List V}, H4 t' = some (.tup xs) → upd H4 D (.lst (ts ++ [V.ref t])) t' = some (.tup xs) := fun {t' xs} e => by
          rw [upd_ne (fun z => by rw [z, h3'] at e; cases e)]
          exact e
        rw [List.getElem?_append] at hv hq
        by_cases z : k < i
        · rw [if_pos (by omega)] at hv hq
          obtain ⟨t2, e, h⟩ := its k v q hv hq
          exact ⟨t2, e, up (DnZ.tup d4 d3.2 h)⟩
        · rw [if_neg (by omega)] at hv hq
          have ek : k - ts.length = 0 := by
            rcases Nat.eq_zero_or_pos (k - ts.length) with z | z
            · exact z
            · rw [List.getElem?_eq_none (by rw [List.length_singleton]; exact z)] at hv
              cases hv
          rw [ek] at hv
          rw [show k - ps.length = 0 by omega] at hq
          obtain rfl := Option.some.inj hv
          obtain rfl := Option.some.inj hq
          exact ⟨t, rfl, up h4⟩
    · rintro H3 ⟨ts, ps, d3, h3, lt, lp, ok, its⟩
      have hA3 := d3.1 _ _ nAp h2
      have d03 := d2.trans d3
      refine ⟨_, rfl, D, rfl, ⟨_, L2.sq_of h3⟩, fun L hL => ?_⟩
      refine lc_list (K := K) (a := D) (xs := ts) (fun i H' => ∃ us : List V, Same H3 H' ∧ H' L = some (.lst us) ∧ us.length = i ∧ ∀ (k : Nat) (v : V) (q : Nat × Nat), us[k]? = some v → ps[k]? = some q → EntA H' v (q, decide (ms.getD q.1 0 < ms.getD q.2 0))) ⟨[], same_upd hL, upd_same, rfl, (by intro k v q h; cases h)⟩ (fun i H' _ h => by obtain ⟨us, s, _⟩ := h; exact L2.sq_of (s _ _ h3)) ?_ ?_
      · rintro i y H4 hy ⟨us, s4, h4, lu, iu⟩
        have hi : i < ps.length := by have := (List.getElem?_eq_some_iff.mp hy).1; omega
        have hq : ps[i]? = some ps[i] := List.getElem?_eq_getElem hi
        have oki := ok ps[i] (List.getElem_mem _)
        obtain ⟨t, rfl, ht⟩ := its i y ps[i] hy hq
        generalize ps[i] = qq at hq oki ht
        obtain ⟨o1, o2⟩ := qq
        have ht4 := s4 _ _ ht
        have hA4 := s4 _ _ hA3
        refine ⟨rfl, _, rfl, _, rfl, _, rfl, t, _, _, _, rfl, rfl, L2.st_of ht4, atI_nat (j := 0) rfl, A1, _, _, _, rfl, rfl, L2.sq_of hA4, key_atm (by rw [lm]; exact oki.1), ?_⟩
        refine ⟨_, rfl, _, rfl, t, _, _, _, rfl, rfl, L2.st_of ht4, atI_nat (j := 1) rfl, A1, _, _, _, rfl, rfl, L2.sq_of hA4, key_atm (by rw [lm]; exact oki.2.1), _, _, rfl, rfl, by show 2 ≤ sizeLine; decide, fun e he => ?_⟩
        have nLe : L ≠ e := fun z => by rw [← z, h4] at he; cases he
        refine ⟨_, by rw [upd_ne nLe]; exact h4, by rw [lu]; exact Nat.lt_of_le_of_lt (by omega : i ≤ 100) (by decide), us ++ [.ref e], same_put (s4.trans (same_upd he)) hL, upd_same, by rw [List.length_append, lu]; rfl, fun k v q hv hq2 => ?_⟩
        have up : ∀ {t' : Addr} {xs : List V}, H4 t' = some (.tup xs) → upd (upd H4 e (.tup [.ref t, .bl (decide (ms.getD o1 0 < ms.getD o2 0))])) L (.lst (us ++ [V.ref e])) t' = some (.tup xs) := fun {t' xs} z => by
          rw [upd_ne (fun y => by rw [y, h4] at z; cases z), upd_ne (fun y => by rw [y, he] at z; cases z)]
          exact z
        rw [List.getElem?_append] at hv
        by_cases z : k < us.length
        · rw [if_pos z] at hv
          obtain ⟨t2, u2, e1, e2, e3⟩ := iu k v q hv hq2
          exact ⟨t2, u2, e1, up e2, up e3⟩
        · rw [if_neg z] at hv
          have ek : k - us.length = 0 := by
            rcases Nat.eq_zero_or_pos (k - us.length) with z | z
            · exact z
            · rw [List.getElem?_eq_none (by rw [List.length_singleton]; exact z)] at hv
              cases hv
          rw [ek] at hv
          obtain rfl := Option.some.inj hv
          have ki : k = i := by omega
          subst ki
          rw [hq] at hq2
          obtain rfl := Option.some.inj hq2
          exact ⟨t, e, rfl, by rw [upd_ne nLe.symm]; exact upd_same, up ht4⟩
      · rintro H4 ⟨us, s4, h4, lu, iu⟩
        refine q L H4 (ps.map fun q => (q, decide (ms.getD q.1 0 < ms.getD q.2 0))) (fun i => (ms.getD i 0).toNat) (d03.free hL) (d03.same s4) ⟨us, h4, by rw [lu, List.length_map]; omega, fun k v e hv he => ?_⟩ (by rw [List.length_map]; omega) (fun e he => ?_) (fun e he => ?_) (fun e he => ?_)
        · rw [List.getElem?_map] at he
          cases z : ps[k]? with
          | none => rw [z] at he; cases he
          | some q =>
            rw [z] at he
            rw [← Option.some.inj he]
            exact iu k v q hv z
        · obtain ⟨q, hq, rfl⟩ := List.mem_map.mp he
          exact ⟨(ok q hq).1, (ok q hq).2.1⟩
        · obtain ⟨q, hq, rfl⟩ := List.mem_map.mp he
          exact (ok q hq).2.2
        · obtain ⟨q, hq, rfl⟩ := List.mem_map.mp he
          have a1 := getD_nn pm q.1
          have a2 := getD_nn pm q.2
          show decide ((ms.getD q.1 0).toNat < (ms.getD q.2 0).toNat) = decide (ms.getD q.1 0 < ms.getD q.2 0)
          exact decide_eq_decide.mpr (by omega)
end

end K80

namespace K80
open PySem PySem.Spec PyProof.Rows L2 




/-- rows of numbers, each in a list of its own -/
def RowsL (H : Hp) (l : Addr) (ks : List (List Nat)) : Prop := ∃ rs : List Addr, H l = some (.lst (rs.map V.ref)) ∧ rs.length = ks.length ∧ ∀ (i : Nat) (r : Addr) (k : List Nat), rs[i]? = some r → ks[i]? = some k → H r = some (.lst (nV k))
theorem RowsL.same {H H' : Hp} {l : Addr} {ks : List (List Nat)} (h : RowsL H l ks) (s : Same H H') : RowsL H' l ks := let ⟨rs, a, b, c⟩ := h; ⟨rs, s _ _ a, b, fun i r k x y => s _ _ (c i r k x y)⟩
theorem getElem?_snoc {α : Type} {xs : List α} {x v : α} {k n : Nat} (ln : xs.length = n) (h : (xs ++ [x])[k]? = some v) : xs[k]? = some v ∧ k < n ∨ k = n ∧ v = x := by
  rw [List.getElem?_append] at h
  by_cases z : k < xs.length
  · rw [if_pos z] at h
    exact .inl ⟨h, by omega⟩
  · rw [if_neg z] at h
    have ek : k - xs.length = 0 := by
      rcases Nat.eq_zero_or_pos (k - xs.length) with z | z
      · exact z
      · rw [List.getElem?_eq_none (by rw [List.length_singleton]; exact z)] at h
        cases h
    rw [ek] at h
    exact .inr ⟨by omega, (Option.some.inj h).symm⟩
def nextk (n : Nat) (ks : List (List Nat)) : List (List Nat) := ks.flatMap fun k => (List.range n).map fun x => k ++ [x]
def allk (n : Nat) : Nat → List (List Nat)
  | 0 => [[]]
  | t + 1 => nextk n (allk n t)
theorem nextk_len (n : Nat) : ∀ ks : List (List Nat), (nextk n ks).length = ks.length * n
  | [] => by rw [List.length_nil, Nat.zero_mul]; rfl
  | k :: ks => by
    show (List.flatMap _ (k :: ks)).length = _
    rw [List.flatMap_cons, List.length_append, List.length_map, List.length_range]
    have := nextk_len n ks
    unfold nextk at this
    rw [this, List.length_cons, Nat.succ_mul, Nat.add_comm]
theorem nextk_snoc (n : Nat) (ks : List (List Nat)) (k : List Nat) : nextk n (ks ++ [k]) = nextk n ks ++ (List.range n).map fun x => k ++ [x] := by
  unfold nextk
  rw [List.flatMap_append, List.flatMap_cons, List.flatMap_nil, List.append_nil]
theorem allk_len {n : Nat} (h : n ≤ 4) : ∀ t, (allk n t).length ≤ 4 ^ t
  | 0 => Nat.le_refl _
  | t + 1 => by
    show (nextk n (allk n t)).length ≤ _
    rw [nextk_len, Nat.pow_succ]
    exact Nat.mul_le_mul (allk_len h t) h
theorem allk_mem {n : Nat} : ∀ {t : Nat} {k : List Nat}, k ∈ allk n t ↔ k.length = t ∧ ∀ x ∈ k, x < n
  | 0, k => by
    show k ∈ [[]] ↔ _
    rw [List.mem_singleton, List.length_eq_zero_iff]
    constructor
    · rintro rfl
      exact ⟨rfl, fun x h => by cases h⟩
    · exact fun h => h.1
  | t + 1, k => by
    show k ∈ nextk n (allk n t) ↔ _
    unfold nextk
    rw [List.mem_flatMap]
    constructor
    · rintro ⟨k', h1, h2⟩
      obtain ⟨x, hx, rfl⟩ := List.mem_map.mp h2
      obtain ⟨e1, e2⟩ := allk_mem.mp h1
      refine ⟨by rw [List.length_append, e1]; rfl, fun y hy => ?_⟩
      rcases List.mem_append.mp hy with hy | hy
      · exact e2 y hy
      · rw [List.mem_singleton.mp hy]
        exact List.mem_range.mp hx
    · rintro ⟨h1, h2⟩
      have ne : k ≠ [] := fun z => by rw [z] at h1; cases h1
      refine ⟨k.dropLast, allk_mem.mpr ⟨by rw [List.length_dropLast]; omega, fun x hx => h2 x (List.dropLast_subset _ hx)⟩, List.mem_map.mpr ⟨k.getLast ne, List.mem_range.mpr (h2 _ (List.getLast_mem ne)), List.dropLast_concat_getLast ne⟩⟩
def spAll : Sp := fun vs H Q _ => ∃ n : Nat, vs = [.int (n : Int)] ∧ n ≤ 4 ∧ ∀ (l : Addr) (H' : Hp), Same H H' → H l = none → RowsL H' l (allk n n) → Q (.ref l) H'
section
variable {P : Program} {w : World} {K : PySem.W.Frag} {mg : Str → Option Value} {base : Heap} {a : Ad} {d : Fd}
theorem ok_all_keys (T : Txt K mg a d) : FnOk P w K mg base CX0 1 a.all_keys d.all_keys P_all_keys spAll := by
  refine T.f_all_keys.ok sc_all_keys (fun vs H Q E h => ?_) (fun cdv A outer s0 H vs Q E hr h => ?_)
  · obtain ⟨n, rfl, _⟩ := h
    rfl
  · obtain ⟨n, rfl, h4, q⟩ := h
    refine ⟨_, (pss_cons (ps_set (i := 1) sc_all_keys.nd rfl (Or.inl rfl) (pe_lst (pa_cons (pe_lst pa_nil) pa_nil)))
    (pss_cons (ps_for PassesOwn.never rfl (pi_range1 (by rfl) T.z_range (pa_cons (pv 0) pa_nil)) (pg_name (i := 2) sc_all_keys.nd rfl (Or.inl rfl))
      (pss_cons (ps_set (i := 3) sc_all_keys.nd rfl (Or.inl rfl) (pe_lst pa_nil))
        (pss_cons (ps_for PassesOwn.never rfl (pi_list (pv 1)) (pg_name (i := 4) sc_all_keys.nd rfl (Or.inr rfl))
          (pss_one (ps_set (i := 3) sc_all_keys.nd rfl (Or.inl rfl) (pe_op op_catS (pv 3) (pe_lc (own := [("key", 5)]) (g := gName 5) (tt := tYes) rfl sc_all_keys.nd (pi_range1 (by rfl) T.z_range (pa_cons (pv 0) pa_nil)) (blkOk_by (N := N_all_keys) (sc := defScope s_all_keys) (by decide +kernel)) (fun _ _ _ _ _ => pg_name (i := 5) sc_all_keys.nd rfl (Or.inl rfl)) (fun _ _ _ _ _ => pts_nil) (fun _ _ _ _ _ => (pe_op (show OpR _ _ (rCatS K) from op_catS) (pv 4) (pe_lst (pa_cons (pv 5) pa_nil)))))))))
        (pss_one (ps_set (i := 1) sc_all_keys.nd rfl (Or.inl rfl) (pv 3))))))
    (pss_one (ps_ret (pv 1))))), ?_⟩
    refine ⟨by show 0 ≤ sizeLine; decide, fun e he => ⟨by show 1 ≤ sizeLine; decide, fun F hF => ?_⟩⟩
    have s0' := same_upd (o := .lst []) he
    have nFe : e ≠ F := fun z => by rw [← z, upd_same] at hF; cases hF
    refine ⟨_, rfl, (n : Int), rfl, by omega, by omega, ?_⟩
    rw [Int.toNat_natCast]
    refine for_range (lo := 0) (n := n) (fun t σ H' => ∃ (F : Addr) (u2 u3 u4 u5 : Option V), σ = [some (.int (n : Int)), some (.ref F), u2, u3, u4, u5] ∧ Same H H' ∧ H F = none ∧ RowsL H' F (allk n t)) ⟨F, _, _, _, _, rfl, s0'.trans (same_upd hF), sfree s0' hF, [e], upd_same, rfl, fun i r k x y => ?_⟩ ?_ ?_
    · have hi : i = 0 := by
        rcases Nat.eq_zero_or_pos i with z | z
        · exact z
        · rw [List.getElem?_eq_none (by rw [List.length_singleton]; exact z)] at x
          cases x
      subst hi
      obtain rfl := Option.some.inj x
      obtain rfl := Option.some.inj y
      rw [upd_ne nFe]
      exact upd_same
    · rintro t σ H1 ht ⟨F, u2, u3, u4, u5, rfl, s1, fF, RF⟩
      have l256 : (allk n t).length ≤ 256 := Nat.le_trans (allk_len h4 t) (Nat.le_trans (Nat.pow_le_pow_right (by decide) (by omega : t ≤ 4)) (by decide))
      have kl : ∀ k ∈ allk n t, k.length ≤ 4 := fun k hk => by have := (allk_mem.mp hk).1; omega
      rw [show allk n (t + 1) = nextk n (allk n t) from rfl]
      generalize allk n t = ks at RF l256 kl ⊢
      obtain ⟨rs, hF1, lrs, row⟩ := RF
      refine ⟨by show 0 ≤ sizeLine; decide, fun L0 hL0 => ?_⟩
      refine ⟨_, rfl, F, rfl, ⟨_, L2.sq_of (same_upd (o := .lst []) hL0 _ _ hF1)⟩, ?_⟩
      refine for_list (K := K) (a := F) (xs := rs.map V.ref) (fun i σ H' => ∃ (L : Addr) (u2 u4 u5 : Option V), σ = [some (.int (n : Int)), some (.ref F), u2, some (.ref L), u4, u5] ∧ Same H1 H' ∧ H1 L = none ∧ RowsL H' L (nextk n (ks.take i))) ⟨L0, _, _, _, rfl, same_upd hL0, hL0, [], upd_same, rfl, (by intro i r k h; cases h)⟩ (fun i σ H' _ h => by obtain ⟨L, u2, u4, u5, _, s, _⟩ := h; exact L2.sq_of (s _ _ hF1)) ?_ ?_
      · rintro i y σ H2 hy ⟨L, u2, u4, u5, rfl, s2, fL, RL⟩
        rw [List.getElem?_map] at hy
        obtain ⟨r, hr⟩ : ∃ r, rs[i]? = some r := by
          cases e : rs[i]? with
          | none => rw [e] at hy; cases hy
          | some r => exact ⟨r, rfl⟩
        rw [hr] at hy
        obtain rfl := Option.some.inj hy
        have li : i < ks.length := by have := (List.getElem?_eq_some_iff.mp hr).1; omega
        have hk : ks[i]? = some ks[i] := List.getElem?_eq_getElem li
        have tk : ks.take (i + 1) = ks.take i ++ [ks[i]] := by rw [List.take_add_one, hk]; rfl
        have hrow := s2 _ _ (row i r _ hr hk)
        have llen : (nextk n (ks.take i)).length ≤ 1024 := by
          rw [nextk_len, List.length_take]
          exact Nat.le_trans (Nat.mul_le_mul (Nat.le_trans (Nat.min_le_right _ _) l256) h4) (by decide)
        have klen : ks[i].length ≤ 4 := kl _ (List.getElem_mem _)
        obtain ⟨rl, hL2, lrl, rowL⟩ := RL
        rw [tk, nextk_snoc]
        generalize ks[i] = kk at hrow klen ⊢
        generalize nextk n (ks.take i) = nk at lrl rowL llen ⊢
        refine ⟨_, rfl, _, rfl, (n : Int), rfl, by omega, by omega, fun D hD => ?_⟩
        rw [Int.toNat_natCast]
        refine lc_range (lo := 0) (n := n) (fun j H' => ∃ ds : List Addr, Same H2 H' ∧ H' D = some (.lst (ds.map V.ref)) ∧ ds.length = j ∧ ∀ (i : Nat) (r : Addr), ds[i]? = some r → r ≠ D ∧ H' r = some (.lst (nV (kk ++ [i])))) ⟨[], same_upd hD, upd_same, rfl, (by intro i r h; cases h)⟩ ?_ ?_
        · rintro j H3 hj ⟨ds, s3, h3, lds, rowD⟩
          refine ⟨rfl, _, rfl, _, rfl, by show 1 ≤ sizeLine; decide, fun l1 hl1 => ?_⟩
          have sl := same_upd (o := .lst [V.int (0 + (j : Int))]) hl1
          refine ⟨r, l1, _, _, rfl, rfl, L2.sq_of (sl _ _ (s3 _ _ hrow)), L2.sq_of upd_same, (by show (nV kk).length + 1 ≤ sizeLine; exact Nat.le_trans (show (nV kk).length + 1 ≤ 5 by unfold nV; rw [List.length_map]; omega) (by decide)), fun p hp => ?_⟩
          have sp := sl.trans (same_upd (o := .lst (nV kk ++ [V.int (0 + (j : Int))])) hp)
          have nDp : D ≠ p := fun z => by rw [← z, sl _ _ h3] at hp; cases hp
          refine ⟨_, sp _ _ h3, by rw [List.length_map, lds]; exact Nat.lt_of_le_of_lt (by omega : j ≤ 4) (by decide), ds ++ [p], same_put (s3.trans sp) hD, by rw [upd_same, List.map_append]; rfl, by rw [List.length_append, lds]; rfl, fun i r hir => ?_⟩
          rcases getElem?_snoc lds hir with ⟨hir, _⟩ | ⟨rfl, rfl⟩
          · obtain ⟨x1, x2⟩ := rowD i r hir
            exact ⟨x1, by rw [upd_ne x1]; exact sp _ _ x2⟩
          · refine ⟨nDp.symm, ?_⟩
            rw [upd_ne nDp.symm, upd_same, Int.zero_add, nV_snoc']
        · rintro H3 ⟨ds, s3, h3, lds, rowD⟩
          refine ⟨L, D, _, _, rfl, rfl, L2.sq_of (s3 _ _ hL2), L2.sq_of h3, ?_, fun p hp => ?_⟩
          · rw [List.length_map, List.length_map, lds, lrl]
            exact Nat.le_trans (by omega : _ ≤ 2000) (by decide)
          have sp := s3.trans (same_upd (o := .lst (rl.map V.ref ++ ds.map V.ref)) hp)
          refine ⟨p, _, _, _, rfl, s2.trans sp, sfree (s2.trans s3) hp, rl ++ ds, by rw [upd_same, List.map_append], by rw [List.length_append, List.length_append, lrl, lds, List.length_map, List.length_range], fun i r k x y => ?_⟩
          rw [List.getElem?_append] at x y
          by_cases z : i < rl.length
          · rw [if_pos z] at x
            rw [if_pos (by omega)] at y
            exact sp _ _ (rowL i r k x y)
          · rw [if_neg z] at x
            rw [if_neg (by omega)] at y
            have x2 := (rowD _ r x).2
            have lt : i - rl.length < n := by rw [← lds]; exact (List.getElem?_eq_some_iff.mp x).1
            rw [List.getElem?_map, ← lrl, List.getElem?_range lt] at y
            rw [← Option.some.inj y]
            exact same_upd hp _ _ x2
      · rintro σ H2 ⟨L, u2, u4, u5, rfl, s2, fL, RL⟩
        rw [List.length_map, lrs, List.take_length] at RL
        exact ⟨_, rfl, L, _, _, _, _, rfl, s1.trans s2, sfree s1 fL, RL⟩
    · rintro σ H1 ⟨F, u2, u3, u4, u5, rfl, s1, fF, RF⟩
      exact ⟨_, rfl, q F H1 s1 fF RF⟩
end

end K80

namespace K80
open PySem PySem.Spec PyProof.Rows L2 




def satB (es : List Rel.Ent) (k : List Nat) : Bool := es.all fun e => decide (decide (k.getD e.1.1 0 < k.getD e.1.2 0) = e.2)
theorem satB_iff {es : List Rel.Ent} {k : List Nat} : satB es k = true ↔ Rel.Sat (fun m => k.getD m 0) es := by
  unfold satB Rel.Sat
  rw [List.all_eq_true]
  exact ⟨fun h e he => of_decide_eq_true (h e he), fun h e he => decide_eq_true (h e he)⟩
theorem getD_row {n m : Nat} (k : Nat → Nat) (h : m < n) : ((List.range n).map k).getD m 0 = k m := by
  rw [List.getD_eq_getElem?_getD, List.getElem?_map, List.getElem?_range h]
  rfl
theorem row_sat {n : Nat} {es : List Rel.Ent} (inn : Rel.InN n es) {k : Nat → Nat} (s : Rel.Sat k es) : satB es ((List.range n).map k) = true := by
  rw [satB_iff]
  intro e he
  have := inn e he
  rw [← s e he]
  refine decide_eq_decide.mpr ?_
  show ((List.range n).map k).getD e.1.1 0 < ((List.range n).map k).getD e.1.2 0 ↔ _
  rw [getD_row k this.1, getD_row k this.2]
def kmark (i j : Nat) (k : List Nat) : Bool := decide (k.getD i 0 < k.getD j 0)
theorem fol_due {n : Nat} {es : List Rel.Ent} (inn : Rel.InN n es) (hlie : Rel.lie (Rel.init n) es 0 = none) {ms : List (List Nat)} (hm : ∀ k, k ∈ ms ↔ (k.length = n ∧ ∀ x ∈ k, x < n) ∧ satB es k = true) {i j : Nat} (hi : i < n) (hj : j < n) :
    ms ≠ [] ∧ (if decide (ms.map (kmark i j) = (List.replicate (ms.map (kmark i j)).length ((ms.map (kmark i j)).take 1)).flatten) = true then (ms.map (kmark i j)).head? else none) = Rel.fol (Rel.run (Rel.init n) es) (i, j) := by
  have mem : ∀ k : Nat → Nat, Rel.Sat k es → (∀ m, m < n → k m < n) → (List.range n).map k ∈ ms := fun k s b => (hm _).mpr ⟨⟨by rw [List.length_map, List.length_range], fun x hx => by
    obtain ⟨m, h1, rfl⟩ := List.mem_map.mp hx
    exact b m (List.mem_range.mp h1)⟩, row_sat inn s⟩
  have ne : ms ≠ [] := fun z => by
    obtain ⟨k, s, b⟩ := Rel.keys_ex inn hlie
    have := mem k s b
    rw [z] at this
    cases this
  refine ⟨ne, ?_⟩
  cases f : Rel.fol (Rel.run (Rel.init n) es) (i, j) with
  | some b =>
    have all : ∀ x ∈ ms.map (kmark i j), x = b := fun x hx => by
      obtain ⟨k, h1, rfl⟩ := List.mem_map.mp hx
      exact Rel.fol_all inn f (satB_iff.mp ((hm k).mp h1).2)
    have hd : (ms.map (kmark i j)).head? = some b := by
      cases ms with
      | nil => exact absurd rfl ne
      | cons k l =>
        show some _ = some b
        rw [all _ (List.mem_cons_self ..)]
    rw [if_pos (rep_first.mpr fun x hx => by rw [hd, all x hx]), hd]
  | none =>
    obtain ⟨k1, s1, b1, e1⟩ := Rel.both inn hlie (q := (i, j)) hi hj f true
    obtain ⟨k2, s2, b2, e2⟩ := Rel.both inn hlie (q := (i, j)) hi hj f false
    have m1 := List.mem_map_of_mem (f := kmark i j) (mem k1 s1 b1)
    have m2 := List.mem_map_of_mem (f := kmark i j) (mem k2 s2 b2)
    have v1 : kmark i j ((List.range n).map k1) = true := by unfold kmark; rw [getD_row k1 hi, getD_row k1 hj]; exact e1
    have v2 : kmark i j ((List.range n).map k2) = false := by unfold kmark; rw [getD_row k2 hi, getD_row k2 hj]; exact e2
    rw [v1] at m1
    rw [v2] at m2
    rw [if_neg]
    intro z
    have h1 := rep_first.mp z _ m1
    have h2 := rep_first.mp z _ m2
    rw [← h1] at h2
    cases h2
def lies (es : List Rel.Ent) (k : List Nat) : Nat := (es.filter fun e => !decide (decide (k.getD e.1.1 0 < k.getD e.1.2 0) = e.2)).length
theorem lies_zero {es : List Rel.Ent} {k : List Nat} : lies es k = 0 ↔ satB es k = true := by
  unfold lies satB
  rw [List.length_eq_zero_iff, List.filter_eq_nil_iff, List.all_eq_true]
  constructor
  · intro h e he
    have := h e he
    simpa using this
  · intro h e he
    have := h e he
    simpa using this
theorem units65 {k : Nat} {A : Around} (r : Room k A) : A.units + 65 < cLine := by have := r.un; omega
theorem optB_eq (o : Option Bool) : optB o = optBV o := by cases o <;> rfl
theorem nn_row {H : Hp} {S : Addr} {s2 : List Addr} {k2 : List Nat} {i : Nat} (h : H S = some (.lst (s2.map V.ref))) (h' : H S = some (.lst (nV k2))) (lt : i < s2.length) : False := by
  rw [h] at h'
  have e := congrArg (fun z => z[i]?) (HO.lst.inj (Option.some.inj h'))
  unfold nV at e
  rw [List.getElem?_map, List.getElem?_map, List.getElem?_eq_getElem lt] at e
  cases c : k2[i]? with
  | none => rw [c] at e; cases e
  | some x => rw [c] at e; cases e
def spSmall : Sp := fun vs H Q _ => ∃ p : Addr, vs = [.ref p] ∧ SrcZ H p ∧ ∀ H', DnZ p H H' → Q (.bl true) H'
theorem key_atN {k : List Nat} {i : Nat} (h : i < k.length) : atI (nV k) (i : Int) = some (.int ((k.getD i 0 : Nat) : Int)) := by
  refine atI_nat ?_
  unfold nV
  rw [List.getElem?_map, List.getElem?_eq_getElem h, List.getD_eq_getElem?_getD, List.getElem?_eq_getElem h]
  rfl
section
variable {P : Program} {w : World} {K : PySem.W.Frag} {mg : Str → Option Value} {base : Heap} {a : Ad} {d : Fd}
theorem ok_small_right (T : Txt K mg a d) : FnG P w K mg base CX0 9 a.small_right d.small_right P_small_right spSmall := by
  have G_take : FnOk P w K mg base CX0 2 a.take d.take P_take spTake := ok_take T
  have G_honest_log : FnOk P w K mg base CX0 4 a.honest_log d.honest_log P_honest_log spLog := ok_honest_log T
  have G_all_keys : FnOk P w K mg base CX0 1 a.all_keys d.all_keys P_all_keys spAll := ok_all_keys T
  have G_follows : FnOk P w K mg base CX0 8 a.follows d.follows P_follows spF := ok_F T
  refine T.f_small_right.okG sc_small_right (fun vs H Q E h => ?_) (fun cdv A outer s0 H vs Q E gd hr h => ?_)
  · obtain ⟨p, rfl, _⟩ := h
    rfl
  · obtain ⟨p, rfl, hs, q⟩ := h
    refine ⟨_, (pss_cons (ps_set (i := 1) sc_small_right.nd rfl (Or.inl rfl) (pe_op op_add pe_int (pe_call G_take (hr.mono (by decide)) (by rfl) T.g_take T.k_take T.b_take .nil pass0 (pa_cons (pv 0) (pa_cons pe_int pa_nil)))))
    (pss_cons (ps_set (i := 2) sc_small_right.nd rfl (Or.inl rfl) (pe_call G_honest_log (hr.mono (by decide)) (by rfl) T.g_honest_log T.k_honest_log T.b_honest_log .nil pass0 (pa_cons (pv 0) (pa_cons (pv 1) (pa_cons pe_int pa_nil)))))
    (pss_cons (ps_set (i := 3) sc_small_right.nd rfl (Or.inl rfl) (pe_lst pa_nil))
    (pss_cons (ps_for PassesOwn.never rfl (pi_list (pe_call G_all_keys (hr.mono (by decide)) (by rfl) T.g_all_keys T.k_all_keys T.b_all_keys .nil pass0 (pa_cons (pv 1) pa_nil))) (pg_name (i := 4) sc_small_right.nd rfl (Or.inr rfl))
      (pss_one (ps_if (pt_cmpR (op_eqD hr.units) (pe_lc (own := [("pair", 5), ("answer", 6)]) (g := gTup K 2 (gCons (gName 5) (gCons (gName 6) gNil)))  rfl sc_small_right.nd (pi_list (pv 2)) (blkOk_by (N := N_small_right) (sc := defScope s_small_right) (by decide +kernel)) (fun _ _ _ _ _ => pg_tup rfl (pgs_cons (pg_name (i := 5) sc_small_right.nd rfl (Or.inl rfl)) (pgs_cons (pg_name (i := 6) sc_small_right.nd rfl (Or.inl rfl)) pgs_nil))) (fun _ _ _ _ _ => (pts_one (pt_cmpR op_ne (pe_cmpR op_lt (pe_ix (show IxR _ (rIxL K) from ix_list) (pv 4) (pe_ix (show IxR _ (rIxT K) from ix_tup) (pv 5) pe_int (fun _ _ => rfl)) (fun _ _ => rfl)) (pe_ix (show IxR _ (rIxL K) from ix_list) (pv 4) (pe_ix (show IxR _ (rIxT K) from ix_tup) (pv 5) pe_int (fun _ _ => rfl)) (fun _ _ => rfl)) (nomark _)) (pv 6) (nomark _)))) (fun _ _ _ _ _ => pe_int)) (pe_lst pa_nil) (nomark _)) (pss_one (ps_expr (pe_bm PySem.F.plainAttrs_list PySem.F.slot_list_append PySem.F.type_list_append mt_append (pv 3) (pa_cons (pv 4) pa_nil)))) pss_nil)))
    (pss_cons (ps_for PassesOwn.never rfl (pi_range1 (by rfl) T.z_range (pa_cons (pv 1) pa_nil)) (pg_name (i := 7) sc_small_right.nd rfl (Or.inr rfl))
      (pss_one (ps_for PassesOwn.never rfl (pi_list (pe_lc (own := [("k", 9)]) (g := gName 9)  rfl sc_small_right.nd (pi_range1 (by rfl) T.z_range (pa_cons (pv 1) pa_nil)) (blkOk_by (N := N_small_right) (sc := defScope s_small_right) (by decide +kernel)) (fun _ _ _ _ _ => pg_name (i := 9) sc_small_right.nd rfl (Or.inl rfl)) (fun _ _ _ _ _ => (pts_one (pt_cmpR op_ne (pv 9) (pv 7) (nomark _)))) (fun _ _ _ _ _ => (pv 9)))) (pg_name (i := 8) sc_small_right.nd rfl (Or.inr rfl))
          (pss_cons (ps_setLc (i := 10) (own := [("keys", 4)]) (g := gName 4) (tt := tYes) rfl sc_small_right.nd rfl rfl (sw_true rfl rfl rfl (by decide +kernel)) (pi_list (pv 3)) (blkOk_by (N := N_small_right) (sc := defScope s_small_right) (by decide +kernel)) (fun _ _ _ _ _ => pg_name (i := 4) sc_small_right.nd rfl (Or.inl rfl)) (fun _ _ _ _ _ => pts_nil) (fun _ _ _ _ _ => (pe_cmpR op_lt (pe_ix (show IxR _ (rIxL K) from ix_list) (pv 4) (pv 7) (fun _ _ => rfl)) (pe_ix (show IxR _ (rIxL K) from ix_list) (pv 4) (pv 8) (fun _ _ => rfl)) (nomark _))))
            (pss_cons (ps_set (i := 11) sc_small_right.nd rfl (Or.inl rfl) (pe_ifExp (pt_cmpR (op_eqD hr.units) (pv 10) (pe_op op_rep (pe_slice sl_list (pv 10) po_none (po_some pe_int)) (pe_callB call_len_seq (by rfl) T.z_len PySem.boot_len (pa_cons (pv 10) pa_nil))) (nomark _)) (pe_ix ix_list (pv 10) pe_int (fun _ _ => rfl)) pe_non))
            (pss_one (ps_if (pt_cmpR op_ne (pe_callB (call_reprS gd (units65 hr)) (by rfl) T.z_repr (by decide +kernel) (pa_cons (pe_call G_follows (hr.mono (by decide)) (by rfl) T.g_follows T.k_follows T.b_follows .nil pass0 (pa_cons (pv 1) (pa_cons (pv 2) (pa_cons (pe_tup (pa_cons (pv 7) (pa_cons (pv 8) pa_nil))) pa_nil)))) pa_nil)) (pe_callB (call_reprS gd (units65 hr)) (by rfl) T.z_repr (by decide +kernel) (pa_cons (pv 11) pa_nil)) (nomark _)) (pss_one (ps_ret pe_bl)) pss_nil)))))))
    (pss_one (ps_ret pe_bl))))))), ?_⟩
    refine ⟨_, rfl, p, 4, rfl, hs, by decide, by decide, fun v x y z v0 v1 => ⟨_, _, rfl, rfl, ?_⟩⟩
    dsimp only
    obtain ⟨n, en, n0, n4⟩ : ∃ n : Nat, 1 + v = (n : Int) ∧ 0 < n ∧ n ≤ 4 := ⟨(1 + v).toNat, by omega, by omega, by omega⟩
    rw [en]
    have d1 : DnZ p H (upd H p (.lst [.int x, .int y, .int z])) := .put
    generalize upd H p (.lst [.int x, .int y, .int z]) = H1 at d1 ⊢
    refine ⟨_, rfl, _, rfl, p, n, 6, rfl, d1.2, by omega, by omega, n0, fun l H2 es kk hl d2 LL lu inn ne sat => ?_⟩
    have hlie : Rel.lie (Rel.init n) es 0 = none := (Rel.lie_iff inn).mpr ⟨kk, sat⟩
    have d12 := d1.trans d2
    refine ⟨by show 0 ≤ sizeLine; decide, fun S hS => ?_⟩
    have sS := same_upd (o := .lst []) hS
    have d13 := d12.same sS
    have LL3 := LL.same sS
    have hS3 : upd H2 S (.lst []) S = some (.lst []) := upd_same
    have nlS : l ≠ S := fun z => by
      obtain ⟨ts, hl2, _⟩ := LL
      rw [z, hS] at hl2
      cases hl2
    have fS : H2 S = none := hS
    generalize upd H2 S (.lst []) = H3 at d13 LL3 hS3 ⊢
    refine ⟨_, rfl, n, rfl, n4, fun AK H4 s4 hA RA => ?_⟩
    have d14 := d13.same s4
    have LL4 := LL3.same s4
    have hS4 := s4 _ _ hS3
    have l256 : (allk n n).length ≤ 256 := Nat.le_trans (allk_len n4 n) (Nat.le_trans (Nat.pow_le_pow_right (by decide) n4) (by decide))
    have memk : ∀ k, k ∈ allk n n ↔ k.length = n ∧ ∀ x ∈ k, x < n := fun k => allk_mem
    generalize allk n n = ks at RA l256 memk
    obtain ⟨rs, hAK, lrs, row⟩ := RA
    have nAS : AK ≠ S := fun z => by rw [z, hS3] at hA; cases hA
    have nrS : ∀ {i : Nat} {r : Addr}, rs[i]? = some r → r ≠ S := fun {i r} hi z => by
      have li : i < ks.length := by have := (List.getElem?_eq_some_iff.mp hi).1; omega
      have := row i r ks[i] hi (List.getElem?_eq_getElem li)
      rw [z, hS4] at this
      have := HO.lst.inj (Option.some.inj this)
      have e2 := ((memk ks[i]).mp (List.getElem_mem _)).1
      have e3 := congrArg List.length this
      unfold nV at e3
      rw [List.length_map, e2] at e3
      exact absurd e3 (by show ¬ 0 = n; omega)
    obtain ⟨ts, hts, lts, its⟩ := id LL4
    have kee : ∀ {H' : Hp} {q : Addr} {o : HO}, SB S H4 H' → q ≠ S → H4 q = some o → H' q = some o := fun s n e => s _ _ n e
    have keeE : ∀ {H' : Hp} {v : V} {e : Rel.Ent}, SB S H4 H' → EntA H4 v e → EntA H' v e := fun {H' v e} s h => by
      obtain ⟨t, u, ev, hu, ht⟩ := h
      exact ⟨t, u, ev, s _ _ (fun z => by rw [z, hS4] at hu; cases hu) hu, s _ _ (fun z => by rw [z, hS4] at ht; cases ht) ht⟩
    refine ⟨AK, rfl, ⟨_, L2.sq_of hAK⟩, ?_⟩
    refine for_list (K := K) (a := AK) (xs := rs.map V.ref) (fun i σ H' => ∃ u4 u5 u6 u7 u8 u9 u10 u11 : Option V, σ = [some (.ref p), some (.int (n : Int)), some (.ref l), some (.ref S), u4, u5, u6, u7, u8, u9, u10, u11] ∧ SB S H4 H' ∧ RowsL H' S ((ks.take i).filter (satB es))) ⟨_, _, _, _, _, _, _, _, rfl, .refl _ _, [], hS4, rfl, (by intro i r k h; cases h)⟩ (fun i σ H' _ h => by obtain ⟨u4, u5, u6, u7, u8, u9, u10, u11, _, s, _⟩ := h; exact L2.sq_of (s _ _ nAS hAK)) ?_ ?_
    · rintro i y σ H5 hy ⟨u4, u5, u6, u7, u8, u9, u10, u11, rfl, s5, RS⟩
      rw [List.getElem?_map] at hy
      obtain ⟨r, hr⟩ : ∃ r, rs[i]? = some r := by
        cases e : rs[i]? with
        | none => rw [e] at hy; cases hy
        | some r => exact ⟨r, rfl⟩
      rw [hr] at hy
      obtain rfl := Option.some.inj hy
      have li : i < ks.length := by have := (List.getElem?_eq_some_iff.mp hr).1; omega
      have hk : ks[i]? = some ks[i] := List.getElem?_eq_getElem li
      have tk : ks.take (i + 1) = ks.take i ++ [ks[i]] := by rw [List.take_add_one, hk]; rfl
      have hrow := s5 _ _ (nrS hr) (row i r _ hr hk)
      have lk := ((memk ks[i]).mp (List.getElem_mem _)).1
      have lf : ((ks.take i).filter (satB es)).length ≤ 256 := Nat.le_trans (List.length_filter_le _ _) (by rw [List.length_take]; omega)
      rw [tk, List.filter_append]
      generalize ks[i] = k at hrow lk ⊢
      generalize (ks.take i).filter (satB es) = ms at RS lf ⊢
      obtain ⟨ss, hS5, lss, rowS⟩ := RS
      have hl5 := s5 _ _ nlS hts
      refine ⟨_, rfl, l, rfl, ⟨_, L2.sq_of hl5⟩, fun D hD => ?_⟩
      refine lc_list (K := K) (a := l) (xs := ts) (fun j H' => Same H5 H' ∧ H' D = some (.lst ((List.replicate (lies (es.take j) k) (1 : Int)).map V.int))) ⟨same_upd hD, upd_same⟩ (fun i H' _ h => L2.sq_of (h.1 _ _ hl5)) ?_ ?_
      · rintro j y H6 hy ⟨s6, h6⟩
        have lj : j < es.length := by have := (List.getElem?_eq_some_iff.mp hy).1; omega
        have he : es[j]? = some es[j] := List.getElem?_eq_getElem lj
        have tj : es.take (j + 1) = es.take j ++ [es[j]] := by rw [List.take_add_one, he]; rfl
        have hin := inn es[j] (List.getElem_mem _)
        obtain ⟨t, u, rfl, hu, ht⟩ := keeE s5 (its j y es[j] hy he)
        have lies1 : lies (es.take (j + 1)) k = lies (es.take j) k + lies [es[j]] k := by
          unfold lies
          rw [tj, List.filter_append, List.length_append]
        have lle : lies (es.take j) k ≤ 6 := Nat.le_trans (List.length_filter_le _ _) (by rw [List.length_take]; omega)
        rw [lies1]
        generalize lies (es.take j) k = m at h6 lle ⊢
        generalize es[j] = e at hin hu ht ⊢
        obtain ⟨⟨o1, o2⟩, an⟩ := e
        have hu6 := s6 _ _ hu
        have ht6 := s6 _ _ ht
        have hr6 := s6 _ _ hrow
        refine ⟨u, _, rfl, L2.st_of hu6, rfl, _, _, rfl, _, _, rfl, rfl, rfl, ?_⟩
        refine ⟨_, rfl, _, rfl, t, _, _, _, rfl, rfl, L2.st_of ht6, atI_nat (j := 0) rfl, r, _, _, _, rfl, rfl, L2.sq_of hr6, key_atN (by rw [lk]; exact hin.1), ?_⟩
        refine ⟨_, rfl, _, rfl, t, _, _, _, rfl, rfl, L2.st_of ht6, atI_nat (j := 1) rfl, r, _, _, _, rfl, rfl, L2.sq_of hr6, key_atN (by rw [lk]; exact hin.2), _, _, rfl, rfl, ?_⟩
        have dd : decide (((k.getD o1 0 : Nat) : Int) < ((k.getD o2 0 : Nat) : Int)) = decide (k.getD o1 0 < k.getD o2 0) := decide_eq_decide.mpr (by omega)
        have ll : lies [((o1, o2), an)] k = if decide (k.getD o1 0 < k.getD o2 0) = an then 0 else 1 := by
          unfold lies
          by_cases c : decide (k.getD o1 0 < k.getD o2 0) = an
          · rw [if_pos c, List.filter_cons_of_neg (by show ¬ (!decide (decide (k.getD o1 0 < k.getD o2 0) = an)) = true; rw [decide_eq_true c]; decide)]
            rfl
          · rw [if_neg c, List.filter_cons_of_pos (by show (!decide (decide (k.getD o1 0 < k.getD o2 0) = an)) = true; rw [decide_eq_false c]; rfl)]
            rfl
        rw [ll]
        dsimp only
        rw [dd]
        by_cases c : decide (k.getD o1 0 < k.getD o2 0) = an
        · refine ⟨_, rfl, rfl, false, ?_, ?_⟩
          · show V.bl (!decide (V.bl _ = V.bl an)) = V.bl false
            rw [c, decide_eq_true rfl]
            rfl
          · rw [if_pos c]
            exact iteF ⟨s6, h6⟩
        · refine ⟨_, rfl, rfl, true, ?_, ?_⟩
          · show V.bl (!decide (V.bl _ = V.bl an)) = V.bl true
            rw [decide_eq_false (fun z => c (V.bl.inj z))]
            rfl
          · rw [if_neg c]
            refine iteT ⟨_, h6, ?_, same_put s6 hD, ?_⟩
            · rw [List.length_map, List.length_replicate]
              exact Nat.lt_of_le_of_lt lle (by decide)
            · rw [upd_same, List.replicate_succ', List.map_append]
              rfl
      · rintro H6 ⟨s6, h6⟩
        rw [lts, List.take_length] at h6
        have lle : lies es k ≤ 6 := Nat.le_trans (List.length_filter_le _ _) lu
        have s56 : SB S H4 H6 := s5.trans fun b o _ e => s6 _ _ e
        refine ⟨by show 0 ≤ sizeLine; decide, fun e he => ?_⟩
        have s7 := same_upd (o := .lst []) he
        refine ⟨_, _, dp_ints (L2.sq_of (s7 _ _ h6)), dp_ints (ns := []) (L2.sq_of upd_same), shaped_ints _, shaped_ints _, _, rfl, ?_⟩
        rw [show PyData.eqv _ _ = _ from eqv_lists (List.replicate (lies es k) (1 : Int)) []]
        have s58 : Same H5 (upd H6 e (.lst [])) := s6.trans s7
        have s48 : SB S H4 (upd H6 e (.lst [])) := s5.trans fun b o _ z => s58 _ _ z
        have R8 : RowsL (upd H6 e (.lst [])) S ms := ⟨ss, s58 _ _ hS5, lss, fun i r k x y => s58 _ _ (rowS i r k x y)⟩
        have hr8 := s58 _ _ hrow
        generalize upd H6 e (.lst []) = H8 at s48 R8 hr8 ⊢
        by_cases c : satB es k = true
        · have e0 := lies_zero.mpr c
          rw [e0, List.filter_cons_of_pos c, List.filter_nil]
          refine iteT ?_
          obtain ⟨s2, hS8, ls2, rowS2⟩ := R8
          refine ⟨_, rfl, .inl ⟨rfl, _, L2.sq_of hS8⟩, _, rfl, S, _, _, rfl, rfl, hS8, by rw [List.length_map, ls2]; exact Nat.lt_of_le_of_lt lf (by decide), ?_⟩
          refine ⟨_, _, _, _, _, _, _, _, rfl, fun b o nb z => by rw [upd_ne nb]; exact s48 b o nb z, s2 ++ [r], by rw [upd_same, List.map_append]; rfl, by rw [List.length_append, List.length_append, ls2]; rfl, fun i2 r2 k2 x y => ?_⟩
          rcases getElem?_snoc ls2 x with ⟨x, lt⟩ | ⟨rfl, rfl⟩
          · rw [List.getElem?_append_left lt] at y
            have z := rowS2 i2 r2 k2 x y
            by_cases n2 : r2 = S
            · subst n2
              exact (nn_row hS8 z (by rw [ls2]; exact lt)).elim
            · rw [upd_ne n2]
              exact z
          · rw [List.getElem?_append_right (Nat.le_refl _), Nat.sub_self] at y
            obtain rfl := Option.some.inj y
            rw [upd_ne (nrS hr)]
            exact hr8
        · have e0 : List.replicate (lies es k) (1 : Int) ≠ [] := fun z => c (lies_zero.mp ((List.replicate_eq_nil_iff (1 : Int)).mp z))
          rw [decide_eq_false e0, List.filter_cons_of_neg c, List.filter_nil, List.append_nil]
          exact iteF ⟨_, _, _, _, _, _, _, _, rfl, s48, R8⟩
    · rintro σ H5 ⟨u4, u5, u6, u7, u8, u9, u10, u11, rfl, s5, RS⟩
      rw [List.length_map, lrs, List.take_length] at RS
      have hm : ∀ k, k ∈ ks.filter (satB es) ↔ (k.length = n ∧ ∀ x ∈ k, x < n) ∧ satB es k = true := fun k => by rw [List.mem_filter, memk]
      have lf : (ks.filter (satB es)).length ≤ 256 := Nat.le_trans (List.length_filter_le _ _) l256
      generalize ks.filter (satB es) = ms at RS hm lf
      obtain ⟨ss, hS5, lss, rowS⟩ := RS
      have LL5 : LogL H5 l es := ⟨ts, s5 _ _ nlS hts, lts, fun k v e x y => keeE s5 (its k v e x y)⟩
      have LO5 : LogOk H5 l n es := ⟨LL5.row, by omega, inn, ne⟩
      refine ⟨_, rfl, (n : Int), rfl, by omega, by omega, ?_⟩
      rw [Int.toNat_natCast]
      refine for_range (lo := 0) (n := n) (fun i σ H' => ∃ u4 u5 u6 u7 u8 u9 u10 u11 : Option V, σ = [some (.ref p), some (.int (n : Int)), some (.ref l), some (.ref S), u4, u5, u6, u7, u8, u9, u10, u11] ∧ Same H5 H') ⟨_, _, _, _, _, _, _, _, rfl, .refl _⟩ ?_ ?_
      · rintro one σ H6 ho ⟨u4, u5, u6, u7, u8, u9, u10, u11, rfl, s6⟩
        refine ⟨_, rfl, (n : Int), rfl, by omega, by omega, fun B hB => ?_⟩
        rw [Int.toNat_natCast]
        refine lc_range (lo := 0) (n := n) (fun i H' => Same H6 H' ∧ H' B = some (.lst (nV ((List.range i).filter fun k => decide (k ≠ one))))) ⟨same_upd hB, upd_same⟩ ?_ ?_
        · rintro i H7 hi ⟨s7, h7⟩
          refine ⟨rfl, _, rfl, _, rfl, rfl, ?_⟩
          rw [List.range_succ, List.filter_append]
          by_cases c : i = one
          · refine ⟨false, ?_, iteF ⟨s7, ?_⟩⟩
            · rw [c]
              show V.bl (!decide (V.int _ = V.int _)) = V.bl false
              rw [decide_eq_true rfl]
              rfl
            · rw [List.filter_cons_of_neg (by exact fun z => of_decide_eq_true z c), List.filter_nil, List.append_nil]
              exact h7
          · refine ⟨true, ?_, iteT ⟨_, rfl, _, h7, ?_, same_put s7 hB, ?_⟩⟩
            · show V.bl (!decide (V.int _ = V.int _)) = V.bl true
              rw [decide_eq_false (fun z => c (by have := V.int.inj z; omega))]
              rfl
            · unfold nV
              rw [List.length_map]
              exact Nat.lt_of_le_of_lt (Nat.le_trans (List.length_filter_le _ _) (by rw [List.length_range]; omega : _ ≤ 4)) (by decide)
            · rw [upd_same, List.filter_cons_of_pos (by exact decide_eq_true c), List.filter_nil, Int.zero_add, nV_snoc']
        · rintro H7 ⟨s7, h7⟩
          have ok : ∀ o ∈ (List.range n).filter (fun k => decide (k ≠ one)), o < n ∧ o ≠ one := fun o h => ⟨List.mem_range.mp (List.mem_filter.mp h).1, of_decide_eq_true (List.mem_filter.mp h).2⟩
          have s57 := s6.trans s7
          generalize (List.range n).filter (fun k => decide (k ≠ one)) = os at h7 ok
          refine ⟨B, rfl, ⟨_, L2.sq_of h7⟩, ?_⟩
          refine for_list (K := K) (a := B) (xs := nV os) (fun i σ H' => ∃ u4 u5 u6 u8 u9 u10 u11 : Option V, σ = [some (.ref p), some (.int (n : Int)), some (.ref l), some (.ref S), u4, u5, u6, some (.int (one : Int)), u8, u9, u10, u11] ∧ Same H7 H') ⟨_, _, _, _, _, _, _, by rw [show (0 + (one : Int)) = one by omega]; rfl, .refl _⟩ (fun i σ H' _ h => by obtain ⟨u4, u5, u6, u8, u9, u10, u11, _, s⟩ := h; exact L2.sq_of (s _ _ h7)) ?_ ?_
          · rintro i y σ H8 hy ⟨u4, u5, u6, u8, u9, u10, u11, rfl, s8⟩
            obtain ⟨o, hoi, rfl⟩ : ∃ o, os[i]? = some o ∧ y = .int (o : Int) := by
              unfold nV at hy
              rw [List.getElem?_map] at hy
              cases e : os[i]? with
              | none => rw [e] at hy; cases hy
              | some o => rw [e] at hy; exact ⟨o, rfl, (Option.some.inj hy).symm⟩
            obtain ⟨o1, o2⟩ := ok o (List.mem_of_getElem? hoi)
            have s58 := s57.trans s8
            have hS8 := s58 _ _ hS5
            refine ⟨_, rfl, S, rfl, ⟨_, L2.sq_of hS8⟩, fun M hM => ?_⟩
            refine lc_list (K := K) (a := S) (xs := ss.map V.ref) (fun i H' => Same H8 H' ∧ H' M = some (.lst (((ms.take i).map (kmark one o)).map V.bl))) ⟨same_upd hM, upd_same⟩ (fun i H' _ h => L2.sq_of (h.1 _ _ hS8)) ?_ ?_
            · rintro i y H9 hy ⟨s9, h9⟩
              rw [List.getElem?_map] at hy
              obtain ⟨r, hr⟩ : ∃ r, ss[i]? = some r := by
                cases e : ss[i]? with
                | none => rw [e] at hy; cases hy
                | some r => exact ⟨r, rfl⟩
              rw [hr] at hy
              obtain rfl := Option.some.inj hy
              have li : i < ms.length := by have := (List.getElem?_eq_some_iff.mp hr).1; omega
              have hk : ms[i]? = some ms[i] := List.getElem?_eq_getElem li
              have tk : ms.take (i + 1) = ms.take i ++ [ms[i]] := by rw [List.take_add_one, hk]; rfl
              have lk := ((hm ms[i]).mp (List.getElem_mem _)).1.1
              have hr9 := s9 _ _ (s58 _ _ (rowS i r _ hr hk))
              have lt : (ms.take i).length ≤ 256 := by rw [List.length_take]; omega
              rw [tk, List.map_append, List.map_append]
              generalize ms[i] = k at lk hr9 ⊢
              generalize ms.take i = mt at h9 lt ⊢
              refine ⟨rfl, _, rfl, _, rfl, r, _, _, _, rfl, rfl, L2.sq_of hr9, key_atN (by rw [lk]; exact ho), _, rfl, _, rfl, r, _, _, _, rfl, rfl, L2.sq_of hr9, key_atN (by rw [lk]; exact o1), _, _, rfl, rfl, _, h9, ?_, same_put s9 hM, ?_⟩
              · rw [List.length_map, List.length_map]
                exact Nat.lt_of_le_of_lt lt (by decide)
              · rw [upd_same]
                refine congrArg (fun z => some (HO.lst (_ ++ [V.bl z]))) ?_
                exact decide_eq_decide.mpr (by omega)
            · rintro H9 ⟨s9, h9⟩
              rw [List.length_map, lss, List.take_length] at h9
              obtain ⟨nem, due⟩ := fol_due inn hlie hm ho o1
              have lb : (ms.map (kmark one o)).length ≤ 256 := by rw [List.length_map]; exact lf
              obtain ⟨fo, hfo⟩ : ∃ fo, fo = Rel.fol (Rel.run (Rel.init n) es) (one, o) := ⟨_, rfl⟩
              rw [← hfo] at due
              have nb : ms.map (kmark one o) ≠ [] := fun z => nem (List.map_eq_nil_iff.mp z)
              generalize ms.map (kmark one o) = bs at h9 due lb nb
              have s79 := s8.trans s9
              clear hS8
              refine ⟨_, rfl, _, rfl, _, rfl, M, _, rfl, L2.sq_of h9, fun c hc => ?_⟩
              rw [show (some (1 : Int)) = some ((1 : Nat) : Int) from rfl, cut_take, ← List.map_take]
              have sc := same_upd (o := .lst ((bs.take 1).map V.bl)) hc
              have hcc : upd H9 c (.lst ((bs.take 1).map V.bl)) c = some (.lst ((bs.take 1).map V.bl)) := upd_same
              have h10 := sc _ _ h9
              have s710 := s79.trans sc
              generalize upd H9 c (.lst ((bs.take 1).map V.bl)) = H10 at hcc h10 s710 ⊢
              have lbV : (bs.map V.bl).length = bs.length := List.length_map _
              refine ⟨_, rfl, M, _, rfl, .inl (L2.sq_of h10), c, _, _, rfl, rfl, hcc, by omega, by omega, ?_, fun e he => ?_⟩
              · rw [List.length_map, List.length_take, lbV]
                exact Nat.le_trans (Nat.mul_le_mul (Nat.min_le_left _ _) (show ((bs.length : Int)).toNat ≤ 256 by omega)) (by decide)
              have rep : (List.replicate ((bs.map V.bl).length : Int).toNat ((bs.take 1).map V.bl)).flatten = ((List.replicate bs.length (bs.take 1)).flatten).map V.bl := by
                rw [lbV, Int.toNat_natCast, List.map_flatten, List.map_replicate]
              rw [rep]
              have se := same_upd (o := .lst (((List.replicate bs.length (bs.take 1)).flatten).map V.bl)) he
              have hee : upd H10 e (.lst (((List.replicate bs.length (bs.take 1)).flatten).map V.bl)) e = some (.lst (((List.replicate bs.length (bs.take 1)).flatten).map V.bl)) := upd_same
              have h11 := se _ _ h10
              have s711 := s710.trans se
              generalize upd H10 e (.lst (((List.replicate bs.length (bs.take 1)).flatten).map V.bl)) = H11 at hee h11 s711 ⊢
              refine ⟨_, _, dp_bools (L2.sq_of h11), dp_bools (L2.sq_of hee), shaped_bools _, shaped_bools _, _, rfl, ?_⟩
              rw [eqv_bools]
              have LO11 := LO5.same (s57.trans s711)
              by_cases z : decide (bs = (List.replicate bs.length (bs.take 1)).flatten) = true
              case' pos =>
                rw [z] at due ⊢
                rw [if_pos rfl] at due
                have hd : atI (bs.map V.bl) 0 = some (optBV fo) := by
                  rw [← due]
                  cases bs with
                  | nil => exact absurd rfl nb
                  | cons b l => exact atI_nat (j := 0) rfl
                refine iteT ⟨_, rfl, M, _, _, _, rfl, rfl, L2.sq_of h11, hd, ?_⟩
                have hshd : ∀ H : Hp, ShD K H (optBV fo) (optD fo) := fun _ => shd_opt fo
              case' neg =>
                have z : decide (bs = (List.replicate bs.length (bs.take 1)).flatten) = false := by rw [← Bool.not_eq_true]; exact z
                rw [z] at due ⊢
                rw [if_neg (by decide)] at due
                refine iteF ?_
                have hshd : ∀ H : Hp, ShD K H .non (optD fo) := fun _ => by rw [← due]; exact shd_opt none
              all_goals
                refine ⟨_, rfl, _, rfl, _, rfl, _, rfl, by show 2 ≤ sizeLine; decide, fun t ht => ?_⟩
                have st := same_upd (o := .tup [.int (one : Int), .int (o : Int)]) ht
                refine ⟨l, t, n, one, o, es, rfl, by omega, LO11.same st, hlie, upd_same, ho, o1, o2.symm, fun H12 s12 => ?_⟩
                obtain ⟨w1, w2, w3⟩ := showable_opt fo
                refine ⟨_, _, rfl, by rw [optB_eq, ← hfo]; exact shd_opt _, w1, w2, w3, ?_⟩
                refine ⟨_, rfl, _, _, rfl, hshd _, w1, w2, w3, rfl, false, ?_, iteF ?_⟩
                · show V.bl (!decide (V.str _ = V.str _)) = V.bl false
                  rw [decide_eq_true rfl]
                  rfl
                · exact ⟨_, _, _, _, _, _, _, rfl, s711.trans (st.trans s12)⟩
          · rintro σ H8 ⟨u4, u5, u6, u8, u9, u10, u11, rfl, s8⟩
            exact ⟨_, _, _, _, _, _, _, _, rfl, s57.trans s8⟩
      · rintro σ H6 ⟨u4, u5, u6, u7, u8, u9, u10, u11, rfl, s6⟩
        refine q H6 ⟨fun b o nb e => s6 _ _ (s5 _ _ (fun z => ?_) (d14.1 b o nb e)), ?_⟩
        · rw [z, d12.free fS] at e
          cases e
        · obtain ⟨x, y, z, hp⟩ := d14.2
          exact ⟨x, y, z, s6 _ _ (s5 _ _ (fun y => d12.2.ne fS y.symm) hp)⟩
end

end K80

/-! for over zip of rows of unlike lengths -/
namespace L2
open PySem PySem.Spec PyProof.Rows
theorem for_zipT {K : PySem.W.Frag} {a b : Addr} {xs ys : List V} {g : TG} {tb : TS} {D : Ends} {σ : L2.St} {H : Hp} (hl : ys.length ≤ xs.length) (Pv : Nat → L2.St → Hp → Prop) (h0 : Pv 0 σ H) (hq : ∀ i σ H, Pv i σ H → SqL K H a xs ∧ SqL K H b ys)
    (hs : ∀ (i : Nat) (x y : V) (T : Addr) (σ : L2.St) (H : Hp), xs[i]? = some x → ys[i]? = some y → Pv i σ H → H T = none → g (.ref T) σ (upd H T (.tup [x, y])) fun σ2 H2 => tb { D with nx := Pv (i + 1), ct := Pv (i + 1), bk := D.nx } σ2 H2) (hd : ∀ σ H, Pv ys.length σ H → D.nx σ H) :
    ∃ W : Nat → Nat → L2.St → Hp → Prop, (∃ m, W 0 m σ H) ∧ ∀ i m σ H, W i m σ H →
      ((Itz K a b).stop i H ∧ D.nx σ H) ∨ ((Itz K a b).go i H ∧ ∃ N : L2.St → Hp → Prop, (∀ σ' H', N σ' H' → ∃ m', m' < m ∧ W (i + 1) m' σ' H') ∧ ∀ v H', (Itz K a b).yld i H v H' → g v σ H' fun σ2 H2 => tb { D with nx := N, ct := N, bk := D.nx } σ2 H2) := by
  refine ⟨fun i m σ H => m = ys.length - i ∧ i ≤ ys.length ∧ Pv i σ H, ⟨ys.length, rfl, Nat.zero_le _, h0⟩, ?_⟩
  rintro i m σ H ⟨rfl, hi, p⟩
  obtain ⟨qx, qy⟩ := hq i σ H p
  by_cases hlt : i < ys.length
  · have hx : xs[i]? = some xs[i] := List.getElem?_eq_getElem (by omega)
    have hy : ys[i]? = some ys[i] := List.getElem?_eq_getElem hlt
    refine .inr ⟨⟨xs, ys, _, _, qx, qy, hx, hy⟩, Pv (i + 1), fun σ' H' p' => ⟨ys.length - (i + 1), by omega, rfl, hlt, p'⟩, fun v H' y => ?_⟩
    obtain ⟨T, x', y', rfl, hT, rfl, f1, f2⟩ := y
    exact hs i x' y' T σ H (f1 xs qx) (f2 ys qy) p hT
  · have e : i = ys.length := by omega
    subst e
    exact .inl ⟨⟨xs, ys, qx, qy, Or.inr (Nat.le_refl _)⟩, hd σ H p⟩
end L2

namespace K80
open PySem PySem.Spec PyProof.Rows L2 




theorem erase_perm {ls : List Nat} {k y : Nat} (h : ls[k]? = some y) : (y :: ls.eraseIdx k).Perm ls := by
  have lt := (List.getElem?_eq_some_iff.mp h).1
  have e1 : ls.eraseIdx k = ls.take k ++ ls.drop (k + 1) := List.eraseIdx_eq_take_drop_succ ..
  have e2 : ls = ls.take k ++ y :: ls.drop (k + 1) := by
    have q : ls[k] = y := (List.getElem?_eq_some_iff.mp h).2
    rw [← q, ← List.drop_eq_getElem_cons lt, List.take_append_drop]
  rw [e1]
  conv => rhs; rw [e2]
  exact List.perm_middle.symm
theorem nV_len (ls : List Nat) : (nV ls).length = ls.length := by unfold nV; rw [List.length_map]
theorem nV_get {ls : List Nat} {i y : Nat} (h : ls[i]? = some y) : (nV ls)[i]? = some (.int (y : Int)) := by
  unfold nV
  rw [List.getElem?_map, h]
  rfl
theorem nV_erase {ls : List Nat} {k : Nat} : (nV ls).eraseIdx k = nV (ls.eraseIdx k) := by
  rw [List.eraseIdx_eq_take_drop_succ, List.eraseIdx_eq_take_drop_succ]
  unfold nV
  rw [List.map_append, List.map_take, List.map_drop]
theorem ins_pairs {α β : Type} {P : α → β → Prop} {xs : List α} {ys : List β} (ln : xs.length = ys.length) (h : ∀ (k : Nat) (v : α) (e : β), xs[k]? = some v → ys[k]? = some e → P v e) {x : α} {y : β} (hp : P x y) (i : Nat) :
    ∀ (k : Nat) (v : α) (e : β), (xs.take i ++ [x] ++ xs.drop i)[k]? = some v → (ys.take i ++ [y] ++ ys.drop i)[k]? = some e → P v e := by
  intro k v e h1 h2
  have lt : (xs.take i).length = (ys.take i).length := by rw [List.length_take, List.length_take, ln]
  rw [List.append_assoc] at h1 h2
  rcases Nat.lt_or_ge k (xs.take i).length with z | z
  · rw [List.getElem?_append_left z, List.getElem?_take] at h1
    rw [List.getElem?_append_left (by omega), List.getElem?_take] at h2
    by_cases c : k < i
    · rw [if_pos c] at h1 h2
      exact h k v e h1 h2
    · rw [if_neg c] at h1
      cases h1
  · rw [List.getElem?_append_right z] at h1
    rw [List.getElem?_append_right (by omega), ← lt] at h2
    generalize k - (xs.take i).length = m at h1 h2
    cases m with
    | zero =>
      obtain rfl := Option.some.inj h1
      obtain rfl := Option.some.inj h2
      exact hp
    | succ m =>
      have h1 : (xs.drop i)[m]? = some v := h1
      have h2 : (ys.drop i)[m]? = some e := h2
      rw [List.getElem?_drop] at h1 h2
      exact h _ v e h1 h2
theorem LogL.keep {H H' : Hp} {l : Addr} {es : List Rel.Ent} (h : LogL H l es) (e : H' l = H l) (k : ∀ (t : Addr) (xs : List V), H t = some (.tup xs) → H' t = some (.tup xs)) : LogL H' l es := by
  obtain ⟨ts, hl, lts, its⟩ := h
  refine ⟨ts, e.trans hl, lts, fun i v x a b => ?_⟩
  obtain ⟨t, u, ev, hu, ht⟩ := its i v x a b
  exact ⟨t, u, ev, k _ _ hu, k _ _ ht⟩
theorem put_tup {H : Hp} {l : Addr} {xs : List V} {o : HO} (h : H l = some (.lst xs)) : ∀ (t : Addr) (ys : List V), H t = some (.tup ys) → upd H l o t = some (.tup ys) := fun t ys e => by
  rw [upd_ne (fun z => by rw [z, h] at e; cases e)]
  exact e
theorem src_tup {H : Hp} {p : Addr} {o : HO} (h : SrcZ H p) : ∀ (t : Addr) (ys : List V), H t = some (.tup ys) → upd H p o t = some (.tup ys) := by
  obtain ⟨x, y, z, hp⟩ := h
  exact put_tup hp
theorem sb_put {H H' : Hp} {p r : Addr} {o : HO} (s : SB p H H') (h : H r = none) : SB p H (upd H' r o) := fun q x nq e => by rw [upd_ne (ne_of_none e h)]; exact s q x nq e
theorem sb_src {H H' : Hp} {p : Addr} {o : HO} (s : SB p H H') : SB p H (upd H' p o) := fun q x nq e => by rw [upd_ne nq]; exact s q x nq e
theorem in_bools (bs : List Bool) : inV (.bl true) (bs.map V.bl) = bs.any id := by
  unfold inV
  rw [List.any_map]
  refine congrArg (fun f => bs.any f) (funext fun b => ?_)
  show eqV (.bl b) (.bl true) = b
  show (b == true) = b
  cases b <;> rfl
theorem flat_bools (bs : List Bool) : (bs.map V.bl).all flatV = true := by
  refine List.all_eq_true.mpr fun v hv => ?_
  obtain ⟨b, _, rfl⟩ := List.mem_map.mp hv
  rfl
theorem atI_bk {xs : List V} {k : Nat} {v : V} (h0 : 0 < k) (h1 : k ≤ xs.length) (h : xs[xs.length - k]? = some v) : atI xs (-(k : Int)) = some v := by
  have e : ixN xs.length (-(k : Int)) = some (xs.length - k) := by
    unfold ixN
    rw [if_neg (by omega), if_pos (by omega)]
    exact congrArg some (by omega)
  unfold atI
  rw [e]
  exact h
theorem EntA.keep {H H' : Hp} {v : V} {e : Rel.Ent} (h : EntA H v e) (k : ∀ (t : Addr) (xs : List V), H t = some (.tup xs) → H' t = some (.tup xs)) : EntA H' v e := by
  obtain ⟨t, u, ev, hu, ht⟩ := h
  exact ⟨t, u, ev, k _ _ hu, k _ _ ht⟩
theorem bool_back {ms : List Bool} {b : Bool} : atI ((ms ++ [b]).map V.bl) (-1) = some (.bl b) := by
  refine atI_bk (k := 1) (by decide) (by rw [List.length_map, List.length_append, List.length_singleton]; omega) ?_
  rw [List.length_map, List.length_append, List.length_singleton, Nat.add_sub_cancel, List.getElem?_map, List.getElem?_append_right (Nat.le_refl _), Nat.sub_self]
  rfl
theorem LogL.keep' {p : Addr} {H H' : Hp} {l : Addr} {es : List Rel.Ent} (h : LogL H l es) (hs : SrcZ H p) (n : l ≠ p) (d : DnZ p H H') : LogL H' l es := by
  obtain ⟨ts, hl, r⟩ := id h
  exact h.keep (by rw [hl]; exact d.1 _ _ n hl) fun t xs e => DnZ.tup d hs e
def spChain : Sp := fun vs H Q _ => ∃ p : Addr, vs = [.ref p] ∧ SrcZ H p ∧ ∀ H', DnZ p H H' → Q (.bl true) H'
section
variable {P : Program} {w : World} {K : PySem.W.Frag} {mg : Str → Option Value} {base : Heap} {a : Ad} {d : Fd}
theorem ok_chain_right (T : Txt K mg a d) : FnOk P w K mg base CX0 9 a.chain_right d.chain_right P_chain_right spChain := by
  have G_take : FnOk P w K mg base CX0 2 a.take d.take P_take spTake := ok_take T
  have G_follows : FnOk P w K mg base CX0 8 a.follows d.follows P_follows spF := ok_F T
  refine T.f_chain_right.ok sc_chain_right (fun vs H Q E h => ?_) (fun cdv A outer s0 H vs Q E hr h => ?_)
  · obtain ⟨p, rfl, _⟩ := h
    rfl
  · obtain ⟨p, rfl, hs, q⟩ := h
    refine ⟨_, (pss_cons (ps_set (i := 1) sc_chain_right.nd rfl (Or.inl rfl) (pe_op op_add pe_int (pe_call G_take (hr.mono (by decide)) (by rfl) T.g_take T.k_take T.b_take .nil pass0 (pa_cons (pv 0) (pa_cons pe_int pa_nil)))))
    (pss_cons (ps_asg (pe_tup (pa_cons (pe_listRg (by rfl) (by rfl) T.z_list (prg_1 (by rfl) T.z_range (pv 1))) (pa_cons (pe_lst pa_nil) (pa_cons (pe_lst pa_nil) (pa_cons (pe_lst pa_nil) pa_nil))))) (pg_tup rfl (pgs_cons (pg_name (i := 2) sc_chain_right.nd rfl (Or.inl rfl)) (pgs_cons (pg_name (i := 3) sc_chain_right.nd rfl (Or.inl rfl)) (pgs_cons (pg_name (i := 4) sc_chain_right.nd rfl (Or.inl rfl)) (pgs_cons (pg_name (i := 5) sc_chain_right.nd rfl (Or.inl rfl)) pgs_nil))))))
    (pss_cons (ps_for PassesOwn.never rfl (pi_range1 (by rfl) T.z_range (pa_cons (pv 1) pa_nil)) (pg_name (i := 6) sc_chain_right.nd rfl (Or.inl rfl))
      (pss_one (ps_expr (pe_bm PySem.F.plainAttrs_list PySem.F.slot_list_append PySem.F.type_list_append mt_append (pv 3) (pa_cons (pe_bm PySem.F.plainAttrs_list PySem.F.slot_list_pop PySem.F.type_list_pop mt_popAt (pv 2) (pa_cons (pe_call G_take (hr.mono (by decide)) (by rfl) T.g_take T.k_take T.b_take .nil pass0 (pa_cons (pv 0) (pa_cons (pe_callB call_len_seq (by rfl) T.z_len PySem.boot_len (pa_cons (pv 2) pa_nil)) pa_nil))) pa_nil)) pa_nil)))))
    (pss_cons (ps_for PassesOwn.never rfl (pi_zip (by rfl) T.z_zip (pa_cons (pv 3) (pa_cons (pe_slice sl_list (pv 3) (po_some pe_int) po_none) pa_nil))) (pg_tup rfl (pgs_cons (pg_name (i := 7) sc_chain_right.nd rfl (Or.inl rfl)) (pgs_cons (pg_name (i := 8) sc_chain_right.nd rfl (Or.inl rfl)) pgs_nil)))
      (pss_cons (ps_expr (pe_bm PySem.F.plainAttrs_list PySem.F.slot_list_append PySem.F.type_list_append mt_append (pv 5) (pa_cons (pe_cmpR op_eq (pe_call G_take (hr.mono (by decide)) (by rfl) T.g_take T.k_take T.b_take .nil pass0 (pa_cons (pv 0) (pa_cons pe_int pa_nil))) pe_int (nomark _)) pa_nil)))
        (pss_cons (ps_set (i := 9) sc_chain_right.nd rfl (Or.inl rfl) (pe_ifExp (pt_val (pe_ix ix_list (pv 5) (pe_un un_neg pe_int) (fun _ _ => rfl))) (pe_tup (pa_cons (pe_tup (pa_cons (pv 7) (pa_cons (pv 8) pa_nil))) (pa_cons pe_bl pa_nil))) (pe_tup (pa_cons (pe_tup (pa_cons (pv 8) (pa_cons (pv 7) pa_nil))) (pa_cons pe_bl pa_nil)))))
        (pss_one (ps_expr (pe_bm PySem.F.plainAttrs_list PySem.F.slot_list_insert PySem.F.type_list_insert mt_insert (pv 4) (pa_cons (pe_call G_take (hr.mono (by decide)) (by rfl) T.g_take T.k_take T.b_take .nil pass0 (pa_cons (pv 0) (pa_cons (pe_op op_add (pe_callB call_len_seq (by rfl) T.z_len PySem.boot_len (pa_cons (pv 4) pa_nil)) pe_int) pa_nil))) (pa_cons (pv 9) pa_nil))))))))
    (pss_cons (ps_for PassesOwn.never rfl (pi_range1 (by rfl) T.z_range (pa_cons pe_int pa_nil)) (pg_name (i := 6) sc_chain_right.nd rfl (Or.inl rfl))
      (pss_cons (ps_set (i := 10) sc_chain_right.nd rfl (Or.inl rfl) (pe_call G_take (hr.mono (by decide)) (by rfl) T.g_take T.k_take T.b_take .nil pass0 (pa_cons (pv 0) (pa_cons (pe_op op_sub (pv 1) pe_int) pa_nil))))
        (pss_cons (ps_set (i := 11) sc_chain_right.nd rfl (Or.inl rfl) (pe_op op_add (pe_op op_add (pv 10) pe_int) (pe_call G_take (hr.mono (by decide)) (by rfl) T.g_take T.k_take T.b_take .nil pass0 (pa_cons (pv 0) (pa_cons (pe_op op_sub (pe_op op_sub (pv 1) pe_int) (pv 10)) pa_nil)))))
        (pss_cons (ps_set (i := 12) sc_chain_right.nd rfl (Or.inl rfl) (pe_ifExp (pt_cmpR op_in_seq pe_bl (pe_slice sl_list (pv 5) (po_some (pv 10)) (po_some (pv 11))) (by rfl)) (pe_lst (pa_cons pe_bl pa_nil)) (pe_lst (pa_cons pe_non pa_nil))))
        (pss_one (ps_if (PW.pt (pw_or (pt_cmpR (op_neD hr.units) (pe_lst (pa_cons (pe_call G_follows (hr.mono (by decide)) (by rfl) T.g_follows T.k_follows T.b_follows .nil pass0 (pa_cons (pv 1) (pa_cons (pv 4) (pa_cons (pe_tup (pa_cons (pe_ix ix_list (pv 3) (pv 10) (fun _ _ => rfl)) (pa_cons (pe_ix ix_list (pv 3) (pv 11) (fun _ _ => rfl)) pa_nil))) pa_nil)))) pa_nil)) (pv 12) (nomark _)) (pw_or1 (pt_cmpR op_notBl (pe_call G_follows (hr.mono (by decide)) (by rfl) T.g_follows T.k_follows T.b_follows .nil pass0 (pa_cons (pv 1) (pa_cons (pv 4) (pa_cons (pe_tup (pa_cons (pe_ix ix_list (pv 3) (pv 11) (fun _ _ => rfl)) (pa_cons (pe_ix ix_list (pv 3) (pv 10) (fun _ _ => rfl)) pa_nil))) pa_nil)))) pe_bl (nomark _))))) (pss_one (ps_ret pe_bl)) pss_nil))))))
    (pss_one (ps_ret pe_bl))))))), ?_⟩
    refine ⟨_, rfl, p, 26, rfl, hs, by decide, by decide, fun v x y z v0 v1 => ⟨_, _, rfl, rfl, ?_⟩⟩
    dsimp only
    obtain ⟨n, en, n15, n40⟩ : ∃ n : Nat, 15 + v = (n : Int) ∧ 15 ≤ n ∧ n ≤ 40 := ⟨(15 + v).toNat, by omega, by omega, by omega⟩
    rw [en]
    have d1 : DnZ p H (upd H p (.lst [.int x, .int y, .int z])) := .put
    generalize upd H p (.lst [.int x, .int y, .int z]) = H1 at d1 ⊢
    refine ⟨_, rfl, (n : Int), rfl, rgOk_nat (by omega), fun Lf hLf => ?_⟩
    rw [rg_nat]
    refine ⟨by show 0 ≤ sizeLine; decide, fun Rw hRw => ⟨by show 0 ≤ sizeLine; decide, fun Mi hMi => ⟨by show 0 ≤ sizeLine; decide, fun Mk hMk => ⟨by show 4 ≤ sizeLine; decide, fun T4 hT4 => ?_⟩⟩⟩⟩
    refine ⟨T4, _, rfl, L2.st_of upd_same, rfl, _, _, rfl, _, _, rfl, _, _, rfl, _, _, rfl, rfl, ?_⟩
    have a1 : upd H1 Lf (.lst (nV (List.range n))) Lf = some (.lst (nV (List.range n))) := upd_same
    have sA := same_upd (o := .lst (nV (List.range n))) hLf
    have sB := same_upd (o := .lst []) hRw
    have sC := same_upd (o := .lst []) hMi
    have sD := same_upd (o := .lst []) hMk
    have sE := same_upd (o := .tup [V.ref Lf, .ref Rw, .ref Mi, .ref Mk]) hT4
    have fLf : H Lf = none := d1.free hLf
    have dA := d1.same sA
    have fRw : H Rw = none := dA.free hRw
    have dB := dA.same sB
    have fMi : H Mi = none := dB.free hMi
    have dC := dB.same sC
    have fMk : H Mk = none := dC.free hMk
    have dE := (dC.same sD).same sE
    have hRB : upd (upd H1 Lf (.lst (nV (List.range n)))) Rw (.lst []) Rw = some (.lst []) := upd_same
    have hMC : upd (upd (upd H1 Lf (.lst (nV (List.range n)))) Rw (.lst [])) Mi (.lst []) Mi = some (.lst []) := upd_same
    have hKD : upd (upd (upd (upd H1 Lf (.lst (nV (List.range n)))) Rw (.lst [])) Mi (.lst [])) Mk (.lst []) Mk = some (.lst []) := upd_same
    have nRL : Rw ≠ Lf := fun z => by rw [z, a1] at hRw; cases hRw
    have nMR : Mi ≠ Rw := fun z => by rw [z, hRB] at hMi; cases hMi
    have nML : Mi ≠ Lf := fun z => by rw [z, sB _ _ a1] at hMi; cases hMi
    have nKM : Mk ≠ Mi := fun z => by rw [z, hMC] at hMk; cases hMk
    have nKR : Mk ≠ Rw := fun z => by rw [z, sC _ _ hRB] at hMk; cases hMk
    have nKL : Mk ≠ Lf := fun z => by rw [z, sC _ _ (sB _ _ a1)] at hMk; cases hMk
    have e1 := sE _ _ (sD _ _ (sC _ _ (sB _ _ a1)))
    have e2 := sE _ _ (sD _ _ (sC _ _ hRB))
    have e3 := sE _ _ (sD _ _ hMC)
    have e4 := sE _ _ hKD
    generalize upd (upd (upd (upd (upd H1 Lf (.lst (nV (List.range n)))) Rw (.lst [])) Mi (.lst [])) Mk (.lst [])) T4 (.tup [V.ref Lf, .ref Rw, .ref Mi, .ref Mk]) = H2 at dE e1 e2 e3 e4 ⊢
    have nLp : Lf ≠ p := hs.ne fLf
    have nRp : Rw ≠ p := hs.ne fRw
    have nMp : Mi ≠ p := hs.ne fMi
    have nKp : Mk ≠ p := hs.ne fMk
    clear sA sB sC sD sE dA dB dC a1 hRB hMC hKD hLf hRw hMi hMk hT4
    refine ⟨_, rfl, (n : Int), rfl, by omega, by omega, ?_⟩
    rw [Int.toNat_natCast]
    refine for_range (lo := 0) (n := n) (fun i σ H' => ∃ (u6 u7 u8 u9 u10 u11 u12 : Option V) (lf rw : List Nat), σ = [some (.ref p), some (.int (n : Int)), some (.ref Lf), some (.ref Rw), some (.ref Mi), some (.ref Mk), u6, u7, u8, u9, u10, u11, u12] ∧ DnZ p H H' ∧ H' Lf = some (.lst (nV lf)) ∧ H' Rw = some (.lst (nV rw)) ∧ H' Mi = some (.lst []) ∧ H' Mk = some (.lst []) ∧ (rw ++ lf).Perm (List.range n) ∧ rw.length = i) ⟨_, _, _, _, _, _, _, List.range n, [], rfl, dE, e1, e2, e3, e4, .refl _, rfl⟩ ?_ ?_
    · rintro i σ H3 hi ⟨u6, u7, u8, u9, u10, u11, u12, lf, rw, rfl, d3, h1, h2, h3, h4, pm, lr⟩
      have ll : lf.length = n - i := by
        have := pm.length_eq
        rw [List.length_append, List.length_range] at this
        omega
      have lV := nV_len lf
      refine ⟨_, rfl, .inl ⟨rfl, _, L2.sq_of h2⟩, _, rfl, .inl ⟨rfl, _, L2.sq_of h1⟩, _, rfl, _, rfl, Lf, _, rfl, .inl (L2.sq_of h1), p, _, rfl, d3.2, by rw [lV]; omega, by rw [lV]; omega, fun v x y z v0 v1 => ?_⟩
      rw [lV] at v1
      obtain ⟨k, rfl⟩ : ∃ k : Nat, v = (k : Int) := ⟨v.toNat, by omega⟩
      have lk : k < lf.length := by omega
      have hk : lf[k]? = some lf[k] := List.getElem?_eq_getElem lk
      have d4 := d3.trans (DnZ.put (x := x) (y := y) (z := z))
      have o1 : upd H3 p (.lst [.int x, .int y, .int z]) Lf = some (.lst (nV lf)) := by rw [upd_ne nLp]; exact h1
      have o2 : upd H3 p (.lst [.int x, .int y, .int z]) Rw = some (.lst (nV rw)) := by rw [upd_ne nRp]; exact h2
      have o3 : upd H3 p (.lst [.int x, .int y, .int z]) Mi = some (.lst []) := by rw [upd_ne nMp]; exact h3
      have o4 : upd H3 p (.lst [.int x, .int y, .int z]) Mk = some (.lst []) := by rw [upd_ne nKp]; exact h4
      generalize upd H3 p (.lst [.int x, .int y, .int z]) = H4 at d4 o1 o2 o3 o4 ⊢
      refine ⟨Lf, _, _, k, _, rfl, rfl, o1, by omega, by omega, by rw [lV]; exact seqIndex_of (Int.natCast_nonneg k) (by omega), nV_get hk, ?_⟩
      refine ⟨Rw, _, _, rfl, rfl, by rw [upd_ne nRL]; exact o2, by rw [nV_len, lr]; exact Nat.lt_of_le_of_lt (by omega : i ≤ 40) (by decide), ?_⟩
      refine ⟨_, _, _, _, _, _, _, lf.eraseIdx k, rw ++ [lf[k]], rfl, ⟨sb_put (sb_put d4.1 fLf) fRw, (d4.2.upd nLp).upd nRp⟩, ?_, ?_, ?_, ?_, ?_, by rw [List.length_append, lr]; rfl⟩
      · rw [upd_ne nRL.symm, upd_same, nV_erase]
      · rw [upd_same, nV_snoc']
      · rw [upd_ne nMR, upd_ne nML]
        exact o3
      · rw [upd_ne nKR, upd_ne nKL]
        exact o4
      · rw [List.append_assoc]
        exact ((erase_perm hk).append_left rw).trans pm
    · rintro σ H3 ⟨u6, u7, u8, u9, u10, u11, u12, lf, r, rfl, d3, _, h2, h3, h4, pm, lr⟩
      have pm : r.Perm (List.range n) := by
        have := pm.length_eq
        rw [List.length_append, List.length_range] at this
        have : lf = [] := List.eq_nil_of_length_eq_zero (by omega)
        rw [this, List.append_nil] at pm
        exact pm
      have nd : r.Nodup := pm.nodup_iff.mpr List.nodup_range
      have rlt : ∀ j, j < r.length → r.getD j 0 < n := fun j hj => by
        rw [List.getD_eq_getElem?_getD, List.getElem?_eq_getElem hj]
        exact List.mem_range.mp (pm.mem_iff.mp (List.getElem_mem hj))
      have rne : ∀ i j, i < r.length → j < r.length → i ≠ j → r.getD i 0 ≠ r.getD j 0 := fun i j hi hj ne z => by
        have := congrArg (fun z => r.idxOf z) z
        rw [Rel.idx_at nd hi, Rel.idx_at nd hj] at this
        exact ne this
      have rget : ∀ j, j < r.length → (nV r)[j]? = some (.int ((r.getD j 0 : Nat) : Int)) := fun j hj => nV_get (by rw [List.getD_eq_getElem?_getD, List.getElem?_eq_getElem hj]; rfl)
      refine ⟨_, rfl, _, rfl, _, rfl, Rw, _, rfl, L2.sq_of h2, fun B hB => ?_⟩
      rw [show (some (1 : Int)) = some ((1 : Nat) : Int) from rfl, cut_drop]
      have nBM : B ≠ Mi := fun z => by rw [z, h3] at hB; cases hB
      have nBK : B ≠ Mk := fun z => by rw [z, h4] at hB; cases hB
      have sB := same_upd (o := .lst ((nV r).drop 1)) hB
      have fB : H B = none := d3.free hB
      have nBp : B ≠ p := hs.ne fB
      have hB4 : upd H3 B (.lst ((nV r).drop 1)) B = some (.lst ((nV r).drop 1)) := upd_same
      have d4 := d3.same sB
      have h2 := sB _ _ h2
      have h3 := sB _ _ h3
      have h4 := sB _ _ h4
      generalize upd H3 B (.lst ((nV r).drop 1)) = H4 at d4 h2 h3 h4 hB4 ⊢
      refine ⟨Rw, B, _, _, rfl, L2.sq_of h2, L2.sq_of hB4, ?_⟩
      refine for_zipT (K := K) (a := Rw) (b := B) (xs := nV r) (ys := (nV r).drop 1) (by rw [List.length_drop]; omega) (fun i σ H' => ∃ (u6 u7 u8 u9 u10 u11 u12 : Option V) (ms : List Bool) (es : List Rel.Ent), σ = [some (.ref p), some (.int (n : Int)), some (.ref Lf), some (.ref Rw), some (.ref Mi), some (.ref Mk), u6, u7, u8, u9, u10, u11, u12] ∧ DnZ p H H' ∧ H' Rw = some (.lst (nV r)) ∧ H' B = some (.lst ((nV r).drop 1)) ∧ H' Mk = some (.lst (ms.map V.bl)) ∧ ms.length = i ∧ LogL H' Mi es ∧ es.length = i ∧ Rel.IsChain r ms es) ⟨_, _, _, _, _, _, _, [], [], rfl, d4, h2, hB4, h4, rfl, ⟨[], h3, rfl, (by intro k v e x; cases x)⟩, rfl, fun e => ⟨fun x => (by cases x), fun ⟨j, x, _⟩ => absurd x (Nat.not_lt_zero _)⟩⟩ (fun i σ H' h => by obtain ⟨u6, u7, u8, u9, u10, u11, u12, ms, es, _, _, x, y, _⟩ := h; exact ⟨L2.sq_of x, L2.sq_of y⟩) ?_ ?_
      · rintro i x y T4 σ H5 hx hy ⟨u6, u7, u8, u9, u10, u11, u12, ms, es, rfl, d5, hR, hB5, hK, lm, LL, le, ch⟩ hT
        rw [List.getElem?_drop, Nat.add_comm] at hy
        have li : i + 1 < r.length := by have := (List.getElem?_eq_some_iff.mp hy).1; rw [nV_len] at this; exact this
        rw [rget i (by omega)] at hx
        rw [rget (i + 1) li] at hy
        obtain rfl := Option.some.inj hx
        obtain rfl := Option.some.inj hy
        clear hx hy
        refine ⟨T4, _, rfl, L2.st_of upd_same, rfl, _, _, rfl, _, _, rfl, rfl, ?_⟩
        have s6 := same_upd (o := .tup [V.int ((r.getD i 0 : Nat) : Int), .int ((r.getD (i + 1) 0 : Nat) : Int)]) hT
        have d6 := d5.same s6
        have hR6 := s6 _ _ hR
        have hB6 := s6 _ _ hB5
        have hK6 := s6 _ _ hK
        have LL6 := LL.same s6
        generalize upd H5 T4 (.tup [V.int ((r.getD i 0 : Nat) : Int), .int ((r.getD (i + 1) 0 : Nat) : Int)]) = H6 at d6 hR6 hB6 hK6 LL6 ⊢
        refine ⟨_, rfl, .inl ⟨rfl, _, L2.sq_of hK6⟩, _, rfl, p, 3, rfl, d6.2, by decide, by decide, fun v x y z v0 v1 => ?_⟩
        have d7 := d6.trans (DnZ.put (x := x) (y := y) (z := z))
        have hR7 : upd H6 p (.lst [.int x, .int y, .int z]) Rw = _ := (upd_ne nRp).trans hR6
        have hB7 : upd H6 p (.lst [.int x, .int y, .int z]) B = _ := (upd_ne nBp).trans hB6
        have hK7 : upd H6 p (.lst [.int x, .int y, .int z]) Mk = _ := (upd_ne nKp).trans hK6
        have LL7 := LL6.keep (H' := upd H6 p (.lst [.int x, .int y, .int z])) (upd_ne nMp) (src_tup d6.2)
        generalize upd H6 p (.lst [.int x, .int y, .int z]) = H7 at d7 hR7 hB7 hK7 LL7 ⊢
        refine ⟨rfl, Mk, _, _, rfl, rfl, hK7, by rw [List.length_map, lm]; exact Nat.lt_of_le_of_lt (by omega : i ≤ 40) (by decide), ?_⟩
        dsimp only
        generalize decide (V.int v = V.int 0) = b
        have hK8 : upd H7 Mk (.lst (ms.map V.bl ++ [V.bl b])) Mk = some (.lst ((ms ++ [b]).map V.bl)) := by rw [upd_same, List.map_append]; rfl
        have hR8 : upd H7 Mk (.lst (ms.map V.bl ++ [V.bl b])) Rw = _ := (upd_ne nKR.symm).trans hR7
        have hB8 : upd H7 Mk (.lst (ms.map V.bl ++ [V.bl b])) B = _ := (upd_ne nBK).trans hB7
        have LL8 := LL7.keep (H' := upd H7 Mk (.lst (ms.map V.bl ++ [V.bl b]))) (upd_ne nKM.symm) (put_tup hK7)
        have d8 : DnZ p H (upd H7 Mk (.lst (ms.map V.bl ++ [V.bl b]))) := ⟨sb_put d7.1 fMk, d7.2.upd nKp⟩
        generalize upd H7 Mk (.lst (ms.map V.bl ++ [V.bl b])) = H8 at d8 hR8 hB8 hK8 LL8 ⊢
        refine ⟨_, rfl, _, rfl, Mk, _, _, _, rfl, rfl, L2.sq_of hK8, bool_back, b, rfl, ?_⟩
        have cl := Rel.chE_last (r := r) (ms := ms) (b := b)
        cases b
        case' true =>
          refine iteT ⟨_, rfl, _, rfl, by show 2 ≤ sizeLine; decide, fun t ht => ⟨by show 2 ≤ sizeLine; decide, fun u hu => ?_⟩⟩
          rw [if_pos rfl, lm] at cl
          have s10 := (same_upd (o := .tup [V.int ((r.getD i 0 : Nat) : Int), .int ((r.getD (i + 1) 0 : Nat) : Int)]) ht).trans (same_upd (o := .tup [V.ref t, .bl true]) hu)
          have ntu : t ≠ u := fun z => by rw [← z, upd_same] at hu; cases hu
          have eA : EntA (upd (upd H8 t (.tup [V.int ((r.getD i 0 : Nat) : Int), .int ((r.getD (i + 1) 0 : Nat) : Int)])) u (.tup [V.ref t, .bl true])) (.ref u) (Rel.chE r (ms ++ [true]) i) := by
            rw [cl]
            exact ⟨t, u, rfl, upd_same, by rw [upd_ne ntu]; exact upd_same⟩
          generalize upd (upd H8 t (.tup [V.int ((r.getD i 0 : Nat) : Int), .int ((r.getD (i + 1) 0 : Nat) : Int)])) u (.tup [V.ref t, .bl true]) = H10 at s10 eA ⊢
          clear cl
          generalize true = b at hK8 eA ⊢
        case' false =>
          refine iteF ⟨_, rfl, _, rfl, by show 2 ≤ sizeLine; decide, fun t ht => ⟨by show 2 ≤ sizeLine; decide, fun u hu => ?_⟩⟩
          rw [if_neg (by decide), lm] at cl
          have s10 := (same_upd (o := .tup [V.int ((r.getD (i + 1) 0 : Nat) : Int), .int ((r.getD i 0 : Nat) : Int)]) ht).trans (same_upd (o := .tup [V.ref t, .bl false]) hu)
          have ntu : t ≠ u := fun z => by rw [← z, upd_same] at hu; cases hu
          have eA : EntA (upd (upd H8 t (.tup [V.int ((r.getD (i + 1) 0 : Nat) : Int), .int ((r.getD i 0 : Nat) : Int)])) u (.tup [V.ref t, .bl false])) (.ref u) (Rel.chE r (ms ++ [false]) i) := by
            rw [cl]
            exact ⟨t, u, rfl, upd_same, by rw [upd_ne ntu]; exact upd_same⟩
          generalize upd (upd H8 t (.tup [V.int ((r.getD (i + 1) 0 : Nat) : Int), .int ((r.getD i 0 : Nat) : Int)])) u (.tup [V.ref t, .bl false]) = H10 at s10 eA ⊢
          clear cl
          generalize false = b at hK8 eA ⊢
        all_goals
          have d10 := d8.same s10
          have hR10 := s10 _ _ hR8
          have hB10 := s10 _ _ hB8
          have hK10 := s10 _ _ hK8
          have LL10 := LL8.same s10
          obtain ⟨ts, hts, lts, its⟩ := LL10
          refine ⟨_, rfl, .inl ⟨rfl, _, L2.sq_of hts⟩, _, rfl, _, rfl, Mi, _, rfl, .inl (L2.sq_of hts), _, _, rfl, rfl, p, _, rfl, d10.2, by omega, by omega, fun v x y z v0 v1 => ?_⟩
          obtain ⟨k, rfl⟩ : ∃ k : Nat, v = (k : Int) := ⟨v.toNat, by omega⟩
          have d11 := d10.trans (DnZ.put (x := x) (y := y) (z := z))
          have hR11 : upd H10 p (.lst [.int x, .int y, .int z]) Rw = _ := (upd_ne nRp).trans hR10
          have hB11 : upd H10 p (.lst [.int x, .int y, .int z]) B = _ := (upd_ne nBp).trans hB10
          have hK11 : upd H10 p (.lst [.int x, .int y, .int z]) Mk = _ := (upd_ne nKp).trans hK10
          have hts11 : upd H10 p (.lst [.int x, .int y, .int z]) Mi = _ := (upd_ne nMp).trans hts
          have eA11 := eA.keep (src_tup (o := .lst [.int x, .int y, .int z]) d10.2)
          have its11 := fun k v e a b => (its k v e a b).keep (src_tup (o := .lst [.int x, .int y, .int z]) d10.2)
          generalize upd H10 p (.lst [.int x, .int y, .int z]) = H11 at d11 hR11 hB11 hK11 hts11 eA11 its11 ⊢
          refine ⟨_, rfl, Mi, _, _, _, rfl, rfl, hts11, by rw [lts, le]; exact Nat.lt_of_le_of_lt (by omega : i ≤ 40) (by decide), v0, by omega, ?_⟩
          rw [Int.toNat_natCast]
          have lt : (ts.take k ++ [V.ref u] ++ ts.drop k).length = ts.length + 1 := by rw [List.length_append, List.length_append, List.length_take, List.length_drop, List.length_singleton]; omega
          have lt2 : (es.take k ++ [Rel.chE r (ms ++ [b]) i] ++ es.drop k).length = es.length + 1 := by rw [List.length_append, List.length_append, List.length_take, List.length_drop, List.length_singleton]; omega
          refine ⟨_, _, _, _, _, _, _, ms ++ [b], es.take k ++ [Rel.chE r (ms ++ [b]) i] ++ es.drop k, rfl, ⟨sb_put d11.1 fMi, d11.2.upd nMp⟩, (upd_ne nMR.symm).trans hR11, (upd_ne nBM).trans hB11, (upd_ne nKM).trans hK11, by rw [List.length_append, lm]; rfl, ⟨_, upd_same, by rw [lt, lt2, lts], ?_⟩, by rw [lt2, le], ?_⟩
          · exact fun k' v e a b => (ins_pairs (P := EntA H11) lts its11 eA11 k k' v e a b).keep (put_tup hts11)
          · have := Rel.chain_put ch (b := b) k
            rw [lm] at this
            exact this
      · rintro σ H5 ⟨u6, u7, u8, u9, u10, u11, u12, ms, es, rfl, d5, hR, hB5, hK, lm, LL, le, ch⟩
        have lm : ms.length + 1 = r.length := by rw [List.length_drop, nV_len] at lm; omega
        have le : es.length ≤ 40 := by rw [List.length_drop, nV_len] at le; omega
        have inE : ∀ e ∈ es, (e.1.1 < n ∧ e.1.2 < n) ∧ e.1.1 ≠ e.1.2 := fun e he => by
          obtain ⟨j, hj, rfl⟩ := (ch e).mp he
          unfold Rel.chE
          split
          · exact ⟨⟨rlt _ (by omega), rlt _ (by omega)⟩, rne _ _ (by omega) (by omega) (by omega)⟩
          · exact ⟨⟨rlt _ (by omega), rlt _ (by omega)⟩, rne _ _ (by omega) (by omega) (by omega)⟩
        have inn : Rel.InN n es := fun e he => (inE e he).1
        refine ⟨4, rfl, by decide, by decide, ?_⟩
        refine for_range (lo := 0) (n := 4) (fun i σ H' => ∃ (u6 u7 u8 u9 u10 u11 u12 : Option V), σ = [some (.ref p), some (.int (n : Int)), some (.ref Lf), some (.ref Rw), some (.ref Mi), some (.ref Mk), u6, u7, u8, u9, u10, u11, u12] ∧ DnZ p H5 H') ⟨_, _, _, _, _, _, _, rfl, .refl d5.2⟩ ?_ ?_
        · rintro i σ H6 hi ⟨u6, u7, u8, u9, u10, u11, u12, rfl, d6⟩
          refine ⟨_, rfl, _, rfl, _, _, rfl, rfl, p, _, rfl, d6.2, by omega, by omega, fun v x y z v0 v1 => ?_⟩
          obtain ⟨at', rfl⟩ : ∃ k : Nat, v = (k : Int) := ⟨v.toNat, by omega⟩
          have d7 := d6.trans (DnZ.put (x := x) (y := y) (z := z))
          generalize upd H6 p (.lst [.int x, .int y, .int z]) = H7 at d7 ⊢
          refine ⟨_, rfl, _, _, rfl, rfl, _, rfl, _, rfl, _, _, rfl, rfl, _, rfl, _, _, rfl, rfl, p, _, rfl, d7.2, by omega, by omega, fun v x y z w0 w1 => ⟨_, _, rfl, rfl, ?_⟩⟩
          dsimp only
          obtain ⟨en, een, h1, h2⟩ : ∃ k : Nat, (at' : Int) + 1 + v = (k : Int) ∧ at' < k ∧ k < r.length := ⟨((at' : Int) + 1 + v).toNat, by omega, by omega, by omega⟩
          rw [een]
          have d8 := d7.trans (DnZ.put (x := x) (y := y) (z := z))
          generalize upd H7 p (.lst [.int x, .int y, .int z]) = H8 at d8 ⊢
          have hK8 := d8.1 _ _ nKp hK
          obtain ⟨hlie, f1, f2⟩ := Rel.chain_fol ch nd lm inn rlt h1 h2
          refine ⟨_, rfl, _, rfl, _, rfl, _, rfl, _, rfl, Mk, _, rfl, L2.sq_of hK8, fun c hc => ?_⟩
          rw [cut_mid _ _ _ (Nat.le_of_lt h1) (by rw [List.length_map]; omega), ← List.map_drop, ← List.map_take]
          have d9 := d8.new (o := .lst (((ms.drop at').take (en - at')).map V.bl)) hc
          refine ⟨c, _, rfl, .inl (L2.sq_of upd_same), rfl, flat_bools _, Rel.anyM ms at' en, congrArg V.bl (in_bools _), ?_⟩
          generalize upd H8 c (.lst (((ms.drop at').take (en - at')).map V.bl)) = H9 at d9 ⊢
          cases hany : Rel.anyM ms at' en
          case' true =>
            rw [hany, if_pos rfl] at f1
            refine iteT ⟨by show 1 ≤ sizeLine; decide, fun D hD => ?_⟩
            have hD10 : upd H9 D (.lst [.bl true]) D = some (.lst [optBV (some true)]) := upd_same
            have d10 := d9.new (o := .lst [.bl true]) hD
            generalize upd H9 D (.lst [.bl true]) = H10 at hD10 d10 ⊢
            generalize some true = fo at f1 hD10
          case' false =>
            rw [hany, if_neg (by decide)] at f1
            refine iteF ⟨by show 1 ≤ sizeLine; decide, fun D hD => ?_⟩
            have hD10 : upd H9 D (.lst [.non]) D = some (.lst [optBV none]) := upd_same
            have d10 := d9.new (o := .lst [.non]) hD
            generalize upd H9 D (.lst [.non]) = H10 at hD10 d10 ⊢
            generalize (none : Option Bool) = fo at f1 hD10
          all_goals
            have hR10 := d10.1 _ _ nRp hR
            have LO10 : LogOk H10 Mi n es := ⟨(LL.keep' d5.2 nMp d10).row, by omega, inn, fun e he => (inE e he).2⟩
            have ia : atI (nV r) (at' : Int) = some (.int ((r.getD at' 0 : Nat) : Int)) := atI_nat (rget at' (by omega))
            have ie : atI (nV r) (en : Int) = some (.int ((r.getD en 0 : Nat) : Int)) := atI_nat (rget en h2)
            refine ⟨_, rfl, _, rfl, _, rfl, _, rfl, Rw, _, _, _, rfl, rfl, L2.sq_of hR10, ia, _, rfl, _, rfl, Rw, _, _, _, rfl, rfl, L2.sq_of hR10, ie, by show 2 ≤ sizeLine; decide, fun t ht => ?_⟩
            have st := same_upd (o := .tup [V.int ((r.getD at' 0 : Nat) : Int), .int ((r.getD en 0 : Nat) : Int)]) ht
            refine ⟨Mi, t, n, _, _, es, rfl, by omega, LO10.same st, hlie, upd_same, rlt _ (by omega), rlt _ h2, rne _ _ (by omega) h2 (by omega), fun H11 s11 => ?_⟩
            rw [f1]
            refine ⟨by show 1 ≤ sizeLine; decide, fun L hL => ?_⟩
            have s12 := (st.trans s11).trans (same_upd (o := .lst [optB fo]) hL)
            have hD12 := s12 _ _ hD10
            have hL12 : upd H11 L (.lst [optB fo]) L = some (.lst [optBV fo]) := by rw [upd_same, optB_eq]
            have d12 := d10.same s12
            have LO12 := LO10.same s12
            have hR12 := s12 _ _ hR10
            generalize upd H11 L (.lst [optB fo]) = H12 at hD12 hL12 d12 LO12 hR12 ⊢
            have sh : SeqAt.shaped (.list [optD fo]) = true := shaped_of (canLay_of optD (fun o => by cases o <;> rfl) [fo]) (Nat.le_trans (Nat.add_le_add_right (depth_of optD (n := 0) (fun o => by cases o <;> exact Nat.le_refl 0) [fo]) 1) (by decide))
            refine ⟨_, rfl, _, _, .lst (L2.sq_of hL12) (.cons (dp_opt fo) .nil), .lst (L2.sq_of hD12) (.cons (dp_opt fo) .nil), sh, sh, false, ?_, iteF ?_⟩
            · show V.bl (!PyData.eqv (.list [optD fo]) (.list [optD fo])) = V.bl false
              rw [eqv_same sh]
              rfl
            refine ⟨_, rfl, _, rfl, _, rfl, _, rfl, Rw, _, _, _, rfl, rfl, L2.sq_of hR12, ie, _, rfl, _, rfl, Rw, _, _, _, rfl, rfl, L2.sq_of hR12, ia, by show 2 ≤ sizeLine; decide, fun t ht => ?_⟩
            have st := same_upd (o := .tup [V.int ((r.getD en 0 : Nat) : Int), .int ((r.getD at' 0 : Nat) : Int)]) ht
            refine ⟨Mi, t, n, _, _, es, rfl, by omega, LO12.same st, hlie, upd_same, rlt _ h2, rlt _ (by omega), rne _ _ h2 (by omega) (by omega), fun H13 s13 => ?_⟩
            rw [f2]
            exact ⟨false, false, rfl, rfl, false, rfl, iteF ⟨_, _, _, _, _, _, _, rfl, d12.same (st.trans s13)⟩⟩
        · rintro σ H6 ⟨u6, u7, u8, u9, u10, u11, u12, rfl, d6⟩
          exact q H6 (d5.trans d6)
end

end K80


namespace K80
open PySem PySem.Spec PyProof.Rows L2 




theorem cells_int {ns : List Int} {lo hi : Option Int} {x : V} (h : x ∈ cutV (ns.map V.int ++ [V.int 0]) lo hi) : ∃ c, x = .int c := by
  rcases List.mem_append.mp (cut_mem h) with h | h
  · obtain ⟨c, _, e⟩ := List.mem_map.mp h
    exact ⟨c, e.symm⟩
  · exact ⟨0, List.mem_singleton.mp h⟩
theorem first_int (ns : List Int) : ∃ c, atI (ns.map V.int ++ [V.int 0]) 0 = some (.int c) := by
  cases ns with
  | nil => exact ⟨0, atI_nat (j := 0) rfl⟩
  | cons n l => exact ⟨n, atI_nat (j := 0) rfl⟩
/-! a log as data -/
def entD (e : Rel.Ent) : PyData := .tuple [.tuple [.int (e.1.1 : Int), .int (e.1.2 : Int)], .bool e.2]
def logD (es : List Rel.Ent) : PyData := .list (es.map entD)
theorem dp_ent {K : PySem.W.Frag} {H : Hp} {v : V} {e : Rel.Ent} (h : EntA H v e) : Dp K H v (entD e) := by
  obtain ⟨t, u, rfl, hu, ht⟩ := h
  exact .tup (L2.st_of hu) (.cons (.tup (L2.st_of ht) (.cons (.int _) (.cons (.int _) .nil))) (.cons (.bl _) .nil))
theorem dp_log {K : PySem.W.Frag} {H : Hp} {l : Addr} {es : List Rel.Ent} (h : LogL H l es) : Dp K H (.ref l) (logD es) := by
  obtain ⟨ts, hl, lts, its⟩ := h
  exact .lst (L2.sq_of hl) (dpAll_of entD lts fun i v e a b => dp_ent (its i v e a b))
theorem shw_ent {e : Rel.Ent} (h : e.1.1 < 100 ∧ e.1.2 < 100) : Shw 4 2 (entD e) :=
  Shws.tup (Shws.cons (n := 2) (m := 1) (Shws.tup (Shws.cons (n := 0) (m := 1) (.int (by have := h.1; omega)) (Shws.cons (n := 0) (m := 0) (.int (by have := h.2; omega)) .nil))) (Shws.cons (n := 0) (m := 0) ((Shw.bl _).mono (Nat.le_refl _) (by decide)) (Shws.nil.mono (Nat.le_refl _) (by decide))))
theorem shws_log : ∀ {es : List Rel.Ent}, (∀ e ∈ es, e.1.1 < 100 ∧ e.1.2 < 100) → Shws (5 * es.length) 2 (es.map entD)
  | [], _ => Shws.nil.mono (Nat.le_refl _) (by decide)
  | e :: es, h => (Shws.cons (shw_ent (h e (List.mem_cons_self ..))) (shws_log fun x hx => h x (List.mem_cons_of_mem _ hx))).mono (by rw [List.length_cons]; omega) (Nat.le_refl _)
theorem shw_log {es : List Rel.Ent} (h : ∀ e ∈ es, e.1.1 < 100 ∧ e.1.2 < 100) (l : es.length ≤ 100) : Shw 500 3 (logD es) := (Shws.lst (shws_log h)).mono (by omega) (Nat.le_refl _)
theorem shaped_log (es : List Rel.Ent) : SeqAt.shaped (logD es) = true :=
  shaped_of (canLay_of entD (fun _ => rfl) es) (Nat.le_trans (Nat.add_le_add_right (depth_of entD (n := 2) (fun _ => Nat.le_refl 2) es) 1) (by decide))
theorem nodict_log : ∀ es : List Rel.Ent, PyData.hasDictAll (es.map entD) = false
  | [] => rfl
  | e :: es => by
    show (false || PyData.hasDictAll (es.map entD)) = false
    rw [nodict_log es]
    rfl
theorem eqv_logs_nil {es : List Rel.Ent} : PyData.eqv (logD es) (.list []) = decide (es = []) := by
  cases es with
  | nil => rfl
  | cons e es => rfl
theorem new_same {p : Addr} {H0 H H' : Hp} (s : Same H0 H) (hp : H p = none) (d : DnZ p H H') : Same H0 H' := fun q o e => by
  have e1 := s q o e
  exact d.1 q o (fun z => by rw [z, hp] at e1; cases e1) e1
theorem LogL.erase {H H' : Hp} {l : Addr} {es : List Rel.Ent} {ts : List V} {k : Nat} (hl : H l = some (.lst ts)) (lts : ts.length = es.length) (its : ∀ (k : Nat) (v : V) (e : Rel.Ent), ts[k]? = some v → es[k]? = some e → EntA H v e) (hl' : H' l = some (.lst (ts.eraseIdx k))) (kt : ∀ (t : Addr) (xs : List V), H t = some (.tup xs) → H' t = some (.tup xs)) (lt : k < ts.length) : LogL H' l (es.eraseIdx k) := by
  refine ⟨_, hl', by rw [List.length_eraseIdx, List.length_eraseIdx, lts], fun i v e a b => ?_⟩
  rw [List.getElem?_eraseIdx] at a b
  by_cases c : i < k
  · rw [if_pos c] at a b
    exact (its i v e a b).keep kt
  · rw [if_neg c] at a b
    exact (its _ v e a b).keep kt
def spLaw (K : PySem.W.Frag) : Sp := fun vs H Q _ => ∃ (a : Addr) (ns : List Int), vs = [.ref a] ∧ SqL K H a (ns.map V.int) ∧ ns.length ≤ 63 ∧ ∀ H', Q (.bl true) H'
section
variable {P : Program} {w : World} {K : PySem.W.Frag} {mg : Str → Option Value} {base : Heap} {a : Ad} {d : Fd}
theorem ok_law (T : Txt K mg a d) : FnG P w K mg base CX0 10 a.law d.law P_law (spLaw K) := by
  have G_source : FnOk P w K mg base CX0 1 a.source d.source P_source spSource := ok_source T
  have G_take : FnOk P w K mg base CX0 2 a.take d.take P_take spTake := ok_take T
  have G_chain_right : FnOk P w K mg base CX0 9 a.chain_right d.chain_right P_chain_right spChain := ok_chain_right T
  have G_small_right : FnG P w K mg base CX0 9 a.small_right d.small_right P_small_right spSmall := ok_small_right T
  have G_honest_log : FnOk P w K mg base CX0 4 a.honest_log d.honest_log P_honest_log spLog := ok_honest_log T
  have G_known : FnOk P w K mg base CX0 1 a.known d.known P_known spKnown := ok_known T
  have G_lfollows : FnOk P w K mg base CX0 1 a.lfollows d.lfollows P_lfollows spLF := ok_lfollows T
  have G_pair : FnOk P w K mg base CX0 3 a.pair d.pair P_pair spPair := ok_pair T
  have G_follows : FnOk P w K mg base CX0 8 a.follows d.follows P_follows spF := ok_F T
  refine T.f_law.okG sc_law (fun vs H Q E h => ?_) (fun cdv A outer s0 H vs Q E gd hr h => ?_)
  · obtain ⟨p, n, rfl, _⟩ := h
    rfl
  · obtain ⟨sp, ns, rfl, hS, hlen, q⟩ := h
    refine ⟨_, (pss_cons (ps_if (pt_not (pt_val (pe_call G_chain_right (hr.mono (by decide)) (by rfl) T.g_chain_right T.k_chain_right T.b_chain_right .nil pass0 (pa_cons (pe_call G_source (hr.mono (by decide)) (by rfl) T.g_source T.k_source T.b_source .nil pass0 (pa_cons (pe_ix ix_list (pe_op op_catS (pv 0) (pe_lst (pa_cons pe_int pa_nil))) pe_int (fun _ _ => rfl)) pa_nil)) pa_nil)))) (pss_one (ps_ret pe_bl)) pss_nil)
    (pss_cons (ps_for PassesOwn.never rfl (pi_list (pe_slice sl_list (pe_op op_catS (pv 0) (pe_lst (pa_cons pe_int pa_nil))) po_none (po_some pe_int))) (pg_name (i := 1) sc_law.nd rfl (Or.inl rfl))
      (pss_cons (ps_set (i := 2) sc_law.nd rfl (Or.inl rfl) (pe_call G_source (hr.mono (by decide)) (by rfl) T.g_source T.k_source T.b_source .nil pass0 (pa_cons (pv 1) pa_nil)))
        (pss_cons (ps_if (pt_not (pt_val (pe_callG G_small_right gd (hr.mono (by decide)) (by rfl) T.g_small_right T.k_small_right T.b_small_right .nil pass0 (pa_cons (pv 2) pa_nil)))) (pss_one (ps_ret pe_bl)) pss_nil)
        (pss_cons (ps_set (i := 3) sc_law.nd rfl (Or.inl rfl) (pe_op op_add pe_int (pe_call G_take (hr.mono (by decide)) (by rfl) T.g_take T.k_take T.b_take .nil pass0 (pa_cons (pv 2) (pa_cons pe_int pa_nil)))))
        (pss_cons (ps_set (i := 4) sc_law.nd rfl (Or.inl rfl) (pe_call G_honest_log (hr.mono (by decide)) (by rfl) T.g_honest_log T.k_honest_log T.b_honest_log .nil pass0 (pa_cons (pv 2) (pa_cons (pv 3) (pa_cons pe_int pa_nil)))))
        (pss_cons (ps_par (i := 5) (j := 6) rfl sc_law.nd rfl rfl (by decide) rfl rfl (pa_cons (pe_call G_known (hr.mono (by decide)) (by rfl) T.g_known T.k_known T.b_known .nil pass0 (pa_cons (pv 3) (pa_cons (pv 4) pa_nil))) (pa_cons (pe_callB (call_reprS gd (units65 hr)) (by rfl) T.z_repr (by decide +kernel) (pa_cons (pv 4) pa_nil)) pa_nil)) (by rfl))
        (pss_cons (ps_for PassesOwn.never rfl (pi_range1 (by rfl) T.z_range (pa_cons pe_int pa_nil)) (pg_name (i := 7) sc_law.nd rfl (Or.inl rfl))
          (pss_cons (ps_set (i := 8) sc_law.nd rfl (Or.inl rfl) (pe_call G_pair (hr.mono (by decide)) (by rfl) T.g_pair T.k_pair T.b_pair .nil pass0 (pa_cons (pv 2) (pa_cons (pv 3) pa_nil))))
            (pss_cons (ps_set (i := 9) sc_law.nd rfl (Or.inl rfl) (pe_callB (call_reprS gd (units65 hr)) (by rfl) T.z_repr (by decide +kernel) (pa_cons (pe_call G_lfollows (hr.mono (by decide)) (by rfl) T.g_lfollows T.k_lfollows T.b_lfollows .nil pass0 (pa_cons (pv 5) (pa_cons (pv 8) pa_nil))) pa_nil)))
            (pss_cons (ps_if (PW.pt (pw_or (pt_cmpR op_ne (pe_callB (call_reprS gd (units65 hr)) (by rfl) T.z_repr (by decide +kernel) (pa_cons (pe_call G_follows (hr.mono (by decide)) (by rfl) T.g_follows T.k_follows T.b_follows .nil pass0 (pa_cons (pv 3) (pa_cons (pv 4) (pa_cons (pv 8) pa_nil)))) pa_nil)) (pv 9) (nomark _)) (pw_or1 (pt_cmpR op_ne (pe_callB (call_reprS gd (units65 hr)) (by rfl) T.z_repr (by decide +kernel) (pa_cons (pv 4) pa_nil)) (pv 6) (nomark _))))) (pss_one (ps_ret pe_bl)) pss_nil)
            (pss_one (ps_if (pt_cmpR op_ne (pe_callB (call_reprS gd (units65 hr)) (by rfl) T.z_repr (by decide +kernel) (pa_cons (pe_callN0 G_follows (hr.mono (by decide)) (by rfl) T.g_follows T.k_follows T.kn_follows_0_question_log_many pass0 (pk_cons (pv 8) (pk_cons (pe_callTy call_tuple_of (by rfl) T.z_tuple (by decide +kernel) (pa_cons (pv 4) pa_nil)) (pk_cons (pv 3) pk_nil)))) pa_nil)) (pv 9) (nomark _)) (pss_one (ps_ret pe_bl)) pss_nil))))))
        (pss_one (ps_if (pt_cmpR (op_neD hr.units) (pv 4) (pe_lst pa_nil) (nomark _)) (pss_cons (ps_expr (pe_bm PySem.F.plainAttrs_list PySem.F.slot_list_pop PySem.F.type_list_pop mt_popAt (pv 4) (pa_cons (pe_call G_take (hr.mono (by decide)) (by rfl) T.g_take T.k_take T.b_take .nil pass0 (pa_cons (pv 2) (pa_cons (pe_callB call_len_seq (by rfl) T.z_len PySem.boot_len (pa_cons (pv 4) pa_nil)) pa_nil))) pa_nil)))
          (pss_one (ps_if (pt_cmpR op_ne (pe_callB (call_reprS gd (units65 hr)) (by rfl) T.z_repr (by decide +kernel) (pa_cons (pe_call G_follows (hr.mono (by decide)) (by rfl) T.g_follows T.k_follows T.b_follows .nil pass0 (pa_cons (pv 3) (pa_cons (pv 4) (pa_cons (pv 8) pa_nil)))) pa_nil)) (pe_callB (call_reprS gd (units65 hr)) (by rfl) T.z_repr (by decide +kernel) (pa_cons (pe_call G_lfollows (hr.mono (by decide)) (by rfl) T.g_lfollows T.k_lfollows T.b_lfollows .nil pass0 (pa_cons (pe_call G_known (hr.mono (by decide)) (by rfl) T.g_known T.k_known T.b_known .nil pass0 (pa_cons (pv 3) (pa_cons (pv 4) pa_nil))) (pa_cons (pv 8) pa_nil))) pa_nil)) (nomark _)) (pss_one (ps_ret pe_bl)) pss_nil))) pss_nil)))))))))
    (pss_cons (ps_set (i := 10) sc_law.nd rfl (Or.inl rfl) (pe_lst (pa_cons (pe_tup (pa_cons (pe_tup (pa_cons pe_int (pa_cons pe_int pa_nil))) (pa_cons pe_bl pa_nil))) (pa_cons (pe_tup (pa_cons (pe_tup (pa_cons pe_int (pa_cons pe_int pa_nil))) (pa_cons pe_bl pa_nil))) pa_nil))))
    (pss_one (ps_ret (pe_cmpR (op_eqD hr.units) (pe_lst (pa_cons (pe_call G_follows (hr.mono (by decide)) (by rfl) T.g_follows T.k_follows T.b_follows .nil pass0 (pa_cons pe_int (pa_cons (pv 10) (pa_cons (pe_tup (pa_cons pe_int (pa_cons pe_int pa_nil))) pa_nil)))) (pa_cons (pe_call G_follows (hr.mono (by decide)) (by rfl) T.g_follows T.k_follows T.b_follows .nil pass0 (pa_cons pe_int (pa_cons (pv 10) (pa_cons (pe_tup (pa_cons pe_int (pa_cons pe_int pa_nil))) pa_nil)))) (pa_cons (pe_call G_follows (hr.mono (by decide)) (by rfl) T.g_follows T.k_follows T.b_follows .nil pass0 (pa_cons pe_int (pa_cons (pv 10) (pa_cons (pe_tup (pa_cons pe_int (pa_cons pe_int pa_nil))) pa_nil)))) pa_nil)))) (pe_lst (pa_cons pe_bl (pa_cons pe_bl (pa_cons pe_non pa_nil)))) (nomark _))))))), ?_⟩
    have sz : (ns.map V.int).length + 1 ≤ sizeLine := by
      rw [List.length_map]
      exact Nat.le_trans (by omega) (by decide : 64 ≤ sizeLine)
    refine ⟨_, rfl, by show 1 ≤ sizeLine; decide, fun b2 hb2 => ⟨sp, b2, _, _, rfl, rfl, (same_upd hb2).seq hS, L2.sq_of upd_same, sz, fun c2 hc2 => ?_⟩⟩
    obtain ⟨c0, hc0⟩ := first_int ns
    have sA := (same_upd (o := .lst [V.int 0]) hb2).trans (same_upd (o := .lst (ns.map V.int ++ [V.int 0])) hc2)
    refine ⟨c2, _, _, _, rfl, rfl, L2.sq_of upd_same, hc0, c0, rfl, fun p x y z hp => ?_⟩
    generalize upd (upd H b2 (.lst [V.int 0])) c2 (.lst (ns.map V.int ++ [V.int 0])) = HA at sA hp ⊢
    have dp : DnZ p HA (upd HA p (.lst [.int x, .int y, .int z])) := .put
    generalize upd HA p (.lst [.int x, .int y, .int z]) = HB at dp ⊢
    refine ⟨p, rfl, dp.2, fun HC dC => ⟨true, rfl, iteF ?_⟩⟩
    have sC := new_same sA hp (dp.trans dC)
    have hS := sC.seq hS
    clear sA hp dp dC
    refine ⟨_, rfl, by show 1 ≤ sizeLine; decide, fun b2 hb2 => ⟨sp, b2, _, _, rfl, rfl, (same_upd hb2).seq hS, L2.sq_of upd_same, sz, fun c2 hc2 => ?_⟩⟩
    refine ⟨4, rfl, c2, _, rfl, L2.sq_of upd_same, fun e he => ⟨e, rfl, ⟨_, L2.sq_of upd_same⟩, ?_⟩⟩
    have hE : upd (upd (upd HC b2 (.lst [.int 0])) c2 (.lst (ns.map V.int ++ [V.int 0]))) e (.lst (cutV (ns.map V.int ++ [V.int 0]) none (some 4))) e = some (.lst (cutV (ns.map V.int ++ [V.int 0]) none (some 4))) := upd_same
    generalize upd (upd (upd HC b2 (.lst [.int 0])) c2 (.lst (ns.map V.int ++ [V.int 0]))) e (.lst (cutV (ns.map V.int ++ [V.int 0]) none (some 4))) = He at hE ⊢
    refine for_list (K := K) (a := e) (xs := cutV (ns.map V.int ++ [V.int 0]) none (some 4)) (fun i σ H' => (∃ u1 u2 u3 u4 u5 u6 u7 u8 u9 u10, σ = [some (.ref sp), u1, u2, u3, u4, u5, u6, u7, u8, u9, u10]) ∧ Same He H') ⟨⟨_, _, _, _, _, _, _, _, _, _, rfl⟩, Same.refl _⟩ (fun i σ H' _ h => L2.sq_of (h.2 _ _ hE)) ?_ ?_
    · rintro i x σ H1 hx ⟨⟨u1, u2, u3, u4, u5, u6, u7, u8, u9, u10, rfl⟩, s1⟩
      obtain ⟨c, rfl⟩ := cells_int (List.mem_of_getElem? hx)
      refine ⟨_, rfl, c, rfl, fun p x y z hp => ?_⟩
      have d2 : DnZ p H1 (upd H1 p (.lst [.int x, .int y, .int z])) := .put
      generalize upd H1 p (.lst [.int x, .int y, .int z]) = H2 at d2 ⊢
      refine ⟨_, rfl, p, rfl, d2.2, fun H3 d3 => ⟨true, rfl, iteF ?_⟩⟩
      have d3 := d2.trans d3
      refine ⟨_, rfl, p, 13, rfl, d3.2, by decide, by decide, fun v x y z v0 v1 => ⟨_, _, rfl, rfl, ?_⟩⟩
      dsimp only
      obtain ⟨n, en, n2, n14⟩ : ∃ n : Nat, 2 + v = (n : Int) ∧ 2 ≤ n ∧ n ≤ 14 := ⟨(2 + v).toNat, by omega, by omega, by omega⟩
      rw [en]
      have d4 := d3.trans (DnZ.put (x := x) (y := y) (z := z))
      generalize upd H3 p (.lst [.int x, .int y, .int z]) = H4 at d4 ⊢
      refine ⟨_, rfl, _, rfl, p, n, 30, rfl, d4.2, by omega, by omega, by omega, fun l H5 es kk hl d5 LL lu inn ne sat => ?_⟩
      have hlie : Rel.lie (Rel.init n) es 0 = none := (Rel.lie_iff inn).mpr ⟨kk, sat⟩
      have nlp : l ≠ p := d4.2.ne hl
      have d5 := d4.trans d5
      refine ⟨_, rfl, _, rfl, l, n, es, rfl, by omega, LL, inn, hlie, fun wd rs H6 s6 fw fws M => ?_⟩
      have LL6 := LL.same s6
      have d6 := d5.same s6
      have sw := shw_log (es := es) (fun e he => by have := inn e he; omega) (by omega)
      have shd : ∀ {H : Hp}, LogL H l es → ShD K H (.ref l) (logD es) := fun L => .flat (dp_log L) (nodict_log es)
      have s1l : (logD es).depth ≤ 64 := Nat.le_trans sw.dp (by decide)
      have s2l := sw.fits (by decide)
      refine ⟨_, rfl, _, _, rfl, shd LL6, sw.sh, s1l, s2l, _, _, rfl, ?_⟩
      have wdp : wd ≠ p := d5.2.ne fw
      have rr : ∀ {i : Nat} {r : Addr}, rs[i]? = some r → r ≠ p := fun h => d5.2.ne (fws _ (List.mem_of_getElem? h))
      have MM : ∀ {H' : Hp}, DnZ p H6 H' → MatAt H' wd n rs (Rel.val (Rel.run (Rel.init n) es)) := fun d => ⟨d.1 _ _ wdp M.h, M.len, M.nd, M.nw, fun i r e => d.1 _ _ (rr e) (M.row i r e)⟩
      have LLn : ∀ {H' : Hp}, DnZ p H6 H' → LogL H' l es := fun d => LL6.keep' d6.2 nlp d
      have LOn : ∀ {H' : Hp}, DnZ p H6 H' → LogOk H' l n es := fun d => ⟨(LLn d).row, by omega, inn, ne⟩
      have good := Rel.good_run (Rel.good_init n) inn
      refine ⟨3, rfl, by decide, by decide, ?_⟩
      refine for_range (lo := 0) (n := 3) (fun i σ H' => ∃ u1 u7 u8 u9 u10, σ = [some (.ref sp), u1, some (.ref p), some (.int (n : Int)), some (.ref l), some (.ref wd), some (.str (logD es).shown), u7, u8, u9, u10] ∧ DnZ p H6 H' ∧ (0 < i → ∃ (t : Addr) (i j : Nat), u8 = some (.ref t) ∧ H' t = some (.tup [.int (i : Int), .int (j : Int)]) ∧ i < n ∧ j < n ∧ i ≠ j)) ⟨_, _, _, _, _, rfl, .refl d6.2, fun z => absurd z (Nat.lt_irrefl _)⟩ ?_ ?_
      · rintro i σ H7 hi ⟨u1, u7, u8, u9, u10, rfl, d7, _⟩
        refine ⟨_, rfl, _, rfl, p, n, rfl, d7.2, n2, by omega, fun t H8 ia ib hia hib nab ft d8 ht => ?_⟩
        have d8 := d7.trans d8
        refine ⟨_, rfl, _, rfl, wd, t, n, ia, ib, rs, _, rfl, MM d8, good, ht, hia, hib, ?_⟩
        obtain ⟨fo, hfo⟩ : ∃ fo, fo = Rel.fol (Rel.run (Rel.init n) es) (ia, ib) := ⟨_, rfl⟩
        obtain ⟨w1, w2, w3⟩ := showable_opt fo
        have shf : ∀ {H : Hp}, ShD K H (optB (Rel.fol (Rel.run (Rel.init n) es) (ia, ib))) (optD fo) := by
          intro H
          rw [optB_eq, ← hfo]
          exact shd_opt fo
        have same_str : ∀ x : Str, V.bl (!decide (V.str x = V.str x)) = V.bl false := fun x => by rw [decide_eq_true rfl]; rfl
        refine ⟨_, _, rfl, shf, w1, w2, w3, ?_⟩
        refine ⟨_, rfl, _, rfl, _, rfl, l, t, n, ia, ib, es, rfl, by omega, LOn d8, hlie, ht, hia, hib, nab, fun H9 s9 => ?_⟩
        have d9 := d8.same s9
        have ht9 := s9 _ _ ht
        refine ⟨_, _, rfl, shf, w1, w2, w3, _, rfl, rfl, false, same_str _, iteF ?_⟩
        refine ⟨_, rfl, _, _, rfl, shd (LLn d9), sw.sh, s1l, s2l, _, rfl, rfl, false, same_str _, iteF ?_⟩
        obtain ⟨ts, hts, lts, its⟩ := LLn d9
        refine ⟨_, rfl, _, rfl, l, _, rfl, .inl ⟨L2.sq_of hts, fun u hu => ?_⟩⟩
        have s10 := same_upd (o := .tup ts) hu
        have LO10 : LogOk (upd H9 u (.tup ts)) u n es := ⟨⟨ts, .inr upd_same, lts, fun k v e a b => (its k v e a b).keep fun t xs e => s10 _ _ e⟩, by omega, inn, ne⟩
        have d10 := d9.same s10
        have ht10 := s10 _ _ ht9
        generalize upd H9 u (.tup ts) = H10 at LO10 d10 ht10 ⊢
        refine ⟨_, rfl, rfl, u, t, n, ia, ib, es, rfl, by omega, LO10, hlie, ht10, hia, hib, nab, fun H11 s11 => ?_⟩
        refine ⟨_, _, rfl, shf, w1, w2, w3, _, rfl, rfl, false, same_str _, iteF ?_⟩
        exact ⟨_, _, _, _, _, rfl, d10.same s11, fun _ => ⟨t, ia, ib, rfl, s11 _ _ ht10, hia, hib, nab⟩⟩
      · rintro σ H7 ⟨u1, u7, u8, u9, u10, rfl, d7, last⟩
        obtain ⟨t, ia, ib, rfl, ht, hia, hib, nab⟩ := last (by decide)
        have LL7 := LLn d7
        have d67 := d6.trans d7
        refine ⟨_, rfl, by show 0 ≤ sizeLine; decide, fun em hem => ?_⟩
        have s8 := same_upd (o := .lst []) hem
        have LL8 := LL7.same s8
        have d8 := d67.same s8
        have ht8 := s8 _ _ ht
        refine ⟨_, _, dp_log LL8, .lst (L2.sq_of upd_same) .nil, shaped_log _, by decide, ?_⟩
        generalize upd H7 em (.lst []) = H8 at LL8 d8 ht8 ⊢
        by_cases c : es = []
        · refine ⟨false, ?_, iteF ⟨⟨_, _, _, _, _, _, _, _, _, _, rfl⟩, new_same s1 hp d8⟩⟩
          show V.bl (!PyData.eqv (logD es) (.list [])) = V.bl false
          rw [eqv_logs_nil, decide_eq_true c]
          rfl
        · refine ⟨true, ?_, iteT ?_⟩
          · show V.bl (!PyData.eqv (logD es) (.list [])) = V.bl true
            rw [eqv_logs_nil, decide_eq_false c]
            rfl
          have pos : 0 < es.length := List.length_pos_iff.mpr c
          obtain ⟨ts, hts, lts, its⟩ := LL8
          refine ⟨_, rfl, .inl ⟨rfl, _, L2.sq_of hts⟩, _, rfl, _, rfl, l, _, rfl, .inl (L2.sq_of hts), p, _, rfl, d8.2, by omega, by omega, fun v x y z v0 v1 => ?_⟩
          obtain ⟨k, rfl⟩ : ∃ k : Nat, v = (k : Int) := ⟨v.toNat, by omega⟩
          have lk : k < ts.length := by omega
          have d9 := d8.trans (DnZ.put (x := x) (y := y) (z := z))
          have hts9 : upd H8 p (.lst [.int x, .int y, .int z]) l = _ := (upd_ne nlp).trans hts
          have its9 := fun k v e a b => (its k v e a b).keep (src_tup (o := .lst [.int x, .int y, .int z]) d8.2)
          have ht9 := src_tup (o := .lst [.int x, .int y, .int z]) d8.2 _ _ ht8
          generalize upd H8 p (.lst [.int x, .int y, .int z]) = H9 at d9 hts9 its9 ht9 ⊢
          refine ⟨l, _, _, k, _, rfl, rfl, hts9, by omega, by omega, seqIndex_of (Int.natCast_nonneg k) (by omega), List.getElem?_eq_getElem lk, ?_⟩
          have LL10 := LogL.erase (H' := upd H9 l (.lst (ts.eraseIdx k))) hts9 lts its9 upd_same (put_tup hts9) lk
          have ht10 := put_tup (o := .lst (ts.eraseIdx k)) hts9 _ _ ht9
          have sHe : Same He (upd H9 l (.lst (ts.eraseIdx k))) := same_put (new_same s1 hp d9) (sfree (new_same s1 hp d4) hl)
          generalize upd H9 l (.lst (ts.eraseIdx k)) = H10 at LL10 ht10 sHe ⊢
          have sub : ∀ e ∈ es.eraseIdx k, e ∈ es := fun e he => List.mem_of_mem_eraseIdx he
          have le : (es.eraseIdx k).length ≤ 30 := by rw [List.length_eraseIdx]; split <;> omega
          have inn' : Rel.InN n (es.eraseIdx k) := fun e he => inn e (sub e he)
          have ne' : ∀ e ∈ es.eraseIdx k, e.1.1 ≠ e.1.2 := fun e he => ne e (sub e he)
          have hlie' : Rel.lie (Rel.init n) (es.eraseIdx k) 0 = none := (Rel.lie_iff inn').mpr ⟨kk, fun e he => sat e (sub e he)⟩
          have good' := Rel.good_run (Rel.good_init n) inn'
          generalize es.eraseIdx k = es' at LL10 inn' ne' hlie' good' le
          obtain ⟨fo, hfo⟩ : ∃ fo, fo = Rel.fol (Rel.run (Rel.init n) es') (ia, ib) := ⟨_, rfl⟩
          obtain ⟨w1, w2, w3⟩ := showable_opt fo
          have shf : ∀ {H : Hp}, ShD K H (optB (Rel.fol (Rel.run (Rel.init n) es') (ia, ib))) (optD fo) := by
            intro H
            rw [optB_eq, ← hfo]
            exact shd_opt fo
          refine ⟨_, rfl, _, rfl, _, rfl, l, t, n, ia, ib, es', rfl, by omega, ⟨LL10.row, by omega, inn', ne'⟩, hlie', ht10, hia, hib, nab, fun H11 s11 => ?_⟩
          refine ⟨_, _, rfl, shf, w1, w2, w3, ?_⟩
          refine ⟨_, rfl, _, rfl, l, n, es', rfl, by omega, LL10.same s11, inn', hlie', fun wd2 rs2 H12 s12 _ _ M2 => ?_⟩
          refine ⟨_, rfl, wd2, t, n, ia, ib, rs2, _, rfl, M2, good', s12 _ _ (s11 _ _ ht10), hia, hib, ?_⟩
          refine ⟨_, _, rfl, shf, w1, w2, w3, rfl, false, ?_, iteF ⟨⟨_, _, _, _, _, _, _, _, _, _, rfl⟩, (sHe.trans s11).trans s12⟩⟩
          show V.bl (!decide (V.str _ = V.str _)) = V.bl false
          rw [decide_eq_true rfl]
          rfl
    · rintro σ H1 ⟨⟨u1, u2, u3, u4, u5, u6, u7, u8, u9, u10, rfl⟩, s1⟩
      refine ⟨by show 2 ≤ sizeLine; decide, fun t1 ht1 => ⟨by show 2 ≤ sizeLine; decide, fun x1 hx1 => ⟨by show 2 ≤ sizeLine; decide, fun t2 ht2 => ⟨by show 2 ≤ sizeLine; decide, fun x2 hx2 => ⟨by show 2 ≤ sizeLine; decide, fun L hL => ?_⟩⟩⟩⟩⟩
      have sa := same_upd (o := .tup [V.int 0, .int 1]) ht1
      have sb := same_upd (o := .tup [V.ref t1, .bl true]) hx1
      have sc := same_upd (o := .tup [V.int 2, .int 1]) ht2
      have sd := same_upd (o := .tup [V.ref t2, .bl false]) hx2
      have se := same_upd (o := .lst [V.ref x1, .ref x2]) hL
      have LLL : LogL (upd (upd (upd (upd (upd H1 t1 (.tup [V.int 0, .int 1])) x1 (.tup [V.ref t1, .bl true])) t2 (.tup [V.int 2, .int 1])) x2 (.tup [V.ref t2, .bl false])) L (.lst [V.ref x1, .ref x2])) L [((0, 1), true), ((2, 1), false)] := by
        refine ⟨_, upd_same, rfl, fun i v e a b => ?_⟩
        match i, a, b with
        | 0, a, b =>
          obtain rfl := Option.some.inj a
          obtain rfl := Option.some.inj b
          exact ⟨t1, x1, rfl, se _ _ (sd _ _ (sc _ _ upd_same)), se _ _ (sd _ _ (sc _ _ (sb _ _ upd_same)))⟩
        | 1, a, b =>
          obtain rfl := Option.some.inj a
          obtain rfl := Option.some.inj b
          exact ⟨t2, x2, rfl, se _ _ upd_same, se _ _ (sd _ _ upd_same)⟩
        | i + 2, a, b => cases a
      generalize upd (upd (upd (upd (upd H1 t1 (.tup [V.int 0, .int 1])) x1 (.tup [V.ref t1, .bl true])) t2 (.tup [V.int 2, .int 1])) x2 (.tup [V.ref t2, .bl false])) L (.lst [V.ref x1, .ref x2]) = H2 at LLL ⊢
      clear sa sb sc sd se ht1 hx1 ht2 hx2 hL
      have inn : Rel.InN 3 [((0, 1), true), ((2, 1), false)] := by unfold Rel.InN; decide
      have ne : ∀ e ∈ ([((0, 1), true), ((2, 1), false)] : List Rel.Ent), e.1.1 ≠ e.1.2 := by decide
      have hlie : Rel.lie (Rel.init 3) [((0, 1), true), ((2, 1), false)] 0 = none := by decide
      have f1 : Rel.fol (Rel.run (Rel.init 3) [((0, 1), true), ((2, 1), false)]) (0, 2) = some true := by decide
      have f2 : Rel.fol (Rel.run (Rel.init 3) [((0, 1), true), ((2, 1), false)]) (2, 0) = some false := by decide
      have f3 : Rel.fol (Rel.run (Rel.init 3) [((0, 1), true), ((2, 1), false)]) (1, 2) = none := by decide
      have le : ([((0, 1), true), ((2, 1), false)] : List Rel.Ent).length ≤ 5000 := by decide
      generalize [((0, 1), true), ((2, 1), false)] = es at LLL inn ne hlie f1 f2 f3 le
      have LO : ∀ {H' : Hp}, Same H2 H' → LogOk H' L 3 es := fun s => ⟨(LLL.same s).row, le, inn, ne⟩
      refine ⟨_, rfl, by show 2 ≤ sizeLine; decide, fun t ht => ?_⟩
      have s3 := same_upd (o := .tup [V.int 0, .int 2]) ht
      refine ⟨L, t, 3, 0, 2, es, rfl, by decide, LO s3, hlie, upd_same, by decide, by decide, by decide, fun H3 s4 => ?_⟩
      rw [f1]
      have s5 := s3.trans s4
      refine ⟨_, rfl, by show 2 ≤ sizeLine; decide, fun t' ht' => ?_⟩
      have s6 := s5.trans (same_upd (o := .tup [V.int 2, .int 0]) ht')
      refine ⟨L, t', 3, 2, 0, es, rfl, by decide, LO s6, hlie, upd_same, by decide, by decide, by decide, fun H4 s7 => ?_⟩
      rw [f2]
      have s8 := s6.trans s7
      refine ⟨_, rfl, by show 2 ≤ sizeLine; decide, fun t'' ht'' => ?_⟩
      have s9 := s8.trans (same_upd (o := .tup [V.int 1, .int 2]) ht'')
      refine ⟨L, t'', 3, 1, 2, es, rfl, by decide, LO s9, hlie, upd_same, by decide, by decide, by decide, fun H5 s10 => ?_⟩
      rw [f3]
      refine ⟨by show 3 ≤ sizeLine; decide, fun A hA => ⟨by show 3 ≤ sizeLine; decide, fun B hB => ?_⟩⟩
      have cons3 : ∀ {H : Hp}, DpAll K H [V.bl true, .bl false, .non] [.bool true, .bool false, .none] := .cons (.bl _) (.cons (.bl _) (.cons .non .nil))
      refine ⟨.list [.bool true, .bool false, .none], .list [.bool true, .bool false, .none], .lst (L2.sq_of (same_upd hB _ _ upd_same)) cons3, .lst (L2.sq_of upd_same) cons3, by decide, by decide, ?_⟩
      rw [show PyData.eqv (.list [.bool true, .bool false, .none]) (.list [.bool true, .bool false, .none]) = true from by decide]
      exact q _
end

end K80

namespace K80
open PySem PySem.Spec PyProof.Rows L2
theorem all_mk {l : PySem.W.OpenLaw} {w : World} {K : PySem.W.Frag} {h : Heap} {mg : Str → Option Value} {fa f0 f1 f2 f3 f4 f5 f6 f7 f8 f9 f10 f11 f12 f13 f14 f15 f16 f17 f18 f19 f20 f21 f22 f23 f24 f25 f26 f27 f28 f29 f30 f31 f32 C_Relations C_InvalidQuestion C_InvalidNumber C_InvalidAnswers C_Mismatch C_SortError : Addr} {t_MOST_ENTRIES t_MOST_ITEMS : Tok} (X : K.In h) (G : h.Ns mainGlobals mg) (hfa : mg "law" = some (.ref fa))
    {nm_InvalidQuestion q_InvalidQuestion : Str} {N_InvalidQuestion : Addr} {bs_InvalidQuestion : List Value} {sn_InvalidQuestion : List Str} {sub_InvalidQuestion : List Value} {ab_InvalidQuestion : Bool} {col_InvalidQuestion : Option Bool} {dd_InvalidQuestion : Option Addr} {m0_InvalidQuestion m1_InvalidQuestion m2_InvalidQuestion m3_InvalidQuestion m5_InvalidQuestion : Option Value}
    {nm_InvalidNumber q_InvalidNumber : Str} {N_InvalidNumber : Addr} {bs_InvalidNumber : List Value} {sn_InvalidNumber : List Str} {sub_InvalidNumber : List Value} {ab_InvalidNumber : Bool} {col_InvalidNumber : Option Bool} {dd_InvalidNumber : Option Addr} {m0_InvalidNumber m1_InvalidNumber m2_InvalidNumber m3_InvalidNumber m5_InvalidNumber : Option Value}
    {nm_InvalidAnswers q_InvalidAnswers : Str} {N_InvalidAnswers : Addr} {bs_InvalidAnswers : List Value} {sn_InvalidAnswers : List Str} {sub_InvalidAnswers : List Value} {ab_InvalidAnswers : Bool} {col_InvalidAnswers : Option Bool} {dd_InvalidAnswers : Option Addr} {m0_InvalidAnswers m1_InvalidAnswers m2_InvalidAnswers m3_InvalidAnswers m5_InvalidAnswers : Option Value}
    {nm_Mismatch q_Mismatch : Str} {N_Mismatch : Addr} {bs_Mismatch : List Value} {sn_Mismatch : List Str} {sub_Mismatch : List Value} {ab_Mismatch : Bool} {col_Mismatch : Option Bool} {dd_Mismatch : Option Addr} {m0_Mismatch m1_Mismatch m2_Mismatch m3_Mismatch m5_Mismatch : Option Value}
    {od0 an0 od1 an1 od2 an2 od3 an3 od4 an4 od5 an5 od6 an6 od7 an7 od8 an8 od9 an9 od10 an10 od11 an11 od12 an12 od13 an13 od14 an14 od15 an15 od16 an16 od17 an17 od18 an18 od19 an19 od20 an20 od21 an21 od22 an22 od23 an23 od24 an24 od25 an25 od26 an26 od27 an27 od28 an28 od29 an29 od30 an30 od31 an31 od32 an32 : Option Addr} {sl0 sl1 sl2 sl3 sl4 sl5 sl6 sl7 sl8 sl9 sl10 sl11 sl12 sl13 sl14 sl15 sl16 sl17 sl18 sl19 sl20 sl21 sl22 sl23 sl24 sl25 sl26 sl27 sl28 sl29 sl30 sl31 sl32 : Array (Option Value)} {oc0 kV0 dc0 pm0 cd0 ct0 oc1 kV1 dc1 pm1 cd1 ct1 oc2 kV2 dc2 pm2 cd2 ct2 oc3 kV3 dc3 pm3 cd3 ct3 oc4 kV4 dc4 pm4 cd4 ct4 oc5 kV5 dc5 pm5 cd5 ct5 oc6 kV6 dc6 pm6 cd6 ct6 oc7 kV7 dc7 pm7 cd7 ct7 oc8 kV8 dc8 pm8 cd8 ct8 oc9 kV9 dc9 pm9 cd9 ct9 oc10 kV10 dc10 pm10 cd10 ct10 oc11 kV11 dc11 pm11 cd11 ct11 oc12 kV12 dc12 pm12 cd12 ct12 oc13 kV13 dc13 pm13 cd13 ct13 oc14 kV14 dc14 pm14 cd14 ct14 oc15 kV15 dc15 pm15 cd15 ct15 oc16 kV16 dc16 pm16 cd16 ct16 oc17 kV17 dc17 pm17 cd17 ct17 oc18 kV18 dc18 pm18 cd18 ct18 oc19 kV19 dc19 pm19 cd19 ct19 oc20 kV20 dc20 pm20 cd20 ct20 oc21 kV21 dc21 pm21 cd21 ct21 oc22 kV22 dc22 pm22 cd22 ct22 oc23 kV23 dc23 pm23 cd23 ct23 oc24 kV24 dc24 pm24 cd24 ct24 oc25 kV25 dc25 pm25 cd25 ct25 oc26 kV26 dc26 pm26 cd26 ct26 oc27 kV27 dc27 pm27 cd27 ct27 oc28 kV28 dc28 pm28 cd28 ct28 oc29 kV29 dc29 pm29 cd29 ct29 oc30 kV30 dc30 pm30 cd30 ct30 oc31 kV31 dc31 pm31 cd31 ct31 oc32 kV32 dc32 pm32 cd32 ct32 : Value}
    {T12 : Addr} {odT12 : Option Addr} {oT12 : Value} {nT12 : Nat} {slT12 : Array (Option Value)} 
    (a0 : PySem.W.nsIn K mainGlobals "_wall" = some (some (.ref f0))) (l0 : K.lookup f0 = some ⟨oc0, od0, .func (PySem.W.fnOf "_wall" "_wall" (defArgs s_wall) (defBody s_wall) (defScope s_wall) .none kV0 dc0 pm0 an0 cd0 ct0), sl0⟩) (c0 : PySem.W.codeIn K cd0 "_wall" = true) (k0 : PySem.W.keepIn K (.ref f0) = true)
    (l1 : K.lookup f1 = some ⟨oc1, od1, .func (PySem.W.fnOf "__init__" "InvalidQuestion.__init__" (defArgs s_InvalidQuestion___init__) (defBody s_InvalidQuestion___init__) (defScope s_InvalidQuestion___init__) .none kV1 dc1 pm1 an1 cd1 ct1), sl1⟩) (c1 : PySem.W.codeIn K cd1 "InvalidQuestion.__init__" = true) (k1 : PySem.W.keepIn K (.ref f1) = true)
    (l2 : K.lookup f2 = some ⟨oc2, od2, .func (PySem.W.fnOf "__init__" "InvalidAnswers.__init__" (defArgs s_InvalidAnswers___init__) (defBody s_InvalidAnswers___init__) (defScope s_InvalidAnswers___init__) .none kV2 dc2 pm2 an2 cd2 ct2), sl2⟩) (c2 : PySem.W.codeIn K cd2 "InvalidAnswers.__init__" = true) (k2 : PySem.W.keepIn K (.ref f2) = true)
    (l3 : K.lookup f3 = some ⟨oc3, od3, .func (PySem.W.fnOf "__init__" "InvalidNumber.__init__" (defArgs s_InvalidNumber___init__) (defBody s_InvalidNumber___init__) (defScope s_InvalidNumber___init__) .none kV3 dc3 pm3 an3 cd3 ct3), sl3⟩) (c3 : PySem.W.codeIn K cd3 "InvalidNumber.__init__" = true) (k3 : PySem.W.keepIn K (.ref f3) = true)
    (l4 : K.lookup f4 = some ⟨oc4, od4, .func (PySem.W.fnOf "__init__" "Mismatch.__init__" (defArgs s_Mismatch___init__) (defBody s_Mismatch___init__) (defScope s_Mismatch___init__) .none kV4 dc4 pm4 an4 cd4 ct4), sl4⟩) (c4 : PySem.W.codeIn K cd4 "Mismatch.__init__" = true) (k4 : PySem.W.keepIn K (.ref f4) = true)
    (a5 : PySem.W.nsIn K mainGlobals "is_integer" = some (some (.ref f5))) (l5 : K.lookup f5 = some ⟨oc5, od5, .func (PySem.W.fnOf "is_integer" "is_integer" (defArgs s_is_integer) (defBody s_is_integer) (defScope s_is_integer) .none kV5 dc5 pm5 an5 cd5 ct5), sl5⟩) (c5 : PySem.W.codeIn K cd5 "is_integer" = true) (k5 : PySem.W.keepIn K (.ref f5) = true)
    (a6 : PySem.W.nsIn K mainGlobals "is_within" = some (some (.ref f6))) (l6 : K.lookup f6 = some ⟨oc6, od6, .func (PySem.W.fnOf "is_within" "is_within" (defArgs s_is_within) (defBody s_is_within) (defScope s_is_within) .none kV6 dc6 pm6 an6 cd6 ct6), sl6⟩) (c6 : PySem.W.codeIn K cd6 "is_within" = true) (k6 : PySem.W.keepIn K (.ref f6) = true)
    (a7 : PySem.W.nsIn K mainGlobals "is_item" = some (some (.ref f7))) (l7 : K.lookup f7 = some ⟨oc7, od7, .func (PySem.W.fnOf "is_item" "is_item" (defArgs s_is_item) (defBody s_is_item) (defScope s_is_item) .none kV7 dc7 pm7 an7 cd7 ct7), sl7⟩) (c7 : PySem.W.codeIn K cd7 "is_item" = true) (k7 : PySem.W.keepIn K (.ref f7) = true)
    (a8 : PySem.W.nsIn K mainGlobals "is_question" = some (some (.ref f8))) (l8 : K.lookup f8 = some ⟨oc8, od8, .func (PySem.W.fnOf "is_question" "is_question" (defArgs s_is_question) (defBody s_is_question) (defScope s_is_question) .none kV8 dc8 pm8 an8 cd8 ct8), sl8⟩) (c8 : PySem.W.codeIn K cd8 "is_question" = true) (k8 : PySem.W.keepIn K (.ref f8) = true)
    (a9 : PySem.W.nsIn K mainGlobals "check_question" = some (some (.ref f9))) (l9 : K.lookup f9 = some ⟨oc9, od9, .func (PySem.W.fnOf "check_question" "check_question" (defArgs s_check_question) (defBody s_check_question) (defScope s_check_question) .none kV9 dc9 pm9 an9 cd9 ct9), sl9⟩) (c9 : PySem.W.codeIn K cd9 "check_question" = true) (k9 : PySem.W.keepIn K (.ref f9) = true)
    (a10 : PySem.W.nsIn K mainGlobals "check_log" = some (some (.ref f10))) (l10 : K.lookup f10 = some ⟨oc10, od10, .func (PySem.W.fnOf "check_log" "check_log" (defArgs s_check_log) (defBody s_check_log) (defScope s_check_log) .none kV10 dc10 pm10 an10 cd10 ct10), sl10⟩) (c10 : PySem.W.codeIn K cd10 "check_log" = true) (k10 : PySem.W.keepIn K (.ref f10) = true)
    (a11 : PySem.W.nsIn K mainGlobals "_is_entry" = some (some (.ref f11))) (l11 : K.lookup f11 = some ⟨oc11, od11, .func (PySem.W.fnOf "_is_entry" "_is_entry" (defArgs s_is_entry) (defBody s_is_entry) (defScope s_is_entry) .none kV11 dc11 pm11 an11 cd11 ct11), sl11⟩) (c11 : PySem.W.codeIn K cd11 "_is_entry" = true) (k11 : PySem.W.keepIn K (.ref f11) = true)
    (a12 : PySem.W.nsIn K mainGlobals "check_number" = some (some (.ref f12))) (l12 : K.lookup f12 = some ⟨oc12, od12, .func (PySem.W.fnOf "check_number" "check_number" (defArgs s_check_number) (defBody s_check_number) (defScope s_check_number) (.ref T12) kV12 dc12 pm12 an12 cd12 ct12), sl12⟩) (c12 : PySem.W.codeIn K cd12 "check_number" = true) (k12 : PySem.W.keepIn K (.ref f12) = true)
    (t12 : K.lookup T12 = some ⟨oT12, odT12, .seq #[.none] nT12, slT12⟩)
    (a13 : PySem.W.findIn K (.ref C_Relations) "__init__" = some (some (.ref f13))) (i13 : PySem.W.isFn K (.ref f13) = true) (l13 : K.lookup f13 = some ⟨oc13, od13, .func (PySem.W.fnOf "__init__" "Relations.__init__" (defArgs s_Relations___init__) (defBody s_Relations___init__) (defScope s_Relations___init__) .none kV13 dc13 pm13 an13 cd13 ct13), sl13⟩) (c13 : PySem.W.codeIn K cd13 "Relations.__init__" = true) (k13 : PySem.W.keepIn K (.ref f13) = true)
    (a14 : PySem.W.findIn K (.ref C_Relations) "follows" = some (some (.ref f14))) (i14 : PySem.W.isFn K (.ref f14) = true) (l14 : K.lookup f14 = some ⟨oc14, od14, .func (PySem.W.fnOf "follows" "Relations.follows" (defArgs s_Relations_follows) (defBody s_Relations_follows) (defScope s_Relations_follows) .none kV14 dc14 pm14 an14 cd14 ct14), sl14⟩) (c14 : PySem.W.codeIn K cd14 "Relations.follows" = true) (k14 : PySem.W.keepIn K (.ref f14) = true)
    (a15 : PySem.W.findIn K (.ref C_Relations) "learn" = some (some (.ref f15))) (i15 : PySem.W.isFn K (.ref f15) = true) (l15 : K.lookup f15 = some ⟨oc15, od15, .func (PySem.W.fnOf "learn" "Relations.learn" (defArgs s_Relations_learn) (defBody s_Relations_learn) (defScope s_Relations_learn) .none kV15 dc15 pm15 an15 cd15 ct15), sl15⟩) (c15 : PySem.W.codeIn K cd15 "Relations.learn" = true) (k15 : PySem.W.keepIn K (.ref f15) = true)
    (a16 : PySem.W.findIn K (.ref C_Relations) "first_lie" = some (some (.ref f16))) (i16 : PySem.W.isFn K (.ref f16) = true) (l16 : K.lookup f16 = some ⟨oc16, od16, .func (PySem.W.fnOf "first_lie" "Relations.first_lie" (defArgs s_Relations_first_lie) (defBody s_Relations_first_lie) (defScope s_Relations_first_lie) .none kV16 dc16 pm16 an16 cd16 ct16), sl16⟩) (c16 : PySem.W.codeIn K cd16 "Relations.first_lie" = true) (k16 : PySem.W.keepIn K (.ref f16) = true)
    (a17 : PySem.W.findIn K (.ref C_Relations) "least_keys" = some (some (.ref f17))) (i17 : PySem.W.isFn K (.ref f17) = true) (l17 : K.lookup f17 = some ⟨oc17, od17, .func (PySem.W.fnOf "least_keys" "Relations.least_keys" (defArgs s_Relations_least_keys) (defBody s_Relations_least_keys) (defScope s_Relations_least_keys) .none kV17 dc17 pm17 an17 cd17 ct17), sl17⟩) (c17 : PySem.W.codeIn K cd17 "Relations.least_keys" = true) (k17 : PySem.W.keepIn K (.ref f17) = true)
    (a18 : PySem.W.findIn K (.ref C_Relations) "_join_steps" = some (some (.ref f18))) (i18 : PySem.W.isFn K (.ref f18) = true) (l18 : K.lookup f18 = some ⟨oc18, od18, .func (PySem.W.fnOf "_join_steps" "Relations._join_steps" (defArgs s_Relations__join_steps) (defBody s_Relations__join_steps) (defScope s_Relations__join_steps) .none kV18 dc18 pm18 an18 cd18 ct18), sl18⟩) (c18 : PySem.W.codeIn K cd18 "Relations._join_steps" = true) (k18 : PySem.W.keepIn K (.ref f18) = true)
    (a19 : PySem.W.nsIn K mainGlobals "follows" = some (some (.ref f19))) (l19 : K.lookup f19 = some ⟨oc19, od19, .func (PySem.W.fnOf "follows" "follows" (defArgs s_follows) (defBody s_follows) (defScope s_follows) .none kV19 dc19 pm19 an19 cd19 ct19), sl19⟩) (c19 : PySem.W.codeIn K cd19 "follows" = true) (k19 : PySem.W.keepIn K (.ref f19) = true)
    (a20 : PySem.W.nsIn K mainGlobals "_honest_relations" = some (some (.ref f20))) (l20 : K.lookup f20 = some ⟨oc20, od20, .func (PySem.W.fnOf "_honest_relations" "_honest_relations" (defArgs s_honest_relations) (defBody s_honest_relations) (defScope s_honest_relations) .none kV20 dc20 pm20 an20 cd20 ct20), sl20⟩) (c20 : PySem.W.codeIn K cd20 "_honest_relations" = true) (k20 : PySem.W.keepIn K (.ref f20) = true)
    (a21 : PySem.W.nsIn K mainGlobals "_check_many_and_log" = some (some (.ref f21))) (l21 : K.lookup f21 = some ⟨oc21, od21, .func (PySem.W.fnOf "_check_many_and_log" "_check_many_and_log" (defArgs s_check_many_and_log) (defBody s_check_many_and_log) (defScope s_check_many_and_log) .none kV21 dc21 pm21 an21 cd21 ct21), sl21⟩) (c21 : PySem.W.codeIn K cd21 "_check_many_and_log" = true) (k21 : PySem.W.keepIn K (.ref f21) = true)
    (a22 : PySem.W.nsIn K mainGlobals "_law_mixed" = some (some (.ref f22))) (l22 : K.lookup f22 = some ⟨oc22, od22, .func (PySem.W.fnOf "_law_mixed" "_law_mixed" (defArgs s_mixed) (defBody s_mixed) (defScope s_mixed) .none kV22 dc22 pm22 an22 cd22 ct22), sl22⟩) (c22 : PySem.W.codeIn K cd22 "_law_mixed" = true) (k22 : PySem.W.keepIn K (.ref f22) = true)
    (a23 : PySem.W.nsIn K mainGlobals "_law_source" = some (some (.ref f23))) (l23 : K.lookup f23 = some ⟨oc23, od23, .func (PySem.W.fnOf "_law_source" "_law_source" (defArgs s_source) (defBody s_source) (defScope s_source) .none kV23 dc23 pm23 an23 cd23 ct23), sl23⟩) (c23 : PySem.W.codeIn K cd23 "_law_source" = true) (k23 : PySem.W.keepIn K (.ref f23) = true)
    (a24 : PySem.W.nsIn K mainGlobals "_law_take" = some (some (.ref f24))) (l24 : K.lookup f24 = some ⟨oc24, od24, .func (PySem.W.fnOf "_law_take" "_law_take" (defArgs s_take) (defBody s_take) (defScope s_take) .none kV24 dc24 pm24 an24 cd24 ct24), sl24⟩) (c24 : PySem.W.codeIn K cd24 "_law_take" = true) (k24 : PySem.W.keepIn K (.ref f24) = true)
    (a25 : PySem.W.nsIn K mainGlobals "_law_known" = some (some (.ref f25))) (l25 : K.lookup f25 = some ⟨oc25, od25, .func (PySem.W.fnOf "_law_known" "_law_known" (defArgs s_known) (defBody s_known) (defScope s_known) .none kV25 dc25 pm25 an25 cd25 ct25), sl25⟩) (c25 : PySem.W.codeIn K cd25 "_law_known" = true) (k25 : PySem.W.keepIn K (.ref f25) = true)
    (a26 : PySem.W.nsIn K mainGlobals "_law_follows" = some (some (.ref f26))) (l26 : K.lookup f26 = some ⟨oc26, od26, .func (PySem.W.fnOf "_law_follows" "_law_follows" (defArgs s_lfollows) (defBody s_lfollows) (defScope s_lfollows) .none kV26 dc26 pm26 an26 cd26 ct26), sl26⟩) (c26 : PySem.W.codeIn K cd26 "_law_follows" = true) (k26 : PySem.W.keepIn K (.ref f26) = true)
    (a27 : PySem.W.nsIn K mainGlobals "_law_pair" = some (some (.ref f27))) (l27 : K.lookup f27 = some ⟨oc27, od27, .func (PySem.W.fnOf "_law_pair" "_law_pair" (defArgs s_pair) (defBody s_pair) (defScope s_pair) .none kV27 dc27 pm27 an27 cd27 ct27), sl27⟩) (c27 : PySem.W.codeIn K cd27 "_law_pair" = true) (k27 : PySem.W.keepIn K (.ref f27) = true)
    (a28 : PySem.W.nsIn K mainGlobals "_law_honest_log" = some (some (.ref f28))) (l28 : K.lookup f28 = some ⟨oc28, od28, .func (PySem.W.fnOf "_law_honest_log" "_law_honest_log" (defArgs s_honest_log) (defBody s_honest_log) (defScope s_honest_log) .none kV28 dc28 pm28 an28 cd28 ct28), sl28⟩) (c28 : PySem.W.codeIn K cd28 "_law_honest_log" = true) (k28 : PySem.W.keepIn K (.ref f28) = true)
    (a29 : PySem.W.nsIn K mainGlobals "_law_all_keys" = some (some (.ref f29))) (l29 : K.lookup f29 = some ⟨oc29, od29, .func (PySem.W.fnOf "_law_all_keys" "_law_all_keys" (defArgs s_all_keys) (defBody s_all_keys) (defScope s_all_keys) .none kV29 dc29 pm29 an29 cd29 ct29), sl29⟩) (c29 : PySem.W.codeIn K cd29 "_law_all_keys" = true) (k29 : PySem.W.keepIn K (.ref f29) = true)
    (a30 : PySem.W.nsIn K mainGlobals "_law_small_right" = some (some (.ref f30))) (l30 : K.lookup f30 = some ⟨oc30, od30, .func (PySem.W.fnOf "_law_small_right" "_law_small_right" (defArgs s_small_right) (defBody s_small_right) (defScope s_small_right) .none kV30 dc30 pm30 an30 cd30 ct30), sl30⟩) (c30 : PySem.W.codeIn K cd30 "_law_small_right" = true) (k30 : PySem.W.keepIn K (.ref f30) = true)
    (a31 : PySem.W.nsIn K mainGlobals "_law_chain_right" = some (some (.ref f31))) (l31 : K.lookup f31 = some ⟨oc31, od31, .func (PySem.W.fnOf "_law_chain_right" "_law_chain_right" (defArgs s_chain_right) (defBody s_chain_right) (defScope s_chain_right) .none kV31 dc31 pm31 an31 cd31 ct31), sl31⟩) (c31 : PySem.W.codeIn K cd31 "_law_chain_right" = true) (k31 : PySem.W.keepIn K (.ref f31) = true)
    (a32 : PySem.W.nsIn K mainGlobals "law" = some (some (.ref f32))) (l32 : K.lookup f32 = some ⟨oc32, od32, .func (PySem.W.fnOf "law" "law" (defArgs s_law) (defBody s_law) (defScope s_law) .none kV32 dc32 pm32 an32 cd32 ct32), sl32⟩) (c32 : PySem.W.codeIn K cd32 "law" = true) (k32 : PySem.W.keepIn K (.ref f32) = true)
    (v_MOST_ENTRIES : PySem.W.nsIn K mainGlobals "MOST_ENTRIES" = some (some (.int 5000 t_MOST_ENTRIES)))
    (v_MOST_ITEMS : PySem.W.nsIn K mainGlobals "MOST_ITEMS" = some (some (.int 40 t_MOST_ITEMS)))
    (z_bool : PySem.W.nsIn K mainGlobals "bool" = some none)
    (z_enumerate : PySem.W.nsIn K mainGlobals "enumerate" = some none)
    (z_int : PySem.W.nsIn K mainGlobals "int" = some none)
    (z_isinstance : PySem.W.nsIn K mainGlobals "isinstance" = some none)
    (z_len : PySem.W.nsIn K mainGlobals "len" = some none)
    (z_list : PySem.W.nsIn K mainGlobals "list" = some none)
    (z_max : PySem.W.nsIn K mainGlobals "max" = some none)
    (z_range : PySem.W.nsIn K mainGlobals "range" = some none)
    (z_repr : PySem.W.nsIn K mainGlobals "repr" = some none)
    (z_tuple : PySem.W.nsIn K mainGlobals "tuple" = some none)
    (z_zip : PySem.W.nsIn K mainGlobals "zip" = some none)
    (aC_Relations : PySem.W.nsIn K mainGlobals "Relations" = some (some (.ref C_Relations)))
    (pg_Relations : PySem.W.plainGet K C_Relations Str.empty = true)
    (hd_Relations : PySem.W.hasDictIn K C_Relations = true)
    (po_Relations : PySem.W.plainOver K C_Relations = true)
    (sa_Relations : PySem.W.findIn K (.ref C_Relations) "__setattr__" = some (some (.builtin "object.__setattr__")))
    (mk_Relations : PySem.W.makesIn K C_Relations = true)
    (kc_Relations : PySem.W.keepIn K (.ref C_Relations) = true)
    (n_many : PySem.W.findIn K (.ref C_Relations) "many" = some none)
    (n_below : PySem.W.findIn K (.ref C_Relations) "below" = some none)
    (n_strictly_below : PySem.W.findIn K (.ref C_Relations) "strictly_below" = some none)
    (aX_InvalidQuestion : PySem.W.nsIn K mainGlobals "InvalidQuestion" = some (some (.ref C_InvalidQuestion)))
    (ii_InvalidQuestion : PySem.W.findIn K (.ref C_InvalidQuestion) "__init__" = some (some (.ref f1)))
    (xL_InvalidQuestion : K.lookup C_InvalidQuestion = some (excClassObj nm_InvalidQuestion q_InvalidQuestion C_InvalidQuestion N_InvalidQuestion bs_InvalidQuestion [.ref C_SortError, .type "ValueError", .type "Exception", .type "BaseException", .type "object"] true sn_InvalidQuestion sub_InvalidQuestion ab_InvalidQuestion col_InvalidQuestion dd_InvalidQuestion m0_InvalidQuestion m1_InvalidQuestion m2_InvalidQuestion m3_InvalidQuestion m5_InvalidQuestion "ValueError.__new__"))
    (sx_InvalidQuestion : PySem.W.findIn K (.ref C_InvalidQuestion) "__setattr__" = some (some (.builtin "object.__setattr__")))
    (gx_InvalidQuestion : PySem.W.findIn K (.ref C_InvalidQuestion) "__getattribute__" = some (some (.builtin "BaseException.__getattribute__")))
    (ggx_InvalidQuestion : PySem.W.findIn K (.ref C_InvalidQuestion) "__getattr__" = some none)
    (nx_InvalidQuestion : PySem.W.findIn K (.ref C_InvalidQuestion) "question" = some none)
    (tx_InvalidQuestion : PySem.W.typeIn K (.ref f1) = some (.type "function"))
    (kx_InvalidQuestion : PySem.W.keepIn K (.ref C_InvalidQuestion) = true)
    (ex_InvalidQuestion : PySem.W.subIn K (.ref C_InvalidQuestion) (.type "BaseException") = some true)
    (tyx_InvalidQuestion : PySem.W.typeIn K (.ref C_InvalidQuestion) = some (.type "type"))
    (hx_InvalidQuestion : PySem.W.hasDictIn K C_InvalidQuestion = true)
    (icx_InvalidQuestion : PySem.W.isClsIn K C_InvalidQuestion = true)
    (scx_InvalidQuestion : PySem.W.subIn K (.ref C_InvalidQuestion) (.ref C_InvalidQuestion) = some true)
    (aX_InvalidNumber : PySem.W.nsIn K mainGlobals "InvalidNumber" = some (some (.ref C_InvalidNumber)))
    (ii_InvalidNumber : PySem.W.findIn K (.ref C_InvalidNumber) "__init__" = some (some (.ref f3)))
    (xL_InvalidNumber : K.lookup C_InvalidNumber = some (excClassObj nm_InvalidNumber q_InvalidNumber C_InvalidNumber N_InvalidNumber bs_InvalidNumber [.ref C_SortError, .type "ValueError", .type "Exception", .type "BaseException", .type "object"] true sn_InvalidNumber sub_InvalidNumber ab_InvalidNumber col_InvalidNumber dd_InvalidNumber m0_InvalidNumber m1_InvalidNumber m2_InvalidNumber m3_InvalidNumber m5_InvalidNumber "ValueError.__new__"))
    (sx_InvalidNumber : PySem.W.findIn K (.ref C_InvalidNumber) "__setattr__" = some (some (.builtin "object.__setattr__")))
    (gx_InvalidNumber : PySem.W.findIn K (.ref C_InvalidNumber) "__getattribute__" = some (some (.builtin "BaseException.__getattribute__")))
    (ggx_InvalidNumber : PySem.W.findIn K (.ref C_InvalidNumber) "__getattr__" = some none)
    (nx_InvalidNumber : PySem.W.findIn K (.ref C_InvalidNumber) "name" = some none)
    (tx_InvalidNumber : PySem.W.typeIn K (.ref f3) = some (.type "function"))
    (kx_InvalidNumber : PySem.W.keepIn K (.ref C_InvalidNumber) = true)
    (ex_InvalidNumber : PySem.W.subIn K (.ref C_InvalidNumber) (.type "BaseException") = some true)
    (tyx_InvalidNumber : PySem.W.typeIn K (.ref C_InvalidNumber) = some (.type "type"))
    (hx_InvalidNumber : PySem.W.hasDictIn K C_InvalidNumber = true)
    (icx_InvalidNumber : PySem.W.isClsIn K C_InvalidNumber = true)
    (scx_InvalidNumber : PySem.W.subIn K (.ref C_InvalidNumber) (.ref C_InvalidNumber) = some true)
    (aX_InvalidAnswers : PySem.W.nsIn K mainGlobals "InvalidAnswers" = some (some (.ref C_InvalidAnswers)))
    (ii_InvalidAnswers : PySem.W.findIn K (.ref C_InvalidAnswers) "__init__" = some (some (.ref f2)))
    (xL_InvalidAnswers : K.lookup C_InvalidAnswers = some (excClassObj nm_InvalidAnswers q_InvalidAnswers C_InvalidAnswers N_InvalidAnswers bs_InvalidAnswers [.ref C_SortError, .type "ValueError", .type "Exception", .type "BaseException", .type "object"] true sn_InvalidAnswers sub_InvalidAnswers ab_InvalidAnswers col_InvalidAnswers dd_InvalidAnswers m0_InvalidAnswers m1_InvalidAnswers m2_InvalidAnswers m3_InvalidAnswers m5_InvalidAnswers "ValueError.__new__"))
    (sx_InvalidAnswers : PySem.W.findIn K (.ref C_InvalidAnswers) "__setattr__" = some (some (.builtin "object.__setattr__")))
    (gx_InvalidAnswers : PySem.W.findIn K (.ref C_InvalidAnswers) "__getattribute__" = some (some (.builtin "BaseException.__getattribute__")))
    (ggx_InvalidAnswers : PySem.W.findIn K (.ref C_InvalidAnswers) "__getattr__" = some none)
    (nx_InvalidAnswers : PySem.W.findIn K (.ref C_InvalidAnswers) "index" = some none)
    (tx_InvalidAnswers : PySem.W.typeIn K (.ref f2) = some (.type "function"))
    (kx_InvalidAnswers : PySem.W.keepIn K (.ref C_InvalidAnswers) = true)
    (ex_InvalidAnswers : PySem.W.subIn K (.ref C_InvalidAnswers) (.type "BaseException") = some true)
    (tyx_InvalidAnswers : PySem.W.typeIn K (.ref C_InvalidAnswers) = some (.type "type"))
    (hx_InvalidAnswers : PySem.W.hasDictIn K C_InvalidAnswers = true)
    (icx_InvalidAnswers : PySem.W.isClsIn K C_InvalidAnswers = true)
    (scx_InvalidAnswers : PySem.W.subIn K (.ref C_InvalidAnswers) (.ref C_InvalidAnswers) = some true)
    (aX_Mismatch : PySem.W.nsIn K mainGlobals "Mismatch" = some (some (.ref C_Mismatch)))
    (ii_Mismatch : PySem.W.findIn K (.ref C_Mismatch) "__init__" = some (some (.ref f4)))
    (xL_Mismatch : K.lookup C_Mismatch = some (excClassObj nm_Mismatch q_Mismatch C_Mismatch N_Mismatch bs_Mismatch [.ref C_SortError, .type "ValueError", .type "Exception", .type "BaseException", .type "object"] true sn_Mismatch sub_Mismatch ab_Mismatch col_Mismatch dd_Mismatch m0_Mismatch m1_Mismatch m2_Mismatch m3_Mismatch m5_Mismatch "ValueError.__new__"))
    (sx_Mismatch : PySem.W.findIn K (.ref C_Mismatch) "__setattr__" = some (some (.builtin "object.__setattr__")))
    (gx_Mismatch : PySem.W.findIn K (.ref C_Mismatch) "__getattribute__" = some (some (.builtin "BaseException.__getattribute__")))
    (ggx_Mismatch : PySem.W.findIn K (.ref C_Mismatch) "__getattr__" = some none)
    (nx_Mismatch : PySem.W.findIn K (.ref C_Mismatch) "name" = some none)
    (tx_Mismatch : PySem.W.typeIn K (.ref f4) = some (.type "function"))
    (kx_Mismatch : PySem.W.keepIn K (.ref C_Mismatch) = true)
    (ex_Mismatch : PySem.W.subIn K (.ref C_Mismatch) (.type "BaseException") = some true)
    (tyx_Mismatch : PySem.W.typeIn K (.ref C_Mismatch) = some (.type "type"))
    (hx_Mismatch : PySem.W.hasDictIn K C_Mismatch = true)
    (icx_Mismatch : PySem.W.isClsIn K C_Mismatch = true)
    (scx_Mismatch : PySem.W.subIn K (.ref C_Mismatch) (.ref C_Mismatch) = some true)
    (aX_SortError : PySem.W.nsIn K mainGlobals "SortError" = some (some (.ref C_SortError)))
    (r1x_SortError : PySem.W.readsIn K C_SortError (.type "type") = true)
    (r2x_SortError : PySem.W.specialIn K (.ref C_SortError) "__getattribute__" = some (some (.builtin "type.__getattribute__")))
    (vix_SortError : PySem.W.findCls K (.ref C_SortError) (.type "type") "__init__" = some (.val (.builtin "ValueError.__init__")))
    (ex_SortError : PySem.W.subIn K (.ref C_SortError) (.type "BaseException") = some true)
    (tyx_SortError : PySem.W.typeIn K (.ref C_SortError) = some (.type "type"))
    (icx_SortError : PySem.W.isClsIn K C_SortError = true)
    (scx_SortError : PySem.W.subIn K (.ref C_SortError) (.ref C_SortError) = some true)
    (su_InvalidQuestion_InvalidNumber : PySem.W.subIn K (.ref C_InvalidQuestion) (.ref C_InvalidNumber) = some false)
    (su_InvalidQuestion_InvalidAnswers : PySem.W.subIn K (.ref C_InvalidQuestion) (.ref C_InvalidAnswers) = some false)
    (su_InvalidQuestion_Mismatch : PySem.W.subIn K (.ref C_InvalidQuestion) (.ref C_Mismatch) = some false)
    (su_InvalidQuestion_SortError : PySem.W.subIn K (.ref C_InvalidQuestion) (.ref C_SortError) = some true)
    (su_InvalidNumber_InvalidQuestion : PySem.W.subIn K (.ref C_InvalidNumber) (.ref C_InvalidQuestion) = some false)
    (su_InvalidNumber_InvalidAnswers : PySem.W.subIn K (.ref C_InvalidNumber) (.ref C_InvalidAnswers) = some false)
    (su_InvalidNumber_Mismatch : PySem.W.subIn K (.ref C_InvalidNumber) (.ref C_Mismatch) = some false)
    (su_InvalidNumber_SortError : PySem.W.subIn K (.ref C_InvalidNumber) (.ref C_SortError) = some true)
    (su_InvalidAnswers_InvalidQuestion : PySem.W.subIn K (.ref C_InvalidAnswers) (.ref C_InvalidQuestion) = some false)
    (su_InvalidAnswers_InvalidNumber : PySem.W.subIn K (.ref C_InvalidAnswers) (.ref C_InvalidNumber) = some false)
    (su_InvalidAnswers_Mismatch : PySem.W.subIn K (.ref C_InvalidAnswers) (.ref C_Mismatch) = some false)
    (su_InvalidAnswers_SortError : PySem.W.subIn K (.ref C_InvalidAnswers) (.ref C_SortError) = some true)
    (su_Mismatch_InvalidQuestion : PySem.W.subIn K (.ref C_Mismatch) (.ref C_InvalidQuestion) = some false)
    (su_Mismatch_InvalidNumber : PySem.W.subIn K (.ref C_Mismatch) (.ref C_InvalidNumber) = some false)
    (su_Mismatch_InvalidAnswers : PySem.W.subIn K (.ref C_Mismatch) (.ref C_InvalidAnswers) = some false)
    (su_Mismatch_SortError : PySem.W.subIn K (.ref C_Mismatch) (.ref C_SortError) = some true)
    (dcx_InvalidQuestion : PySem.W.findIn K (.ref C_InvalidQuestion) "__class__" = some (some (.builtin "object.__class__")))
    (dmx_InvalidQuestion : PySem.W.mroIn K C_InvalidQuestion (.type "object") = some true)
    (dcx_InvalidNumber : PySem.W.findIn K (.ref C_InvalidNumber) "__class__" = some (some (.builtin "object.__class__")))
    (dmx_InvalidNumber : PySem.W.mroIn K C_InvalidNumber (.type "object") = some true)
    (dcx_InvalidAnswers : PySem.W.findIn K (.ref C_InvalidAnswers) "__class__" = some (some (.builtin "object.__class__")))
    (dmx_InvalidAnswers : PySem.W.mroIn K C_InvalidAnswers (.type "object") = some true)
    (dcx_Mismatch : PySem.W.findIn K (.ref C_Mismatch) "__class__" = some (some (.builtin "object.__class__")))
    (dmx_Mismatch : PySem.W.mroIn K C_Mismatch (.type "object") = some true)
    (dnx : PySem.W.specialIn K (.builtin "object.__class__") "__get__" = some (some (.builtin "getset_descriptor.__get__"))) (dtx : PySem.W.takesIn K (.builtin "object.__class__") = some true)
    : ∃ fd : FuncData, (∀ (s : Shared) (v : Value), BindsTo s fd ⟨[v], []⟩ [("script", v)]) ∧ ∀ base : Heap, K.In base → base.Ns mainGlobals mg → FnG l.prog w K mg base CX0 10 fa fd ["script"] (spLaw K) := by
  have e : fa = f32 := by
    have e := hfa.symm.trans (PySem.W.mg_of X G a32)
    cases e
    rfl
  have F0 := fun_mk (st := s_wall) l0 c0 k0
  have B0 := F0.binds (ps := P_wall) fun _ _ _ _ _ _ us hl => match us, hl with | [_], _ => rfl
  have F1 := fun_mk (st := s_InvalidQuestion___init__) l1 c1 k1
  have B1 := F1.binds (ps := P_InvalidQuestion___init__) fun _ _ _ _ _ _ us hl => match us, hl with | [_, _], _ => rfl
  have F2 := fun_mk (st := s_InvalidAnswers___init__) l2 c2 k2
  have B2 := F2.binds (ps := P_InvalidAnswers___init__) fun _ _ _ _ _ _ us hl => match us, hl with | [_, _], _ => rfl
  have F3 := fun_mk (st := s_InvalidNumber___init__) l3 c3 k3
  have B3 := F3.binds (ps := P_InvalidNumber___init__) fun _ _ _ _ _ _ us hl => match us, hl with | [_, _], _ => rfl
  have F4 := fun_mk (st := s_Mismatch___init__) l4 c4 k4
  have B4 := F4.binds (ps := P_Mismatch___init__) fun _ _ _ _ _ _ us hl => match us, hl with | [_, _], _ => rfl
  have F5 := fun_mk (st := s_is_integer) l5 c5 k5
  have B5 := F5.binds (ps := P_is_integer) fun _ _ _ _ _ _ us hl => match us, hl with | [_], _ => rfl
  have F6 := fun_mk (st := s_is_within) l6 c6 k6
  have B6 := F6.binds (ps := P_is_within) fun _ _ _ _ _ _ us hl => match us, hl with | [_, _, _], _ => rfl
  have F7 := fun_mk (st := s_is_item) l7 c7 k7
  have B7 := F7.binds (ps := P_is_item) fun _ _ _ _ _ _ us hl => match us, hl with | [_, _], _ => rfl
  have F8 := fun_mk (st := s_is_question) l8 c8 k8
  have B8 := F8.binds (ps := P_is_question) fun _ _ _ _ _ _ us hl => match us, hl with | [_, _], _ => rfl
  have F9 := fun_mk (st := s_check_question) l9 c9 k9
  have B9 := F9.binds (ps := P_check_question) fun _ _ _ _ _ _ us hl => match us, hl with | [_, _], _ => rfl
  have F10 := fun_mk (st := s_check_log) l10 c10 k10
  have B10 := F10.binds (ps := P_check_log) fun _ _ _ _ _ _ us hl => match us, hl with | [_, _], _ => rfl
  have F11 := fun_mk (st := s_is_entry) l11 c11 k11
  have B11 := F11.binds (ps := P_is_entry) fun _ _ _ _ _ _ us hl => match us, hl with | [_, _], _ => rfl
  have F12 := funV_mk (st := s_check_number) l12 c12
  have B12_0 := bindsV (st := s_check_number) (dvs := [.non]) (its := [.none]) (ps := P_check_number) l12 c12 k12 t12 (.cons rfl .nil) 4 1 (List.cons_ne_nil _ _) rfl fun _ _ _ _ _ _ _ us its h1 h2 => match us, its, h1, h2 with | [_, _, _, _], [_], _, _ => ⟨_, rfl, rfl⟩
  obtain ⟨ds12, rds12, bds12⟩ := B12_0
  have F13 := fun_mk (st := s_Relations___init__) l13 c13 k13
  have B13 := F13.binds (ps := P_Relations___init__) fun _ _ _ _ _ _ us hl => match us, hl with | [_, _], _ => rfl
  have F14 := fun_mk (st := s_Relations_follows) l14 c14 k14
  have B14 := F14.binds (ps := P_Relations_follows) fun _ _ _ _ _ _ us hl => match us, hl with | [_, _], _ => rfl
  have F15 := fun_mk (st := s_Relations_learn) l15 c15 k15
  have B15 := F15.binds (ps := P_Relations_learn) fun _ _ _ _ _ _ us hl => match us, hl with | [_, _, _], _ => rfl
  have F16 := fun_mk (st := s_Relations_first_lie) l16 c16 k16
  have B16 := F16.binds (ps := P_Relations_first_lie) fun _ _ _ _ _ _ us hl => match us, hl with | [_, _], _ => rfl
  have F17 := fun_mk (st := s_Relations_least_keys) l17 c17 k17
  have B17 := F17.binds (ps := P_Relations_least_keys) fun _ _ _ _ _ _ us hl => match us, hl with | [_], _ => rfl
  have F18 := fun_mk (st := s_Relations__join_steps) l18 c18 k18
  have B18 := F18.binds (ps := P_Relations__join_steps) fun _ _ _ _ _ _ us hl => match us, hl with | [_, _, _], _ => rfl
  have F19 := fun_mk (st := s_follows) l19 c19 k19
  have B19 := F19.binds (ps := P_follows) fun _ _ _ _ _ _ us hl => match us, hl with | [_, _, _], _ => rfl
  have F20 := fun_mk (st := s_honest_relations) l20 c20 k20
  have B20 := F20.binds (ps := P_honest_relations) fun _ _ _ _ _ _ us hl => match us, hl with | [_, _], _ => rfl
  have F21 := fun_mk (st := s_check_many_and_log) l21 c21 k21
  have B21 := F21.binds (ps := P_check_many_and_log) fun _ _ _ _ _ _ us hl => match us, hl with | [_, _], _ => rfl
  have F22 := fun_mk (st := s_mixed) l22 c22 k22
  have B22 := F22.binds (ps := P_mixed) fun _ _ _ _ _ _ us hl => match us, hl with | [_, _], _ => rfl
  have F23 := fun_mk (st := s_source) l23 c23 k23
  have B23 := F23.binds (ps := P_source) fun _ _ _ _ _ _ us hl => match us, hl with | [_], _ => rfl
  have F24 := fun_mk (st := s_take) l24 c24 k24
  have B24 := F24.binds (ps := P_take) fun _ _ _ _ _ _ us hl => match us, hl with | [_, _], _ => rfl
  have F25 := fun_mk (st := s_known) l25 c25 k25
  have B25 := F25.binds (ps := P_known) fun _ _ _ _ _ _ us hl => match us, hl with | [_, _], _ => rfl
  have F26 := fun_mk (st := s_lfollows) l26 c26 k26
  have B26 := F26.binds (ps := P_lfollows) fun _ _ _ _ _ _ us hl => match us, hl with | [_, _], _ => rfl
  have F27 := fun_mk (st := s_pair) l27 c27 k27
  have B27 := F27.binds (ps := P_pair) fun _ _ _ _ _ _ us hl => match us, hl with | [_, _], _ => rfl
  have F28 := fun_mk (st := s_honest_log) l28 c28 k28
  have B28 := F28.binds (ps := P_honest_log) fun _ _ _ _ _ _ us hl => match us, hl with | [_, _, _], _ => rfl
  have F29 := fun_mk (st := s_all_keys) l29 c29 k29
  have B29 := F29.binds (ps := P_all_keys) fun _ _ _ _ _ _ us hl => match us, hl with | [_], _ => rfl
  have F30 := fun_mk (st := s_small_right) l30 c30 k30
  have B30 := F30.binds (ps := P_small_right) fun _ _ _ _ _ _ us hl => match us, hl with | [_], _ => rfl
  have F31 := fun_mk (st := s_chain_right) l31 c31 k31
  have B31 := F31.binds (ps := P_chain_right) fun _ _ _ _ _ _ us hl => match us, hl with | [_], _ => rfl
  have F32 := fun_mk (st := s_law) l32 c32 k32
  have B32 := F32.binds (ps := P_law) fun _ _ _ _ _ _ us hl => match us, hl with | [_], _ => rfl
  have T : Txt K mg ⟨f0, f1, f2, f3, f4, f5, f6, f7, f8, f9, f10, f11, f12, f13, f14, f15, f16, f17, f18, f19, f20, f21, f22, f23, f24, f25, f26, f27, f28, f29, f30, f31, f32, t_MOST_ENTRIES, t_MOST_ITEMS, C_Relations, C_InvalidQuestion, C_InvalidNumber, C_InvalidAnswers, C_Mismatch, C_SortError⟩ ⟨_, _, _, _, _, _, _, _, _, _, _, _, _, _, _, _, _, _, _, _, _, _, _, _, _, _, _, _, _, _, _, _, _⟩ := ⟨PySem.W.mg_of X G a0, k0, F0, B0, F1, B1, F2, B2, F3, B3, F4, B4, PySem.W.mg_of X G a5, k5, F5, B5, PySem.W.mg_of X G a6, k6, F6, B6, PySem.W.mg_of X G a7, k7, F7, B7, PySem.W.mg_of X G a8, k8, F8, B8, PySem.W.mg_of X G a9, k9, F9, B9, PySem.W.mg_of X G a10, k10, F10, B10, PySem.W.mg_of X G a11, k11, F11, B11, PySem.W.mg_of X G a12, k12, F12, Binds.none rds12 bds12, ⟨a13, i13, k13⟩, F13, B13, ⟨a14, i14, k14⟩, F14, B14, ⟨a15, i15, k15⟩, F15, B15, ⟨a16, i16, k16⟩, F16, B16, ⟨a17, i17, k17⟩, F17, B17, ⟨a18, i18, k18⟩, F18, B18, PySem.W.mg_of X G a19, k19, F19, B19, kbn_follows_0_question_log_many F19, PySem.W.mg_of X G a20, k20, F20, B20, PySem.W.mg_of X G a21, k21, F21, B21, PySem.W.mg_of X G a22, k22, F22, B22, PySem.W.mg_of X G a23, k23, F23, B23, PySem.W.mg_of X G a24, k24, F24, B24, PySem.W.mg_of X G a25, k25, F25, B25, PySem.W.mg_of X G a26, k26, F26, B26, PySem.W.mg_of X G a27, k27, F27, B27, PySem.W.mg_of X G a28, k28, F28, B28, PySem.W.mg_of X G a29, k29, F29, B29, PySem.W.mg_of X G a30, k30, F30, B30, PySem.W.mg_of X G a31, k31, F31, B31, PySem.W.mg_of X G a32, k32, F32, B32, PySem.W.mg_of X G v_MOST_ENTRIES, PySem.W.mg_of X G v_MOST_ITEMS, PySem.W.mg_none_of X G z_bool, PySem.W.mg_none_of X G z_enumerate, PySem.W.mg_none_of X G z_int, PySem.W.mg_none_of X G z_isinstance, PySem.W.mg_none_of X G z_len, PySem.W.mg_none_of X G z_list, PySem.W.mg_none_of X G z_max, PySem.W.mg_none_of X G z_range, PySem.W.mg_none_of X G z_repr, PySem.W.mg_none_of X G z_tuple, PySem.W.mg_none_of X G z_zip, exC_mk X G aX_InvalidQuestion xL_InvalidQuestion sx_InvalidQuestion gx_InvalidQuestion ggx_InvalidQuestion nx_InvalidQuestion ii_InvalidQuestion tx_InvalidQuestion kx_InvalidQuestion ex_InvalidQuestion tyx_InvalidQuestion hx_InvalidQuestion icx_InvalidQuestion scx_InvalidQuestion, exC_mk X G aX_InvalidNumber xL_InvalidNumber sx_InvalidNumber gx_InvalidNumber ggx_InvalidNumber nx_InvalidNumber ii_InvalidNumber tx_InvalidNumber kx_InvalidNumber ex_InvalidNumber tyx_InvalidNumber hx_InvalidNumber icx_InvalidNumber scx_InvalidNumber, exC_mk X G aX_InvalidAnswers xL_InvalidAnswers sx_InvalidAnswers gx_InvalidAnswers ggx_InvalidAnswers nx_InvalidAnswers ii_InvalidAnswers tx_InvalidAnswers kx_InvalidAnswers ex_InvalidAnswers tyx_InvalidAnswers hx_InvalidAnswers icx_InvalidAnswers scx_InvalidAnswers, exC_mk X G aX_Mismatch xL_Mismatch sx_Mismatch gx_Mismatch ggx_Mismatch nx_Mismatch ii_Mismatch tx_Mismatch kx_Mismatch ex_Mismatch tyx_Mismatch hx_Mismatch icx_Mismatch scx_Mismatch, ⟨PySem.W.mg_of X G aX_SortError, r1x_SortError, r2x_SortError, vix_SortError⟩, exS_mk ex_InvalidQuestion tyx_InvalidQuestion icx_InvalidQuestion scx_InvalidQuestion scx_InvalidQuestion, exS_mk ex_InvalidNumber tyx_InvalidNumber icx_InvalidNumber scx_InvalidNumber su_InvalidQuestion_InvalidNumber, exS_mk ex_InvalidAnswers tyx_InvalidAnswers icx_InvalidAnswers scx_InvalidAnswers su_InvalidQuestion_InvalidAnswers, exS_mk ex_Mismatch tyx_Mismatch icx_Mismatch scx_Mismatch su_InvalidQuestion_Mismatch, exS_mk ex_SortError tyx_SortError icx_SortError scx_SortError su_InvalidQuestion_SortError, exS_mk ex_InvalidQuestion tyx_InvalidQuestion icx_InvalidQuestion scx_InvalidQuestion su_InvalidNumber_InvalidQuestion, exS_mk ex_InvalidNumber tyx_InvalidNumber icx_InvalidNumber scx_InvalidNumber scx_InvalidNumber, exS_mk ex_InvalidAnswers tyx_InvalidAnswers icx_InvalidAnswers scx_InvalidAnswers su_InvalidNumber_InvalidAnswers, exS_mk ex_Mismatch tyx_Mismatch icx_Mismatch scx_Mismatch su_InvalidNumber_Mismatch, exS_mk ex_SortError tyx_SortError icx_SortError scx_SortError su_InvalidNumber_SortError, exS_mk ex_InvalidQuestion tyx_InvalidQuestion icx_InvalidQuestion scx_InvalidQuestion su_InvalidAnswers_InvalidQuestion, exS_mk ex_InvalidNumber tyx_InvalidNumber icx_InvalidNumber scx_InvalidNumber su_InvalidAnswers_InvalidNumber, exS_mk ex_InvalidAnswers tyx_InvalidAnswers icx_InvalidAnswers scx_InvalidAnswers scx_InvalidAnswers, exS_mk ex_Mismatch tyx_Mismatch icx_Mismatch scx_Mismatch su_InvalidAnswers_Mismatch, exS_mk ex_SortError tyx_SortError icx_SortError scx_SortError su_InvalidAnswers_SortError, exS_mk ex_InvalidQuestion tyx_InvalidQuestion icx_InvalidQuestion scx_InvalidQuestion su_Mismatch_InvalidQuestion, exS_mk ex_InvalidNumber tyx_InvalidNumber icx_InvalidNumber scx_InvalidNumber su_Mismatch_InvalidNumber, exS_mk ex_InvalidAnswers tyx_InvalidAnswers icx_InvalidAnswers scx_InvalidAnswers su_Mismatch_InvalidAnswers, exS_mk ex_Mismatch tyx_Mismatch icx_Mismatch scx_Mismatch scx_Mismatch, exS_mk ex_SortError tyx_SortError icx_SortError scx_SortError su_Mismatch_SortError, ⟨gx_InvalidQuestion, ggx_InvalidQuestion, ex_InvalidQuestion, hx_InvalidQuestion, dcx_InvalidQuestion, dnx, dtx, dmx_InvalidQuestion⟩, ⟨gx_InvalidNumber, ggx_InvalidNumber, ex_InvalidNumber, hx_InvalidNumber, dcx_InvalidNumber, dnx, dtx, dmx_InvalidNumber⟩, ⟨gx_InvalidAnswers, ggx_InvalidAnswers, ex_InvalidAnswers, hx_InvalidAnswers, dcx_InvalidAnswers, dnx, dtx, dmx_InvalidAnswers⟩, ⟨gx_Mismatch, ggx_Mismatch, ex_Mismatch, hx_Mismatch, dcx_Mismatch, dnx, dtx, dmx_Mismatch⟩, ⟨pg_Relations, hd_Relations, po_Relations, sa_Relations⟩, PySem.W.mg_of X G aC_Relations, ⟨mk_Relations, a13, i13, kc_Relations⟩, n_many, n_below, n_strictly_below⟩
  exact ⟨_, fun s v => .of_eq rfl, fun base _ _ => by rw [e]; exact ok_law T⟩
end K80
open PySem PySem.W PyProof.Rows
set_option maxHeartbeats 0 in
theorem PySem.Challenge.cw_askedorder_k80_what_follows_holds : PySem.Challenge.rw_askedorder_k80_what_follows.Holds := by
  w_on; o_law; k_head; (case hw => w_witness2)
  k_fill
  refine L2.walkG (l := PySem.Challenge.rw_askedorder_k80_what_follows) (n := 63) (k := 10) (x := "script") (CX := fun _ => L2.CX0) (sp := fun w => K80.spLaw _) rfl (by decide) rfl ⟨rfl, by decide, by decide⟩ (fun w h Y => PySem.W.kIn_of Y) ?F (fun _ _ a ns hl _ hS => ⟨a, ns, rfl, hS, hl, fun _ => rfl⟩) (fun _ _ _ _ _ h => h)
  case F =>
    intro w mg fa h KX G hmg
    refine' K80.all_mk KX G hmg ?a0 ?l0 ?c0 ?k0 ?l1 ?c1 ?k1 ?l2 ?c2 ?k2 ?l3 ?c3 ?k3 ?l4 ?c4 ?k4 ?a5 ?l5 ?c5 ?k5 ?a6 ?l6 ?c6 ?k6 ?a7 ?l7 ?c7 ?k7 ?a8 ?l8 ?c8 ?k8 ?a9 ?l9 ?c9 ?k9 ?a10 ?l10 ?c10 ?k10 ?a11 ?l11 ?c11 ?k11 ?a12 ?l12 ?c12 ?k12 ?t12 ?a13 ?i13 ?l13 ?c13 ?k13 ?a14 ?i14 ?l14 ?c14 ?k14 ?a15 ?i15 ?l15 ?c15 ?k15 ?a16 ?i16 ?l16 ?c16 ?k16 ?a17 ?i17 ?l17 ?c17 ?k17 ?a18 ?i18 ?l18 ?c18 ?k18 ?a19 ?l19 ?c19 ?k19 ?a20 ?l20 ?c20 ?k20 ?a21 ?l21 ?c21 ?k21 ?a22 ?l22 ?c22 ?k22 ?a23 ?l23 ?c23 ?k23 ?a24 ?l24 ?c24 ?k24 ?a25 ?l25 ?c25 ?k25 ?a26 ?l26 ?c26 ?k26 ?a27 ?l27 ?c27 ?k27 ?a28 ?l28 ?c28 ?k28 ?a29 ?l29 ?c29 ?k29 ?a30 ?l30 ?c30 ?k30 ?a31 ?l31 ?c31 ?k31 ?a32 ?l32 ?c32 ?k32 ?v_MOST_ENTRIES ?v_MOST_ITEMS ?z_bool ?z_enumerate ?z_int ?z_isinstance ?z_len ?z_list ?z_max ?z_range ?z_repr ?z_tuple ?z_zip ?aC_Relations ?pg_Relations ?hd_Relations ?po_Relations ?sa_Relations ?mk_Relations ?kc_Relations ?n_many ?n_below ?n_strictly_below ?aX_InvalidQuestion ?ii_InvalidQuestion ?xL_InvalidQuestion ?sx_InvalidQuestion ?gx_InvalidQuestion ?ggx_InvalidQuestion ?nx_InvalidQuestion ?tx_InvalidQuestion ?kx_InvalidQuestion ?ex_InvalidQuestion ?tyx_InvalidQuestion ?hx_InvalidQuestion ?icx_InvalidQuestion ?scx_InvalidQuestion ?aX_InvalidNumber ?ii_InvalidNumber ?xL_InvalidNumber ?sx_InvalidNumber ?gx_InvalidNumber ?ggx_InvalidNumber ?nx_InvalidNumber ?tx_InvalidNumber ?kx_InvalidNumber ?ex_InvalidNumber ?tyx_InvalidNumber ?hx_InvalidNumber ?icx_InvalidNumber ?scx_InvalidNumber ?aX_InvalidAnswers ?ii_InvalidAnswers ?xL_InvalidAnswers ?sx_InvalidAnswers ?gx_InvalidAnswers ?ggx_InvalidAnswers ?nx_InvalidAnswers ?tx_InvalidAnswers ?kx_InvalidAnswers ?ex_InvalidAnswers ?tyx_InvalidAnswers ?hx_InvalidAnswers ?icx_InvalidAnswers ?scx_InvalidAnswers ?aX_Mismatch ?ii_Mismatch ?xL_Mismatch ?sx_Mismatch ?gx_Mismatch ?ggx_Mismatch ?nx_Mismatch ?tx_Mismatch ?kx_Mismatch ?ex_Mismatch ?tyx_Mismatch ?hx_Mismatch ?icx_Mismatch ?scx_Mismatch ?aX_SortError ?r1x_SortError ?r2x_SortError ?vix_SortError ?ex_SortError ?tyx_SortError ?icx_SortError ?scx_SortError ?su_InvalidQuestion_InvalidNumber ?su_InvalidQuestion_InvalidAnswers ?su_InvalidQuestion_Mismatch ?su_InvalidQuestion_SortError ?su_InvalidNumber_InvalidQuestion ?su_InvalidNumber_InvalidAnswers ?su_InvalidNumber_Mismatch ?su_InvalidNumber_SortError ?su_InvalidAnswers_InvalidQuestion ?su_InvalidAnswers_InvalidNumber ?su_InvalidAnswers_Mismatch ?su_InvalidAnswers_SortError ?su_Mismatch_InvalidQuestion ?su_Mismatch_InvalidNumber ?su_Mismatch_InvalidAnswers ?su_Mismatch_SortError ?dcx_InvalidQuestion ?dmx_InvalidQuestion ?dcx_InvalidNumber ?dmx_InvalidNumber ?dcx_InvalidAnswers ?dmx_InvalidAnswers ?dcx_Mismatch ?dmx_Mismatch ?dnx ?dtx
    (case aC_Relations => k_is); (case aX_InvalidQuestion => k_is); (case aX_InvalidNumber => k_is); (case aX_InvalidAnswers => k_is); (case aX_Mismatch => k_is); (case aX_SortError => k_is)
    (case ii_InvalidQuestion => k_is); (case ii_InvalidNumber => k_is); (case ii_InvalidAnswers => k_is); (case ii_Mismatch => k_is); (case a0 => k_is); (case l0 => k_is)
    (case c0 => k_is); (case k0 => k_is); (case l1 => k_is); (case c1 => k_is); (case k1 => k_is); (case l2 => k_is)
    (case c2 => k_is); (case k2 => k_is); (case l3 => k_is); (case c3 => k_is); (case k3 => k_is); (case l4 => k_is)
    (case c4 => k_is); (case k4 => k_is); (case a5 => k_is); (case l5 => k_is); (case c5 => k_is); (case k5 => k_is)
    (case a6 => k_is); (case l6 => k_is); (case c6 => k_is); (case k6 => k_is); (case a7 => k_is); (case l7 => k_is)
    (case c7 => k_is); (case k7 => k_is); (case a8 => k_is); (case l8 => k_is); (case c8 => k_is); (case k8 => k_is)
    (case a9 => k_is); (case l9 => k_is); (case c9 => k_is); (case k9 => k_is); (case a10 => k_is); (case l10 => k_is)
    (case c10 => k_is); (case k10 => k_is); (case a11 => k_is); (case l11 => k_is); (case c11 => k_is); (case k11 => k_is)
    (case a12 => k_is); (case l12 => k_is); (case c12 => k_is); (case k12 => k_is); (case t12 => k_is); (case a13 => k_is)
    (case i13 => k_is); (case l13 => k_is); (case c13 => k_is); (case k13 => k_is); (case a14 => k_is); (case i14 => k_is)
    (case l14 => k_is); (case c14 => k_is); (case k14 => k_is); (case a15 => k_is); (case i15 => k_is); (case l15 => k_is)
    (case c15 => k_is); (case k15 => k_is); (case a16 => k_is); (case i16 => k_is); (case l16 => k_is); (case c16 => k_is)
    (case k16 => k_is); (case a17 => k_is); (case i17 => k_is); (case l17 => k_is); (case c17 => k_is); (case k17 => k_is)
    (case a18 => k_is); (case i18 => k_is); (case l18 => k_is); (case c18 => k_is); (case k18 => k_is); (case a19 => k_is)
    (case l19 => k_is); (case c19 => k_is); (case k19 => k_is); (case a20 => k_is); (case l20 => k_is); (case c20 => k_is)
    (case k20 => k_is); (case a21 => k_is); (case l21 => k_is); (case c21 => k_is); (case k21 => k_is); (case a22 => k_is)
    (case l22 => k_is); (case c22 => k_is); (case k22 => k_is); (case a23 => k_is); (case l23 => k_is); (case c23 => k_is)
    (case k23 => k_is); (case a24 => k_is); (case l24 => k_is); (case c24 => k_is); (case k24 => k_is); (case a25 => k_is)
    (case l25 => k_is); (case c25 => k_is); (case k25 => k_is); (case a26 => k_is); (case l26 => k_is); (case c26 => k_is)
    (case k26 => k_is); (case a27 => k_is); (case l27 => k_is); (case c27 => k_is); (case k27 => k_is); (case a28 => k_is)
    (case l28 => k_is); (case c28 => k_is); (case k28 => k_is); (case a29 => k_is); (case l29 => k_is); (case c29 => k_is)
    (case k29 => k_is); (case a30 => k_is); (case l30 => k_is); (case c30 => k_is); (case k30 => k_is); (case a31 => k_is)
    (case l31 => k_is); (case c31 => k_is); (case k31 => k_is); (case a32 => k_is); (case l32 => k_is); (case c32 => k_is)
    (case k32 => k_is); (case v_MOST_ENTRIES => k_is); (case v_MOST_ITEMS => k_is); (case z_bool => k_is); (case z_enumerate => k_is); (case z_int => k_is)
    (case z_isinstance => k_is); (case z_len => k_is); (case z_list => k_is); (case z_max => k_is); (case z_range => k_is); (case z_repr => k_is)
    (case z_tuple => k_is); (case z_zip => k_is); (case pg_Relations => k_is); (case hd_Relations => k_is); (case po_Relations => k_is); (case sa_Relations => k_is)
    (case mk_Relations => k_is); (case kc_Relations => k_is); (case n_many => k_is); (case n_below => k_is); (case n_strictly_below => k_is); (case xL_InvalidQuestion => k_is)
    (case sx_InvalidQuestion => k_is); (case gx_InvalidQuestion => k_is); (case ggx_InvalidQuestion => k_is); (case nx_InvalidQuestion => k_is); (case tx_InvalidQuestion => k_is); (case kx_InvalidQuestion => k_is)
    (case ex_InvalidQuestion => k_is); (case tyx_InvalidQuestion => k_is); (case hx_InvalidQuestion => k_is); (case icx_InvalidQuestion => k_is); (case scx_InvalidQuestion => k_is); (case xL_InvalidNumber => k_is)
    (case sx_InvalidNumber => k_is); (case gx_InvalidNumber => k_is); (case ggx_InvalidNumber => k_is); (case nx_InvalidNumber => k_is); (case tx_InvalidNumber => k_is); (case kx_InvalidNumber => k_is)
    (case ex_InvalidNumber => k_is); (case tyx_InvalidNumber => k_is); (case hx_InvalidNumber => k_is); (case icx_InvalidNumber => k_is); (case scx_InvalidNumber => k_is); (case xL_InvalidAnswers => k_is)
    (case sx_InvalidAnswers => k_is); (case gx_InvalidAnswers => k_is); (case ggx_InvalidAnswers => k_is); (case nx_InvalidAnswers => k_is); (case tx_InvalidAnswers => k_is); (case kx_InvalidAnswers => k_is)
    (case ex_InvalidAnswers => k_is); (case tyx_InvalidAnswers => k_is); (case hx_InvalidAnswers => k_is); (case icx_InvalidAnswers => k_is); (case scx_InvalidAnswers => k_is); (case xL_Mismatch => k_is)
    (case sx_Mismatch => k_is); (case gx_Mismatch => k_is); (case ggx_Mismatch => k_is); (case nx_Mismatch => k_is); (case tx_Mismatch => k_is); (case kx_Mismatch => k_is)
    (case ex_Mismatch => k_is); (case tyx_Mismatch => k_is); (case hx_Mismatch => k_is); (case icx_Mismatch => k_is); (case scx_Mismatch => k_is); (case r1x_SortError => k_is)
    (case r2x_SortError => k_is); (case vix_SortError => k_is); (case ex_SortError => k_is); (case tyx_SortError => k_is); (case icx_SortError => k_is); (case scx_SortError => k_is)
    (case su_InvalidQuestion_InvalidNumber => k_is); (case su_InvalidQuestion_InvalidAnswers => k_is); (case su_InvalidQuestion_Mismatch => k_is); (case su_InvalidQuestion_SortError => k_is); (case su_InvalidNumber_InvalidQuestion => k_is); (case su_InvalidNumber_InvalidAnswers => k_is)
    (case su_InvalidNumber_Mismatch => k_is); (case su_InvalidNumber_SortError => k_is); (case su_InvalidAnswers_InvalidQuestion => k_is); (case su_InvalidAnswers_InvalidNumber => k_is); (case su_InvalidAnswers_Mismatch => k_is); (case su_InvalidAnswers_SortError => k_is)
    (case su_Mismatch_InvalidQuestion => k_is); (case su_Mismatch_InvalidNumber => k_is); (case su_Mismatch_InvalidAnswers => k_is); (case su_Mismatch_SortError => k_is); (case dcx_InvalidQuestion => k_is); (case dmx_InvalidQuestion => k_is)
    (case dcx_InvalidNumber => k_is); (case dmx_InvalidNumber => k_is); (case dcx_InvalidAnswers => k_is); (case dmx_InvalidAnswers => k_is); (case dcx_Mismatch => k_is); (case dmx_Mismatch => k_is)
    (case dnx => k_is); (case dtx => k_is)


