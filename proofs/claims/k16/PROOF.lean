import PyProof.Rows.All
import Wide.All
import OpenK.AllK
import Wide.FinOn
import HandS.ForMost
import HandS.ForExc
import HandS.Wide
import HandS.IsInst
import HandS.Style
import HandS.Evl
import HandS.Defaults
import HandS.WordsExc
import KE.GoesEnum
import HandS.SortRule
import HandS.SortInts
import HandS.WordsDict
import HandS.Conv
import HandS.ExcInit
import HandS.ExcField
import HandS.ExcOwn
import HandS.TupAny
import HandS.WideBits
import HandS.More
import HandS.Small
import HandS.Deep
import PySem.Challenge.RW_askedorder_k16_fewest_and_most_placed
set_option Elab.async false
set_option linter.all false
set_option maxRecDepth 100000
set_option maxHeartbeats 8000000
namespace L2
open PySem PySem.Spec PyProof.Rows
/-! ### own rules: list + list of lists that are only read, powers, repr of a bool, calls by keywords alone -/
def rCatS (K : PySem.W.Frag) : R2 := fun x y H Q => ∃ l b xs zs, x = .ref l ∧ y = .ref b ∧ SqL K H l xs ∧ SqL K H b zs ∧ xs.length + zs.length ≤ sizeLine ∧ ∀ p, H p = none → Q (.ref p) (upd H p (.lst (xs ++ zs)))
theorem op_catS {X : Cx} : OpR X (binaryOp .Add) (rCatS X.K) := by
  intro pins s σ H x y v u Q I rx ry h
  obtain ⟨l, b, xs, zs, rfl, rfl, hH, hB, hz, q⟩ := h
  cases rx
  cases ry
  obtain ⟨its, r, pl, hl⟩ := I.list hH
  obtain ⟨its2, r2, pl2, hl2⟩ := I.list hB
  have e1 := r.length
  have e2 := r2.length
  obtain ⟨⟨cls, dd, data, sl⟩, n, ho, hc, hdd, hd⟩ := pl
  obtain ⟨⟨cls2, dd2, data2, sl2⟩, n2, ho2, hc2, hdd2, hd2⟩ := pl2
  simp only at hc hd hc2 hd2
  subst hc hd hc2 hd2
  have e : its.toArray ++ its2.toArray = (its ++ its2).toArray := by simp
  refine concat_meets ⟨_, ho, rfl⟩ ⟨_, ho2, rfl⟩ noFill_list_add seq_list_add PySem.F.slot_list_add PySem.F.entry_list_add (PySem.F.args_list_add_2 _ _) (list_addW l b its.toArray its2.toArray n n2 dd dd2 sl sl2 (by simp only [List.size_toArray]; omega)) ⟨ho, ho2, ?_⟩
  rw [e]
  exact ⟨.ref _, _, I.lnew (t' := s.toks) (r.append r2) (by rw [List.length_append]; omega), rfl, q _ I.fresh⟩
def CPowW (i j : Int) : Prop := 0 ≤ j ∧ (Builtin.Int.intBits i : Int) * j ≤ 2 ^ 27
theorem op_powW {X : Cx} : OpR X (binaryOp .Pow) (rI CPowW fun i j => .int (i ^ j.toNat)) := opI fun _ _ _ _ _ _ _ hc q => pow_int hc.1 hc.2 q
theorem call_repr_bool {X : Cx} : CallR X (.builtin "repr") (fun xs H Q => ∃ b, xs = [.bl b] ∧ Q (.str (if b then "True" else "False")) H) := by
  intro pins s σ H xs us Q I r h
  obtain ⟨b, rfl, q⟩ := h
  obtain ⟨u, rfl, r1⟩ := vals1 r
  cases r1
  exact PySem.P.repr_of_bool ⟨.str _, H, I.tok _, ⟨_, rfl⟩, q⟩
/-- f(k = v, ..), keywords alone -/
def tCallK0 (sp : Sp) (gV : List V → List V → List V) (E : XK) (tk : TA) : TE := fun σ H Q => tk σ H fun zs H2 => sp (gV [] zs) H2 Q E
theorem pe_callK0 {X : Cx} {CX : CXT} {k : Nat} {f : Addr} {fd : FuncData} {ps ks : List Str} {sp : Sp} {E : XK} {x : Str} {p pos : Pos} {kws : List Keyword} {tk : TA} {g : List Value → List Value → List Value} {gV : List V → List V → List V}
    (F : FnOk X.prog X.w X.K X.mg X.base CX k f fd ps sp) (hr : Room k X.A) (hg : Gl X x) (hm : X.mg x = some (.ref f)) (hk : PySem.W.keepIn X.K (.ref f) = true) (hb : KBinds X.K fd ps ks g gV) (hx : Passes CX X E)
    (hkw : PK X kws tk) (hall : (backToKw pos (keywordEach kws X.env)).all (·.1.isSome) = true := by rfl) (hks : (backToKw pos (keywordEach kws X.env)).filterMap (·.1) = ks := by rfl)
    (hdb : (x == ("__debug__" : Str)) = false := by decide)
    (hpl : ((backTo pos (starEach [] X.env)).any (·.1) || (backToKw pos (keywordEach kws X.env)).any (·.1.isNone)) = false := by rfl) :
    PE X (.Call (.Name x p) [] kws pos) (tCallK0 sp gV E tk) := by
  refine ⟨fun pins s σ H Q I h => ?_⟩
  refine wpAny_Call_Name_kw (ld_glob I hg hm ?_ hdb)
  refine PySem.W.callWith_KW0 (h₀ := X.base) I.ok.mod.kin hk hall ?_ hpl
  refine thn (hkw.run pos pins s σ H _ I h) fun ws s2 ⟨zs, H2, I2, rz, q2⟩ => ⟨I2.kIn, ?_⟩
  rw [hks]
  exact run_fnk F hr hb hx I2 .nil rz q2
/-! ### heaps: all but one address -/
/-- all that was tracked, but at p, is as it was -/
def SB (p : Addr) (H H' : Hp) : Prop := ∀ b o, b ≠ p → H b = some o → H' b = some o
theorem SB.refl (p : Addr) (H : Hp) : SB p H H := fun _ _ _ h => h
theorem SB.trans {p : Addr} {H H1 H2 : Hp} (a : SB p H H1) (b : SB p H1 H2) : SB p H H2 := fun c o n h => b c o n (a c o n h)
theorem SB.new {p q : Addr} {H : Hp} {o : HO} (h : H q = none) : SB p H (upd H q o) := fun b u n e => by
  rw [upd_ne (ne_of_none e h)]
  exact e
theorem SB.put {p : Addr} {H : Hp} {o : HO} : SB p H (upd H p o) := fun b u n e => by
  rw [upd_ne n]
  exact e
theorem SB.of {p : Addr} {H H' : Hp} (a : Same H H') : SB p H H' := fun c o _ h => a c o h
theorem SB.seq {p : Addr} {K : PySem.W.Frag} {H H' : Hp} {a : Addr} {xs : List V} (e : SB p H H') (n : a ≠ p) (h : SqL K H a xs) : SqL K H' a xs := by
  rcases h with (h | ⟨o, h⟩) | h
  · exact .inl (.inl (e _ _ n h))
  · exact .inl (.inr ⟨o, e _ _ n h⟩)
  · exact .inr h
theorem SB.tup {p : Addr} {K : PySem.W.Frag} {H H' : Hp} {a : Addr} {xs : List V} (e : SB p H H') (n : a ≠ p) (h : SqT K H a xs) : SqT K H' a xs := by
  rcases h with (h | ⟨o, h⟩) | h
  · exact .inl (.inl (e _ _ n h))
  · exact .inl (.inr ⟨o, e _ _ n h⟩)
  · exact .inr h
/-- what is free behind was free before, but at p -/
theorem SB.free {p : Addr} {H H' : Hp} (e : SB p H H') {l : Addr} (n : l ≠ p) (h : H' l = Option.none) : H l = Option.none := by
  cases q : H l with
  | none => rfl
  | some o =>
    rw [e l o n q] at h
    cases h
theorem same_upd {H : Hp} {p : Addr} {o : HO} (h : H p = none) : Same H (upd H p o) := fun b x e => by
  rw [upd_ne (ne_of_none e h)]
  exact e
theorem Same.tupS {K : PySem.W.Frag} {H H' : Hp} {a : Addr} {xs : List V} (e : Same H H') (h : SqT K H a xs) : SqT K H' a xs := by
  rcases h with (h | ⟨o, h⟩) | h
  · exact .inl (.inl (e _ _ h))
  · exact .inl (.inr ⟨o, e _ _ h⟩)
  · exact .inr h
theorem sq_of {K : PySem.W.Frag} {H : Hp} {a : Addr} {xs : List V} (h : H a = some (.lst xs)) : SqL K H a xs := .inl (.inl h)
theorem st_of {K : PySem.W.Frag} {H : Hp} {a : Addr} {xs : List V} (h : H a = some (.tup xs)) : SqT K H a xs := .inl (.inl h)
end L2
namespace L2
open PySem PySem.Spec PyProof.Rows
theorem for_iteL {K : PySem.W.Frag} {a : Addr} {xs : List V} {g : TG} {tb : TS} {D : Ends} {σ : St} {H : Hp} (Pv : Nat → St → Hp → Prop) (h0 : Pv 0 σ H) (hl : ∀ i σ H, i ≤ xs.length → Pv i σ H → SqL K H a xs)
    (hs : ∀ i x σ H T, xs[i]? = some x → Pv i σ H → H T = none → g (.ref T) σ (upd H T (.tup [.int (i : Nat), x])) fun σ2 H2 => tb { D with nx := Pv (i + 1), ct := Pv (i + 1), bk := D.nx } σ2 H2) (hd : ∀ σ H, Pv xs.length σ H → D.nx σ H) :
    ∃ W : Nat → Nat → St → Hp → Prop, (∃ m, W 0 m σ H) ∧ ∀ i m σ H, W i m σ H →
      ((Ite K a).stop i H ∧ D.nx σ H) ∨ ((Ite K a).go i H ∧ ∃ N : St → Hp → Prop, (∀ σ' H', N σ' H' → ∃ m', m' < m ∧ W (i + 1) m' σ' H') ∧ ∀ x H', (Ite K a).yld i H x H' → g x σ H' fun σ2 H2 => tb { D with nx := N, ct := N, bk := D.nx } σ2 H2) := by
  refine ⟨fun i m σ H => m = xs.length - i ∧ i ≤ xs.length ∧ Pv i σ H, ⟨xs.length, by simp, Nat.zero_le _, h0⟩, ?_⟩
  rintro i m σ H ⟨rfl, hi, p⟩
  have q := hl i σ H hi p
  by_cases hlt : i < xs.length
  · refine .inr ⟨⟨xs, xs[i], q, by simp [hlt]⟩, Pv (i + 1), fun σ' H' p' => ⟨xs.length - (i + 1), by omega, rfl, hlt, p'⟩, fun x H' y => ?_⟩
    obtain ⟨T, z, e, nT, eH, f⟩ := y
    subst e eH
    exact hs i z σ _ T (f xs q) p nT
  · have e : i = xs.length := by omega
    subst e
    exact .inl ⟨⟨xs, q, Nat.le_refl _⟩, hd σ H p⟩
end L2

namespace L2
open PySem PySem.Spec PyProof.Rows
/-! ### a def that has defaults -/
structure FunV (K : PySem.W.Frag) (x qual : Str) (st : Stmt) (f : Addr) (fd : FuncData) : Prop where
  ex : ∃ (oc : Value) (od : Option Addr) (dV kV doc pm : Value) (an : Option Addr) (cdv ct : Value) (osl : Array (Option Value)),
    fd = PySem.W.fnOf x qual (defArgs st) (defBody st) (defScope st) dV kV doc pm an cdv ct ∧ K.lookup f = some ⟨oc, od, .func fd, osl⟩ ∧ PySem.W.codeIn K cdv qual = true
section
variable {P : Program} {w : World} {K : PySem.W.Frag} {mg : Str → Option Value} {base : Heap}
theorem FunV.ok {x qual : Str} {st : Stmt} {f : Addr} {fd : FuncData} {N ps : List Str} {k : Nat} {sp : Sp} (F : FunV K x qual st f fd) (S : FnScope N ps (defScope st)) (len : ∀ vs H Q E, sp vs H Q E → vs.length = ps.length)
    (hbody : ∀ (cdv : Value) (A : Around) (outer : List Env) (s : Shared) (H : Hp) (vs : List V) (Q : VK) (E : XK), Room k (A.deeper (envOfC qual (defScope st) s.heap.objs.size f cdv)) → sp vs H Q E →
      ∃ t, PSs (cxOf CX0 P w K mg base N qual (defScope st) f cdv A outer s H E).nox (defBody st) t ∧ t { nx := fun _ H' => Q .non H', rt := Q } (start N vs) H) : FnOk P w K mg base CX0 (k + 1) f fd ps sp := by
  obtain ⟨oc, od, dV, kV, doc, pm, an, cdv, ct, osl, rfl, lk, hcd⟩ := F.ex
  refine fn_of lk hcd S len fun A outer s H vs Q E hr hsp => ?_
  obtain ⟨t, h, q⟩ := hbody cdv A outer s H vs Q E hr hsp
  exact ⟨t, h.nox, q⟩
theorem FunV.okX {x qual : Str} {st : Stmt} {f : Addr} {fd : FuncData} {N ps : List Str} {k : Nat} {sp : Sp} (F : FunV K x qual st f fd) (S : FnScope N ps (defScope st)) (len : ∀ vs H Q E, sp vs H Q E → vs.length = ps.length)
    (hbody : ∀ (cdv : Value) (A : Around) (outer : List Env) (s : Shared) (H : Hp) (vs : List V) (Q : VK) (E : XK), Room k (A.deeper (envOfC qual (defScope st) s.heap.objs.size f cdv)) → sp vs H Q E →
      ∃ t, PSs (cxOf (L2.CX P w) P w K mg base N qual (defScope st) f cdv A outer s H E) (defBody st) t ∧ t { nx := fun _ H' => Q .non H', rt := Q } (start N vs) H) : FnOk P w K mg base (L2.CX P w) (k + 1) f fd ps sp := by
  obtain ⟨oc, od, dV, kV, doc, pm, an, cdv, ct, osl, rfl, lk, hcd⟩ := F.ex
  exact fn_of lk hcd S len fun A outer s H vs Q E hr hsp => hbody cdv A outer s H vs Q E hr hsp
theorem funV_mk {x qual : Str} {st : Stmt} {f : Addr} {oc : Value} {od an : Option Addr} {osl : Array (Option Value)} {dV kV doc pm cdv ct : Value} (l : K.lookup f = some ⟨oc, od, .func (PySem.W.fnOf x qual (defArgs st) (defBody st) (defScope st) dV kV doc pm an cdv ct), osl⟩)
    (c : PySem.W.codeIn K cdv qual = true) : FunV K x qual st f (PySem.W.fnOf x qual (defArgs st) (defBody st) (defScope st) dV kV doc pm an cdv ct) := ⟨oc, od, dV, kV, doc, pm, an, cdv, ct, osl, rfl, l, c⟩
/-- how the arguments bind where the last defaults fill up: dvs the defaults, j of them are written -/
theorem bindsV {x qual : Str} {st : Stmt} {f T : Addr} {oc oT : Value} {od odT an : Option Addr} {osl slT : Array (Option Value)} {kV doc pm cdv ct : Value} {its : List Value} {nT : Nat} {ps : List Str} {dvs : List V}
    (l : K.lookup f = some ⟨oc, od, .func (PySem.W.fnOf x qual (defArgs st) (defBody st) (defScope st) (.ref T) kV doc pm an cdv ct), osl⟩)
    (c : PySem.W.codeIn K cdv qual = true) (kp : PySem.W.keepIn K (.ref f) = true) (lT : K.lookup T = some ⟨oT, odT, .seq its.toArray nT, slT⟩) (rT : Vals dvs its) (n j : Nat) (hd : dvs ≠ []) (hn : n + (dvs.length - j) = ps.length)
    (h : ∀ (T : Addr) (kV doc pm : Value) (an : Option Addr) (cdv ct : Value) (us its : List Value), us.length = n → its.length = dvs.length →
      ∃ k, bindArgs (PySem.W.fnOf x qual (defArgs st) (defBody st) (defScope st) (.ref T) kV doc pm an cdv ct) ⟨us, []⟩ = seqItems? (.ref T) >>= k ∧ k (some its.toArray) = pure (ps.zip (us ++ its.drop j))) :
    ∃ ds, Vals (dvs.drop j) ds ∧ Binds K (PySem.W.fnOf x qual (defArgs st) (defBody st) (defScope st) (.ref T) kV doc pm an cdv ct) ps ds := by
  have F : FunD K x qual (defArgs st) (defBody st) (defScope st) dvs [] f _ := ⟨⟨_, _, _, _, _, _, _, _, _, _, rfl, l, c, .inr ⟨hd, T, _, its, nT, rfl, lT, rfl, rT⟩, .inl rfl⟩, kp⟩
  exact F.binds1 (ps := ps) n j hd hn h
theorem Binds.none {fd : FuncData} {ps : List Str} {ds : List Value} (r : Vals [] ds) (b : Binds K fd ps ds) : Binds K fd ps [] := by
  cases r
  exact b
end
end L2

namespace PySem
open Sem (wp)
theorem meets_enumerate_new0 {v : Value} {o : Obj} {H : Heap → Prop} (B : Begins v o H) :
    Meets (Builtin.«enumerate.__new__» ⟨[.type "enumerate", v], []⟩) (fun _ R s => H s.heap ∧
      R (.ok (.ret (.ref (s.heap.push o).objs.size))) { s with heap := (s.heap.push o).push { cls := .type "enumerate", data := .fields #[.none, .bool false, .ref s.heap.objs.size, rawInt 0, .none, .none] } }) :=
  .of_wp fun prog w A R s h => by
    obtain ⟨hp, g, d, tk, os⟩ := s; obtain ⟨h1, h⟩ := h
    have hsub := sub_enumerate
    have q1 : ∀ {A' : Around} {E : Value → Shared → Prop} {Q : Value → Shared → Prop}, Q (.ref hp.objs.size) ⟨hp.push o, g, d, tk, os⟩ → wpAny (model prog w) A' (pyIter v) Q E ⟨hp, g, d, tk, os⟩ :=
      fun q => B.iter prog w _ _ ⟨hp, g, d, tk, os⟩ _ h1 q
    wp_walk using q1
    refine wpAny_stack_any fun st => wpAny_pure ?_
    split
    · rename_i c _ _ _ _ _
      cases (c == Value.type "enumerate")
      · wp_walk using q1
        exact ⟨_, rfl, h⟩
      · wp_walk using q1
        exact ⟨_, rfl, h⟩
    · wp_walk using q1
      exact ⟨_, rfl, h⟩
theorem enum_begins0 {prog : Program} {w : World} {A : Around} {E : Value → Shared → Prop} {s : Shared} {v : Value} {o : Obj} {H : Heap → Prop} {Q : Value → Shared → Prop} (B : Begins v o H) (h1 : H s.heap)
    (h : ∀ h', IsEnum h' (s.heap.objs.size + 1) s.heap.objs.size 0 .none → h'.get? s.heap.objs.size = some o → h'.objs.size = s.heap.objs.size + 2 →
      (∀ b o, s.heap.get? b = some o → h'.get? b = some o) → Q (.ref (s.heap.objs.size + 1)) { s with heap := h' }) :
    wpAny (model prog w) A (call (.type "enumerate") [v]) Q E s := by
  refine callType_new F.called_enumerate (by decide) (F.typeCall_enumerate_1 _) (F.newCall_enumerate_1 _) (fun obj => F.args_object_init_2 obj _) F.entry_enumerate_new
    (meets_enumerate_new0 B) ⟨h1, ?_⟩
  have hz : (s.heap.push o).objs.size = s.heap.objs.size + 1 := Heap.size_push ..
  show _ ∧ _
  rw [hz]
  have he : IsEnum ((s.heap.push o).push { cls := .type "enumerate", data := .fields #[.none, .bool false, .ref s.heap.objs.size, rawInt 0, .none, .none] }) (s.heap.objs.size + 1) s.heap.objs.size 0 .none := by
    have := Heap.get?_push_size (s.heap.push o) (o := { cls := .type "enumerate", data := .fields #[.none, .bool false, .ref s.heap.objs.size, rawInt 0, .none, .none] }) rfl
    rw [hz] at this; exact this
  refine ⟨⟨_, he, rfl⟩, h _ he (Heap.get?_push_of_some _ (Heap.get?_push_size _ B.free)) (by rw [Heap.size_push, hz]) fun b o x => Heap.get?_push_of_some _ (Heap.get?_push_of_some _ x)⟩
end PySem
namespace L2
open PySem PySem.Spec PyProof.Rows
/-- the tuple at a, each item in a new pair -/
def IteT (K : PySem.W.Frag) (a : Addr) : It :=
  ⟨fun i H => ∃ (xs : List V) (x : V), SqT K H a xs ∧ xs[i]? = some x, fun i H v H' => ∃ T x, v = .ref T ∧ H T = none ∧ H' = upd H T (.tup [.int (i : Nat), x]) ∧ ∀ xs, SqT K H a xs → xs[i]? = some x, fun i H => ∃ xs : List V, SqT K H a xs ∧ xs.length ≤ i⟩
theorem turn_enumT {P : Program} {w : World} {K : PySem.W.Frag} {elts : List Expr} {kk : Nat} {tpos : Pos} (a e it : Addr) (hae : e ≠ a) (hai : a ≠ it) :
    Turn P w K (.Tuple elts kk tpos) (IteT K a) [e, it] e (fun i h => (∃ old, IsEnum h e it ((i : Nat) : Int) old) ∧ h.IsTupleIter it a i ∧ e ≠ it) where
  mem := by simp
  obj := fun i h st b hb => by
    obtain ⟨⟨old, he⟩, ⟨o, ho, hc, hd⟩, _⟩ := st
    have e' : b = e ∨ b = it := by simpa using hb
    rcases e' with z | z
    · rw [z]; exact ⟨_, he, fun v q => nomatch q⟩
    · rw [z]; exact ⟨o, ho, fun v q => by rw [hd] at q; cases q⟩
  keep := fun i h h' st k => let ⟨⟨old, he⟩, hi, hne⟩ := st; ⟨⟨old, k e (by simp) _ he⟩, hi.at fun o q => k it (by simp) o q, hne⟩
  item := by
    intro X hP hw hK hc i pins s σ H E I hf st hg
    subst hP hw hK
    obtain ⟨⟨old, he⟩, hit, hne⟩ := st
    obtain ⟨xs, x, hq, hx⟩ := hg
    obtain ⟨its, rv, p, hz⟩ := I.tuple hq
    obtain ⟨u, hu, ru⟩ := rv.get hx
    have hel : e < s.heap.objs.size := Heap.lt_size he
    have hil : it < s.heap.objs.size := by obtain ⟨_, q, _⟩ := hit; exact Heap.lt_size q
    have hlt : i < its.toArray.size := by
      have z := (List.getElem?_eq_some_iff.mp hu).1
      simpa using z
    refine wpAny_pyNext_enum_itemD (Draws.tuple (A := X.A.in1) (I.ok.hd hc) it a hai its.toArray) he ⟨hit, p⟩ hlt hne (by simp [hne, hae]) fun x' h' tk hP' ho hit' hT hsz hk => ?_
    have ex : x' = u := by
      have q : its.toArray[i]? = some u := by simpa using hu
      rw [q] at hP'
      exact (Option.some.inj hP').symm
    subst ex
    refine ⟨_, rfl, wpAny_letOwnedTupleGo_enum (s := { s with heap := h', toks := tk + 1 }) ho fun h'' he' sb => ?_⟩
    have hT2 : h''.get? s.heap.objs.size = some { cls := .type "tuple", data := .seq #[.int i tk, x'] } := (sb.2 _ (Nat.ne_of_gt hel)).trans hT
    have new : ObjOk X.prog X.w (upd H s.heap.objs.size (.tup [.int (i : Nat), x])) h'' s.heap.objs.size (.tup [.int (i : Nat), x]) :=
      ⟨by show 2 ≤ sizeLine; decide, [.int i tk, x'], .cons ⟨_, rfl⟩ (.cons ru .nil), ⟨_, hT2, rfl, _, rfl⟩⟩
    have I1 : Inv X pins σ (upd H s.heap.objs.size (.tup [.int (i : Nat), x])) { s with heap := h'', toks := tk + 1 } :=
      I.turnedNew (ch := [e, it]) (fun b ob hb q => (sb.2 b (fun z => hb (by simp [z]))).trans (hk b ob (fun z => hb (by simp [z])) (fun z => hb (by simp [z])) q)) hf (Nat.le_refl _) new
    refine ⟨.ref s.heap.objs.size, _, I1, rfl, ⟨_, x, rfl, I.hok.fresh (Nat.le_refl _), rfl, fun ys hy => by rw [I.tuple_inj hy hq]; exact hx⟩, ⟨⟨x', ?_⟩, hit'.1.at fun o q => (sb.2 it (Ne.symm hne)).trans q, hne⟩, fun b hb => ?_⟩
    · have e1 : ((i + 1 : Nat) : Int) = (i : Int) + 1 := by omega
      rw [e1]; exact he'
    · have hb' : b < s.heap.objs.size := by
        have e' : b = e ∨ b = it := by simpa using hb
        rcases e' with z | z
        · rw [z]; exact hel
        · rw [z]; exact hil
      rw [upd_ne (Nat.ne_of_lt hb')]
      exact (hf b hb).1
  done := by
    intro X hP hw hK hc i pins s σ H E I hf st hg
    subst hP hw hK
    obtain ⟨⟨old, he⟩, hit, hne⟩ := st
    obtain ⟨xs, hq, hx⟩ := hg
    obtain ⟨its, rv, p, hz⟩ := I.tuple hq
    obtain ⟨f0, f1, f2, f3, f4, f5⟩ := hf it (by simp)
    have hl := rv.length
    have hT : s.TypeIs (.ref e) "enumerate" := ⟨_, he, rfl⟩
    have hN : its.toArray[i]? = none := by simp; omega
    unfold pyNext
    refine wpAny_bind (wpAny_attempt (wpAny_callSpecial?_slot (name := Str.ofString "__next__") hT F.slot_enumerate_next
      (wpAny_call_entry F.slot_enumerate_next hT F.entry_enumerate_next ?_ (F.args_enumerate_next_1 _))))
    show wpAny _ _ (field (.ref e) 2 >>= _) _ _ _
    refine wpAny_bind (wpAny_field he rfl (x := .ref it) rfl ?_)
    refine wpAny_bind (wpAny_nextOf_tuple_end (I.ok.hd hc) hit p hN fun h' x he' hx' => ?_)
    obtain ⟨o, ho, hcc⟩ := hx'
    refine wpAny_bind (wpAny_isInstance (T := "StopIteration") (b := true) ⟨o, ho, hcc⟩ isSubtype_stop ?_)
    exact wpAny_pure ⟨rfl, I.turned (t' := s.toks) (fun b o hb q => he' b o hb q) f0 f1 f3 f4 f5⟩
  self := fun A i s Q E st h => let ⟨⟨_, he⟩, _⟩ := st; wpAny_pyIter_enum he h
/-- enumerate of a list or a tuple -/
def iEnumA (K : PySem.W.Frag) (ta : TA) : TI := fun σ H R => ta σ H fun vs H1 => ∃ a xs, vs = [.ref a] ∧ ((SqL K H1 a xs ∧ R (Ite K a) H1) ∨ (SqT K H1 a xs ∧ R (IteT K a) H1))
theorem pi_enumA {X : Cx} {e : Expr} {ta : TA} {p pos tpos : Pos} {elts : List Expr} {kk : Nat} (hg : Gl X "enumerate") (hm : X.mg "enumerate" = none) (ha : PA X [e] ta) (hs : starEach [e] X.env = [(false, eval e X.env)] := by rfl) :
    PI X (.Tuple elts kk tpos) (.Call (.Name "enumerate" p) [e] [] pos) (iEnumA X.K ta) := by
  refine ⟨fun pins s σ H R I h => ?_⟩
  refine Call_ (ld_blt I hg hm boot_enumerate (PyProof.Rows.callWith_type1 (thn (ha.run pos pins s σ H _ I h) fun us s1 ⟨vs, H1, I1, r1, q1⟩ => ?_) hs rfl))
  obtain ⟨a, xs, ex, q1⟩ := q1
  subst ex
  cases r1 with
  | cons r rr =>
    cases rr
    cases r
    have fp : ∀ b, b ∈ [s1.heap.objs.size + 1, s1.heap.objs.size] → s1.heap.objs.size ≤ b := fun b hb => by
      have e' : b = s1.heap.objs.size + 1 ∨ b = s1.heap.objs.size := by simpa using hb
      rcases e' with z | z
      · rw [z]; exact Nat.le_add_right _ _
      · rw [z]; exact Nat.le_refl _
    rcases q1 with ⟨hq, q⟩ | ⟨hq, q⟩
    · obtain ⟨its, rv, p', hz⟩ := I1.list hq
      refine call_enumerate_list p'.isList fun h' he hit hsz hk => wpAny_pyIter_enum he ?_
      have I2 : Inv X pins σ H1 { s1 with heap := h' } := I1.kept (t' := s1.toks) hk
      exact ⟨s1.heap.objs.size + 1, [s1.heap.objs.size + 1, s1.heap.objs.size], _, _, H1, rfl, I2, turn_enum a (s1.heap.objs.size + 1) s1.heap.objs.size, ⟨⟨.none, he⟩, hit, Nat.succ_ne_self _⟩, fun b hb => I1.fpOk (fp b hb) (I1.hok.fresh (fp b hb)), q⟩
    · obtain ⟨its, rv, p', hz⟩ := I1.tuple hq
      have hlt : a < s1.heap.objs.size := by
        obtain ⟨o, ho, _⟩ := id p'
        exact Heap.lt_size ho
      refine enum_begins0 (begins_tuple a its.toArray) p' fun h' he hit hsz hk => wpAny_pyIter_enum he ?_
      have I2 : Inv X pins σ H1 { s1 with heap := h' } := I1.kept (t' := s1.toks) hk
      exact ⟨s1.heap.objs.size + 1, [s1.heap.objs.size + 1, s1.heap.objs.size], _, _, H1, rfl, I2, turn_enumT a (s1.heap.objs.size + 1) s1.heap.objs.size (Nat.ne_of_gt (Nat.lt_succ_of_lt hlt)) (Nat.ne_of_lt hlt), ⟨⟨.none, he⟩, ⟨_, hit, rfl, rfl⟩, Nat.succ_ne_self _⟩, fun b hb => I1.fpOk (fp b hb) (I1.hok.fresh (fp b hb)), q⟩
end L2
namespace L2
open PySem PySem.Spec PyProof.Rows
theorem for_iteT {K : PySem.W.Frag} {a : Addr} {xs : List V} {g : TG} {tb : TS} {D : Ends} {σ : St} {H : Hp} (Pv : Nat → St → Hp → Prop) (h0 : Pv 0 σ H) (hl : ∀ i σ H, i ≤ xs.length → Pv i σ H → SqT K H a xs)
    (hs : ∀ i x σ H T, xs[i]? = some x → Pv i σ H → H T = none → g (.ref T) σ (upd H T (.tup [.int (i : Nat), x])) fun σ2 H2 => tb { D with nx := Pv (i + 1), ct := Pv (i + 1), bk := D.nx } σ2 H2) (hd : ∀ σ H, Pv xs.length σ H → D.nx σ H) :
    ∃ W : Nat → Nat → St → Hp → Prop, (∃ m, W 0 m σ H) ∧ ∀ i m σ H, W i m σ H →
      ((IteT K a).stop i H ∧ D.nx σ H) ∨ ((IteT K a).go i H ∧ ∃ N : St → Hp → Prop, (∀ σ' H', N σ' H' → ∃ m', m' < m ∧ W (i + 1) m' σ' H') ∧ ∀ x H', (IteT K a).yld i H x H' → g x σ H' fun σ2 H2 => tb { D with nx := N, ct := N, bk := D.nx } σ2 H2) := by
  refine ⟨fun i m σ H => m = xs.length - i ∧ i ≤ xs.length ∧ Pv i σ H, ⟨xs.length, by simp, Nat.zero_le _, h0⟩, ?_⟩
  rintro i m σ H ⟨rfl, hi, p⟩
  have q := hl i σ H hi p
  by_cases hlt : i < xs.length
  · refine .inr ⟨⟨xs, xs[i], q, by simp [hlt]⟩, Pv (i + 1), fun σ' H' p' => ⟨xs.length - (i + 1), by omega, rfl, hlt, p'⟩, fun x H' y => ?_⟩
    obtain ⟨T, z, e, nT, eH, f⟩ := y
    subst e eH
    exact hs i z σ _ T (f xs q) p nT
  · have e : i = xs.length := by omega
    subst e
    exact .inl ⟨⟨xs, q, Nat.le_refl _⟩, hd σ H p⟩
end L2

namespace L2
open PySem PySem.Spec PyProof.Rows
/-! ### sources of draws: a list of three ints, the first one from 0 on -/
def Src (H : Hp) (p : Addr) : Prop := ∃ x y z : Int, 0 ≤ x ∧ H p = some (.lst [.int x, .int y, .int z])
theorem Src.put {H : Hp} {p : Addr} {x y z : Int} (h : 0 ≤ x) : Src (upd H p (.lst [.int x, .int y, .int z])) p := ⟨x, y, z, h, upd_same⟩
theorem Src.ne {H : Hp} {p q : Addr} (h : Src H p) (n : H q = none) : q ≠ p := fun e => by
  obtain ⟨x, y, z, _, hp⟩ := h
  rw [← e, n] at hp
  cases hp
theorem Src.at {H H' : Hp} {p : Addr} (h : Src H p) (e : H' p = H p) : Src H' p := by
  obtain ⟨x, y, z, x0, hp⟩ := h
  exact ⟨x, y, z, x0, e.trans hp⟩
theorem Src.upd {H : Hp} {p q : Addr} {o : HO} (h : Src H p) (n : q ≠ p) : Src (L2.upd H q o) p := h.at (upd_ne (Ne.symm n))
theorem Src.new {H : Hp} {p q : Addr} {o : HO} (h : Src H p) (n : H q = none) : Src (L2.upd H q o) p := h.upd (h.ne n)
theorem Src.same {H H' : Hp} {p : Addr} (h : Src H p) (e : Same H H') : Src H' p := by
  obtain ⟨x, y, z, x0, hp⟩ := h
  exact ⟨x, y, z, x0, e _ _ hp⟩
/-- what a draw leaves: all but the source stands, the source is one -/
def Dn (p : Addr) (H H' : Hp) : Prop := SB p H H' ∧ Src H' p
theorem Dn.put {p : Addr} {H : Hp} {x y z : Int} (h : 0 ≤ x) : Dn p H (L2.upd H p (.lst [.int x, .int y, .int z])) := ⟨SB.put, .put h⟩
theorem Dn.trans {p : Addr} {H H1 H2 : Hp} (a : Dn p H H1) (b : Dn p H1 H2) : Dn p H H2 := ⟨a.1.trans b.1, b.2⟩
theorem Dn.new {p q : Addr} {H H' : Hp} {o : HO} (a : Dn p H H') (n : H' q = none) : Dn p H (L2.upd H' q o) := ⟨a.1.trans (SB.new n), a.2.new n⟩
theorem Dn.same {p : Addr} {H H' H2 : Hp} (a : Dn p H H') (e : Same H' H2) : Dn p H H2 := ⟨a.1.trans (SB.of e), a.2.same e⟩
theorem Dn.refl {p : Addr} {H : Hp} (h : Src H p) : Dn p H H := ⟨SB.refl p H, h⟩
/-- an address that is new behind a draw was new before -/
theorem Dn.free {p q : Addr} {H H' : Hp} (a : Dn p H H') (n : H' q = none) : H q = none := a.1.free (a.2.ne n) n
theorem map_snoc (ms : List Int) (v : Int) : ms.map V.int ++ [V.int v] = (ms ++ [v]).map V.int := by simp
theorem rep_flat (b : Int) : ∀ n : Nat, (List.replicate n [V.int b]).flatten = (List.replicate n b).map V.int
  | 0 => rfl
  | n + 1 => by
    rw [List.replicate_succ, List.replicate_succ, List.flatten_cons, rep_flat b n]
    rfl
theorem lt64 {c : Int} {x : Int} (h0 : 0 ≤ x) (h1 : x < c) (hc : c ≤ 2 ^ 63) : -(2 ^ 64) < x ∧ x < 2 ^ 64 := by omega
theorem mb (x : Int) {c : Int} (h : 0 < c) : 0 ≤ x % c ∧ x % c < c := ⟨Int.emod_nonneg _ (by omega), Int.emod_lt_of_pos _ h⟩
theorem mbw (x : Int) {c : Int} (h : 0 < c) (hc : c ≤ 2 ^ 63) : -(2 ^ 64) < x % c ∧ x % c < 2 ^ 64 := lt64 (mb x h).1 (mb x h).2 hc
/-- a comprehension over range(n) each of whose items is an int, reckoned by draws -/
theorem lc_ints {te : TE} {σ : L2.St} {H1 : Hp} {D p : Addr} {n j : Nat} {vs : List Nat} {Qd : Hp → Prop} (hn : n ≤ 1000000) (hs : Src H1 p) (hD : H1 D = none)
    (hw : ∀ v, wipe ((wipe σ vs).set j v) vs = wipe σ vs)
    (he : ∀ (k : Nat) (H3 : Hp) (R : VK), k < n → Dn p H1 H3 → (∀ (v : Int) (H4 : Hp), Dn p H3 H4 → R (.int v) H4) → te ((wipe σ vs).set j (some (.int (0 + (k : Nat))))) H3 R)
    (hd : ∀ (ms : List Int) (H' : Hp), ms.length = n → Dn p H1 H' → H' D = some (.lst (ms.map V.int)) → Qd H') :
    ∃ W : Nat → Nat → Hp → Prop, (∃ m, W 0 m (L2.upd H1 D (.lst []))) ∧ ∀ i m H, W i m H →
      ((Itr 0 n).stop i H ∧ Qd H) ∨ ((Itr 0 n).go i H ∧ ∃ Nx : Hp → Prop, (∀ H', Nx H' → ∃ m', m' < m ∧ W (i + 1) m' H') ∧ ∀ x H', (Itr 0 n).yld i H x H' → gName j x (wipe σ vs) H' fun σ2 H2 => wipe σ2 vs = wipe σ vs ∧ tYes σ2 H2 fun b H3 =>
        if b = true then te σ2 H3 fun y H4 => ∃ acc, H4 D = some (.lst acc) ∧ acc.length < sizeLine ∧ Nx (L2.upd H4 D (.lst (acc ++ [y]))) else Nx H3) := by
  have nD : D ≠ p := hs.ne hD
  refine lc_range (lo := 0) (n := n) (fun i H => ∃ ms : List Int, ms.length = i ∧ Dn p H1 H ∧ H D = some (.lst (ms.map V.int))) ⟨[], rfl, (Dn.refl hs).new hD, upd_same⟩ ?_ ?_
  · rintro i H hi ⟨ms, hl, dr, hh⟩
    refine ⟨hw _, ?_⟩
    refine he i H _ hi dr fun v H4 d4 => ?_
    have h4 := d4.1 _ _ nD hh
    refine ⟨_, h4, ?_, ms ++ [v], by simp [hl], ?_, ?_⟩
    · rw [List.length_map, hl]
      exact Nat.lt_of_le_of_lt (Nat.le_trans (Nat.le_of_lt hi) hn) (by decide)
    · have dd := dr.trans d4
      refine ⟨fun b o nb e => ?_, dd.2.upd nD⟩
      rw [upd_ne (ne_of_none e hD)]
      exact dd.1 b o nb e
    · rw [map_snoc]
      exact upd_same
  · rintro H ⟨ms, hl, dr, hh⟩
    exact hd ms H hl dr hh
end L2
namespace L2
open PySem PySem.Spec PyProof.Rows
theorem canLay_ints : ∀ ns : List Int, PyData.canLayAll0 (ns.map PyData.int) = true
  | [] => rfl
  | n :: r => by
    show (PyData.canLay0 (.int n) && PyData.canLayAll0 (r.map PyData.int)) = true
    rw [canLay_ints r]
    rfl
theorem depth_ints : ∀ ns : List Int, PyData.depthAll (ns.map PyData.int) = 0
  | [] => rfl
  | n :: r => by
    show max (PyData.depth (.int n)) (PyData.depthAll (r.map PyData.int)) = 0
    rw [depth_ints r]
    rfl
theorem shaped_ints (ns : List Int) : SeqAt.shaped (.list (ns.map PyData.int)) = true := by
  unfold SeqAt.shaped
  rw [Bool.and_eq_true]
  refine ⟨canLay_ints ns, decide_eq_true ?_⟩
  show PyData.depthAll (ns.map PyData.int) + 1 ≤ 64
  rw [depth_ints]
  decide
theorem eqv_ints (ns : List Int) : PyData.eqv (.list (ns.map PyData.int)) (.list (ns.map PyData.int)) = true := SeqAt.eqv_refl _ (SeqAt.canLay_of_shaped (shaped_ints ns))
theorem dpAll_ints {K : PySem.W.Frag} {H : Hp} : ∀ ns : List Int, DpAll K H (ns.map V.int) (ns.map PyData.int)
  | [] => .nil
  | n :: r => .cons (.int n) (dpAll_ints r)
theorem dp_ints {K : PySem.W.Frag} {H : Hp} {p : Addr} {ns : List Int} (h : SqL K H p (ns.map V.int)) : Dp K H (.ref p) (.list (ns.map PyData.int)) := .lst h (dpAll_ints ns)
theorem cut_mem {xs : List V} {lo hi : Option Int} {x : V} (h : x ∈ cutV xs lo hi) : x ∈ xs := List.mem_of_mem_drop (List.mem_of_mem_take h)
end L2

namespace L2
open PySem PySem.Spec PyProof.Rows
/-! ### stable orders: the items of 0 .. n - 1, by a number each, then by themselves -/
def Lx (f : Nat → Int) (i j : Nat) : Prop := f i < f j ∨ (f i = f j ∧ i < j)
theorem Lx.irr {f : Nat → Int} {i : Nat} : ¬ Lx f i i := fun h => by unfold Lx at h; omega
theorem Lx.asymm {f : Nat → Int} {i j : Nat} (h : Lx f i j) : ¬ Lx f j i := fun h' => by unfold Lx at h h'; omega
theorem Lx.trans {f : Nat → Int} {i j k : Nat} (h : Lx f i j) (h' : Lx f j k) : Lx f i k := by unfold Lx at *; omega
theorem Lx.tri (f : Nat → Int) (i j : Nat) : Lx f i j ∨ i = j ∨ Lx f j i := by unfold Lx; omega
structure Stab (f : Nat → Int) (n : Nat) (os : List Nat) : Prop where
  perm : os.Perm (List.range n)
  sort : os.Pairwise (Lx f)
/-- two rows of the same items that are sorted strictly are one -/
theorem sorted_uniq {α : Type} {R : α → α → Prop} (as : ∀ a b, R a b → ¬ R b a) : ∀ {xs ys : List α}, xs.Perm ys → xs.Pairwise R → ys.Pairwise R → xs = ys
  | [], ys, p, _, _ => (List.Perm.nil_eq p)
  | x :: xs, [], p, _, _ => absurd p.length_eq (by simp)
  | x :: xs, y :: ys, p, hx, hy => by
    have e : x = y := by
      have m1 : x ∈ y :: ys := p.mem_iff.mp (List.mem_cons_self ..)
      have m2 : y ∈ x :: xs := p.mem_iff.mpr (List.mem_cons_self ..)
      rcases List.mem_cons.mp m1 with e | m1
      · exact e
      · rcases List.mem_cons.mp m2 with e | m2
        · exact e.symm
        · exact absurd ((List.pairwise_cons.mp hx).1 y m2) (as _ _ ((List.pairwise_cons.mp hy).1 x m1))
    subst e
    rw [sorted_uniq as p.cons_inv (List.pairwise_cons.mp hx).2 (List.pairwise_cons.mp hy).2]
theorem Stab.uniq {f : Nat → Int} {n : Nat} {as bs : List Nat} (a : Stab f n as) (b : Stab f n bs) : as = bs := sorted_uniq (fun _ _ => Lx.asymm) (a.perm.trans b.perm.symm) a.sort b.sort
theorem Stab.len {f : Nat → Int} {n : Nat} {os : List Nat} (a : Stab f n os) : os.length = n := by
  rw [a.perm.length_eq, List.length_range]
theorem Stab.nodup {f : Nat → Int} {n : Nat} {os : List Nat} (a : Stab f n os) : os.Nodup := a.perm.nodup_iff.mpr List.nodup_range
theorem Stab.lt {f : Nat → Int} {n : Nat} {os : List Nat} (a : Stab f n os) {i : Nat} (h : i ∈ os) : i < n := List.mem_range.mp (a.perm.mem_iff.mp h)
/-- the order hangs on how the numbers stand to one another alone -/
theorem Stab.like {f g : Nat → Int} {n : Nat} {os : List Nat} (a : Stab f n os) (h : ∀ i j, i < n → j < n → (f i < f j ↔ g i < g j)) : Stab g n os := by
  refine ⟨a.perm, ?_⟩
  refine List.Pairwise.imp_of_mem ?_ a.sort
  intro i j hi hj l
  have h1 := h i j (a.lt hi) (a.lt hj)
  have h2 := h j i (a.lt hj) (a.lt hi)
  unfold Lx at *
  omega
/-- what an item counts: its key, with reverse its negative -/
def keyf (ks : List Int) (rev : Bool) (i : Nat) : Int := if rev then -(ks.getD i 0) else ks.getD i 0
/-- the row of items as values -/
abbrev nV (os : List Nat) : List V := os.map fun (i : Nat) => V.int (i : Int)
/-- pairs of the keys' numbers and the items, sorted, give the order -/
theorem stab_of_pairs {f : Nat → Int} {n : Nat} {ps : List (Int × Int)} (p : ps.Perm ((List.range n).map fun (i : Nat) => (f i, (i : Int)))) (s : ps.Pairwise fun x y => ¬ (y.1 < x.1 ∨ (y.1 = x.1 ∧ y.2 < x.2))) :
    ∃ os, Stab f n os ∧ ps = os.map fun (i : Nat) => (f i, (i : Int)) := by
  have hm : ∀ q ∈ ps, q = (f q.2.toNat, (q.2.toNat : Int)) := fun q hq => by
    obtain ⟨i, _, e⟩ := List.mem_map.mp (p.mem_iff.mp hq)
    subst e
    simp
  have e1 : ps = (ps.map fun q => q.2.toNat).map fun (i : Nat) => (f i, (i : Int)) := by
    rw [List.map_map]
    calc ps = ps.map id := (List.map_id ps).symm
      _ = _ := List.map_congr_left fun q hq => hm q hq
  have pm : (ps.map fun q => q.2.toNat).Perm (List.range n) := by
    have q := p.map fun q => q.2.toNat
    rw [List.map_map] at q
    have e : (List.range n).map ((fun q : Int × Int => q.2.toNat) ∘ fun (i : Nat) => (f i, (i : Int))) = List.range n := by
      calc _ = (List.range n).map id := List.map_congr_left fun i _ => by simp
        _ = _ := List.map_id _
    rw [e] at q
    exact q
  refine ⟨ps.map fun q => q.2.toNat, ⟨pm, ?_⟩, e1⟩
  have nd : (ps.map fun q => q.2.toNat).Nodup := pm.nodup_iff.mpr List.nodup_range
  have s2 : (ps.map fun q => q.2.toNat).Pairwise fun i j => ¬ (f j < f i ∨ (f j = f i ∧ j < i)) := by
    rw [e1, List.pairwise_map] at s
    refine s.imp ?_
    intro i j h
    omega
  exact (List.pairwise_and_iff.mpr ⟨s2, nd⟩).imp fun {i j} h => by
    obtain ⟨h1, h2⟩ := h
    unfold Lx
    omega
end L2
namespace L2
open PySem PySem.Spec PyProof.Rows
theorem pe_callN0 {X : Cx} {CX : CXT} {k : Nat} {f : Addr} {fd : FuncData} {ps ks : List Str} {sp : Sp} {E : XK} {x : Str} {p pos : Pos} {kws : List Keyword} {tk : TA} {g : List Value → List Value → List Value} {gV : List V → List V → List V}
    (F : FnOk X.prog X.w X.K X.mg X.base CX k f fd ps sp) (hr : Room k X.A) (hg : Gl X x) (hm : X.mg x = some (.ref f)) (hk : PySem.W.keepIn X.K (.ref f) = true) (hb : KBn X.K fd ps 0 ks g gV) (hx : Passes CX X E)
    (hkw : PK X kws tk) (hall : (backToKw pos (keywordEach kws X.env)).all (·.1.isSome) = true := by rfl) (hks : (backToKw pos (keywordEach kws X.env)).filterMap (·.1) = ks := by rfl)
    (hdb : (x == ("__debug__" : Str)) = false := by decide)
    (hpl : ((backTo pos (starEach [] X.env)).any (·.1) || (backToKw pos (keywordEach kws X.env)).any (·.1.isNone)) = false := by rfl) :
    PE X (.Call (.Name x p) [] kws pos) (fun σ H Q => tk σ H fun zs H2 => zs.length = ks.length ∧ sp (gV [] zs) H2 Q E) := by
  refine ⟨fun pins s σ H Q I h => ?_⟩
  refine wpAny_Call_Name_kw (ld_glob I hg hm ?_ hdb)
  refine PySem.W.callWith_KW0 (h₀ := X.base) I.ok.mod.kin hk hall ?_ hpl
  refine thn (hkw.run pos pins s σ H _ I h) fun ws s2 ⟨zs, H2, I2, rz, l2, q2⟩ => ⟨I2.kIn, ?_⟩
  rw [hks]
  exact run_fnN F hr hb hx I2 .nil rz rfl l2 q2
theorem lc_iteL {K : PySem.W.Frag} {a : Addr} {xs : List V} {g : TG} {tt : TT} {te : TE} {vs : List Nat} {σ : L2.St} {H1 : Hp} {D : Addr} {Qd : Hp → Prop} (Pv : Nat → Hp → Prop) (h0 : Pv 0 (upd H1 D (.lst []))) (hl : ∀ i H, i ≤ xs.length → Pv i H → SqL K H a xs)
    (hs : ∀ i x H T, xs[i]? = some x → Pv i H → H T = none → g (.ref T) (wipe σ vs) (upd H T (.tup [.int (i : Nat), x])) fun σ2 H2 => wipe σ2 vs = wipe σ vs ∧ tt σ2 H2 fun b H3 =>
      if b = true then te σ2 H3 fun y H4 => ∃ acc, H4 D = some (.lst acc) ∧ acc.length < sizeLine ∧ Pv (i + 1) (upd H4 D (.lst (acc ++ [y]))) else Pv (i + 1) H3) (hd : ∀ H, Pv xs.length H → Qd H) :
    ∃ W : Nat → Nat → Hp → Prop, (∃ m, W 0 m (upd H1 D (.lst []))) ∧ ∀ i m H, W i m H →
      ((Ite K a).stop i H ∧ Qd H) ∨ ((Ite K a).go i H ∧ ∃ Nx : Hp → Prop, (∀ H', Nx H' → ∃ m', m' < m ∧ W (i + 1) m' H') ∧ ∀ x H', (Ite K a).yld i H x H' → g x (wipe σ vs) H' fun σ2 H2 => wipe σ2 vs = wipe σ vs ∧ tt σ2 H2 fun b H3 =>
        if b = true then te σ2 H3 fun y H4 => ∃ acc, H4 D = some (.lst acc) ∧ acc.length < sizeLine ∧ Nx (upd H4 D (.lst (acc ++ [y]))) else Nx H3) := by
  refine ⟨fun i m H => m = xs.length - i ∧ i ≤ xs.length ∧ Pv i H, ⟨xs.length, by simp, Nat.zero_le _, h0⟩, ?_⟩
  rintro i m H ⟨rfl, hi, p⟩
  have q := hl i H hi p
  by_cases hlt : i < xs.length
  · refine .inr ⟨⟨xs, xs[i], q, by simp [hlt]⟩, Pv (i + 1), fun H' p' => ⟨xs.length - (i + 1), by omega, rfl, hlt, p'⟩, fun x H' y => ?_⟩
    obtain ⟨T, z, e, nT, eH, f⟩ := y
    subst e eH
    exact hs i z _ T (f xs q) p nT
  · have e : i = xs.length := by omega
    subst e
    exact .inl ⟨⟨xs, q, Nat.le_refl _⟩, hd H p⟩
theorem lc_iteT {K : PySem.W.Frag} {a : Addr} {xs : List V} {g : TG} {tt : TT} {te : TE} {vs : List Nat} {σ : L2.St} {H1 : Hp} {D : Addr} {Qd : Hp → Prop} (Pv : Nat → Hp → Prop) (h0 : Pv 0 (upd H1 D (.lst []))) (hl : ∀ i H, i ≤ xs.length → Pv i H → SqT K H a xs)
    (hs : ∀ i x H T, xs[i]? = some x → Pv i H → H T = none → g (.ref T) (wipe σ vs) (upd H T (.tup [.int (i : Nat), x])) fun σ2 H2 => wipe σ2 vs = wipe σ vs ∧ tt σ2 H2 fun b H3 =>
      if b = true then te σ2 H3 fun y H4 => ∃ acc, H4 D = some (.lst acc) ∧ acc.length < sizeLine ∧ Pv (i + 1) (upd H4 D (.lst (acc ++ [y]))) else Pv (i + 1) H3) (hd : ∀ H, Pv xs.length H → Qd H) :
    ∃ W : Nat → Nat → Hp → Prop, (∃ m, W 0 m (upd H1 D (.lst []))) ∧ ∀ i m H, W i m H →
      ((IteT K a).stop i H ∧ Qd H) ∨ ((IteT K a).go i H ∧ ∃ Nx : Hp → Prop, (∀ H', Nx H' → ∃ m', m' < m ∧ W (i + 1) m' H') ∧ ∀ x H', (IteT K a).yld i H x H' → g x (wipe σ vs) H' fun σ2 H2 => wipe σ2 vs = wipe σ vs ∧ tt σ2 H2 fun b H3 =>
        if b = true then te σ2 H3 fun y H4 => ∃ acc, H4 D = some (.lst acc) ∧ acc.length < sizeLine ∧ Nx (upd H4 D (.lst (acc ++ [y]))) else Nx H3) := by
  refine ⟨fun i m H => m = xs.length - i ∧ i ≤ xs.length ∧ Pv i H, ⟨xs.length, by simp, Nat.zero_le _, h0⟩, ?_⟩
  rintro i m H ⟨rfl, hi, p⟩
  have q := hl i H hi p
  by_cases hlt : i < xs.length
  · refine .inr ⟨⟨xs, xs[i], q, by simp [hlt]⟩, Pv (i + 1), fun H' p' => ⟨xs.length - (i + 1), by omega, rfl, hlt, p'⟩, fun x H' y => ?_⟩
    obtain ⟨T, z, e, nT, eH, f⟩ := y
    subst e eH
    exact hs i z _ T (f xs q) p nT
  · have e : i = xs.length := by omega
    subst e
    exact .inl ⟨⟨xs, q, Nat.le_refl _⟩, hd H p⟩
/-- rows of ints compared -/
theorem eqvAll_ints : ∀ xs ys : List Int, PyData.eqvAll (xs.map PyData.int) (ys.map PyData.int) = decide (xs = ys)
  | [], [] => rfl
  | [], _ :: _ => rfl
  | _ :: _, [] => rfl
  | x :: xs, y :: ys => by
    show (PyData.eqv (.int x) (.int y) && PyData.eqvAll (xs.map PyData.int) (ys.map PyData.int)) = _
    rw [eqvAll_ints xs ys]
    show (x == y && decide (xs = ys)) = _
    by_cases h1 : x = y
    · subst h1
      by_cases h2 : xs = ys
      · subst h2
        simp
      · simp [h2]
    · simp [h1]
theorem eqv_lists (xs ys : List Int) : PyData.eqv (.list (xs.map PyData.int)) (.list (ys.map PyData.int)) = decide (xs = ys) := eqvAll_ints xs ys
theorem nV_map (os : List Nat) : nV os = (os.map fun (i : Nat) => (i : Int)).map V.int := by
  unfold nV
  rw [List.map_map]
  rfl
theorem cast_inj {xs ys : List Nat} : (xs.map fun (i : Nat) => (i : Int)) = (ys.map fun (i : Nat) => (i : Int)) ↔ xs = ys := by
  constructor
  · intro h
    have h2 := congrArg (List.map Int.toNat) h
    rw [List.map_map, List.map_map] at h2
    have e : ∀ l : List Nat, l.map (Int.toNat ∘ fun (i : Nat) => (i : Int)) = l := fun l => by
      calc _ = l.map id := List.map_congr_left fun i _ => by simp
        _ = l := List.map_id l
    rw [e, e] at h2
    exact h2
  · intro h
    rw [h]
end L2
namespace L2
open PySem PySem.Spec PyProof.Rows
theorem cut_take (xs : List V) (k : Nat) : cutV xs none (some (k : Int)) = xs.take k := by
  unfold cutV
  rw [HT.sIx_none, HT.sIx_nat, List.drop_zero, Nat.sub_zero]
  by_cases h : k ≤ xs.length
  · rw [Nat.min_eq_left h]
  · rw [Nat.min_eq_right (by omega), List.take_of_length_le (Nat.le_refl _), List.take_of_length_le (by omega)]
theorem cut_drop (xs : List V) (k : Nat) : cutV xs (some (k : Int)) none = xs.drop k := by
  unfold cutV
  rw [HT.sIx_none, HT.sIx_nat]
  by_cases h : k ≤ xs.length
  · rw [Nat.min_eq_left h]
    exact List.take_of_length_le (by rw [List.length_drop]; exact Nat.le_refl _)
  · rw [Nat.min_eq_right (by omega), List.drop_of_length_le (Nat.le_refl _), List.drop_of_length_le (by omega), List.take_nil]
/-- an item is put in where all ahead are ahead of it and all behind behind it -/
theorem put_stab {f : Nat → Int} {i pl : Nat} {os : List Nat} (s : Stab f i os) (h1 : ∀ x ∈ os.take pl, Lx f x i) (h2 : ∀ x ∈ os.drop pl, Lx f i x) : Stab f (i + 1) (os.take pl ++ [i] ++ os.drop pl) := by
  have e : os.take pl ++ os.drop pl = os := List.take_append_drop pl os
  constructor
  · have p1 : (os.take pl ++ [i] ++ os.drop pl).Perm ((os.take pl ++ os.drop pl) ++ [i]) := by
      rw [List.append_assoc, List.append_assoc]
      exact List.Perm.append_left _ List.perm_append_comm
    rw [e] at p1
    refine p1.trans ?_
    rw [List.range_succ]
    exact s.perm.append_right [i]
  · have so := s.sort
    rw [← e, List.pairwise_append] at so
    rw [List.append_assoc, List.pairwise_append]
    refine ⟨so.1, List.pairwise_cons.mpr ⟨h2, so.2.1⟩, fun x hx y hy => ?_⟩
    rcases List.mem_cons.mp hy with rfl | hy
    · exact h1 x hx
    · exact so.2.2 x hx y hy
end L2

namespace L2
open PySem PySem.Spec PyProof.Rows
/-! ### o[lo:hi] = another list -/
def gSlice (to : TE) (tl th : TO) : TG := fun v σ H Q => to σ H fun o H1 => tl σ H1 fun lo H2 => th σ H2 fun hi H3 =>
  ∃ (l b : Addr) (xs ys : List V) (a c : Int), o = .ref l ∧ v = .ref b ∧ lo = some a ∧ hi = some c ∧ H3 l = some (.lst xs) ∧ H3 b = some (.lst ys) ∧ l ≠ b ∧ 0 ≤ a ∧ a ≤ c ∧ c ≤ xs.length ∧ xs.length + ys.length ≤ sizeLine ∧
    Q σ (upd H3 l (.lst (xs.take a.toNat ++ ys ++ xs.drop c.toNat)))
theorem part_int {u : Value} {i : Int} (h : IsPart u (some i)) : RelV (.int i) u := by
  cases h
  exact ⟨_, rfl⟩
theorem pg_slice {X : Cx} {o : Expr} {lo hi : Option Expr} {to : TE} {tl th : TO} {p2 pos : Pos} (ho : PE X o to) (hl : PO X lo tl) (hu : PO X hi th)
    (ha : ∀ v, assign (.Subscript o (.Slice lo hi none p2) pos) X.env v = (do
      let ov ← holding [v] (eval o X.env)
      let iv ← holding [v, ov] (eval (.Slice lo hi none p2) X.env)
      standAt pos
      holding [v, ov, iv] (setItem ov iv v)
      release [iv, v, ov] []) := by intro _; rfl) : PG X (.Subscript o (.Slice lo hi none p2) pos) (gSlice to tl th) := by
  refine ⟨fun pins s σ H v u Q I r h => ?_⟩
  rw [ha]
  refine wpAny_bind (wpAny_holding (thn (ho.run pins s σ H _ I h) fun ov s1 ⟨x, H1, I1, r1, q1⟩ => ?_))
  refine wpAny_bind (wpAny_holding (wpAny_Slice (thn (hl.run pins s1 σ H1 _ I1 q1) fun vl s2 ⟨l, H2, I2, pl, q2⟩ => thn (hu.run pins s2 σ H2 _ I2 q2) fun vu s3 ⟨w', H3, I3, pu, q3⟩ => ?_)))
  rw [evalPart_none]
  refine wpAny_pure ?_
  have I4 : Inv X pins σ H3 { s3 with heap := s3.heap.push { cls := .type "slice", data := .fields #[vl, vu, .none] } } := I3.kept (t' := s3.toks) fun b ob q => Heap.get?_push_of_some _ q
  obtain ⟨li, b, xs, ys, a, c, rfl, rfl, rfl, rfl, hX, hB, ne, h0, hac, hc, hz, q⟩ := q3
  cases r1
  cases r
  refine wpAny_bind (wpAny_standAt (wpAny_bind (wpAny_holding ?_)))
  refine set_slice I4 hX hB ne (Heap.IsSliceOf.new ..) (part_int pl) (part_int pu) h0 hac hc hz fun s5 I5 => ?_
  exact wpAny_release ⟨σ, _, I5, q⟩
end L2
namespace L2
open PySem PySem.Spec PyProof.Rows
/-! ### how a run is found: the state, step by step -/
structure RF where
  row : List Nat
  pl : Nat
  eq : Nat
  st : Nat
  wt : Option (Nat × Nat)
  ln : Option Nat
namespace RF
def turned (row : List Nat) (lo hi : Nat) : List Nat := row.take lo ++ ((row.drop lo).take (hi - lo)).reverse ++ row.drop hi
def turn (f : RF) (lo : Nat) : RF := { f with row := turned f.row lo f.pl }
def finish (s : Nat) (f : RF) : RF := { f with ln := some (f.pl - s), wt := none }
def turnEq (f : RF) : RF := if 0 < f.eq then { f.turn (f.pl - f.eq - 1) with eq := 0 } else f
def askUp (s e : Nat) (f : RF) : RF := if f.pl < e then { f with wt := some (f.row.getD f.pl 0, f.row.getD (f.pl - 1) 0) } else finish s f
def rise (s e : Nat) (f : RF) : RF := askUp s e { (turnEq f).turn s with st := 5 }
def ask (s e : Nat) (f : RF) : RF := if f.pl < e then { f with wt := some (f.row.getD f.pl 0, f.row.getD (f.pl - 1) 0) } else if f.st = 3 then rise s e f else finish s f
def goOn (s e : Nat) (f : RF) : RF := ask s e { f with pl := f.pl + 1 }
def fall (s e : Nat) (f : RF) : RF := goOn s e { f with st := 3 }
def take1 (s e : Nat) (b : Bool) (f : RF) : RF := if b = false then goOn s e f else if f.pl = s + 1 then fall s e f else { f with st := 2, wt := some (f.row.getD s 0, f.row.getD (f.pl - 1) 0) }
def take2 (s e : Nat) (b : Bool) (f : RF) : RF := if b = true then finish s f else fall s e (f.turn s)
def take3 (s e : Nat) (b : Bool) (f : RF) : RF := if b = true then goOn s e (turnEq f) else { f with st := 4, wt := some (f.row.getD (f.pl - 1) 0, f.row.getD f.pl 0) }
def take4 (s e : Nat) (b : Bool) (f : RF) : RF := if b = true then rise s e f else goOn s e { f with eq := f.eq + 1, st := 3 }
def take5 (s e : Nat) (b : Bool) (f : RF) : RF := if b = true then finish s f else goOn s e f
def take (s e : Nat) (b : Bool) (f : RF) : RF := if f.st = 1 then take1 s e b f else if f.st = 2 then take2 s e b f else if f.st = 3 then take3 s e b f else if f.st = 4 then take4 s e b f else take5 s e b f
def init (row : List Nat) (s e : Nat) : RF := ask s e { row := row, pl := s + 1, eq := 0, st := 1, wt := none, ln := none }
/-- what holds between the steps -/
structure WF (s e : Nat) (f : RF) : Prop where
  sp : s < f.pl
  pe : f.pl ≤ e
  er : e ≤ f.row.length
  eq : f.eq + s < f.pl
  rl : f.row.length ≤ 2000
theorem turned_len {row : List Nat} {lo hi : Nat} (h : lo ≤ hi) (h2 : hi ≤ row.length) : (turned row lo hi).length = row.length := by
  unfold turned
  rw [List.length_append, List.length_append, List.length_take, List.length_reverse, List.length_take, List.length_drop, List.length_drop]
  omega
variable {s e : Nat} {f : RF}
theorem WF.turn (w : WF s e f) {lo : Nat} (h : lo ≤ f.pl) : WF s e (f.turn lo) := by
  obtain ⟨a, b, c, d, g⟩ := w
  have l : (f.turn lo).row.length = f.row.length := turned_len h (by omega)
  exact ⟨a, b, by rw [l]; exact c, d, by rw [l]; exact g⟩
theorem WF.turnEq (w : WF s e f) : WF s e f.turnEq := by
  unfold RF.turnEq
  split
  · have w2 := w.turn (lo := f.pl - f.eq - 1) (by omega)
    exact ⟨w2.sp, w2.pe, w2.er, by show 0 + s < f.pl; have := w.sp; omega, w2.rl⟩
  · exact w
theorem turnEq_pl (f : RF) : f.turnEq.pl = f.pl := by
  unfold RF.turnEq
  split <;> rfl
theorem turnEq_st (f : RF) : f.turnEq.st = f.st := by
  unfold RF.turnEq
  split <;> rfl
end RF
def lenV : Option Nat → V
  | none => .non
  | some n => .int (n : Int)
def flds (r : Addr) (s e : Nat) (f : RF) (wv : V) : List (Str × V) :=
  [("row", .ref r), ("start", .int (s : Int)), ("end", .int (e : Int)), ("place", .int (f.pl : Int)), ("equal", .int (f.eq : Int)), ("step", .int (f.st : Int)), ("waiting", wv), ("length", lenV f.ln)]
def WaitAt (H : Hp) (wv : V) : Option (Nat × Nat) → Prop
  | none => wv = .non
  | some (i, j) => ∃ t, wv = .ref t ∧ H t = some (.tup [.int (i : Int), .int (j : Int)])
theorem WaitAt.keep {H H' : Hp} {wv : V} {o : Option (Nat × Nat)} (h : WaitAt H wv o) (k : ∀ t i j, H t = some (.tup [.int i, .int j]) → H' t = some (.tup [.int i, .int j])) : WaitAt H' wv o := by
  cases o with
  | none => exact h
  | some p =>
    obtain ⟨t, e, ht⟩ := h
    exact ⟨t, e, k _ _ _ ht⟩
theorem WaitAt.upd {H : Hp} {wv : V} {o : Option (Nat × Nat)} {x : Addr} {u v : HO} (h : WaitAt H wv o) (hx : H x = some u) (hn : ∀ i j, u ≠ .tup [.int i, .int j]) : WaitAt (L2.upd H x v) wv o :=
  h.keep fun t i j ht => by
    rw [upd_ne (ne_of ht hx (fun e => hn i j e.symm))]
    exact ht
/-- the finder at x, its row at r -/
def FAt (C : Addr) (H : Hp) (x r : Addr) (s e : Nat) (f : RF) : Prop := x ≠ r ∧ ∃ dx wv, H x = some (.ins C dx (flds r s e f wv)) ∧ WaitAt H wv f.wt ∧ H r = some (.lst (nV f.row))
/-- all but x and r stands -/
def Fr2 (x r : Addr) (H H' : Hp) : Prop := ∀ b o, b ≠ x → b ≠ r → H b = some o → H' b = some o
theorem Fr2.refl (x r : Addr) (H : Hp) : Fr2 x r H H := fun _ _ _ _ h => h
theorem Fr2.trans {x r : Addr} {H H1 H2 : Hp} (a : Fr2 x r H H1) (b : Fr2 x r H1 H2) : Fr2 x r H H2 := fun c o n m h => b c o n m (a c o n m h)
theorem Fr2.of {x r : Addr} {H H' : Hp} (a : Same H H') : Fr2 x r H H' := fun c o _ _ h => a c o h
theorem Fr2.putx {x r : Addr} {H : Hp} {u : HO} : Fr2 x r H (L2.upd H x u) := fun c o n _ h => by rw [upd_ne n]; exact h
theorem Fr2.putr {x r : Addr} {H : Hp} {u : HO} : Fr2 x r H (L2.upd H r u) := fun c o _ m h => by rw [upd_ne m]; exact h
theorem FAt.same {C : Addr} {H H' : Hp} {x r : Addr} {s e : Nat} {f : RF} (h : FAt C H x r s e f) (k : Same H H') : FAt C H' x r s e f := by
  obtain ⟨n, dx, wv, hx, hw, hr⟩ := h
  exact ⟨n, dx, wv, k _ _ hx, hw.keep (fun _ _ _ => k _ _), k _ _ hr⟩
end L2

namespace L2
open PySem PySem.Spec PyProof.Rows
theorem cut_mid (xs : List V) (a b : Nat) (h : a ≤ b) (hb : b ≤ xs.length) : cutV xs (some (a : Int)) (some (b : Int)) = (xs.drop a).take (b - a) := by
  unfold cutV
  rw [HT.sIx_nat, HT.sIx_nat, Nat.min_eq_left hb, Nat.min_eq_left (Nat.le_trans h hb)]
theorem nV_turned (row : List Nat) (lo hi : Nat) : (nV row).take lo ++ (((nV row).drop lo).take (hi - lo)).reverse ++ (nV row).drop hi = nV (RF.turned row lo hi) := by
  unfold RF.turned
  simp only [List.map_append, List.map_take, List.map_drop, List.map_reverse]
theorem nV_get {row : List Nat} {i : Nat} (h : i < row.length) : atI (nV row) (i : Int) = some (.int ((row.getD i 0 : Nat) : Int)) := by
  refine atI_nat ?_
  rw [List.getElem?_map, List.getElem?_eq_getElem h]
  simp [List.getD_eq_getElem?_getD, List.getElem?_eq_getElem h]
theorem FAt.put {C x r : Addr} {H : Hp} {s e : Nat} {f f' : RF} {dx : Addr} {wv wv' : V} (h : FAt C H x r s e f) (hx : H x = some (.ins C dx (flds r s e f wv))) (er : f'.row = f.row) (hw : WaitAt H wv' f'.wt) {w : List (Str × V)} (ew : w = flds r s e f' wv') :
    FAt C (upd H x (.ins C dx w)) x r s e f' := by
  obtain ⟨n, _, _, _, _, hr⟩ := h
  subst ew
  refine ⟨n, dx, wv', upd_same, hw.upd hx (fun i j e => by cases e), ?_⟩
  rw [upd_ne n.symm, er]
  exact hr
/-- an attribute is set -/
theorem FAt.set {C x r : Addr} {H : Hp} {s e : Nat} {f : RF} {dx : Addr} {wv : V} (h : FAt C H x r s e f) (hx : H x = some (.ins C dx (flds r s e f wv))) (f' : RF) (wv' : V) (er : f'.row = f.row) (hw : WaitAt H wv' f'.wt) {w : List (Str × V)} (ew : w = flds r s e f' wv') :
    FAt C (upd H x (.ins C dx w)) x r s e f' ∧ upd H x (.ins C dx w) x = some (.ins C dx (flds r s e f' wv')) ∧ Fr2 x r H (upd H x (.ins C dx w)) := by
  subst ew
  exact ⟨h.put hx er hw rfl, upd_same, Fr2.putx⟩
theorem FAt.wait {C x r : Addr} {H : Hp} {s e : Nat} {f : RF} {dx : Addr} {wv : V} (h : FAt C H x r s e f) (hx : H x = some (.ins C dx (flds r s e f wv))) : WaitAt H wv f.wt := by
  obtain ⟨_, dx2, wv2, hx2, hw, _⟩ := h
  rw [hx] at hx2
  have e1 : flds r s e f wv = flds r s e f wv2 := (HO.ins.inj (Option.some.inj hx2)).2.2
  have e3 : some wv = some wv2 := congrArg (fun l : List (Str × V) => l.lookup ("waiting" : Str)) e1
  rw [Option.some.inj e3]
  exact hw
theorem FAt.putRow {C x r : Addr} {H : Hp} {s e : Nat} {f : RF} (h : FAt C H x r s e f) {row : List Nat} {w : List V} (ew : w = nV row) :
    FAt C (upd H r (.lst w)) x r s e { f with row := row } := by
  obtain ⟨n, dx, wv, hx, hw, hr⟩ := h
  subst ew
  refine ⟨n, dx, wv, ?_, hw.upd hr (fun i j e => by cases e), upd_same⟩
  rw [upd_ne n]
  exact hx
def spF0 (C : Addr) (pre : Nat → Nat → RF → Prop) (fn : Nat → Nat → RF → RF) : Sp := fun vs H Q _ => ∃ (x r : Addr) (s e : Nat) (f : RF), vs = [.ref x] ∧ FAt C H x r s e f ∧ RF.WF s e f ∧ pre s e f ∧ ∀ H', FAt C H' x r s e (fn s e f) → Fr2 x r H H' → Q .non H'
def spG (C : Addr) (fn : Nat → Nat → RF → RF) : Sp := fun vs H Q _ => ∃ (x r : Addr) (s e : Nat) (f : RF), vs = [.ref x] ∧ FAt C H x r s e f ∧ RF.WF s e { f with pl := f.pl + 1 } ∧ ∀ H', FAt C H' x r s e (fn s e f) → Fr2 x r H H' → Q .non H'
def spInit (C : Addr) : Sp := fun vs H Q _ => ∃ (x dx r : Addr) (s e : Nat) (row : List Nat), vs = [.ref x, .ref r, .int (s : Int), .int (e : Int)] ∧ H x = some (.ins C dx []) ∧ H r = some (.lst (nV row)) ∧ x ≠ r ∧ s < e ∧ e ≤ row.length ∧ row.length ≤ 2000 ∧ ∀ H', FAt C H' x r s e (RF.init row s e) → Fr2 x r H H' → Q .non H'
def spF1 (C : Addr) (pre : Nat → Nat → RF → Prop) (fn : Nat → Nat → Bool → RF → RF) : Sp := fun vs H Q _ => ∃ (x r : Addr) (s e : Nat) (f : RF) (b : Bool), vs = [.ref x, .bl b] ∧ FAt C H x r s e f ∧ RF.WF s e f ∧ pre s e f ∧ ∀ H', FAt C H' x r s e (fn s e b f) → Fr2 x r H H' → Q .non H'
def spTurn (C : Addr) : Sp := fun vs H Q _ => ∃ (x r : Addr) (s e lo : Nat) (f : RF), vs = [.ref x, .int (lo : Int)] ∧ FAt C H x r s e f ∧ RF.WF s e f ∧ lo ≤ f.pl ∧ ∀ H', FAt C H' x r s e (f.turn lo) → Fr2 x r H H' → Q .non H'
theorem dnF {n m : Nat} (h : n ≠ m) : V.bl (decide (V.int (n : Int) = V.int (m : Int))) = .bl false := by
  refine congrArg V.bl (decide_eq_false fun e => h ?_)
  have := V.int.inj e
  omega
theorem dnT {n m : Nat} (h : n = m) : V.bl (decide (V.int (n : Int) = V.int (m : Int))) = .bl true := congrArg V.bl (decide_eq_true (by rw [h]))
def noP (_ _ : Nat) (_ : RF) : Prop := True
namespace RF
variable {s e : Nat} {f : RF}
theorem WF.rowSame (w : WF s e f) {f' : RF} (h1 : f'.row = f.row) (h2 : f'.pl = f.pl) (h3 : f'.eq = f.eq) : WF s e f' := by
  obtain ⟨a, b, c, d, g⟩ := w
  exact ⟨by rw [h2]; exact a, by rw [h2]; exact b, by rw [h1]; exact c, by rw [h2, h3]; exact d, by rw [h1]; exact g⟩
theorem WF.finish (w : WF s e f) : WF s e (f.finish s) := w.rowSame rfl rfl rfl
theorem WF.askUp (w : WF s e f) : WF s e (f.askUp s e) := by
  unfold RF.askUp
  split
  · exact w.rowSame rfl rfl rfl
  · exact w.finish
theorem WF.pre5 (w : WF s e f) : WF s e { ((RF.turnEq f).turn s : RF) with st := 5 } := by
  have w1 := w.turnEq
  exact (w1.turn (Nat.le_of_lt w1.sp)).rowSame rfl rfl rfl
theorem WF.rise (w : WF s e f) : WF s e (f.rise s e) := w.pre5.askUp
theorem WF.ask (w : WF s e f) : WF s e (f.ask s e) := by
  unfold RF.ask
  split
  · exact w.rowSame rfl rfl rfl
  · split
    · exact w.rise
    · exact w.finish
theorem WF.next (w : WF s e f) (h : f.pl < e) : WF s e { f with pl := f.pl + 1 } := by
  obtain ⟨a, b, c, d, g⟩ := w
  exact ⟨by show s < f.pl + 1; omega, h, c, by show f.eq + s < f.pl + 1; omega, g⟩
theorem WF.goOn (w : WF s e f) (h : f.pl < e) : WF s e (f.goOn s e) := (w.next h).ask
theorem WF.st (w : WF s e f) (k : Nat) : WF s e { f with st := k } := w.rowSame rfl rfl rfl
theorem WF.fall (w : WF s e f) (h : f.pl < e) : WF s e (f.fall s e) := (w.st 3).goOn h
theorem WF.eq1 (w : WF s e f) (h : f.pl < e) : WF s e { f with eq := f.eq + 1, pl := f.pl + 1, st := 3 } := by
  obtain ⟨a, b, c, d, g⟩ := w
  exact ⟨by show s < f.pl + 1; omega, h, c, by show f.eq + 1 + s < f.pl + 1; omega, g⟩
theorem WF.take (w : WF s e f) (h : f.pl < e) (b : Bool) : WF s e (f.take s e b) := by
  unfold RF.take
  split
  · unfold RF.take1
    split
    · exact w.goOn h
    · split
      · exact w.fall h
      · exact w.rowSame rfl rfl rfl
  · split
    · unfold RF.take2
      split
      · exact w.finish
      · exact (w.turn (Nat.le_of_lt w.sp)).fall h
    · split
      · unfold RF.take3
        split
        · exact w.turnEq.goOn (by rw [turnEq_pl]; exact h)
        · exact w.rowSame rfl rfl rfl
      · split
        · unfold RF.take4
          split
          · exact w.rise
          · exact (w.eq1 h).ask
        · unfold RF.take5
          split
          · exact w.finish
          · exact w.goOn h
/-- what waits is asked ahead of the end -/
def Ahead (e : Nat) (f : RF) : Prop := f.wt ≠ none → f.pl < e
theorem ahead_fin : Ahead e (f.finish s) := fun h => absurd rfl h
theorem ahead_askUp : Ahead e (f.askUp s e) := by
  unfold RF.askUp
  split
  · rename_i h
    exact fun _ => h
  · exact ahead_fin
theorem ahead_ask : Ahead e (f.ask s e) := by
  unfold RF.ask
  split
  · rename_i h
    exact fun _ => h
  · split
    · exact ahead_askUp
    · exact ahead_fin
theorem ahead_take (h : f.pl < e) (b : Bool) : Ahead e (f.take s e b) := by
  unfold RF.take
  split
  · unfold RF.take1
    split
    · exact ahead_ask
    · split
      · exact ahead_ask
      · exact fun _ => h
  · split
    · unfold RF.take2
      split
      · exact ahead_fin
      · exact ahead_ask
    · split
      · unfold RF.take3
        split
        · exact ahead_ask
        · exact fun _ => h
      · split
        · unfold RF.take4
          split
          · exact ahead_askUp
          · exact ahead_ask
        · unfold RF.take5
          split
          · exact ahead_fin
          · exact ahead_ask
end RF
end L2

namespace L2
open PySem PySem.Spec PyProof.Rows
namespace RF
variable {s e : Nat} {f : RF}
/-! rows stay rows of the same items -/
theorem turned_perm {row : List Nat} {lo hi : Nat} (h : lo ≤ hi) : (turned row lo hi).Perm row := by
  unfold turned
  have e1 : row = row.take lo ++ (row.drop lo).take (hi - lo) ++ row.drop hi := by
    have a1 : row.drop hi = (row.drop lo).drop (hi - lo) := by
      rw [List.drop_drop]
      congr 1
      omega
    rw [a1, List.append_assoc, List.take_append_drop, List.take_append_drop]
  have e2 : (row.take lo ++ ((row.drop lo).take (hi - lo)).reverse ++ row.drop hi).Perm (row.take lo ++ (row.drop lo).take (hi - lo) ++ row.drop hi) :=
    List.Perm.append_right _ (List.Perm.append_left _ (List.reverse_perm _))
  exact e2.trans (by rw [← e1])
theorem turn_perm (lo : Nat) (h : lo ≤ f.pl) : (f.turn lo).row.Perm f.row := turned_perm h
theorem turnEq_perm : f.turnEq.row.Perm f.row := by
  unfold RF.turnEq
  split
  · exact turned_perm (by omega)
  · exact List.Perm.refl _
theorem askUp_row : (f.askUp s e).row = f.row := by
  unfold RF.askUp
  split <;> rfl
theorem rise_perm (w : WF s e f) : (f.rise s e).row.Perm f.row := by
  unfold RF.rise
  rw [askUp_row]
  have w1 := w.turnEq
  exact (turn_perm s (Nat.le_of_lt w1.sp)).trans turnEq_perm
theorem ask_perm (w : WF s e f) : (f.ask s e).row.Perm f.row := by
  unfold RF.ask
  split
  · exact List.Perm.refl _
  · split
    · exact rise_perm w
    · exact List.Perm.refl _
theorem take_perm (w : WF s e f) (h : f.pl < e) (b : Bool) : (f.take s e b).row.Perm f.row := by
  unfold RF.take
  split
  · unfold RF.take1
    split
    · exact ask_perm (w.next h)
    · split
      · exact ask_perm ((w.st 3).next h)
      · exact List.Perm.refl _
  · split
    · unfold RF.take2
      split
      · exact List.Perm.refl _
      · exact (ask_perm (((w.turn (Nat.le_of_lt w.sp)).st 3).next h)).trans (turn_perm s (Nat.le_of_lt w.sp))
    · split
      · unfold RF.take3
        split
        · exact (ask_perm (w.turnEq.next (by rw [turnEq_pl]; exact h))).trans turnEq_perm
        · exact List.Perm.refl _
      · split
        · unfold RF.take4
          split
          · exact rise_perm w
          · exact ask_perm (w.eq1 h)
        · unfold RF.take5
          split
          · exact List.Perm.refl _
          · exact ask_perm (w.next h)
/-! a measure: how many questions may still come -/
def stw (k : Nat) : Nat := if k = 1 then 1 else if k = 3 then 2 else if k = 4 then 1 else 0
theorem stw_le (k : Nat) : stw k ≤ 2 := by
  unfold stw
  split
  · omega
  · split
    · omega
    · split <;> omega
def mu (e : Nat) (f : RF) : Nat := if f.wt = none then 0 else 1 + 3 * (e - f.pl) + stw f.st
theorem mu_le (e : Nat) (f : RF) : mu e f ≤ 1 + 3 * (e - f.pl) + stw f.st := by
  unfold mu
  split <;> omega
theorem mu_fin : mu e (f.finish s) = 0 := rfl
theorem mu_askUp : mu e (f.askUp s e) ≤ 1 + 3 * (e - f.pl) + stw f.st := by
  unfold RF.askUp
  split
  · exact mu_le e _
  · rw [mu_fin]
    omega
theorem rise_pl : (f.turnEq.turn s).pl = f.pl := turnEq_pl f
theorem mu_rise : mu e (f.rise s e) ≤ 1 + 3 * (e - f.pl) := by
  unfold RF.rise
  refine Nat.le_trans mu_askUp ?_
  show 1 + 3 * (e - (f.turnEq.turn s).pl) + 0 ≤ _
  rw [rise_pl]
  omega
theorem mu_ask : mu e (f.ask s e) ≤ 1 + 3 * (e - f.pl) + stw f.st := by
  unfold RF.ask
  split
  · exact mu_le e _
  · split
    · have := mu_rise (s := s) (e := e) (f := f)
      omega
    · rw [mu_fin]
      omega
theorem mu_goOn : mu e (f.goOn s e) ≤ 1 + 3 * (e - (f.pl + 1)) + stw f.st := mu_ask
theorem mu_fall : mu e (f.fall s e) ≤ 1 + 3 * (e - (f.pl + 1)) + 2 := mu_ask
theorem mu_take (hw : f.wt ≠ none) (h : f.pl < e) (b : Bool) : mu e (f.take s e b) < mu e f := by
  have h0 : mu e f = 1 + 3 * (e - f.pl) + stw f.st := by
    unfold mu
    rw [if_neg hw]
  rw [h0]
  unfold RF.take
  split
  · rename_i h1
    rw [show stw f.st = 1 by rw [h1]; rfl]
    unfold RF.take1
    split
    · have := mu_goOn (s := s) (e := e) (f := f)
      rw [show stw f.st = 1 by rw [h1]; rfl] at this
      omega
    · split
      · have := mu_fall (s := s) (e := e) (f := f)
        omega
      · have := mu_le e { f with st := 2, wt := some (f.row.getD s 0, f.row.getD (f.pl - 1) 0) }
        have e2 : stw ({ f with st := 2, wt := some (f.row.getD s 0, f.row.getD (f.pl - 1) 0) } : RF).st = 0 := rfl
        rw [e2] at this
        have e3 : ({ f with st := 2, wt := some (f.row.getD s 0, f.row.getD (f.pl - 1) 0) } : RF).pl = f.pl := rfl
        rw [e3] at this
        omega
  · split
    · rename_i h1
      unfold RF.take2
      split
      · rw [mu_fin]
        omega
      · have := mu_fall (s := s) (e := e) (f := f.turn s)
        have e3 : (f.turn s).pl = f.pl := rfl
        rw [e3] at this
        omega
    · split
      · rename_i h1
        rw [show stw f.st = 2 by rw [h1]; rfl]
        unfold RF.take3
        split
        · have := mu_goOn (s := s) (e := e) (f := f.turnEq)
          rw [turnEq_pl, turnEq_st, show stw f.st = 2 by rw [h1]; rfl] at this
          omega
        · have := mu_le e { f with st := 4, wt := some (f.row.getD (f.pl - 1) 0, f.row.getD f.pl 0) }
          have e2 : stw ({ f with st := 4, wt := some (f.row.getD (f.pl - 1) 0, f.row.getD f.pl 0) } : RF).st = 1 := rfl
          rw [e2] at this
          have e3 : ({ f with st := 4, wt := some (f.row.getD (f.pl - 1) 0, f.row.getD f.pl 0) } : RF).pl = f.pl := rfl
          rw [e3] at this
          omega
      · split
        · rename_i h1
          rw [show stw f.st = 1 by rw [h1]; rfl]
          unfold RF.take4
          split
          · have := mu_rise (s := s) (e := e) (f := f)
            omega
          · have := mu_goOn (s := s) (e := e) (f := { f with eq := f.eq + 1, st := 3 })
            have e2 : stw ({ f with eq := f.eq + 1, st := 3 } : RF).st = 2 := rfl
            rw [e2] at this
            have e3 : ({ f with eq := f.eq + 1, st := 3 } : RF).pl = f.pl := rfl
            rw [e3] at this
            omega
        · unfold RF.take5
          split
          · rw [mu_fin]
            omega
          · have := mu_goOn (s := s) (e := e) (f := f)
            omega
/-! what waits are two items of the row -/
def Two (f : RF) : Prop := ∀ q, f.wt = some q → ∃ k l, q = (f.row.getD k 0, f.row.getD l 0) ∧ k < f.row.length ∧ l < f.row.length ∧ k ≠ l
theorem two_none (h : f.wt = none) : Two f := fun q e => by rw [h] at e; cases e
theorem two_mk {f : RF} {k l : Nat} (h : f.wt = some (f.row.getD k 0, f.row.getD l 0)) (h1 : k < f.row.length) (h2 : l < f.row.length) (h3 : k ≠ l) : Two f := fun q e => by
  rw [h] at e
  exact ⟨k, l, (Option.some.inj e).symm, h1, h2, h3⟩
theorem two_up {f' : RF} (a : 0 < f'.pl) (c : e ≤ f'.row.length) : Two (f'.askUp s e) := by
  unfold RF.askUp
  split
  · rename_i h
    exact two_mk (k := f'.pl) (l := f'.pl - 1) rfl (by show f'.pl < f'.row.length; omega) (by show f'.pl - 1 < f'.row.length; omega) (by omega)
  · exact two_none rfl
theorem two_rise (w : WF s e f) : Two (f.rise s e) := by
  have w2 := w.pre5
  exact two_up (Nat.lt_of_le_of_lt (Nat.zero_le _) w2.sp) w2.er
theorem two_ask (w : WF s e f) : Two (f.ask s e) := by
  have := w.sp; have := w.er
  unfold RF.ask
  split
  · rename_i h
    exact two_mk (k := f.pl) (l := f.pl - 1) rfl (by show f.pl < f.row.length; omega) (by show f.pl - 1 < f.row.length; omega) (by omega)
  · split
    · exact two_rise w
    · exact two_none rfl
theorem two_take (w : WF s e f) (h : f.pl < e) (b : Bool) : Two (f.take s e b) := by
  have b1 := w.sp; have b2 := w.er
  unfold RF.take
  split
  · unfold RF.take1
    split
    · exact two_ask (w.next h)
    · split
      · exact two_ask ((w.st 3).next h)
      · exact two_mk (k := s) (l := f.pl - 1) rfl (by show s < f.row.length; omega) (by show f.pl - 1 < f.row.length; omega) (by omega)
  · split
    · unfold RF.take2
      split
      · exact two_none rfl
      · exact two_ask (((w.turn (Nat.le_of_lt w.sp)).st 3).next h)
    · split
      · unfold RF.take3
        split
        · exact two_ask (w.turnEq.next (by rw [turnEq_pl]; exact h))
        · exact two_mk (k := f.pl - 1) (l := f.pl) rfl (by show f.pl - 1 < f.row.length; omega) (by show f.pl < f.row.length; omega) (by omega)
      · split
        · unfold RF.take4
          split
          · exact two_rise w
          · exact two_ask (w.eq1 h)
        · unfold RF.take5
          split
          · exact two_none rfl
          · exact two_ask (w.next h)
/-! the length is there when nothing waits -/
def Len (s : Nat) (f : RF) : Prop := (f.wt = none → f.ln = some (f.pl - s)) ∧ (f.wt ≠ none → f.ln = none)
theorem len_fin : Len s (f.finish s) := ⟨fun _ => rfl, fun h => absurd rfl h⟩
theorem len_some {f : RF} {q : Nat × Nat} (h : f.wt = some q) (h2 : f.ln = none) : Len s f := ⟨fun e => (by rw [h] at e; cases e), fun _ => h2⟩
theorem turnEq_ln (f : RF) : f.turnEq.ln = f.ln := by
  unfold RF.turnEq
  split <;> rfl
theorem len_up {f' : RF} (h : f'.ln = none) : Len s (f'.askUp s e) := by
  unfold RF.askUp
  split
  · exact len_some rfl h
  · exact len_fin
theorem len_rise (h : f.ln = none) : Len s (f.rise s e) := len_up (by show f.turnEq.ln = none; rw [turnEq_ln]; exact h)
theorem len_ask {f : RF} (h : f.ln = none) : Len s (f.ask s e) := by
  unfold RF.ask
  split
  · exact len_some rfl h
  · split
    · exact len_rise h
    · exact len_fin
theorem len_take (h : f.ln = none) (b : Bool) : Len s (f.take s e b) := by
  unfold RF.take
  split
  · unfold RF.take1
    split
    · exact len_ask h
    · split
      · exact len_ask h
      · exact len_some rfl h
  · split
    · unfold RF.take2
      split
      · exact len_fin
      · exact len_ask h
    · split
      · unfold RF.take3
        split
        · exact len_ask (by show f.turnEq.ln = none; rw [turnEq_ln]; exact h)
        · exact len_some rfl h
      · split
        · unfold RF.take4
          split
          · exact len_rise h
          · exact len_ask h
        · unfold RF.take5
          split
          · exact len_fin
          · exact len_ask h
/-! all that holds while a run is found -/
structure Good (s e : Nat) (row0 : List Nat) (f : RF) : Prop where
  wf : WF s e f
  ah : Ahead e f
  pm : f.row.Perm row0
  tw : Two f
  le : Len s f
/-- an item of a row of all n -/
theorem item_lt {row row0 : List Nat} {n k : Nat} (h : row.Perm row0) (h0 : row0.Perm (List.range n)) (hk : k < row.length) : row.getD k 0 < n := by
  refine List.mem_range.mp ((h.trans h0).mem_iff.mp ?_)
  rw [List.getD_eq_getElem?_getD, List.getElem?_eq_getElem hk]
  exact List.getElem_mem hk
theorem Good.items {row0 : List Nat} {n : Nat} (g : Good s e row0 f) (h0 : row0.Perm (List.range n)) {q : Nat × Nat} (h : f.wt = some q) : q.1 < n ∧ q.2 < n ∧ q.1 ≠ q.2 := by
  obtain ⟨k, l, rfl, h1, h2, h3⟩ := g.tw q h
  refine ⟨item_lt g.pm h0 h1, item_lt g.pm h0 h2, fun e => h3 ?_⟩
  have nd : f.row.Nodup := (g.pm.trans h0).nodup_iff.mpr List.nodup_range
  have e2 : f.row.getD k 0 = f.row.getD l 0 := e
  rw [List.getD_eq_getElem?_getD, List.getD_eq_getElem?_getD, List.getElem?_eq_getElem h1, List.getElem?_eq_getElem h2] at e2
  exact (List.getElem_inj nd).mp e2
theorem Good.take {row0 : List Nat} (g : Good s e row0 f) (h : f.wt ≠ none) (b : Bool) : Good s e row0 (f.take s e b) :=
  ⟨g.wf.take (g.ah h) b, ahead_take (g.ah h) b, (take_perm g.wf (g.ah h) b).trans g.pm, two_take g.wf (g.ah h) b, len_take (g.le.2 h) b⟩
theorem Good.init {row : List Nat} (h1 : s < e) (h2 : e ≤ row.length) (h3 : row.length ≤ 2000) : Good s e row (RF.init row s e) := by
  have w : WF s e { row := row, pl := s + 1, eq := 0, st := 1, wt := none, ln := none } := ⟨by show s < s + 1; omega, by show s + 1 ≤ e; omega, h2, by show 0 + s < s + 1; omega, h3⟩
  exact ⟨w.ask, ahead_ask, ask_perm w, two_ask w, len_ask rfl⟩
/-- one question more, answered as ls says -/
def stp (ls : Nat × Nat → Bool) (s e : Nat) (f : RF) : RF := match f.wt with
  | none => f
  | some q => f.take s e (ls q)
def stps (ls : Nat × Nat → Bool) (s e : Nat) (f : RF) : Nat → RF
  | 0 => f
  | n + 1 => stp ls s e (stps ls s e f n)
theorem Good.stp {row0 : List Nat} (ls : Nat × Nat → Bool) (g : Good s e row0 f) : Good s e row0 (f.stp ls s e) := by
  unfold RF.stp
  split
  · exact g
  · rename_i q h
    exact g.take (by rw [h]; exact Option.some_ne_none _) _
theorem Good.stps {row0 : List Nat} (ls : Nat × Nat → Bool) (g : Good s e row0 f) : ∀ n, Good s e row0 (f.stps ls s e n)
  | 0 => g
  | n + 1 => (Good.stps ls g n).stp ls
theorem stps_next {ls : Nat × Nat → Bool} {n : Nat} {q : Nat × Nat} (h : (f.stps ls s e n).wt = some q) : f.stps ls s e (n + 1) = (f.stps ls s e n).take s e (ls q) := by
  show RF.stp ls s e (f.stps ls s e n) = _
  unfold RF.stp
  rw [h]
theorem stps_end {ls : Nat × Nat → Bool} {n : Nat} (h : (f.stps ls s e n).wt = none) : f.stps ls s e (n + 1) = f.stps ls s e n := by
  show RF.stp ls s e (f.stps ls s e n) = _
  unfold RF.stp
  rw [h]
theorem stps_stay {ls : Nat × Nat → Bool} {n : Nat} (h : (f.stps ls s e n).wt = none) : ∀ k, f.stps ls s e (n + k) = f.stps ls s e n
  | 0 => rfl
  | k + 1 => by
    have ih := stps_stay h k
    show RF.stps ls s e f ((n + k) + 1) = _
    rw [stps_end (by rw [ih]; exact h), ih]
/-- the first n questions -/
def asks (ls : Nat × Nat → Bool) (s e : Nat) (f : RF) (n : Nat) : List (Nat × Nat) := (List.range n).map fun i => ((f.stps ls s e i).wt).getD (0, 0)
theorem asks_len (ls : Nat × Nat → Bool) (n : Nat) : (f.asks ls s e n).length = n := by
  unfold asks
  rw [List.length_map, List.length_range]
theorem asks_next {ls : Nat × Nat → Bool} {n : Nat} {q : Nat × Nat} (h : (f.stps ls s e n).wt = some q) : f.asks ls s e (n + 1) = f.asks ls s e n ++ [q] := by
  unfold asks
  rw [List.range_succ, List.map_append, List.map_singleton, h]
  rfl
theorem asks_at {ls : Nat × Nat → Bool} {n i : Nat} (h : i < n) : (f.asks ls s e n)[i]? = some (((f.stps ls s e i).wt).getD (0, 0)) := by
  unfold asks
  rw [List.getElem?_map, List.getElem?_range h]
  rfl
end RF
/-- by the keys -/
def less (ns : List Int) (q : Nat × Nat) : Bool := decide (ns.getD q.1 0 < ns.getD q.2 0)
/-- questions, tuples of two items each, in a list -/
def PairAt (H : Hp) (v : V) (q : Nat × Nat) : Prop := ∃ t, v = .ref t ∧ H t = some (.tup [.int (q.1 : Int), .int (q.2 : Int)])
def QAt (H : Hp) (l : Addr) (qs : List (Nat × Nat)) : Prop := ∃ ts : List V, H l = some (.lst ts) ∧ ts.length = qs.length ∧ ∀ (i : Nat) (v : V) (q : Nat × Nat), ts[i]? = some v → qs[i]? = some q → PairAt H v q
theorem PairAt.keep {H H' : Hp} {v : V} {q : Nat × Nat} (h : PairAt H v q) (k : ∀ t i j, H t = some (.tup [.int i, .int j]) → H' t = some (.tup [.int i, .int j])) : PairAt H' v q := by
  obtain ⟨t, e, g⟩ := h
  exact ⟨t, e, k _ _ _ g⟩
theorem QAt.keep {H H' : Hp} {l : Addr} {qs : List (Nat × Nat)} (h : QAt H l qs) (kl : ∀ x, H l = some x → H' l = some x) (k : ∀ t i j, H t = some (.tup [.int i, .int j]) → H' t = some (.tup [.int i, .int j])) : QAt H' l qs := by
  obtain ⟨ts, g, n, a⟩ := h
  exact ⟨ts, kl _ g, n, fun i v q h1 h2 => (a i v q h1 h2).keep k⟩
theorem QAt.same {H H' : Hp} {l : Addr} {qs : List (Nat × Nat)} (h : QAt H l qs) (k : Same H H') : QAt H' l qs := h.keep (fun _ => k _ _) (fun _ _ _ => k _ _)
theorem QAt.nil {H : Hp} {l : Addr} (h : H l = some (.lst [])) : QAt H l [] := ⟨[], h, rfl, fun i v q h1 => by simp at h1⟩
theorem QAt.push {H : Hp} {l : Addr} {qs : List (Nat × Nat)} {ts : List V} (h : H l = some (.lst ts)) (hq : QAt H l qs) {v : V} {q : Nat × Nat} (hv : PairAt H v q) : QAt (upd H l (.lst (ts ++ [v]))) l (qs ++ [q]) := by
  obtain ⟨ts', g, n, a⟩ := hq
  rw [h] at g
  cases g
  have k : ∀ t i j, H t = some (.tup [.int i, .int j]) → upd H l (.lst (ts ++ [v])) t = some (.tup [.int i, .int j]) := fun t i j ht => by
    rw [upd_ne (ne_of ht h (fun e => by cases e))]
    exact ht
  refine ⟨ts ++ [v], upd_same, by simp [n], fun i v' q' h1 h2 => ?_⟩
  by_cases hi : i < ts.length
  · rw [List.getElem?_append_left hi] at h1
    rw [List.getElem?_append_left (by omega)] at h2
    exact (a i v' q' h1 h2).keep k
  · rw [List.getElem?_append_right (by omega)] at h1
    rw [List.getElem?_append_right (by omega)] at h2
    have e0 : i - ts.length = 0 := by
      cases e1 : i - ts.length with
      | zero => rfl
      | succ m =>
        rw [e1] at h1
        simp at h1
    have e0' : i - qs.length = 0 := by omega
    rw [e0] at h1
    rw [e0'] at h2
    cases h1
    cases h2
    exact hv.keep k
end L2

namespace L2
open PySem PySem.Spec PyProof.Rows
/-! ### the law's own walk -/
structure WS where
  row : List Nat
  pl : Nat
  eq : Nat
  st : Nat
namespace WS
def fallRow (w : WS) : List Nat := RF.turned (if 0 < w.eq then RF.turned w.row (w.pl - w.eq - 1) w.pl else w.row) 0 w.pl
def fall (w : WS) : WS := { w with row := fallRow w }
def ans (b : Bool) (w : WS) : WS :=
  if w.st = 1 ∧ b = true then { w with st := if 1 < w.pl then 2 else 3, pl := w.pl + (if w.pl = 1 then 1 else 0) }
  else if w.st = 2 ∧ b = true then { w with st := 0 }
  else if w.st = 2 then { w with row := RF.turned w.row 0 w.pl, st := 3, pl := w.pl + 1 }
  else if w.st = 3 ∧ b = true then { w with row := if 0 < w.eq then RF.turned w.row (w.pl - w.eq - 1) w.pl else w.row, eq := 0, pl := w.pl + 1 }
  else if w.st = 3 then { w with st := 4 }
  else if w.st = 4 ∧ b = true then { w with row := fallRow w, st := 5 }
  else if w.st = 4 then { w with st := 3, eq := w.eq + 1, pl := w.pl + 1 }
  else if b = true then { w with st := 0 }
  else { w with pl := w.pl + 1 }
def lk (size : Nat) (w : WS) : Option (Nat × Nat) :=
  if w.st = 2 then some (w.row.getD 0 0, w.row.getD (w.pl - 1) 0)
  else if w.st = 4 then some (w.row.getD (w.pl - 1) 0, w.row.getD w.pl 0)
  else if w.pl < size then some (w.row.getD w.pl 0, w.row.getD (w.pl - 1) 0) else none
/-- the walk's state behind a look that finds no question -/
def past (size : Nat) (w : WS) : WS := if w.st = 3 then { w with row := fallRow w, st := 5 } else { w with st := 0 }
/-- how the walk stands to the finder: 3 a question waits, 2 and 1 and 0 the end is told in so many turns -/
def At (size : Nat) (w : WS) (f : RF) : Nat → Prop
  | 3 => ∃ q, f.wt = some q ∧ w.row = f.row ∧ w.pl = f.pl ∧ w.st = f.st ∧ 1 ≤ w.st ∧ w.st ≤ 5 ∧ (w.st ≠ 5 → w.eq = f.eq) ∧ lk size w = some q
  | 2 => f.wt = none ∧ w.st = 3 ∧ size ≤ w.pl ∧ w.pl = f.pl ∧ fallRow w = f.row
  | 1 => f.wt = none ∧ (w.st = 1 ∨ w.st = 5) ∧ size ≤ w.pl ∧ w.pl = f.pl ∧ w.row = f.row
  | 0 => f.wt = none ∧ w.st = 0 ∧ w.pl = f.pl ∧ w.row = f.row
  | _ => False
theorem at_ask {size : Nat} {w : WS} {f : RF} (h1 : w.row = f.row) (h2 : w.pl = f.pl) (h3 : w.st = f.st) (h4 : w.st = 1 ∨ w.st = 3 ∨ w.st = 5) (h5 : w.st ≠ 5 → w.eq = f.eq) : ∃ t, t ≤ 3 ∧ At size w (f.ask 0 size) t := by
  unfold RF.ask
  by_cases hp : f.pl < size
  · rw [if_pos hp]
    refine ⟨3, Nat.le_refl _, _, rfl, h1, h2, h3, by omega, by omega, h5, ?_⟩
    unfold lk
    rw [if_neg (by omega), if_neg (by omega), if_pos (by omega), h1, h2]
  · rw [if_neg hp]
    by_cases h : f.st = 3
    · rw [if_pos h]
      have e1 : f.rise 0 size = RF.finish 0 { (f.turnEq.turn 0 : RF) with st := 5 } := by
        unfold RF.rise RF.askUp
        rw [if_neg (by show ¬ f.turnEq.pl < size; rw [RF.turnEq_pl]; exact hp)]
      rw [e1]
      refine ⟨2, by omega, rfl, by omega, by omega, ?_, ?_⟩
      · show w.pl = f.turnEq.pl
        rw [RF.turnEq_pl, h2]
      · show fallRow w = RF.turned f.turnEq.row 0 f.turnEq.pl
        rw [RF.turnEq_pl]
        unfold fallRow RF.turnEq
        rw [h1, h2, h5 (by omega)]
        by_cases h0 : 0 < f.eq
        · rw [if_pos h0, if_pos h0]
          rfl
        · rw [if_neg h0, if_neg h0]
    · rw [if_neg h]
      exact ⟨1, by omega, rfl, by omega, by omega, h2, h1⟩
theorem at_ans {size : Nat} {w : WS} {f : RF} (hf : 0 < f.pl) (h : At size w f 3) (b : Bool) : ∃ t, t ≤ 3 ∧ At size (w.ans b) (f.take 0 size b) t := by
  obtain ⟨q, hq, h1, h2, h3, h4, h5, h6, h7⟩ := h
  unfold ans RF.take
  by_cases s1 : w.st = 1
  · rw [if_pos (show f.st = 1 by omega)]
    unfold RF.take1
    cases b with
    | false =>
      rw [if_neg (by simp), if_neg (by simp), if_neg (by omega), if_neg (by simp), if_neg (by omega), if_neg (by simp), if_neg (by omega), if_neg (by simp), if_pos rfl]
      exact at_ask (w := { w with pl := w.pl + 1 }) (f := { f with pl := f.pl + 1 }) h1 (by show w.pl + 1 = f.pl + 1; omega) h3 (.inl s1) h6
    | true =>
      rw [if_pos ⟨s1, rfl⟩, if_neg (show ¬ (true = false) by decide)]
      by_cases hp : f.pl = 0 + 1
      · rw [if_pos hp, if_neg (show ¬ 1 < w.pl by omega), if_pos (show w.pl = 1 by omega)]
        exact at_ask (w := { w with st := 3, pl := w.pl + 1 }) (f := { f with st := 3, pl := f.pl + 1 }) h1 (by show w.pl + 1 = f.pl + 1; omega) rfl (.inr (.inl rfl)) (fun _ => h6 (by omega))
      · rw [if_neg hp, if_pos (show 1 < w.pl by omega), if_neg (show ¬ w.pl = 1 by omega)]
        refine ⟨3, Nat.le_refl _, _, rfl, h1, h2, rfl, by show 1 ≤ 2; omega, by show 2 ≤ 5; omega, fun _ => h6 (by omega), ?_⟩
        unfold lk
        rw [if_pos rfl, h1, Nat.add_zero, h2]
  rw [if_neg (fun e => s1 e.1), if_neg (show ¬ f.st = 1 by omega)]
  by_cases s2 : w.st = 2
  · rw [if_pos (show f.st = 2 by omega)]
    unfold RF.take2
    cases b with
    | true =>
      rw [if_pos ⟨s2, rfl⟩, if_pos rfl]
      exact ⟨0, by omega, rfl, rfl, h2, h1⟩
    | false =>
      rw [if_neg (by simp), if_pos s2, if_neg (by simp)]
      exact at_ask (w := { w with row := RF.turned w.row 0 w.pl, st := 3, pl := w.pl + 1 }) (f := { (f.turn 0 : RF) with st := 3, pl := (f.turn 0).pl + 1 }) (by show RF.turned w.row 0 w.pl = RF.turned f.row 0 f.pl; rw [h1, h2]) (by show w.pl + 1 = f.pl + 1; omega) rfl (.inr (.inl rfl)) (fun _ => h6 (by omega))
  rw [if_neg (fun e => s2 e.1), if_neg s2, if_neg (show ¬ f.st = 2 by omega)]
  by_cases s3 : w.st = 3
  · rw [if_pos (show f.st = 3 by omega)]
    unfold RF.take3
    cases b with
    | true =>
      rw [if_pos ⟨s3, rfl⟩, if_pos rfl]
      refine at_ask (w := { w with row := if 0 < w.eq then RF.turned w.row (w.pl - w.eq - 1) w.pl else w.row, eq := 0, pl := w.pl + 1 }) (f := { (f.turnEq : RF) with pl := f.turnEq.pl + 1 }) ?_ (by show w.pl + 1 = f.turnEq.pl + 1; rw [RF.turnEq_pl, h2]) (by show w.st = f.turnEq.st; rw [RF.turnEq_st, h3]) (.inr (.inl s3)) (fun _ => ?_)
      · show (if 0 < w.eq then RF.turned w.row (w.pl - w.eq - 1) w.pl else w.row) = f.turnEq.row
        unfold RF.turnEq
        rw [h1, h2, h6 (by omega)]
        by_cases h0 : 0 < f.eq
        · rw [if_pos h0, if_pos h0]
          rfl
        · rw [if_neg h0, if_neg h0]
      · show 0 = f.turnEq.eq
        unfold RF.turnEq
        by_cases h0 : 0 < f.eq
        · rw [if_pos h0]
        · rw [if_neg h0]
          omega
    | false =>
      rw [if_neg (by simp), if_pos s3, if_neg (by simp)]
      refine ⟨3, Nat.le_refl _, _, rfl, h1, h2, rfl, by show 1 ≤ 4; omega, by show 4 ≤ 5; omega, fun _ => h6 (by omega), ?_⟩
      unfold lk
      rw [if_neg (by show ¬ 4 = 2; decide), if_pos rfl, h1, h2]
  rw [if_neg (fun e => s3 e.1), if_neg s3, if_neg (show ¬ f.st = 3 by omega)]
  by_cases s4 : w.st = 4
  · rw [if_pos (show f.st = 4 by omega)]
    unfold RF.take4
    cases b with
    | true =>
      rw [if_pos ⟨s4, rfl⟩, if_pos rfl]
      have e1 : f.rise 0 size = RF.ask 0 size { (f.turnEq.turn 0 : RF) with st := 5 } := by
        unfold RF.rise RF.askUp RF.ask
        rw [if_neg (show ¬ ({ (f.turnEq.turn 0 : RF) with st := 5 } : RF).st = 3 by show ¬ 5 = 3; decide)]
      rw [e1]
      refine at_ask (w := { w with row := fallRow w, st := 5 }) (f := { (f.turnEq.turn 0 : RF) with st := 5 }) ?_ (by show w.pl = f.turnEq.pl; rw [RF.turnEq_pl, h2]) rfl (.inr (.inr rfl)) (fun e => absurd rfl e)
      show fallRow w = RF.turned f.turnEq.row 0 f.turnEq.pl
      rw [RF.turnEq_pl]
      unfold fallRow RF.turnEq
      rw [h1, h2, h6 (by omega)]
      by_cases h0 : 0 < f.eq
      · rw [if_pos h0, if_pos h0]
        rfl
      · rw [if_neg h0, if_neg h0]
    | false =>
      rw [if_neg (by simp), if_pos s4, if_neg (by simp)]
      exact at_ask (w := { w with st := 3, eq := w.eq + 1, pl := w.pl + 1 }) (f := { f with eq := f.eq + 1, st := 3, pl := f.pl + 1 }) h1 (by show w.pl + 1 = f.pl + 1; omega) rfl (.inr (.inl rfl)) (fun _ => by show w.eq + 1 = f.eq + 1; rw [h6 (by omega)])
  rw [if_neg (fun e => s4 e.1), if_neg s4, if_neg (show ¬ f.st = 4 by omega)]
  unfold RF.take5
  cases b with
  | true =>
    rw [if_pos rfl, if_pos rfl]
    exact ⟨0, by omega, rfl, rfl, h2, h1⟩
  | false =>
    rw [if_neg (by simp), if_neg (by simp)]
    exact at_ask (w := { w with pl := w.pl + 1 }) (f := { f with pl := f.pl + 1 }) h1 (by show w.pl + 1 = f.pl + 1; omega) h3 (.inr (.inr (by show w.st = 5; omega))) h6
/-- what the walk keeps between its steps -/
structure Ok (w : WS) : Prop where
  p1 : 0 < w.pl
  pl : w.pl ≤ w.row.length
  eq : w.eq < w.pl
  rl : w.row.length ≤ 2000
theorem fallRow_len {w : WS} (o : Ok w) : (fallRow w).length = w.row.length := by
  have := o.pl; have := o.eq
  unfold fallRow
  by_cases h0 : 0 < w.eq
  · rw [if_pos h0]
    have l1 : (RF.turned w.row (w.pl - w.eq - 1) w.pl).length = w.row.length := RF.turned_len (by omega) o.pl
    rw [RF.turned_len (Nat.zero_le _) (by omega), l1]
  · rw [if_neg h0]
    exact RF.turned_len (Nat.zero_le _) o.pl
theorem Ok.past {w : WS} (o : Ok w) (size : Nat) : Ok (past size w) ∧ (WS.past size w).row.length = w.row.length := by
  obtain ⟨a, b, c, d⟩ := id o
  unfold WS.past
  split
  · have l := fallRow_len o
    exact ⟨⟨a, by show w.pl ≤ (fallRow w).length; omega, c, by show (fallRow w).length ≤ 2000; omega⟩, l⟩
  · exact ⟨⟨a, b, c, d⟩, rfl⟩
theorem Ok.ans {w : WS} (o : Ok w) (h : w.pl < w.row.length) (b : Bool) : Ok (w.ans b) ∧ (w.ans b).row.length = w.row.length := by
  obtain ⟨p1, p2, p3, p4⟩ := id o
  have lf := fallRow_len o
  have l0 : (RF.turned w.row 0 w.pl).length = w.row.length := RF.turned_len (Nat.zero_le _) p2
  have l1 : (if 0 < w.eq then RF.turned w.row (w.pl - w.eq - 1) w.pl else w.row).length = w.row.length := by
    split
    · exact RF.turned_len (by omega) p2
    · rfl
  unfold WS.ans
  split
  · refine ⟨⟨?_, ?_, ?_, p4⟩, rfl⟩
    · show 0 < w.pl + _
      omega
    · show w.pl + (if w.pl = 1 then 1 else 0) ≤ w.row.length
      split <;> omega
    · show w.eq < w.pl + _
      omega
  split
  · exact ⟨⟨p1, p2, p3, p4⟩, rfl⟩
  split
  · exact ⟨⟨by show 0 < w.pl + 1; omega, by show w.pl + 1 ≤ (RF.turned w.row 0 w.pl).length; omega, by show w.eq < w.pl + 1; omega, by show (RF.turned w.row 0 w.pl).length ≤ 2000; omega⟩, l0⟩
  split
  · exact ⟨⟨by show 0 < w.pl + 1; omega, by show w.pl + 1 ≤ (if 0 < w.eq then RF.turned w.row (w.pl - w.eq - 1) w.pl else w.row).length; omega, by show 0 < w.pl + 1; omega, by show (if 0 < w.eq then RF.turned w.row (w.pl - w.eq - 1) w.pl else w.row).length ≤ 2000; omega⟩, l1⟩
  split
  · exact ⟨⟨p1, p2, p3, p4⟩, rfl⟩
  split
  · exact ⟨⟨p1, by show w.pl ≤ (fallRow w).length; omega, p3, by show (fallRow w).length ≤ 2000; omega⟩, lf⟩
  split
  · exact ⟨⟨by show 0 < w.pl + 1; omega, by show w.pl + 1 ≤ w.row.length; omega, by show w.eq + 1 < w.pl + 1; omega, p4⟩, rfl⟩
  split
  · exact ⟨⟨p1, p2, p3, p4⟩, rfl⟩
  · exact ⟨⟨by show 0 < w.pl + 1; omega, by show w.pl + 1 ≤ w.row.length; omega, by show w.eq < w.pl + 1; omega, p4⟩, rfl⟩
end WS
namespace RF
/-- told the answers bs one after another -/
def fed (size : Nat) (bs : List Bool) : Nat → RF
  | 0 => RF.init (List.range size) 0 size
  | k + 1 => match (fed size bs k).wt with
    | none => fed size bs k
    | some _ => (fed size bs k).take 0 size (bs.getD k false)
theorem fed_next {size : Nat} {bs : List Bool} {k : Nat} {q : Nat × Nat} (h : (fed size bs k).wt = some q) : fed size bs (k + 1) = (fed size bs k).take 0 size (bs.getD k false) := by
  show (match (fed size bs k).wt with
    | none => fed size bs k
    | some _ => (fed size bs k).take 0 size (bs.getD k false)) = _
  rw [h]
theorem fed_end {size : Nat} {bs : List Bool} {k : Nat} (h : (fed size bs k).wt = none) : fed size bs (k + 1) = fed size bs k := by
  show (match (fed size bs k).wt with
    | none => fed size bs k
    | some _ => (fed size bs k).take 0 size (bs.getD k false)) = _
  rw [h]
theorem fed_stay {size : Nat} {bs : List Bool} {n : Nat} (h : (fed size bs n).wt = none) : ∀ k, fed size bs (n + k) = fed size bs n
  | 0 => rfl
  | k + 1 => by
    have ih := fed_stay h k
    show fed size bs ((n + k) + 1) = _
    rw [fed_end (by rw [ih]; exact h), ih]
theorem fed_good {size : Nat} (h1 : 0 < size) (h2 : size ≤ 2000) (bs : List Bool) : ∀ k, Good 0 size (List.range size) (fed size bs k)
  | 0 => Good.init h1 (by rw [List.length_range]; exact Nat.le_refl _) (by rw [List.length_range]; exact h2)
  | k + 1 => by
    have ih := fed_good h1 h2 bs k
    cases h : (fed size bs k).wt with
    | none => rw [fed_end h]; exact ih
    | some q => rw [fed_next h]; exact ih.take (by rw [h]; exact Option.some_ne_none _) _
def askB (size : Nat) (bs : List Bool) (n : Nat) : List (Nat × Nat) := (List.range n).map fun i => ((fed size bs i).wt).getD (0, 0)
theorem askB_len (size : Nat) (bs : List Bool) (n : Nat) : (askB size bs n).length = n := by
  unfold askB
  rw [List.length_map, List.length_range]
theorem askB_next {size : Nat} {bs : List Bool} {n : Nat} {q : Nat × Nat} (h : (fed size bs n).wt = some q) : askB size bs (n + 1) = askB size bs n ++ [q] := by
  unfold askB
  rw [List.range_succ, List.map_append, List.map_singleton, h]
  rfl
end RF
theorem QAt.ne {H : Hp} {l r : Addr} {qs : List (Nat × Nat)} {row : List Nat} (h : QAt H l qs) (hr : H r = some (.lst (nV row))) (n : row ≠ []) : r ≠ l := by
  intro e
  obtain ⟨ts, h1, h2, h3⟩ := h
  rw [← e, hr] at h1
  cases row with
  | nil => exact n rfl
  | cons x rest =>
    have e2 : ts = nV (x :: rest) := (HO.lst.inj (Option.some.inj h1)).symm
    cases qs with
    | nil => rw [e2] at h2; cases h2
    | cons q qs =>
      obtain ⟨t, e3, _⟩ := h3 0 (.int (x : Int)) q (by rw [e2]; rfl) rfl
      cases e3
end L2

namespace L2
open PySem PySem.Spec PyProof.Rows
namespace RF
/-! ### a run at s is a run at 0, moved by s -/
def shRow (s : Nat) (row : List Nat) : List Nat := List.range s ++ row.map (fun i => s + i)
def sh (s : Nat) (g : RF) : RF := { row := shRow s g.row, pl := s + g.pl, eq := g.eq, st := g.st, wt := g.wt.map (fun q => (s + q.1, s + q.2)), ln := g.ln }
variable {s size : Nat} {g : RF}
theorem shRow_len (s : Nat) (row : List Nat) : (shRow s row).length = s + row.length := by
  unfold shRow
  rw [List.length_append, List.length_range, List.length_map]
theorem shRow_range (s n : Nat) : shRow s (List.range n) = List.range (s + n) := by
  unfold shRow
  rw [List.range_add]
theorem turned_sh (s lo hi : Nat) (row : List Nat) : turned (shRow s row) (s + lo) (s + hi) = shRow s (turned row lo hi) := by
  unfold turned shRow
  have l : (List.range s).length = s := List.length_range
  have e1 : (List.range s ++ row.map (fun i => s + i)).take (s + lo) = List.range s ++ (row.take lo).map (fun i => s + i) := by
    rw [List.take_append, List.take_of_length_le (by omega), l, Nat.add_sub_cancel_left, List.map_take]
  have e2 : ∀ k, (List.range s ++ row.map (fun i => s + i)).drop (s + k) = (row.drop k).map (fun i => s + i) := fun k => by
    rw [List.drop_append, List.drop_of_length_le (by omega), l, Nat.add_sub_cancel_left, List.map_drop]
    rfl
  rw [e1, e2, e2, show s + hi - (s + lo) = hi - lo by omega]
  simp only [List.map_append, List.map_reverse, List.map_take, List.append_assoc]
theorem getD_sh {row : List Nat} {k : Nat} (h : k < row.length) : (shRow s row).getD (s + k) 0 = s + row.getD k 0 := by
  unfold shRow
  rw [List.getD_eq_getElem?_getD, List.getD_eq_getElem?_getD, List.getElem?_append_right (by rw [List.length_range]; omega), List.length_range, Nat.add_sub_cancel_left, List.getElem?_map, List.getElem?_eq_getElem h]
  rfl
theorem ext {f g : RF} (h1 : f.row = g.row) (h2 : f.pl = g.pl) (h3 : f.eq = g.eq) (h4 : f.st = g.st) (h5 : f.wt = g.wt) (h6 : f.ln = g.ln) : f = g := by
  cases f
  cases g
  cases h1
  cases h2
  cases h3
  cases h4
  cases h5
  cases h6
  rfl
theorem sh_turn (lo : Nat) : (sh s g).turn (s + lo) = sh s (g.turn lo) := ext (turned_sh s lo g.pl g.row) rfl rfl rfl rfl rfl
theorem sh_turnEq (w : WF 0 size g) : (sh s g).turnEq = sh s g.turnEq := by
  unfold RF.turnEq
  by_cases h : 0 < g.eq
  · have := w.eq
    rw [if_pos h, if_pos (show 0 < (sh s g).eq from h)]
    have e : (sh s g).pl - (sh s g).eq - 1 = s + (g.pl - g.eq - 1) := by show s + g.pl - g.eq - 1 = _; omega
    rw [e, sh_turn]
    rfl
  · rw [if_neg h, if_neg (show ¬ 0 < (sh s g).eq from h)]
theorem sh_fin : (sh s g).finish s = sh s (g.finish 0) := ext rfl rfl rfl rfl rfl (by show some (s + g.pl - s) = some (g.pl - 0); rw [Nat.add_sub_cancel_left]; rfl)
theorem sh_w {g' : RF} {k l : Nat} (h1 : k < g'.row.length) (h2 : l < g'.row.length) : ({ sh s g' with wt := some ((sh s g').row.getD (s + k) 0, (sh s g').row.getD (s + l) 0) } : RF) = sh s { g' with wt := some (g'.row.getD k 0, g'.row.getD l 0) } := by
  refine ext rfl rfl rfl rfl ?_ rfl
  show some ((shRow s g'.row).getD (s + k) 0, (shRow s g'.row).getD (s + l) 0) = some (s + g'.row.getD k 0, s + g'.row.getD l 0)
  rw [getD_sh h1, getD_sh h2]
theorem sh_up {g' : RF} (a : 0 < g'.pl) (c : size ≤ g'.row.length) : (sh s g').askUp s (s + size) = sh s (g'.askUp 0 size) := by
  unfold RF.askUp
  by_cases h : g'.pl < size
  · rw [if_pos h, if_pos (show (sh s g').pl < s + size by show s + g'.pl < s + size; omega)]
    have e : (sh s g').pl - 1 = s + (g'.pl - 1) := by show s + g'.pl - 1 = _; omega
    rw [e]
    exact sh_w (by omega) (by omega)
  · rw [if_neg h, if_neg (show ¬ (sh s g').pl < s + size by show ¬ s + g'.pl < s + size; omega)]
    exact sh_fin
theorem sh_rise (w : WF 0 size g) : (sh s g).rise s (s + size) = sh s (g.rise 0 size) := by
  unfold RF.rise
  have w2 := w.pre5
  have e : ({ ((sh s g).turnEq.turn s : RF) with st := 5 } : RF) = sh s { (g.turnEq.turn 0 : RF) with st := 5 } := by
    have e1 : (sh s g).turnEq.turn s = sh s (g.turnEq.turn 0) := by
      rw [sh_turnEq w]
      exact sh_turn 0
    rw [e1]
    rfl
  rw [e]
  exact sh_up (Nat.lt_of_le_of_lt (Nat.zero_le _) w2.sp) w2.er
theorem sh_ask (w : WF 0 size g) : (sh s g).ask s (s + size) = sh s (g.ask 0 size) := by
  have b1 := w.sp; have b2 := w.er
  unfold RF.ask
  by_cases h : g.pl < size
  · rw [if_pos h, if_pos (show (sh s g).pl < s + size by show s + g.pl < s + size; omega)]
    have e : (sh s g).pl - 1 = s + (g.pl - 1) := by show s + g.pl - 1 = _; omega
    rw [e]
    exact sh_w (by omega) (by omega)
  · rw [if_neg h, if_neg (show ¬ (sh s g).pl < s + size by show ¬ s + g.pl < s + size; omega)]
    by_cases h3 : g.st = 3
    · rw [if_pos h3, if_pos (show (sh s g).st = 3 from h3)]
      exact sh_rise w
    · rw [if_neg h3, if_neg (show ¬ (sh s g).st = 3 from h3)]
      exact sh_fin
theorem sh_goOn (w : WF 0 size { g with pl := g.pl + 1 }) : (sh s g).goOn s (s + size) = sh s (g.goOn 0 size) := by
  unfold RF.goOn
  rw [← sh_ask w]
  rfl
theorem sh_take (w : WF 0 size g) (h : g.pl < size) (b : Bool) : (sh s g).take s (s + size) b = sh s (g.take 0 size b) := by
  have b1 := w.sp; have b2 := w.er
  unfold RF.take
  show (if g.st = 1 then _ else if g.st = 2 then _ else if g.st = 3 then _ else if g.st = 4 then _ else _) = sh s (if g.st = 1 then _ else if g.st = 2 then _ else if g.st = 3 then _ else if g.st = 4 then _ else _)
  by_cases s1 : g.st = 1
  · rw [if_pos s1, if_pos s1]
    unfold RF.take1
    cases b with
    | false =>
      rw [if_pos rfl, if_pos rfl]
      exact sh_goOn (w.next h)
    | true =>
      rw [if_neg (show ¬ (true = false) by decide), if_neg (show ¬ (true = false) by decide)]
      by_cases hp : g.pl = 0 + 1
      · rw [if_pos hp, if_pos (show (sh s g).pl = s + 1 by show s + g.pl = s + 1; omega)]
        exact sh_goOn (g := { g with st := 3 }) ((w.st 3).next h)
      · rw [if_neg hp, if_neg (show ¬ (sh s g).pl = s + 1 by show ¬ s + g.pl = s + 1; omega)]
        have e : (sh s g).pl - 1 = s + (g.pl - 1) := by show s + g.pl - 1 = _; omega
        rw [e]
        exact sh_w (g' := { g with st := 2 }) (k := 0) (l := g.pl - 1) (by show 0 < g.row.length; omega) (by show g.pl - 1 < g.row.length; omega)
  rw [if_neg s1, if_neg s1]
  by_cases s2 : g.st = 2
  · rw [if_pos s2, if_pos s2]
    unfold RF.take2
    cases b with
    | true =>
      rw [if_pos rfl, if_pos rfl]
      exact sh_fin
    | false =>
      rw [if_neg (show ¬ (false = true) by decide), if_neg (show ¬ (false = true) by decide)]
      have e : (sh s g).turn s = sh s (g.turn 0) := sh_turn 0
      rw [e]
      exact sh_goOn (g := { (g.turn 0 : RF) with st := 3 }) (((w.turn (Nat.le_of_lt w.sp)).st 3).next h)
  rw [if_neg s2, if_neg s2]
  by_cases s3 : g.st = 3
  · rw [if_pos s3, if_pos s3]
    unfold RF.take3
    cases b with
    | true =>
      rw [if_pos rfl, if_pos rfl, sh_turnEq w]
      exact sh_goOn (w.turnEq.next (by rw [turnEq_pl]; exact h))
    | false =>
      rw [if_neg (show ¬ (false = true) by decide), if_neg (show ¬ (false = true) by decide)]
      have e : (sh s g).pl - 1 = s + (g.pl - 1) := by show s + g.pl - 1 = _; omega
      rw [e]
      exact sh_w (g' := { g with st := 4 }) (k := g.pl - 1) (l := g.pl) (by show g.pl - 1 < g.row.length; omega) (by show g.pl < g.row.length; omega)
  rw [if_neg s3, if_neg s3]
  by_cases s4 : g.st = 4
  · rw [if_pos s4, if_pos s4]
    unfold RF.take4
    cases b with
    | true =>
      rw [if_pos rfl, if_pos rfl]
      exact sh_rise w
    | false =>
      rw [if_neg (show ¬ (false = true) by decide), if_neg (show ¬ (false = true) by decide)]
      exact sh_goOn (g := { g with eq := g.eq + 1, st := 3 }) (w.eq1 h)
  rw [if_neg s4, if_neg s4]
  unfold RF.take5
  cases b with
  | true =>
    rw [if_pos rfl, if_pos rfl]
    exact sh_fin
  | false =>
    rw [if_neg (show ¬ (false = true) by decide), if_neg (show ¬ (false = true) by decide)]
    exact sh_goOn (w.next h)
theorem sh_init (h : 0 < size) (h2 : size ≤ 2000) : RF.init (List.range (s + size)) s (s + size) = sh s (RF.init (List.range size) 0 size) := by
  unfold RF.init
  have w : WF 0 size { row := List.range size, pl := 0 + 1, eq := 0, st := 1, wt := none, ln := none } := ⟨by show 0 < 0 + 1; omega, by show 0 + 1 ≤ size; omega, by show size ≤ (List.range size).length; rw [List.length_range]; exact Nat.le_refl _, by show 0 + 0 < 0 + 1; omega, by show (List.range size).length ≤ 2000; rw [List.length_range]; exact h2⟩
  rw [← sh_ask w]
  congr 1
  exact ext (shRow_range s size).symm rfl rfl rfl rfl rfl
/-! behind the place nothing has moved -/
def Tail (n : Nat) (f : RF) : Prop := ∀ k, f.pl ≤ k → f.row.drop k = (List.range n).drop k
theorem turned_tail {row : List Nat} {lo hi k : Nat} (h : lo ≤ hi) (h2 : hi ≤ row.length) (hk : hi ≤ k) : (turned row lo hi).drop k = row.drop k := by
  unfold turned
  have l : (row.take lo ++ ((row.drop lo).take (hi - lo)).reverse).length = hi := by
    rw [List.length_append, List.length_take, List.length_reverse, List.length_take, List.length_drop]
    omega
  rw [List.drop_append, List.drop_of_length_le (by omega), l, List.drop_drop, List.nil_append]
  congr 1
  omega
section
variable {n : Nat} {f : RF} {e : Nat}
theorem tail_turn {lo : Nat} (t : Tail n f) (h : lo ≤ f.pl) (h2 : f.pl ≤ f.row.length) : Tail n (f.turn lo) := fun k hk => (turned_tail h h2 hk).trans (t k hk)
theorem tail_turnEq (t : Tail n f) (h2 : f.pl ≤ f.row.length) : Tail n f.turnEq := by
  unfold RF.turnEq
  split
  · exact fun k hk => tail_turn t (by omega) h2 k hk
  · exact t
theorem tail_up (t : Tail n f) : Tail n (f.askUp s e) := by
  unfold RF.askUp
  split
  · exact t
  · exact t
theorem tail_rise (w : WF s e f) (t : Tail n f) : Tail n (f.rise s e) := by
  have w1 := w.turnEq
  have h2 : f.pl ≤ f.row.length := Nat.le_trans w.pe w.er
  have t1 : Tail n f.turnEq := tail_turnEq t h2
  exact tail_up (f := { (f.turnEq.turn s : RF) with st := 5 }) (tail_turn t1 (Nat.le_of_lt w1.sp) (Nat.le_trans w1.pe w1.er))
theorem tail_ask (w : WF s e f) (t : Tail n f) : Tail n (f.ask s e) := by
  unfold RF.ask
  split
  · exact t
  · split
    · exact tail_rise w t
    · exact t
theorem tail_next (t : Tail n f) : Tail n { f with pl := f.pl + 1 } := fun k hk => t k (Nat.le_of_succ_le hk)
theorem tail_take (w : WF s e f) (h : f.pl < e) (t : Tail n f) (b : Bool) : Tail n (f.take s e b) := by
  have h2 : f.pl ≤ f.row.length := Nat.le_trans w.pe w.er
  unfold RF.take
  split
  · unfold RF.take1
    split
    · exact tail_ask (w.next h) (tail_next t)
    · split
      · exact tail_ask ((w.st 3).next h) (tail_next t)
      · exact t
  · split
    · unfold RF.take2
      split
      · exact t
      · exact tail_ask (((w.turn (Nat.le_of_lt w.sp)).st 3).next h) (tail_next (tail_turn t (Nat.le_of_lt w.sp) h2))
    · split
      · unfold RF.take3
        split
        · exact tail_ask (w.turnEq.next (by rw [turnEq_pl]; exact h)) (tail_next (tail_turnEq t h2))
        · exact t
      · split
        · unfold RF.take4
          split
          · exact tail_rise w t
          · exact tail_ask (w.eq1 h) (tail_next t)
        · unfold RF.take5
          split
          · exact t
          · exact tail_ask (w.next h) (tail_next t)
end
theorem fed_tail {size : Nat} (h1 : 0 < size) (h2 : size ≤ 2000) (bs : List Bool) : ∀ k, Tail size (fed size bs k)
  | 0 => by
    have w : WF 0 size { row := List.range size, pl := 0 + 1, eq := 0, st := 1, wt := none, ln := none } := ⟨by show 0 < 0 + 1; omega, by show 0 + 1 ≤ size; omega, by show size ≤ (List.range size).length; rw [List.length_range]; exact Nat.le_refl _, by show 0 + 0 < 0 + 1; omega, by show (List.range size).length ≤ 2000; rw [List.length_range]; exact h2⟩
    exact tail_ask w (fun k _ => rfl)
  | k + 1 => by
    have ih := fed_tail h1 h2 bs k
    have g := fed_good h1 h2 bs k
    cases h : (fed size bs k).wt with
    | none => rw [fed_end h]; exact ih
    | some q => rw [fed_next h]; exact tail_take g.wf (g.ah (by rw [h]; exact Option.some_ne_none _)) ih _
theorem fed_congr {size : Nat} {bs cs : List Bool} : ∀ {k : Nat}, (∀ i, i < k → bs.getD i false = cs.getD i false) → fed size bs k = fed size cs k
  | 0, _ => rfl
  | k + 1, h => by
    have ih := fed_congr (size := size) (k := k) (fun i hi => h i (by omega))
    cases e : (fed size bs k).wt with
    | none => rw [fed_end e, fed_end (by rw [← ih]; exact e), ih]
    | some q => rw [fed_next e, fed_next (q := q) (by rw [← ih]; exact e), ih, h k (by omega)]
/-- the steps by the keys are the steps by their answers, moved -/
theorem stps_fed {ls : Nat × Nat → Bool} {s size N : Nat} (h1 : 0 < size) (h2 : size ≤ 2000) (hw : ∀ i, i < N → ((RF.init (List.range (s + size)) s (s + size)).stps ls s (s + size) i).wt ≠ none) :
    ∀ k, k ≤ N → (RF.init (List.range (s + size)) s (s + size)).stps ls s (s + size) k = sh s (fed size (((RF.init (List.range (s + size)) s (s + size)).asks ls s (s + size) N).map ls) k)
  | 0, _ => sh_init h1 h2
  | k + 1, hk => by
    have ih := stps_fed h1 h2 hw k (by omega)
    cases e : ((RF.init (List.range (s + size)) s (s + size)).stps ls s (s + size) k).wt with
    | none => exact absurd e (hw k (by omega))
    | some q =>
      rw [stps_next e]
      rw [ih] at e
      have e0 : ∃ q0, (fed size (((RF.init (List.range (s + size)) s (s + size)).asks ls s (s + size) N).map ls) k).wt = some q0 := by
        cases e1 : (fed size (((RF.init (List.range (s + size)) s (s + size)).asks ls s (s + size) N).map ls) k).wt with
        | none =>
          exfalso
          have e2 : (sh s (fed size (((RF.init (List.range (s + size)) s (s + size)).asks ls s (s + size) N).map ls) k)).wt = none := by
            show Option.map _ _ = none
            rw [e1]
            rfl
          rw [e2] at e
          cases e
        | some q0 => exact ⟨q0, rfl⟩
      obtain ⟨q0, e0⟩ := e0
      have g := fed_good h1 h2 (((RF.init (List.range (s + size)) s (s + size)).asks ls s (s + size) N).map ls) k
      rw [fed_next e0, ih, ← sh_take g.wf (g.ah (by rw [e0]; exact Option.some_ne_none _))]
      congr 1
      rw [List.getD_eq_getElem?_getD, List.getElem?_map, asks_at (by omega), ih, e]
      rfl
theorem range_drop (k n : Nat) (h : k ≤ n) : (List.range n).drop k = (List.range (n - k)).map (fun i => k + i) := by
  have e : List.range n = List.range k ++ (List.range (n - k)).map (fun i => k + i) := by
    rw [← List.range_add]
    congr 1
    omega
  rw [e, List.drop_append, List.drop_of_length_le (by rw [List.length_range]; exact Nat.le_refl _), List.length_range, Nat.sub_self]
  rfl
/-- the whole row, told by what lies ahead, the run and the rest -/
theorem row_split {s size : Nat} {g : RF} (w : WF 0 size g) (t : Tail size g) : (sh s g).row = List.range s ++ ((sh s g).row.drop s).take g.pl ++ (List.range (size - g.pl)).map (fun i => s + g.pl + i) := by
  have l : (List.range s).length = s := List.length_range
  have e1 : (sh s g).row.drop s = g.row.map (fun i => s + i) := by
    show (List.range s ++ g.row.map (fun i => s + i)).drop s = _
    rw [List.drop_append, List.drop_of_length_le (by omega), l, Nat.sub_self]
    rfl
  rw [e1, List.append_assoc]
  show List.range s ++ g.row.map (fun i => s + i) = _
  congr 1
  have e2 : g.row = g.row.take g.pl ++ (List.range (size - g.pl)).map (fun i => g.pl + i) := by
    rw [← range_drop _ _ w.pe, ← t _ (Nat.le_refl _), List.take_append_drop]
  rw [← List.map_take]
  conv => lhs; rw [e2]
  rw [List.map_append, List.map_map]
  congr 1
  exact List.map_congr_left fun i _ => by show s + (g.pl + i) = s + g.pl + i; omega
end RF
end L2

namespace L2
open PySem PySem.Spec PyProof.Rows
/-! ### for over a list or a tuple -/
section
variable {X : Cx} {tg : Expr} {pins : List (Addr × Obj)} {σ : L2.St} {H : Hp} {s : Shared} {a : Addr} {xs : List V} {R : It → Hp → Prop}
theorem lone_fresh (I : Inv X pins σ H s) : ∀ b ∈ [s.heap.objs.size], FpOk X pins H b := fun b hb => by
  rw [List.mem_singleton.mp hb]
  exact I.fpOk (Nat.le_refl _) (I.hok.fresh (Nat.le_refl _))
theorem walk_list (I : Inv X pins σ H s) (h : SqL X.K H a xs) (q : R (Itl X.K a) H) : wpAny (model X.prog X.w) X.A (pyIter (.ref a)) (PIE X pins σ tg R) X.xe s := by
  obtain ⟨items, _, isl, _⟩ := I.list h
  exact wpAny_pyIter_list isl.isList ⟨_, [_], _, _, H, rfl, I.kept (t' := s.toks) (fun _ _ e => Heap.get?_push_of_some _ e), turn_list a _, ⟨_, Heap.get?_push_size _ rfl, rfl, rfl⟩, lone_fresh I, q⟩
theorem walk_tup (I : Inv X pins σ H s) (h : SqT X.K H a xs) (q : R (Itt X.K a) H) : wpAny (model X.prog X.w) X.A (pyIter (.ref a)) (PIE X pins σ tg R) X.xe s := by
  obtain ⟨items, _, ist, _⟩ := I.tuple h
  have ist' : s.heap.IsTuple a items.toArray := ist
  exact wpAny_pyIter_tuple ist' ⟨_, [_], _, _, H, rfl, I.kept (t' := s.toks) (fun _ _ e => Heap.get?_push_of_some _ e), turn_tuple a _, ⟨_, Heap.get?_push_size _ rfl, rfl, rfl⟩, lone_fresh I, q⟩
def iLT (K : PySem.W.Frag) (tl : TE) : TI := fun σ H R => tl σ H fun x H1 => ∃ (a : Addr) (xs : List V), x = .ref a ∧ ((SqL K H1 a xs ∧ R (Itl K a) H1) ∨ (SqT K H1 a xs ∧ R (Itt K a) H1))
theorem pi_lt {l : Expr} {tl : TE} (hl : PE X l tl) : PI X tg l (iLT X.K tl) :=
  ⟨fun pins s σ H R I h => thn (hl.run pins s σ H _ I h) fun v s1 ⟨x, H1, I1, r1, a, xs, e, q⟩ => by
    subst e
    cases r1
    rcases q with ⟨hs, q⟩ | ⟨hs, q⟩
    · exact walk_list I1 hs q
    · exact walk_tup I1 hs q⟩
end
/-- for over the entries, whichever of the two it is -/
theorem for_lt {K : PySem.W.Frag} {a : Addr} {xs : List V} {g : TG} {tb : TS} {D : Ends} {σ : L2.St} {H : Hp} (Pv : Nat → L2.St → Hp → Prop) (h0 : Pv 0 σ H) (h : (∀ i σ' H', Pv i σ' H' → SqL K H' a xs) ∨ (∀ i σ' H', Pv i σ' H' → SqT K H' a xs))
    (hs : ∀ i x σ H, xs[i]? = some x → Pv i σ H → g x σ H fun σ2 H2 => tb { D with nx := Pv (i + 1), ct := Pv (i + 1), bk := D.nx } σ2 H2) (hd : ∀ σ H, Pv xs.length σ H → D.nx σ H) :
    (SqL K H a xs ∧ ∃ W : Nat → Nat → L2.St → Hp → Prop, (∃ m, W 0 m σ H) ∧ ∀ i m σ H, W i m σ H →
      ((Itl K a).stop i H ∧ D.nx σ H) ∨ ((Itl K a).go i H ∧ ∃ N : L2.St → Hp → Prop, (∀ σ' H', N σ' H' → ∃ m', m' < m ∧ W (i + 1) m' σ' H') ∧ ∀ x H', (Itl K a).yld i H x H' → g x σ H' fun σ2 H2 => tb { D with nx := N, ct := N, bk := D.nx } σ2 H2)) ∨
    (SqT K H a xs ∧ ∃ W : Nat → Nat → L2.St → Hp → Prop, (∃ m, W 0 m σ H) ∧ ∀ i m σ H, W i m σ H →
      ((Itt K a).stop i H ∧ D.nx σ H) ∨ ((Itt K a).go i H ∧ ∃ N : L2.St → Hp → Prop, (∀ σ' H', N σ' H' → ∃ m', m' < m ∧ W (i + 1) m' σ' H') ∧ ∀ x H', (Itt K a).yld i H x H' → g x σ H' fun σ2 H2 => tb { D with nx := N, ct := N, bk := D.nx } σ2 H2)) := by
  rcases h with h | h
  · exact .inl ⟨h _ _ _ h0, for_list Pv h0 (fun i σ' H' _ p => h i σ' H' p) hs hd⟩
  · exact .inr ⟨h _ _ _ h0, for_tup Pv h0 (fun i σ' H' _ p => h i σ' H' p) hs hd⟩
theorem rg_nat (n : Nat) : rgV 0 (n : Int) = nV (List.range n) := by
  unfold rgV
  rw [show ((n : Int) - 0).toNat = n by omega]
  exact List.map_congr_left fun i _ => congrArg V.int (by omega)
theorem rgOk_nat {n : Nat} (h : n ≤ 2000) : RgOk 0 (n : Int) := ⟨by omega, by omega, by omega, by omega, by omega⟩
end L2

namespace L2
open PySem PySem.Spec PyProof.Rows
/-! ### Base.__init__(self, ..) where Base is a class of the program that has no own one -/
section
variable {X : Cx} {e : Expr} {es : List Expr} {ta : TA} {x : Str} {B : Addr} {p1 p2 pos : Pos}
theorem pe_baseinit {pl : Sem Bool} (hg : Gl X x) (hm : X.mg x = some (.ref B)) (rd1 : PySem.W.readsIn X.K B (.type "type") = true) (rd2 : PySem.W.specialIn X.K (.ref B) "__getattribute__" = some (some (.builtin "type.__getattribute__"))) (vV : PySem.W.findCls X.K (.ref B) (.type "type") "__init__" = some (.val (.builtin "ValueError.__init__"))) (ha : PA X (e :: es) ta)
    (hc : eval (.Call (.Attribute (.Name x p1) "__init__" p2) (e :: es) [] pos) X.env = (do
      let base ← eval (.Name x p1) X.env
      standAt p2.atName
      let (f, first) ← holding [base] (getMethod base "__init__" pl)
      callWith pos f first (backTo pos (starEach (e :: es) X.env)) (backToKw pos (keywordEach [] X.env))) := by rfl)
    (hdb : (x == ("__debug__" : Str)) = false := by decide) (he : starEach (e :: es) X.env = (false, eval e X.env) :: starEach es X.env := by rfl) (hpl : (backTo pos (starEach es X.env)).any (·.1) = false := by rfl) :
    PE X (.Call (.Attribute (.Name x p1) "__init__" p2) (e :: es) [] pos) (tVeI X.K ta) := by
  refine ⟨fun pins s σ H Q I h => PySem.W.methodCall_KW (ld_glob I hg hm ?_ hdb) hc⟩
  refine PySem.W.method_cls I.kIn rd2 (PySem.W.cls_value I.kIn rd1 vV (by decide +kernel) ?_)
  show wpAny _ _ (callWith pos (Value.builtin "ValueError.__init__") [] (backTo pos (starEach (e :: es) X.env)) []) _ _ _
  refine PyProof.Rows.callWith_method1 (thn (ha.run pos pins _ σ H _ (I.tok _) h) fun us s1 ⟨vs, H1, I1, rel, a, C, ws, ev, hl, T, ea, q⟩ => ?_) he hpl
  subst ev
  cases rel with
  | @cons _ w0 _ wr r0 rs =>
    have ew : w0 = Value.ref a := r0
    subst ew
    have short : wr.length ≤ sizeLine := by
      have := Paired.length rs
      rw [sizeLine_eq]
      omega
    exact oinit_ok T I1 ea short fun s' J => ⟨.non, H1, J, rfl, q⟩
end
/-! ### what the text says of an error's class, and of the class above -/
structure ExC (K : PySem.W.Frag) (mg : Str → Option Value) (C fI : Addr) (x f : Str) : Prop where
  g : mg x = some (.ref C)
  ox : OexC K C
  ii : PySem.W.findIn K (.ref C) "__init__" = some (some (.ref fI))
  ti : PySem.W.typeIn K (.ref fI) = some (.type "function")
  no : PySem.W.findIn K (.ref C) f = some none
  xf : XfC K C
  te : PySem.W.exmOne K (.ref C) (.ref C) = some true
structure ExB (K : PySem.W.Frag) (mg : Str → Option Value) (B : Addr) (x : Str) : Prop where
  g : mg x = some (.ref B)
  r1 : PySem.W.readsIn K B (.type "type") = true
  r2 : PySem.W.specialIn K (.ref B) "__getattribute__" = some (some (.builtin "type.__getattribute__"))
  vi : PySem.W.findCls K (.ref B) (.type "type") "__init__" = some (.val (.builtin "ValueError.__init__"))
theorem exm_own {K : PySem.W.Frag} {S : Addr} (h1 : PySem.W.subIn K (.ref S) (.type "BaseException") = some true) (h2 : PySem.W.isClsIn K S = true) (h3 : PySem.W.typeIn K (.ref S) = some (.type "type")) (h4 : PySem.W.subIn K (.ref S) (.ref S) = some true) :
    PySem.W.exmOne K (.ref S) (.ref S) = some true := by
  have h2' : (PySem.W.clsIn K S).isSome = true := h2
  unfold PySem.W.exmOne
  simp [PySem.W.kitCls, h1, h2', h3, h4]
theorem exC_mk {K : PySem.W.Frag} {h : Heap} {mg : Str → Option Value} {C B fI : Addr} {x f : Str} (X : K.In h) (G : h.Ns mainGlobals mg)
    {nm q : Str} {N : Addr} {bs : List Value} {sn : List Str} {sub : List Value} {ab : Bool} {col : Option Bool} {dd : Option Addr} {m0 m1 m2 m3 m5 : Option Value}
    (aC : PySem.W.nsIn K mainGlobals x = some (some (.ref C)))
    (xL : K.lookup C = some (excClassObj nm q C N bs [.ref B, .type "ValueError", .type "Exception", .type "BaseException", .type "object"] true sn sub ab col dd m0 m1 m2 m3 m5 "ValueError.__new__"))
    (sa : PySem.W.findIn K (.ref C) "__setattr__" = some (some (.builtin "object.__setattr__"))) (ga : PySem.W.findIn K (.ref C) "__getattribute__" = some (some (.builtin "BaseException.__getattribute__"))) (gg : PySem.W.findIn K (.ref C) "__getattr__" = some none)
    (nb : PySem.W.findIn K (.ref C) f = some none) (ii : PySem.W.findIn K (.ref C) "__init__" = some (some (.ref fI))) (ti : PySem.W.typeIn K (.ref fI) = some (.type "function")) (kC : PySem.W.keepIn K (.ref C) = true)
    (eC : PySem.W.subIn K (.ref C) (.type "BaseException") = some true) (tC : PySem.W.typeIn K (.ref C) = some (.type "type")) (hC : PySem.W.hasDictIn K C = true) (iC : PySem.W.isClsIn K C = true) (sC : PySem.W.subIn K (.ref C) (.ref C) = some true) :
    ExC K mg C fI x f :=
  ⟨PySem.W.mg_of X G aC, ⟨⟨_, _, _, _, _, _, _, _, _, _, _, _, _, _, _, xL, rfl⟩, sa, eC, tC, kC⟩, ii, ti, nb, ⟨ga, gg, eC, hC⟩, exm_own eC iC tC sC⟩
/-- what __init__ of such an error does: the value is kept under f -/
def spErr (C : Addr) (f : Str) : Sp := fun vs H Q _ => ∃ (e : Addr) (v : V), vs = [.ref e, v] ∧ H e = some (exo e C none) ∧ ∀ dx, H dx = none → dx ≠ e → Q .non (upd (upd H dx (exd dx [(f, v)])) e (exo e C (some dx)))
end L2

namespace L2
open PySem PySem.Spec PyProof.Rows
namespace RF
/-! ### how many questions there may be: two less than twice the items -/
variable {e : Nat} {f : RF}
def ph (st pl n : Nat) : Nat := if st = 5 then n else if st = 4 then 2 * n else if st = 3 then 2 * n + 1 else if st = 2 then 2 * n else if pl = 1 then 2 * n else 2 * n + 1
def phi (e : Nat) (f : RF) : Nat := if f.wt = none then 0 else ph f.st f.pl (e - f.pl)
theorem phi_none (h : f.wt = none) : phi e f = 0 := if_pos h
theorem phi_some {q : Nat × Nat} (h : f.wt = some q) : phi e f = ph f.st f.pl (e - f.pl) := if_neg (by rw [h]; exact Option.some_ne_none _)
theorem phi_ask {f : RF} {b : Nat} (h : f.pl < e → ph f.st f.pl (e - f.pl) ≤ b) : phi e (f.ask 0 e) ≤ b := by
  unfold RF.ask
  split
  · rename_i hp
    rw [phi_some (q := (f.row.getD f.pl 0, f.row.getD (f.pl - 1) 0)) rfl]
    exact h hp
  · rename_i hp
    split
    · have : phi e (f.rise 0 e) = 0 := by
        unfold RF.rise RF.askUp
        rw [if_neg (by show ¬ f.turnEq.pl < e; rw [turnEq_pl]; exact hp)]
        exact phi_none rfl
      omega
    · rw [phi_none (f := f.finish 0) rfl]
      exact Nat.zero_le _
theorem phi_take {q : Nat × Nat} (hw : f.wt = some q) (h0 : 0 < f.pl) (h : f.pl < e) (hs : 1 ≤ f.st ∧ f.st ≤ 5) (b : Bool) : phi e (f.take 0 e b) < phi e f := by
  rw [phi_some hw]
  unfold RF.take
  by_cases s1 : f.st = 1
  · rw [if_pos s1]
    have hb : ph f.st f.pl (e - f.pl) = if f.pl = 1 then 2 * (e - f.pl) else 2 * (e - f.pl) + 1 := by rw [s1]; rfl
    unfold RF.take1
    split
    · have : phi e (f.goOn 0 e) ≤ 2 * (e - f.pl) - 1 := phi_ask fun hp => by
        have hp' : f.pl + 1 < e := hp
        show ph f.st (f.pl + 1) (e - (f.pl + 1)) ≤ _
        rw [s1]
        show (if f.pl + 1 = 1 then 2 * (e - (f.pl + 1)) else 2 * (e - (f.pl + 1)) + 1) ≤ _
        rw [if_neg (by omega)]
        omega
      rw [hb]
      split <;> omega
    · split
      · rename_i hp1
        have : phi e (f.fall 0 e) ≤ 2 * (e - f.pl) - 1 := phi_ask fun hp => by
          have hp' : f.pl + 1 < e := hp
          show 2 * (e - (f.pl + 1)) + 1 ≤ _
          omega
        rw [hb, if_pos (by omega)]
        omega
      · rename_i hp1
        rw [phi_some (f := { f with st := 2, wt := some (f.row.getD 0 0, f.row.getD (f.pl - 1) 0) }) rfl, hb, if_neg (by omega)]
        show 2 * (e - f.pl) < _
        omega
  rw [if_neg s1]
  by_cases s2 : f.st = 2
  · rw [if_pos s2]
    have hb : ph f.st f.pl (e - f.pl) = 2 * (e - f.pl) := by rw [s2]; rfl
    unfold RF.take2
    split
    · rw [phi_none (f := f.finish 0) rfl, hb]
      omega
    · have : phi e ((f.turn 0).fall 0 e) ≤ 2 * (e - f.pl) - 1 := phi_ask fun hp => by
        have hp' : f.pl + 1 < e := hp
        show 2 * (e - (f.pl + 1)) + 1 ≤ _
        omega
      rw [hb]
      omega
  rw [if_neg s2]
  by_cases s3 : f.st = 3
  · rw [if_pos s3]
    have hb : ph f.st f.pl (e - f.pl) = 2 * (e - f.pl) + 1 := by rw [s3]; rfl
    unfold RF.take3
    split
    · have : phi e (f.turnEq.goOn 0 e) ≤ 2 * (e - f.pl) - 1 := phi_ask fun hp => by
        have hp' : f.turnEq.pl + 1 < e := hp
        rw [turnEq_pl] at hp'
        show ph f.turnEq.st (f.turnEq.pl + 1) (e - (f.turnEq.pl + 1)) ≤ _
        rw [turnEq_st, turnEq_pl, s3]
        show 2 * (e - (f.pl + 1)) + 1 ≤ _
        omega
      rw [hb]
      omega
    · rw [phi_some (f := { f with st := 4, wt := some (f.row.getD (f.pl - 1) 0, f.row.getD f.pl 0) }) rfl, hb]
      show 2 * (e - f.pl) < _
      omega
  rw [if_neg s3]
  by_cases s4 : f.st = 4
  · rw [if_pos s4]
    have hb : ph f.st f.pl (e - f.pl) = 2 * (e - f.pl) := by rw [s4]; rfl
    unfold RF.take4
    split
    · have e1 : f.rise 0 e = RF.ask 0 e { (f.turnEq.turn 0 : RF) with st := 5 } := by
        unfold RF.rise RF.askUp RF.ask
        rw [if_neg (show ¬ ({ (f.turnEq.turn 0 : RF) with st := 5 } : RF).st = 3 by show ¬ 5 = 3; decide)]
      have : phi e (f.rise 0 e) ≤ e - f.pl := by
        rw [e1]
        exact phi_ask fun hp => by
          show e - f.turnEq.pl ≤ _
          rw [turnEq_pl]
          exact Nat.le_refl _
      rw [hb]
      omega
    · have : phi e (({ f with eq := f.eq + 1, st := 3 } : RF).goOn 0 e) ≤ 2 * (e - f.pl) - 1 := phi_ask fun hp => by
        have hp' : f.pl + 1 < e := hp
        show 2 * (e - (f.pl + 1)) + 1 ≤ _
        omega
      rw [hb]
      omega
  rw [if_neg s4]
  have s5 : f.st = 5 := by omega
  have hb : ph f.st f.pl (e - f.pl) = e - f.pl := by rw [s5]; rfl
  unfold RF.take5
  split
  · rw [phi_none (f := f.finish 0) rfl, hb]
    omega
  · have : phi e (f.goOn 0 e) ≤ e - f.pl - 1 := phi_ask fun hp => by
      have hp' : f.pl + 1 < e := hp
      show ph f.st (f.pl + 1) (e - (f.pl + 1)) ≤ _
      rw [s5]
      show e - (f.pl + 1) ≤ _
      omega
    rw [hb]
    omega
/-- the step is one of the five -/
def St5 (f : RF) : Prop := 1 ≤ f.st ∧ f.st ≤ 5
theorem st5_ask {f : RF} (h : St5 f) : St5 (f.ask 0 e) := by
  unfold RF.ask
  split
  · exact h
  · split
    · unfold RF.rise RF.askUp
      split
      · exact ⟨by show 1 ≤ 5; decide, by show 5 ≤ 5; decide⟩
      · exact ⟨by show 1 ≤ 5; decide, by show 5 ≤ 5; decide⟩
    · exact h
theorem st5_rise : St5 (f.rise 0 e) := by
  unfold RF.rise RF.askUp
  split
  · exact ⟨by show 1 ≤ 5; decide, by show 5 ≤ 5; decide⟩
  · exact ⟨by show 1 ≤ 5; decide, by show 5 ≤ 5; decide⟩
theorem st5_three {f : RF} (h : f.st = 3) : St5 f := ⟨by omega, by omega⟩
theorem st5_take (h : St5 f) (b : Bool) : St5 (f.take 0 e b) := by
  unfold RF.take
  split
  · unfold RF.take1
    split
    · exact st5_ask h
    · split
      · exact st5_ask (st5_three rfl)
      · exact ⟨by show 1 ≤ 2; decide, by show 2 ≤ 5; decide⟩
  · split
    · unfold RF.take2
      split
      · exact h
      · exact st5_ask (st5_three rfl)
    · split
      · rename_i h3
        unfold RF.take3
        split
        · exact st5_ask (st5_three (by show f.turnEq.st = 3; rw [turnEq_st]; exact h3))
        · exact ⟨by show 1 ≤ 4; decide, by show 4 ≤ 5; decide⟩
      · split
        · unfold RF.take4
          split
          · exact st5_rise
          · exact st5_ask (st5_three rfl)
        · unfold RF.take5
          split
          · exact h
          · exact st5_ask h
theorem fed_st5 {size : Nat} {bs : List Bool} : ∀ k, St5 (fed size bs k)
  | 0 => st5_ask ⟨by show 1 ≤ 1; decide, by show 1 ≤ 5; decide⟩
  | k + 1 => by
    have ih := fed_st5 (size := size) (bs := bs) k
    cases h : (fed size bs k).wt with
    | none => rw [fed_end h]; exact ih
    | some q => rw [fed_next h]; exact st5_take ih _
theorem phi_zero {size : Nat} {bs : List Bool} (h : 0 < size) : phi size (fed size bs 0) ≤ 2 * (size - 1) := phi_ask fun hp => by
  show (if 0 + 1 = 1 then 2 * (size - (0 + 1)) else 2 * (size - (0 + 1)) + 1) ≤ _
  rw [if_pos rfl]
  omega
theorem fed_phi {size : Nat} (h1 : 0 < size) (h2 : size ≤ 2000) (bs : List Bool) : ∀ k, (∀ i, i < k → (fed size bs i).wt ≠ none) → k + phi size (fed size bs k) ≤ 2 * (size - 1)
  | 0, _ => by
    have := phi_zero (bs := bs) h1
    omega
  | k + 1, h => by
    have ih := fed_phi h1 h2 bs k (fun i hi => h i (by omega))
    have g := fed_good h1 h2 bs k
    cases e0 : (fed size bs k).wt with
    | none => exact absurd e0 (h k (by omega))
    | some q =>
      have := phi_take e0 g.wf.sp (g.ah (by rw [e0]; exact Option.some_ne_none _)) (fed_st5 k) (bs.getD k false)
      rw [← fed_next e0] at this
      omega
/-- at most two questions less than twice the items -/
theorem fed_few {size : Nat} (h1 : 0 < size) (h2 : size ≤ 2000) (bs : List Bool) {k : Nat} (h : ∀ i, i < k → (fed size bs i).wt ≠ none) : k ≤ 2 * (size - 1) := by
  have := fed_phi h1 h2 bs k h
  omega
/-- a run of two items, where there are two -/
def Long (e : Nat) (f : RF) : Prop := 2 ≤ f.pl ∨ (f.pl = 1 ∧ f.st = 1 ∧ f.wt ≠ none) ∨ e ≤ 1
theorem ask_pl {f : RF} : (f.ask 0 e).pl = f.pl := by
  unfold RF.ask
  split
  · rfl
  · split
    · unfold RF.rise RF.askUp
      split
      · exact turnEq_pl f
      · exact turnEq_pl f
    · rfl
theorem go_pl {f : RF} : f.pl ≤ (f.goOn 0 e).pl := by
  have e1 : (f.goOn 0 e).pl = f.pl + 1 := ask_pl
  omega
theorem fall_pl {f : RF} : f.pl ≤ (f.fall 0 e).pl := by
  have e1 : (f.fall 0 e).pl = f.pl + 1 := ask_pl
  omega
theorem take_pl (b : Bool) : f.pl ≤ (f.take 0 e b).pl := by
  unfold RF.take
  split
  · unfold RF.take1
    split
    · exact go_pl
    · split
      · exact fall_pl
      · exact Nat.le_refl _
  · split
    · unfold RF.take2
      split
      · exact Nat.le_refl _
      · exact fall_pl (f := f.turn 0)
    · split
      · unfold RF.take3
        split
        · refine Nat.le_trans (Nat.le_succ _) (Nat.le_of_eq ?_)
          have e1 : (f.turnEq.goOn 0 e).pl = f.turnEq.pl + 1 := ask_pl
          rw [e1, turnEq_pl]
        · exact Nat.le_refl _
      · split
        · unfold RF.take4
          split
          · have e1 : (f.rise 0 e).pl = f.pl := by
              unfold RF.rise RF.askUp
              split
              · exact turnEq_pl f
              · exact turnEq_pl f
            exact Nat.le_of_eq e1.symm
          · exact go_pl (f := { f with eq := f.eq + 1, st := 3 })
        · unfold RF.take5
          split
          · exact Nat.le_refl _
          · exact go_pl
theorem fed_long {size : Nat} {bs : List Bool} : ∀ k, Long size (fed size bs k)
  | 0 => by
    by_cases h : size ≤ 1
    · exact .inr (.inr h)
    · refine .inr (.inl ⟨ask_pl, ?_, ?_⟩)
      · show (RF.ask 0 size _).st = 1
        unfold RF.ask
        rw [if_pos (by show 0 + 1 < size; omega)]
      · show (RF.ask 0 size _).wt ≠ none
        unfold RF.ask
        rw [if_pos (by show 0 + 1 < size; omega)]
        exact Option.some_ne_none _
  | k + 1 => by
    have ih := fed_long (size := size) (bs := bs) k
    cases h : (fed size bs k).wt with
    | none => rw [fed_end h]; exact ih
    | some q =>
      rw [fed_next h]
      rcases ih with ih | ⟨i1, i2, _⟩ | ih
      · exact .inl (Nat.le_trans ih (take_pl _))
      · refine .inl ?_
        unfold RF.take
        rw [if_pos i2]
        unfold RF.take1
        rw [if_pos (show (fed size bs k).pl = 0 + 1 by omega)]
        split
        · have e1 : ((fed size bs k).goOn 0 size).pl = (fed size bs k).pl + 1 := ask_pl
          omega
        · have e1 : ((fed size bs k).fall 0 size).pl = (fed size bs k).pl + 1 := ask_pl
          omega
      · exact .inr (.inr ih)
theorem fed_two {size : Nat} (h1 : 0 < size) (h2 : size ≤ 2000) {bs : List Bool} {k : Nat} (h : (fed size bs k).wt = none) : min 2 size ≤ (fed size bs k).pl := by
  have g := (fed_good h1 h2 bs k).wf.sp
  rcases fed_long (size := size) (bs := bs) k with l | ⟨_, _, l⟩ | l
  · omega
  · exact absurd h l
  · omega
end RF
end L2

namespace L2
open PySem PySem.Spec PyProof.Rows
/-! ### what told_run tells, as data -/
def pD (q : Nat × Nat) : PyData := .tuple [.int (q.1 : Int), .int (q.2 : Int)]
def lnD : Option Nat → PyData
  | none => .none
  | some n => .int (n : Int)
def toldD (ln : Option Nat) (row : List Nat) (qs : List (Nat × Nat)) : PyData := .tuple [lnD ln, .list ((row.map fun (i : Nat) => (i : Int)).map PyData.int), .list (qs.map pD)]
theorem canLay_pairs : ∀ qs : List (Nat × Nat), PyData.canLayAll0 (qs.map pD) = true
  | [] => rfl
  | q :: r => by
    show (PyData.canLay0 (pD q) && PyData.canLayAll0 (r.map pD)) = true
    rw [canLay_pairs r]
    rfl
theorem depth_pairs : ∀ qs : List (Nat × Nat), PyData.depthAll (qs.map pD) ≤ 1
  | [] => Nat.zero_le _
  | q :: r => by
    show max (PyData.depth (pD q)) (PyData.depthAll (r.map pD)) ≤ 1
    have h1 : PyData.depth (pD q) = 1 := rfl
    have h2 := depth_pairs r
    omega
theorem shaped_told (ln : Option Nat) (row : List Nat) (qs : List (Nat × Nat)) : SeqAt.shaped (toldD ln row qs) = true := by
  unfold SeqAt.shaped
  rw [Bool.and_eq_true]
  constructor
  · show (PyData.canLay0 (lnD ln) && (PyData.canLayAll0 ((row.map fun (i : Nat) => (i : Int)).map PyData.int) && (PyData.canLayAll0 (qs.map pD) && true))) = true
    rw [canLay_ints, canLay_pairs]
    cases ln <;> rfl
  · refine decide_eq_true ?_
    show max (PyData.depth (lnD ln)) (max (PyData.depthAll ((row.map fun (i : Nat) => (i : Int)).map PyData.int) + 1) (max (PyData.depthAll (qs.map pD) + 1) 0)) + 1 ≤ 64
    have h1 : PyData.depth (lnD ln) = 0 := by cases ln <;> rfl
    have h2 := depth_pairs qs
    rw [depth_ints, h1]
    omega
theorem eqv_told (ln : Option Nat) (row : List Nat) (qs : List (Nat × Nat)) : PyData.eqv (toldD ln row qs) (toldD ln row qs) = true := SeqAt.eqv_refl _ (SeqAt.canLay_of_shaped (shaped_told ln row qs))
theorem dpAll_pairs {K : PySem.W.Frag} {H : Hp} : ∀ {ts : List V} {qs : List (Nat × Nat)}, ts.length = qs.length → (∀ (i : Nat) (v : V) (q : Nat × Nat), ts[i]? = some v → qs[i]? = some q → PairAt H v q) → DpAll K H ts (qs.map pD)
  | [], [], _, _ => .nil
  | v :: ts, q :: qs, hl, h => by
    obtain ⟨t, e, ht⟩ := h 0 v q rfl rfl
    subst e
    refine .cons (.tup (L2.st_of ht) (.cons (.int _) (.cons (.int _) .nil))) (dpAll_pairs (by simpa using hl) fun i v' q' h1 h2 => h (i + 1) v' q' h1 h2)
theorem dp_told {K : PySem.W.Frag} {H : Hp} {t r l : Addr} {ln : Option Nat} {row : List Nat} {qs : List (Nat × Nat)} (ht : H t = some (.tup [lenV ln, .ref r, .ref l])) (hr : H r = some (.lst (nV row))) (hq : QAt H l qs) : Dp K H (.ref t) (toldD ln row qs) := by
  obtain ⟨ts, h1, h2, h3⟩ := hq
  refine .tup (L2.st_of ht) (.cons ?_ (.cons ?_ (.cons (.lst (L2.sq_of h1) (dpAll_pairs h2 h3)) .nil)))
  · cases ln with
    | none => exact .non
    | some n => exact .int _
  · exact dp_ints (by rw [← nV_map]; exact L2.sq_of hr)
/-- a sorted row of the same ints is one -/
theorem sorted_one : ∀ {a b : List Int}, a.Perm b → a.Pairwise (· ≤ ·) → b.Pairwise (· ≤ ·) → a = b
  | [], b, p, _, _ => (List.nil_perm.mp p).symm
  | x :: a, b, p, ha, hb => by
    cases b with
    | nil => exact absurd p.length_eq (by simp)
    | cons y b =>
      have ha' := List.pairwise_cons.mp ha
      have hb' := List.pairwise_cons.mp hb
      have e : x = y := by
        have h1 : x ∈ y :: b := p.mem_iff.mp List.mem_cons_self
        have h2 : y ∈ x :: a := p.mem_iff.mpr List.mem_cons_self
        rcases List.mem_cons.mp h1 with h1 | h1
        · exact h1
        · rcases List.mem_cons.mp h2 with h2 | h2
          · exact h2.symm
          · have := hb'.1 x h1
            have := ha'.1 y h2
            omega
      subst e
      rw [sorted_one (List.perm_cons x |>.mp p) ha'.2 hb'.2]
theorem range_sorted (n : Nat) : ((List.range n).map fun (i : Nat) => (i : Int)).Pairwise (· ≤ ·) := by
  rw [List.pairwise_map]
  exact List.Pairwise.imp (fun h => by omega) (List.pairwise_lt_range (n := n))
end L2

namespace L2
open PySem PySem.Spec PyProof.Rows
namespace RF
/-- given the answers bs one after another, from any state on -/
def gv (s e : Nat) (f : RF) (bs : List Bool) : Nat → RF
  | 0 => f
  | k + 1 => match (gv s e f bs k).wt with
    | none => gv s e f bs k
    | some _ => (gv s e f bs k).take s e (bs.getD k false)
theorem gv_next {s e : Nat} {f : RF} {bs : List Bool} {k : Nat} {q : Nat × Nat} (h : (gv s e f bs k).wt = some q) : gv s e f bs (k + 1) = (gv s e f bs k).take s e (bs.getD k false) := by
  show (match (gv s e f bs k).wt with
    | none => gv s e f bs k
    | some _ => (gv s e f bs k).take s e (bs.getD k false)) = _
  rw [h]
theorem gv_end {s e : Nat} {f : RF} {bs : List Bool} {k : Nat} (h : (gv s e f bs k).wt = none) : gv s e f bs (k + 1) = gv s e f bs k := by
  show (match (gv s e f bs k).wt with
    | none => gv s e f bs k
    | some _ => (gv s e f bs k).take s e (bs.getD k false)) = _
  rw [h]
theorem gv_good {s e : Nat} {f : RF} {row : List Nat} (g : Good s e row f) (bs : List Bool) : ∀ k, Good s e row (gv s e f bs k)
  | 0 => g
  | k + 1 => by
    have ih := gv_good g bs k
    cases h : (gv s e f bs k).wt with
    | none => rw [gv_end h]; exact ih
    | some q => rw [gv_next h]; exact ih.take (by rw [h]; exact Option.some_ne_none _) _
def gvq (s e : Nat) (f : RF) (bs : List Bool) (n : Nat) : List (Nat × Nat) := (List.range n).map fun i => ((gv s e f bs i).wt).getD (0, 0)
theorem gvq_len (s e : Nat) (f : RF) (bs : List Bool) (n : Nat) : (gvq s e f bs n).length = n := by
  unfold gvq
  rw [List.length_map, List.length_range]
theorem gvq_next {s e : Nat} {f : RF} {bs : List Bool} {n : Nat} {q : Nat × Nat} (h : (gv s e f bs n).wt = some q) : gvq s e f bs (n + 1) = gvq s e f bs n ++ [q] := by
  unfold gvq
  rw [List.range_succ, List.map_append, List.map_singleton, h]
  rfl
theorem gv_fed (size : Nat) (bs : List Bool) : ∀ k, gv 0 size (RF.init (List.range size) 0 size) bs k = fed size bs k
  | 0 => rfl
  | k + 1 => by
    have ih := gv_fed size bs k
    cases h : (fed size bs k).wt with
    | none => rw [fed_end h, gv_end (by rw [ih]; exact h), ih]
    | some q => rw [fed_next h, gv_next (by rw [ih]; exact h), ih]
theorem gvq_ask (size : Nat) (bs : List Bool) (n : Nat) : gvq 0 size (RF.init (List.range size) 0 size) bs n = askB size bs n := by
  unfold gvq askB
  exact List.map_congr_left fun i _ => by rw [gv_fed]
theorem gv_stps {s e : Nat} {f : RF} {ls : Nat × Nat → Bool} {bs : List Bool} : ∀ {k : Nat}, (∀ i q, i < k → (f.stps ls s e i).wt = some q → bs.getD i false = ls q) → gv s e f bs k = f.stps ls s e k
  | 0, _ => rfl
  | k + 1, h => by
    have ih := gv_stps (k := k) fun i q hi hq => h i q (by omega) hq
    cases hw : (f.stps ls s e k).wt with
    | none => rw [stps_end hw, gv_end (by rw [ih]; exact hw), ih]
    | some q => rw [stps_next hw, gv_next (by rw [ih]; exact hw), ih, h k q (by omega) hw]
end RF
/-- answers: a list or a tuple of bools -/
def AnsAt (H : Hp) (p : Addr) (bs : List Bool) : Prop := H p = some (.lst (bs.map V.bl)) ∨ H p = some (.tup (bs.map V.bl))
theorem AnsAt.same {H H' : Hp} {p : Addr} {bs : List Bool} (e : Same H H') (h : AnsAt H p bs) : AnsAt H' p bs := h.imp (e _ _) (e _ _)
theorem ans_item {bs : List Bool} {i : Nat} {x : V} (h : (bs.map V.bl)[i]? = some x) : ∃ z, bs[i]? = some z ∧ x = .bl z := by
  rw [List.getElem?_map] at h
  cases e : bs[i]? with
  | none => rw [e] at h; cases h
  | some z => rw [e] at h; exact ⟨z, rfl, (Option.some.inj h).symm⟩
theorem AnsAt.free {H : Hp} {p z : Addr} {bs : List Bool} (h : AnsAt H p bs) (n : H z = none) : p ≠ z := fun e => by
  rw [← e] at n
  rcases h with h | h
  · rw [h] at n; cases n
  · rw [h] at n; cases n
end L2

namespace L2
open PySem PySem.Spec PyProof.Rows
namespace RF
/-- the rows of answers of one length that lead to no end before -/
def ended (size : Nat) (bs : List Bool) : Bool := (fed size bs bs.length).wt.isNone
def openR (size : Nat) : Nat → List (List Bool)
  | 0 => [[]]
  | g + 1 => (openR size g).flatMap fun bs => if ended size bs then [] else [bs ++ [false], bs ++ [true]]
/-- the ends that have been found -/
def fnd (size : Nat) : Nat → List (List Bool)
  | 0 => []
  | g + 1 => fnd size g ++ (openR size g).filter (ended size)
def lens (size : Nat) : List Nat := (fnd size (2 * size + 1)).map List.length
def nxt (size : Nat) (bs : List Bool) : List (List Bool) := if ended size bs then [] else [bs ++ [false], bs ++ [true]]
theorem openR_mem {n : Nat} : ∀ {g : Nat} {bs : List Bool}, bs ∈ openR n g → bs.length = g ∧ ∀ i, i < g → (fed n bs i).wt ≠ none
  | 0, bs, h => by
    rw [show bs = [] from List.mem_singleton.mp h]
    exact ⟨rfl, fun i h => absurd h (Nat.not_lt_zero _)⟩
  | g + 1, bs, h => by
    obtain ⟨cs, hc, hb⟩ := List.mem_flatMap.mp h
    obtain ⟨l1, l2⟩ := openR_mem hc
    have key : ∀ b : Bool, ended n cs = false → bs = cs ++ [b] → bs.length = g + 1 ∧ ∀ i, i < g + 1 → (fed n bs i).wt ≠ none := fun b hn e => by
      subst e
      refine ⟨by rw [List.length_append, l1]; rfl, fun i hi => ?_⟩
      have ec : fed n (cs ++ [b]) i = fed n cs i := fed_congr fun x hx => by
        rw [List.getD_eq_getElem?_getD, List.getD_eq_getElem?_getD, List.getElem?_append_left (by omega)]
      rw [ec]
      by_cases e : i = g
      · unfold ended at hn
        rw [l1, ← e] at hn
        intro z
        rw [z] at hn
        cases hn
      · exact l2 i (by omega)
    by_cases hn : ended n cs = true
    · rw [if_pos hn] at hb
      cases hb
    · rw [if_neg hn] at hb
      have hn : ended n cs = false := by
        cases e : ended n cs with
        | false => rfl
        | true => exact absurd e hn
      rcases List.mem_cons.mp hb with e | hb
      · exact key false hn e
      · exact key true hn (List.mem_singleton.mp hb)
theorem openR_last {n : Nat} (z0 : 0 < n) (z1 : n ≤ 2000) : openR n (2 * n + 1) = [] := by
  cases e : openR n (2 * n + 1) with
  | nil => rfl
  | cons bs r =>
    have h : bs ∈ openR n (2 * n + 1) := by rw [e]; exact List.mem_cons_self ..
    obtain ⟨_, h2⟩ := openR_mem h
    have := fed_few z0 z1 bs h2
    omega
theorem flat_le (n : Nat) : ∀ L : List (List Bool), (L.flatMap (nxt n)).length ≤ 2 * L.length
  | [] => Nat.le_refl _
  | bs :: r => by
    have ih := flat_le n r
    rw [List.flatMap_cons, List.length_append, List.length_cons]
    have : (nxt n bs).length ≤ 2 := by
      unfold nxt
      split
      · exact Nat.zero_le _
      · exact Nat.le_refl 2
    omega
theorem openR_le (n : Nat) : ∀ g, (openR n g).length ≤ 2 ^ g
  | 0 => Nat.le_refl _
  | g + 1 => by
    have ih := openR_le n g
    have := flat_le n (openR n g)
    have e : (openR n (g + 1)).length ≤ 2 * (openR n g).length := this
    rw [Nat.pow_succ]
    omega
theorem fnd_le (n : Nat) : ∀ g, (fnd n g).length ≤ 2 ^ g
  | 0 => Nat.zero_le _
  | g + 1 => by
    have ih := fnd_le n g
    have h1 := openR_le n g
    have h2 := List.length_filter_le (ended n) (openR n g)
    show (fnd n g ++ (openR n g).filter (ended n)).length ≤ _
    rw [List.length_append, Nat.pow_succ]
    omega
end RF
/-- tuples stay -/
def TK (H H' : Hp) : Prop := ∀ t xs, H t = some (.tup xs) → H' t = some (.tup xs)
theorem TK.of {H H' : Hp} (s : Same H H') : TK H H' := fun t xs h => s _ _ h
theorem TK.trans {H H1 H2 : Hp} (a : TK H H1) (b : TK H1 H2) : TK H H2 := fun t xs h => b _ _ (a _ _ h)
theorem TK.put {H : Hp} {p : Addr} {xs ys : List V} (h : H p = some (.lst xs)) : TK H (upd H p (.lst ys)) := fun t zs ht => by
  rw [upd_ne (fun e => by rw [e, h] at ht; cases ht)]
  exact ht
/-- a list whose entries are told by a row -/
def LAt {β : Type} (R : Hp → V → β → Prop) (H : Hp) (p : Addr) (L : List β) : Prop := ∃ ts : List V, H p = some (.lst ts) ∧ ts.length = L.length ∧ ∀ (i : Nat) (v : V) (b : β), ts[i]? = some v → L[i]? = some b → R H v b
def RowT (H : Hp) (v : V) (bs : List Bool) : Prop := ∃ t, v = .ref t ∧ H t = some (.tup (bs.map V.bl))
def EndT (H : Hp) (v : V) (bs : List Bool) : Prop := ∃ t rt st, v = .ref t ∧ H t = some (.tup [.ref rt, .ref st]) ∧ H rt = some (.tup (bs.map V.bl))
theorem RowT.keep {H H' : Hp} {v : V} {bs : List Bool} (k : TK H H') (h : RowT H v bs) : RowT H' v bs := by
  obtain ⟨t, e, ht⟩ := h
  exact ⟨t, e, k _ _ ht⟩
theorem EndT.keep {H H' : Hp} {v : V} {bs : List Bool} (k : TK H H') (h : EndT H v bs) : EndT H' v bs := by
  obtain ⟨t, rt, st, e, ht, hr⟩ := h
  exact ⟨t, rt, st, e, k _ _ ht, k _ _ hr⟩
theorem LAt.keep {β : Type} {R : Hp → V → β → Prop} {H H' : Hp} {p : Addr} {L : List β} (hR : ∀ v b, R H v b → R H' v b) (hp : ∀ x, H p = some x → H' p = some x) (h : LAt R H p L) : LAt R H' p L := by
  obtain ⟨ts, h1, h2, h3⟩ := h
  exact ⟨ts, hp _ h1, h2, fun i v b e1 e2 => hR _ _ (h3 i v b e1 e2)⟩
theorem LAt.nil {β : Type} {R : Hp → V → β → Prop} {H : Hp} {p : Addr} (h : H p = some (.lst [])) : LAt R H p [] := ⟨[], h, rfl, fun i v b e => by simp at e⟩
theorem LAt.more {β : Type} {R : Hp → V → β → Prop} {H : Hp} {p : Addr} {L M : List β} {ts zs : List V} (hts : H p = some (.lst ts)) (h : LAt R H p L) (hR : ∀ v b, R H v b → R (upd H p (.lst (ts ++ zs))) v b) (hl : zs.length = M.length)
    (hz : ∀ (i : Nat) (v : V) (b : β), zs[i]? = some v → M[i]? = some b → R (upd H p (.lst (ts ++ zs))) v b) : LAt R (upd H p (.lst (ts ++ zs))) p (L ++ M) := by
  obtain ⟨ts', h1, h2, h3⟩ := h
  rw [hts] at h1
  cases h1
  refine ⟨ts ++ zs, upd_same, by rw [List.length_append, List.length_append, h2, hl], fun i v b e1 e2 => ?_⟩
  rcases Nat.lt_or_ge i ts.length with hi | hi
  · rw [List.getElem?_append_left hi] at e1
    rw [List.getElem?_append_left (by omega)] at e2
    exact hR _ _ (h3 i v b e1 e2)
  · rw [List.getElem?_append_right hi] at e1
    rw [List.getElem?_append_right (by omega), ← h2] at e2
    exact hz _ v b e1 e2
/-- the most questions, and that all ends together are one -/
def topR (n : Nat) : Nat := 2 * n - 2 - if n = 2 then 1 else 0
theorem lens_right : ∀ n, n < 7 → 0 < n → ((RF.lens n).map fun l => 2 ^ (topR n - l)).sum = 2 ^ topR n ∧ topR n ∈ RF.lens n ∧ ∀ l ∈ RF.lens n, l ≤ topR n := by decide +kernel
end L2

namespace L2
open PySem PySem.Spec PyProof.Rows
/-- len, said of one K (for a comprehension) -/
def rLenK (K : PySem.W.Frag) : List V → Hp → VK → Prop := fun xs H Q => ∃ p ys, xs = [.ref p] ∧ (SqL K H p ys ∨ SqT K H p ys) ∧ Q (.int ys.length) H
end L2

namespace L2
open PySem PySem.Spec PyProof.Rows
/-! ### placing: the state, step by step -/
structure PF where
  row : List Nat
  pl : Nat
  lo : Nat
  hi : Nat
  mid : Nat
  wt : Option (Nat × Nat)
namespace PF
def moved (row : List Nat) (lo pl : Nat) : List Nat := row.take lo ++ row.getD pl 0 :: ((row.drop lo).take (pl - lo) ++ row.drop (pl + 1))
def askM (f : PF) : PF := { f with mid := (f.lo + f.hi) / 2, wt := some (f.row.getD f.pl 0, f.row.getD ((f.lo + f.hi) / 2) 0) }
def begin (e : Nat) (f : PF) : PF := if f.pl < e then askM { f with lo := 0, hi := f.pl, wt := none } else { f with wt := none }
def put (e : Nat) (f : PF) : PF := begin e { f with row := moved f.row f.lo f.pl, pl := f.pl + 1 }
def half (b : Bool) (f : PF) : PF := if b = true then { f with hi := f.mid } else { f with lo := f.mid + 1 }
def take (e : Nat) (b : Bool) (f : PF) : PF := if (half b f).lo < (half b f).hi then askM (half b f) else put e (half b f)
def init (row : List Nat) (e rd : Nat) : PF := begin e { row := row, pl := max rd 1, lo := 0, hi := 0, mid := 0, wt := none }
/-- amid an item -/
structure Act (e : Nat) (f : PF) : Prop where
  pe : f.pl < e
  hp : f.hi ≤ f.pl
  lh : f.lo < f.hi
  md : f.mid = (f.lo + f.hi) / 2
  wq : f.wt = some (f.row.getD f.pl 0, f.row.getD f.mid 0)
structure Good (e : Nat) (row0 : List Nat) (f : PF) : Prop where
  len : f.row.length = e
  e64 : e ≤ 64
  p1 : 1 ≤ f.pl
  pm : f.row.Perm row0
  act : f.wt ≠ none → Act e f
  fin : f.wt = none → e ≤ f.pl
theorem moved_perm {row : List Nat} {lo pl : Nat} (h1 : lo ≤ pl) (h2 : pl < row.length) : (moved row lo pl).Perm row := by
  have e1 : row.take lo ++ ((row.drop lo).take (pl - lo) ++ row.getD pl 0 :: row.drop (pl + 1)) = row := by
    have a1 : row.drop pl = row.getD pl 0 :: row.drop (pl + 1) := by
      rw [List.drop_eq_getElem_cons h2]
      simp [List.getD_eq_getElem?_getD, List.getElem?_eq_getElem h2]
    have a2 : (row.drop lo).drop (pl - lo) = row.drop pl := by
      rw [List.drop_drop]
      congr 1
      omega
    rw [← a1, ← a2, List.take_append_drop, List.take_append_drop]
  unfold moved
  refine List.Perm.trans ?_ (List.Perm.of_eq e1)
  refine List.Perm.append_left _ ?_
  exact List.perm_middle.symm
theorem moved_len {row : List Nat} {lo pl : Nat} (h1 : lo ≤ pl) (h2 : pl < row.length) : (moved row lo pl).length = row.length := (moved_perm h1 h2).length_eq
theorem Good.begin {e : Nat} {row0 : List Nat} {f : PF} (l : f.row.length = e) (h64 : e ≤ 64) (p : 1 ≤ f.pl) (pm : f.row.Perm row0) : Good e row0 (begin e f) := by
  unfold PF.begin
  by_cases h : f.pl < e
  · rw [if_pos h]
    exact ⟨l, h64, p, pm, fun _ => ⟨h, Nat.le_refl _, p, rfl, rfl⟩, fun z => by cases z⟩
  · rw [if_neg h]
    exact ⟨l, h64, p, pm, fun z => absurd rfl z, fun _ => by show e ≤ f.pl; omega⟩
theorem Good.put {e : Nat} {row0 : List Nat} {f : PF} (l : f.row.length = e) (h64 : e ≤ 64) (h1 : f.lo ≤ f.pl) (h2 : f.pl < e) (pm : f.row.Perm row0) : Good e row0 (put e f) :=
  Good.begin (by show (moved f.row f.lo f.pl).length = e; rw [moved_len h1 (by omega)]; exact l) h64 (by show 1 ≤ f.pl + 1; omega) ((moved_perm h1 (by omega)).trans pm)
theorem half_row (b : Bool) (f : PF) : (half b f).row = f.row := by unfold half; split <;> rfl
theorem half_pl (b : Bool) (f : PF) : (half b f).pl = f.pl := by unfold half; split <;> rfl
theorem half_in {e : Nat} {f : PF} (a : Act e f) (b : Bool) : (half b f).lo ≤ (half b f).hi ∧ (half b f).hi ≤ f.pl := by
  have h1 := a.hp; have h2 := a.lh; have h3 := a.md
  unfold half
  split
  · exact ⟨by show f.lo ≤ f.mid; omega, by show f.mid ≤ f.pl; omega⟩
  · exact ⟨by show f.mid + 1 ≤ f.hi; omega, h1⟩
theorem Good.take {e : Nat} {row0 : List Nat} {f : PF} (g : Good e row0 f) (h : f.wt ≠ none) (b : Bool) : Good e row0 (take e b f) := by
  have a := g.act h
  obtain ⟨i1, i2⟩ := half_in a b
  unfold PF.take
  split
  · rename_i hl
    exact ⟨by show (half b f).row.length = e; rw [half_row]; exact g.len, g.e64, by show 1 ≤ (half b f).pl; rw [half_pl]; exact g.p1, by show (half b f).row.Perm row0; rw [half_row]; exact g.pm,
      fun _ => ⟨by show (half b f).pl < e; rw [half_pl]; exact a.pe, by show (half b f).hi ≤ (half b f).pl; rw [half_pl]; exact i2, hl, rfl, rfl⟩, fun z => by cases z⟩
  · exact Good.put (by rw [half_row]; exact g.len) g.e64 (by rw [half_pl]; omega) (by rw [half_pl]; exact a.pe) (by rw [half_row]; exact g.pm)
theorem Good.init {row : List Nat} {e rd : Nat} (l : row.length = e) (h64 : e ≤ 64) : Good e row (init row e rd) := Good.begin l h64 (Nat.le_max_right _ _) (List.Perm.refl _)
/-- by the keys -/
def stp (ls : Nat × Nat → Bool) (e : Nat) (f : PF) : PF := match f.wt with
  | none => f
  | some q => f.take e (ls q)
def stps (ls : Nat × Nat → Bool) (e : Nat) (f : PF) : Nat → PF
  | 0 => f
  | n + 1 => stp ls e (stps ls e f n)
theorem stps_next {ls : Nat × Nat → Bool} {e : Nat} {f : PF} {n : Nat} {q : Nat × Nat} (h : (f.stps ls e n).wt = some q) : f.stps ls e (n + 1) = (f.stps ls e n).take e (ls q) := by
  show PF.stp ls e (f.stps ls e n) = _
  unfold PF.stp
  rw [h]
theorem stps_end {ls : Nat × Nat → Bool} {e : Nat} {f : PF} {n : Nat} (h : (f.stps ls e n).wt = none) : f.stps ls e (n + 1) = f.stps ls e n := by
  show PF.stp ls e (f.stps ls e n) = _
  unfold PF.stp
  rw [h]
theorem Good.stps {e : Nat} {row0 : List Nat} {f : PF} (ls : Nat × Nat → Bool) (g : Good e row0 f) : ∀ n, Good e row0 (f.stps ls e n)
  | 0 => g
  | n + 1 => by
    have ih := Good.stps ls g n
    cases h : (f.stps ls e n).wt with
    | none => rw [stps_end h]; exact ih
    | some q => rw [stps_next h]; exact ih.take (by rw [h]; exact Option.some_ne_none _) _
def asks (ls : Nat × Nat → Bool) (e : Nat) (f : PF) (n : Nat) : List (Nat × Nat) := (List.range n).map fun i => ((f.stps ls e i).wt).getD (0, 0)
theorem asks_len (ls : Nat × Nat → Bool) (e : Nat) (f : PF) (n : Nat) : (f.asks ls e n).length = n := by
  unfold asks
  rw [List.length_map, List.length_range]
theorem asks_next {ls : Nat × Nat → Bool} {e : Nat} {f : PF} {n : Nat} {q : Nat × Nat} (h : (f.stps ls e n).wt = some q) : f.asks ls e (n + 1) = f.asks ls e n ++ [q] := by
  unfold asks
  rw [List.range_succ, List.map_append, List.map_singleton, h]
  rfl
theorem asks_at {ls : Nat × Nat → Bool} {e : Nat} {f : PF} {n i : Nat} (h : i < n) : (f.asks ls e n)[i]? = some (((f.stps ls e i).wt).getD (0, 0)) := by
  unfold asks
  rw [List.getElem?_map, List.getElem?_range h]
  rfl
/-- by answers of any kind -/
def gv (e : Nat) (f : PF) (bs : List Bool) : Nat → PF
  | 0 => f
  | k + 1 => match (gv e f bs k).wt with
    | none => gv e f bs k
    | some _ => (gv e f bs k).take e (bs.getD k false)
theorem gv_next {e : Nat} {f : PF} {bs : List Bool} {k : Nat} {q : Nat × Nat} (h : (gv e f bs k).wt = some q) : gv e f bs (k + 1) = (gv e f bs k).take e (bs.getD k false) := by
  show (match (gv e f bs k).wt with
    | none => gv e f bs k
    | some _ => (gv e f bs k).take e (bs.getD k false)) = _
  rw [h]
theorem gv_end {e : Nat} {f : PF} {bs : List Bool} {k : Nat} (h : (gv e f bs k).wt = none) : gv e f bs (k + 1) = gv e f bs k := by
  show (match (gv e f bs k).wt with
    | none => gv e f bs k
    | some _ => (gv e f bs k).take e (bs.getD k false)) = _
  rw [h]
theorem gv_stay {e : Nat} {f : PF} {bs : List Bool} {n : Nat} (h : (gv e f bs n).wt = none) : ∀ k, gv e f bs (n + k) = gv e f bs n
  | 0 => rfl
  | k + 1 => by
    have ih := gv_stay h k
    show gv e f bs ((n + k) + 1) = _
    rw [gv_end (by rw [ih]; exact h), ih]
theorem Good.gv {e : Nat} {row0 : List Nat} {f : PF} (g : Good e row0 f) (bs : List Bool) : ∀ k, Good e row0 (gv e f bs k)
  | 0 => g
  | k + 1 => by
    have ih := Good.gv g bs k
    cases h : (PF.gv e f bs k).wt with
    | none => rw [gv_end h]; exact ih
    | some q => rw [gv_next h]; exact ih.take (by rw [h]; exact Option.some_ne_none _) _
def gvq (e : Nat) (f : PF) (bs : List Bool) (n : Nat) : List (Nat × Nat) := (List.range n).map fun i => ((gv e f bs i).wt).getD (0, 0)
theorem gvq_len (e : Nat) (f : PF) (bs : List Bool) (n : Nat) : (gvq e f bs n).length = n := by
  unfold gvq
  rw [List.length_map, List.length_range]
theorem gvq_next {e : Nat} {f : PF} {bs : List Bool} {n : Nat} {q : Nat × Nat} (h : (gv e f bs n).wt = some q) : gvq e f bs (n + 1) = gvq e f bs n ++ [q] := by
  unfold gvq
  rw [List.range_succ, List.map_append, List.map_singleton, h]
  rfl
theorem gv_congr {e : Nat} {f : PF} {bs cs : List Bool} : ∀ {k : Nat}, (∀ i, i < k → bs.getD i false = cs.getD i false) → gv e f bs k = gv e f cs k
  | 0, _ => rfl
  | k + 1, h => by
    have ih := gv_congr (e := e) (f := f) (k := k) fun i hi => h i (by omega)
    cases hw : (gv e f bs k).wt with
    | none => rw [gv_end hw, gv_end (by rw [← ih]; exact hw), ih]
    | some q => rw [gv_next hw, gv_next (q := q) (by rw [← ih]; exact hw), ih, h k (by omega)]
theorem gv_stps {e : Nat} {f : PF} {ls : Nat × Nat → Bool} {bs : List Bool} : ∀ {k : Nat}, (∀ i q, i < k → (f.stps ls e i).wt = some q → bs.getD i false = ls q) → gv e f bs k = f.stps ls e k
  | 0, _ => rfl
  | k + 1, h => by
    have ih := gv_stps (k := k) fun i q hi hq => h i q (by omega) hq
    cases hw : (f.stps ls e k).wt with
    | none => rw [stps_end hw, gv_end (by rw [ih]; exact hw), ih]
    | some q => rw [stps_next hw, gv_next (q := q) (by rw [ih]; exact hw), ih, h k q (by omega) hw]
/-! how many questions -/
def bl (m : Nat) : Nat := if m = 0 then 0 else m.log2 + 1
theorem bl_half {m m' : Nat} (h : 0 < m) (h2 : m' ≤ m / 2) : bl m' + 1 ≤ bl m := by
  unfold bl
  rw [if_neg (by omega : m ≠ 0)]
  by_cases e : m' = 0
  · rw [if_pos e]
    omega
  · rw [if_neg e]
    have a1 : 2 ^ m'.log2 ≤ m' := Nat.log2_self_le e
    have : m'.log2 + 1 ≤ m.log2 := (Nat.le_log2 (by omega)).mpr (by rw [Nat.pow_succ]; omega)
    omega
theorem bl_63 {m : Nat} (h : m ≤ 63) : bl m ≤ 6 := by
  unfold bl
  split
  · omega
  · rename_i e
    have : m.log2 < 6 := (Nat.log2_lt e).mpr (by omega)
    omega
def phi (e : Nat) (f : PF) : Nat := if f.wt = none then 0 else bl (f.hi - f.lo) + 6 * (e - 1 - f.pl)
theorem phi_begin {e : Nat} {f : PF} (h64 : e ≤ 64) (h : 1 ≤ f.pl) : phi e (begin e f) ≤ 6 * (e - f.pl) := by
  unfold PF.begin
  by_cases hp : f.pl < e
  · rw [if_pos hp]
    unfold phi
    rw [if_neg (by intro z; cases z)]
    show bl (f.pl - 0) + 6 * (e - 1 - f.pl) ≤ _
    have := bl_63 (m := f.pl - 0) (by omega)
    omega
  · rw [if_neg hp]
    unfold phi
    rw [if_pos rfl]
    omega
theorem phi_take {e : Nat} {row0 : List Nat} {f : PF} (g : Good e row0 f) (h : f.wt ≠ none) (b : Bool) : phi e (take e b f) + 1 ≤ phi e f := by
  have a := g.act h
  have h1 := a.hp; have h2 := a.lh; have h3 := a.md; have h4 := a.pe; have h5 := g.e64
  have e1 : phi e f = bl (f.hi - f.lo) + 6 * (e - 1 - f.pl) := by unfold phi; rw [if_neg h]
  have hb : 1 ≤ bl (f.hi - f.lo) := by unfold bl; rw [if_neg (by omega)]; omega
  rw [e1]
  unfold PF.take
  split
  · rename_i hl
    have e2 : phi e (askM (half b f)) = bl ((half b f).hi - (half b f).lo) + 6 * (e - 1 - (half b f).pl) := by
      unfold phi
      rw [if_neg (by intro z; cases z)]
      rfl
    rw [e2, half_pl]
    have : bl ((half b f).hi - (half b f).lo) + 1 ≤ bl (f.hi - f.lo) := by
      refine bl_half (by omega) ?_
      unfold half
      split
      · show f.mid - f.lo ≤ _; omega
      · show f.hi - (f.mid + 1) ≤ _; omega
    omega
  · have : phi e (put e (half b f)) ≤ 6 * (e - ((half b f).pl + 1)) := phi_begin (f := { half b f with row := moved (half b f).row (half b f).lo (half b f).pl, pl := (half b f).pl + 1 }) h5 (by show 1 ≤ (half b f).pl + 1; omega)
    rw [half_pl] at this
    omega
theorem phi_init {row : List Nat} {e rd : Nat} (h64 : e ≤ 64) : phi e (init row e rd) ≤ 6 * (e - 1) := by
  have := phi_begin (e := e) (f := { row := row, pl := max rd 1, lo := 0, hi := 0, mid := 0, wt := none }) h64 (Nat.le_max_right _ _)
  have h2 : 1 ≤ max rd 1 := Nat.le_max_right _ _
  show phi e (begin e _) ≤ _
  refine Nat.le_trans this ?_
  show 6 * (e - max rd 1) ≤ 6 * (e - 1)
  omega
theorem phi_gv {e : Nat} {row0 : List Nat} {f : PF} (g : Good e row0 f) (bs : List Bool) : ∀ k, (∀ i, i < k → (gv e f bs i).wt ≠ none) → k + phi e (gv e f bs k) ≤ phi e f
  | 0, _ => by show 0 + phi e f ≤ phi e f; omega
  | k + 1, h => by
    have ih := phi_gv g bs k fun i hi => h i (by omega)
    have hk := h k (by omega)
    obtain ⟨q, hq⟩ := Option.ne_none_iff_exists'.mp hk
    have := phi_take (g.gv bs k) hk (bs.getD k false)
    rw [gv_next hq]
    omega
theorem few {row : List Nat} {e rd : Nat} {bs : List Bool} (l : row.length = e) (h64 : e ≤ 64) {k : Nat} (h : ∀ i, i < k → (gv e (init row e rd) bs i).wt ≠ none) : k ≤ 6 * (e - 1) := by
  have h1 := phi_gv (Good.init (rd := rd) l h64) bs k h
  have h2 := phi_init (row := row) (e := e) (rd := rd) h64
  omega
theorem Good.pmRange {e n : Nat} {row : List Nat} {f : PF} (g : Good e row f) (pm : row.Perm (List.range n)) : Good e (List.range n) f := ⟨g.len, g.e64, g.p1, g.pm.trans pm, g.act, g.fin⟩
theorem Good.items {e n : Nat} {f : PF} (g : Good e (List.range n) f) {q : Nat × Nat} (h : f.wt = some q) : q.1 < n ∧ q.2 < n ∧ q.1 ≠ q.2 := by
  have hne : f.wt ≠ none := by rw [h]; exact Option.some_ne_none _
  have a := g.act hne
  have h1 := a.hp; have h2 := a.lh; have h3 := a.md; have h4 := a.pe; have h5 := g.len
  rw [a.wq] at h
  have eq := (Option.some.inj h).symm
  subst eq
  have gd : ∀ i, i < f.row.length → f.row.getD i 0 = f.row[i]! := fun i hi => by simp [List.getD_eq_getElem?_getD, List.getElem?_eq_getElem hi, hi]
  have mem : ∀ i, i < f.row.length → f.row.getD i 0 < n := fun i hi => by
    have : f.row.getD i 0 ∈ f.row := by
      rw [List.getD_eq_getElem?_getD, List.getElem?_eq_getElem hi]
      exact List.getElem_mem hi
    exact List.mem_range.mp (g.pm.mem_iff.mp this)
  refine ⟨mem _ (by omega), mem _ (by omega), fun e0 => ?_⟩
  have nd : f.row.Nodup := g.pm.nodup_iff.mpr List.nodup_range
  have e1 : f.row[f.pl]'(by omega) = f.row[f.mid]'(by omega) := by
    have a1 : f.row.getD f.pl 0 = f.row[f.pl]'(by omega) := by rw [List.getD_eq_getElem?_getD, List.getElem?_eq_getElem (by omega)]; rfl
    have a2 : f.row.getD f.mid 0 = f.row[f.mid]'(by omega) := by rw [List.getD_eq_getElem?_getD, List.getElem?_eq_getElem (by omega)]; rfl
    rw [← a1, ← a2]
    exact e0
  have := (List.getElem_inj nd).mp e1
  omega
end PF
/-! ### the placer in the heap -/
def fldsP (r : Addr) (e : Nat) (f : PF) (wv : V) : List (Str × V) :=
  [("row", .ref r), ("start", .int 0), ("end", .int (e : Int)), ("place", .int (f.pl : Int)), ("low", .int (f.lo : Int)), ("high", .int (f.hi : Int)), ("middle", .int (f.mid : Int)), ("waiting", wv)]
def PAt (C : Addr) (H : Hp) (x r : Addr) (e : Nat) (f : PF) : Prop := x ≠ r ∧ ∃ dx wv, H x = some (.ins C dx (fldsP r e f wv)) ∧ WaitAt H wv f.wt ∧ H r = some (.lst (nV f.row))
theorem PAt.same {C : Addr} {H H' : Hp} {x r : Addr} {e : Nat} {f : PF} (h : PAt C H x r e f) (k : Same H H') : PAt C H' x r e f := by
  obtain ⟨n, dx, wv, hx, hw, hr⟩ := h
  exact ⟨n, dx, wv, k _ _ hx, hw.keep (fun _ _ _ => k _ _), k _ _ hr⟩
theorem PAt.set {C x r : Addr} {H : Hp} {e : Nat} {f : PF} {dx : Addr} {wv : V} (h : PAt C H x r e f) (hx : H x = some (.ins C dx (fldsP r e f wv))) (f' : PF) (wv' : V) (er : f'.row = f.row) (hw : WaitAt H wv' f'.wt) {w : List (Str × V)} (ew : w = fldsP r e f' wv') :
    PAt C (upd H x (.ins C dx w)) x r e f' ∧ upd H x (.ins C dx w) x = some (.ins C dx (fldsP r e f' wv')) ∧ Fr2 x r H (upd H x (.ins C dx w)) := by
  obtain ⟨n, _, _, _, _, hr⟩ := h
  subst ew
  refine ⟨⟨n, dx, wv', upd_same, hw.upd hx (fun i j e => by cases e), ?_⟩, upd_same, Fr2.putx⟩
  rw [upd_ne n.symm, er]
  exact hr
theorem PAt.putRow {C x r : Addr} {H : Hp} {e : Nat} {f : PF} (h : PAt C H x r e f) {row : List Nat} {w : List V} (ew : w = nV row) : PAt C (upd H r (.lst w)) x r e { f with row := row } := by
  obtain ⟨n, dx, wv, hx, hw, hr⟩ := h
  subst ew
  refine ⟨n, dx, wv, ?_, hw.upd hr (fun i j e => by cases e), upd_same⟩
  rw [upd_ne n]
  exact hx
end L2

namespace L2
open PySem PySem.Spec PyProof.Rows
/-! ### what placing tells, as data -/
def plD (b : Bool) (row : List Nat) (qs : List (Nat × Nat)) : PyData := .tuple [.bool b, .list ((row.map fun (i : Nat) => (i : Int)).map PyData.int), .list (qs.map pD)]
theorem shaped_pl (b : Bool) (row : List Nat) (qs : List (Nat × Nat)) : SeqAt.shaped (plD b row qs) = true := by
  unfold SeqAt.shaped
  rw [Bool.and_eq_true]
  constructor
  · show (PyData.canLay0 (.bool b) && (PyData.canLayAll0 ((row.map fun (i : Nat) => (i : Int)).map PyData.int) && (PyData.canLayAll0 (qs.map pD) && true))) = true
    rw [canLay_ints, canLay_pairs]
    rfl
  · refine decide_eq_true ?_
    show max (PyData.depth (.bool b)) (max (PyData.depthAll ((row.map fun (i : Nat) => (i : Int)).map PyData.int) + 1) (max (PyData.depthAll (qs.map pD) + 1) 0)) + 1 ≤ 64
    have h1 : PyData.depth (.bool b) = 0 := rfl
    have h2 := depth_pairs qs
    rw [depth_ints, h1]
    omega
theorem eqv_pl (b : Bool) (row : List Nat) (qs : List (Nat × Nat)) : PyData.eqv (plD b row qs) (plD b row qs) = true := SeqAt.eqv_refl _ (SeqAt.canLay_of_shaped (shaped_pl b row qs))
theorem dp_pl {K : PySem.W.Frag} {H : Hp} {t r l : Addr} {b : Bool} {row : List Nat} {qs : List (Nat × Nat)} (ht : H t = some (.tup [.bl b, .ref r, .ref l])) (hr : H r = some (.lst (nV row))) (hq : QAt H l qs) : Dp K H (.ref t) (plD b row qs) := by
  obtain ⟨ts, h1, h2, h3⟩ := hq
  exact .tup (L2.st_of ht) (.cons (.bl _) (.cons (dp_ints (by rw [← nV_map]; exact L2.sq_of hr)) (.cons (.lst (L2.sq_of h1) (dpAll_pairs h2 h3)) .nil)))
/-- taken out at one place, put in at another one -/
theorem ins_moved {row : List Nat} {lo pl : Nat} (h1 : lo ≤ pl) (h2 : pl < row.length) : ((nV row).eraseIdx pl).take lo ++ [.int ((row.getD pl 0 : Nat) : Int)] ++ ((nV row).eraseIdx pl).drop lo = nV (PF.moved row lo pl) := by
  have l1 : ((nV row).take pl).length = pl := by rw [List.length_take, List.length_map]; omega
  rw [List.eraseIdx_eq_take_drop_succ, List.take_append_of_le_length (by omega), List.drop_append_of_le_length (by omega), List.take_take, Nat.min_eq_left h1, List.drop_take]
  unfold PF.moved
  simp only [List.map_append, List.map_take, List.map_drop, List.map_cons, List.append_assoc, List.singleton_append]
namespace PF
theorem mid_eq {e : Nat} {f : PF} (a : Act e f) : f.lo + (f.hi - f.lo) / 2 = f.mid := by
  have h1 := a.lh; have h2 := a.md
  omega
/-- at the start of an item -/
def Fresh (f : PF) : Prop := f.wt ≠ none → f.lo = 0 ∧ f.hi = f.pl
theorem fresh_begin (e : Nat) (f : PF) : Fresh (begin e f) ∧ (begin e f).pl = f.pl ∧ (begin e f).row = f.row := by
  unfold PF.begin
  by_cases h : f.pl < e
  · rw [if_pos h]
    exact ⟨fun _ => ⟨rfl, rfl⟩, rfl, rfl⟩
  · rw [if_neg h]
    exact ⟨fun z => absurd rfl z, rfl, rfl⟩
theorem fresh_put (e : Nat) (f : PF) : Fresh (put e f) ∧ (put e f).pl = f.pl + 1 ∧ (put e f).row = moved f.row f.lo f.pl := fresh_begin e { f with row := moved f.row f.lo f.pl, pl := f.pl + 1 }
end PF
end L2

namespace L2
open PySem PySem.Spec PyProof.Rows
namespace PF
/-- the fewest questions of an item at this index -/
def fb (m : Nat) : Nat := (m + 1).log2
theorem fb_zero : fb 0 = 0 := by decide
theorem fb_half {m m' : Nat} (h : 0 < m) (h2 : (m + 1) / 2 ≤ m' + 1) : fb m ≤ fb m' + 1 := by
  unfold fb
  have e0 : m + 1 ≠ 0 := by omega
  have a1 : 2 ^ (m + 1).log2 ≤ m + 1 := Nat.log2_self_le e0
  by_cases z : (m + 1).log2 = 0
  · omega
  · have : (m + 1).log2 - 1 ≤ (m' + 1).log2 := (Nat.le_log2 (by omega)).mpr (by
      have e : 2 ^ (m + 1).log2 = 2 * 2 ^ ((m + 1).log2 - 1) := by
        rw [show (m + 1).log2 = ((m + 1).log2 - 1) + 1 by omega, Nat.pow_succ]
        simp only [Nat.add_sub_cancel]
        omega
      omega)
    omega
theorem fb_step {m : Nat} (h : 0 < m) : fb m = fb ((m - 1) / 2) + 1 := by
  have h1 := fb_half (m := m) (m' := (m - 1) / 2) h (by omega)
  have h2 : fb ((m - 1) / 2) + 1 ≤ fb m := by
    unfold fb
    have a1 : 2 ^ ((m - 1) / 2 + 1).log2 ≤ (m - 1) / 2 + 1 := Nat.log2_self_le (by omega)
    exact (Nat.le_log2 (by omega)).mpr (by rw [Nat.pow_succ]; omega)
  omega
theorem bl_step {m : Nat} (h : 0 < m) : bl m = bl (m / 2) + 1 := by
  have h1 := bl_half (m' := m / 2) h (Nat.le_refl _)
  have h2 : bl m ≤ bl (m / 2) + 1 := by
    unfold bl
    rw [if_neg (by omega : m ≠ 0)]
    by_cases e : m / 2 = 0
    · rw [if_pos e]
      have : m = 1 := by omega
      subst this
      decide
    · rw [if_neg e]
      have a1 : m / 2 < 2 ^ ((m / 2).log2 + 1) := (Nat.log2_lt e).mp (Nat.lt_succ_self _)
      have : m.log2 < (m / 2).log2 + 2 := (Nat.log2_lt (by omega)).mpr (by rw [Nat.pow_succ]; omega)
      omega
  omega
/-- added up from one index to the end -/
def S (g : Nat → Nat) (a n : Nat) : Nat := ((List.range (n - a)).map fun j => g (a + j)).sum
theorem S_end {g : Nat → Nat} {a n : Nat} (h : n ≤ a) : S g a n = 0 := by
  unfold S
  rw [Nat.sub_eq_zero_of_le h]
  rfl
theorem S_step {g : Nat → Nat} {a n : Nat} (h : a < n) : S g a n = g a + S g (a + 1) n := by
  unfold S
  have e : n - a = (n - (a + 1)) + 1 := by omega
  rw [e, List.range_succ_eq_map, List.map_cons, List.sum_cons, List.map_map, Nat.add_zero]
  congr 2
  exact List.map_congr_left fun j _ => by
    show g (a + (j + 1)) = g (a + 1 + j)
    congr 1
    omega
/-- what is still to come, at most and at least -/
def hiP (e : Nat) (f : PF) : Nat := if f.wt = none then 0 else bl (f.hi - f.lo) + S bl (f.pl + 1) e
def loP (e : Nat) (f : PF) : Nat := if f.wt = none then 0 else fb (f.hi - f.lo) + S fb (f.pl + 1) e
theorem hiP_begin {e : Nat} {f : PF} : hiP e (begin e f) = S bl f.pl e := by
  unfold PF.begin
  by_cases h : f.pl < e
  · rw [if_pos h, S_step h]
    unfold hiP
    rw [if_neg (by intro z; cases z)]
    rfl
  · rw [if_neg h, S_end (by omega)]
    unfold hiP
    rw [if_pos rfl]
theorem loP_begin {e : Nat} {f : PF} : loP e (begin e f) = S fb f.pl e := by
  unfold PF.begin
  by_cases h : f.pl < e
  · rw [if_pos h, S_step h]
    unfold loP
    rw [if_neg (by intro z; cases z)]
    rfl
  · rw [if_neg h, S_end (by omega)]
    unfold loP
    rw [if_pos rfl]
theorem hiP_put {e : Nat} {f : PF} : hiP e (put e f) = S bl (f.pl + 1) e := hiP_begin
theorem loP_put {e : Nat} {f : PF} : loP e (put e f) = S fb (f.pl + 1) e := loP_begin
theorem hiP_act {e : Nat} {f : PF} (h : f.wt ≠ none) : hiP e f = bl (f.hi - f.lo) + S bl (f.pl + 1) e := by unfold hiP; rw [if_neg h]
theorem loP_act {e : Nat} {f : PF} (h : f.wt ≠ none) : loP e f = fb (f.hi - f.lo) + S fb (f.pl + 1) e := by unfold loP; rw [if_neg h]
theorem hiP_half {e : Nat} {f : PF} (b : Bool) : hiP e (take e b f) = bl ((half b f).hi - (half b f).lo) + S bl (f.pl + 1) e := by
  unfold PF.take
  split
  · unfold hiP
    rw [if_neg (by intro z; cases z)]
    show bl ((half b f).hi - (half b f).lo) + S bl ((half b f).pl + 1) e = _
    rw [half_pl]
  · rename_i h
    rw [hiP_put, half_pl, Nat.sub_eq_zero_of_le (Nat.le_of_not_lt h)]
    show _ = bl 0 + _
    rw [show bl 0 = 0 from rfl, Nat.zero_add]
theorem loP_half {e : Nat} {f : PF} (b : Bool) : loP e (take e b f) = fb ((half b f).hi - (half b f).lo) + S fb (f.pl + 1) e := by
  unfold PF.take
  split
  · unfold loP
    rw [if_neg (by intro z; cases z)]
    show fb ((half b f).hi - (half b f).lo) + S fb ((half b f).pl + 1) e = _
    rw [half_pl]
  · rename_i h
    rw [loP_put, half_pl, Nat.sub_eq_zero_of_le (Nat.le_of_not_lt h), fb_zero, Nat.zero_add]
theorem hiP_take {e : Nat} {f : PF} (a : Act e f) (h : f.wt ≠ none) (b : Bool) : hiP e (take e b f) + 1 ≤ hiP e f := by
  have h2 := a.lh; have h3 := a.md
  rw [hiP_half, hiP_act h]
  have : bl ((half b f).hi - (half b f).lo) + 1 ≤ bl (f.hi - f.lo) := by
    refine bl_half (by omega) ?_
    unfold half
    split
    · show f.mid - f.lo ≤ _; omega
    · show f.hi - (f.mid + 1) ≤ _; omega
  omega
theorem loP_take {e : Nat} {f : PF} (a : Act e f) (h : f.wt ≠ none) (b : Bool) : loP e f ≤ loP e (take e b f) + 1 := by
  have h2 := a.lh; have h3 := a.md
  rw [loP_half, loP_act h]
  have : fb (f.hi - f.lo) ≤ fb ((half b f).hi - (half b f).lo) + 1 := by
    refine fb_half (by omega) ?_
    unfold half
    split
    · show _ ≤ f.mid - f.lo + 1; omega
    · show _ ≤ f.hi - (f.mid + 1) + 1; omega
  omega
theorem stps_hi {e : Nat} {row0 : List Nat} {f : PF} (ls : Nat × Nat → Bool) (g : Good e row0 f) : ∀ k, (∀ i, i < k → (f.stps ls e i).wt ≠ none) → k + hiP e (f.stps ls e k) ≤ hiP e f
  | 0, _ => by show 0 + hiP e f ≤ hiP e f; omega
  | k + 1, h => by
    have ih := stps_hi ls g k fun i hi => h i (by omega)
    have hk := h k (by omega)
    obtain ⟨q, hq⟩ := Option.ne_none_iff_exists'.mp hk
    have := hiP_take ((g.stps ls k).act hk) hk (ls q)
    rw [stps_next hq]
    omega
theorem stps_lo {e : Nat} {row0 : List Nat} {f : PF} (ls : Nat × Nat → Bool) (g : Good e row0 f) : ∀ k, (∀ i, i < k → (f.stps ls e i).wt ≠ none) → loP e f ≤ k + loP e (f.stps ls e k)
  | 0, _ => by show loP e f ≤ 0 + loP e f; omega
  | k + 1, h => by
    have ih := stps_lo ls g k fun i hi => h i (by omega)
    have hk := h k (by omega)
    obtain ⟨q, hq⟩ := Option.ne_none_iff_exists'.mp hk
    have := loP_take ((g.stps ls k).act hk) hk (ls q)
    rw [stps_next hq]
    omega
/-- the ends of a placing -/
theorem count_between {e rd N : Nat} {row : List Nat} (ls : Nat × Nat → Bool) (l : row.length = e) (h64 : e ≤ 64) (hw : ((init row e rd).stps ls e N).wt = none) (hbe : ∀ i, i < N → ((init row e rd).stps ls e i).wt ≠ none) : S fb (max rd 1) e ≤ N ∧ N ≤ S bl (max rd 1) e := by
  have g := Good.init (rd := rd) l h64
  have h1 := stps_hi ls g N hbe
  have h2 := stps_lo ls g N hbe
  have e1 : hiP e (init row e rd) = S bl (max rd 1) e := hiP_begin
  have e2 : loP e (init row e rd) = S fb (max rd 1) e := loP_begin
  have e3 : hiP e ((init row e rd).stps ls e N) = 0 := by unfold hiP; rw [if_pos hw]
  have e4 : loP e ((init row e rd).stps ls e N) = 0 := by unfold loP; rw [if_pos hw]
  omega
/-! all that stand stay -/
def Stay (e : Nat) (f : PF) : Prop := f.row = List.range e ∧ (f.wt ≠ none → f.hi = f.pl)
theorem moved_self {row : List Nat} {pl : Nat} (h : pl < row.length) : moved row pl pl = row := by
  unfold moved
  rw [Nat.sub_self, List.take_zero, List.nil_append]
  have a1 : row.drop pl = row.getD pl 0 :: row.drop (pl + 1) := by
    rw [List.drop_eq_getElem_cons h]
    simp [List.getD_eq_getElem?_getD, List.getElem?_eq_getElem h]
  rw [← a1, List.take_append_drop]
theorem Stay.begin {e : Nat} {f : PF} (h : f.row = List.range e) : Stay e (begin e f) := by
  unfold PF.begin
  split
  · exact ⟨h, fun _ => rfl⟩
  · exact ⟨h, fun z => absurd rfl z⟩
theorem stay_take {e : Nat} {f : PF} (a : Act e f) (h : f.wt ≠ none) (s : Stay e f) : Stay e (take e false f) ∧ loP e f = loP e (take e false f) + 1 := by
  have h1 := a.hp; have h2 := a.lh; have h3 := a.md; have h4 := a.pe
  have hh := s.2 h
  constructor
  · unfold PF.take
    split
    · exact ⟨s.1, fun _ => hh⟩
    · rename_i hl
      have el : f.mid + 1 = f.pl := by
        have hl : ¬ (f.mid + 1 < f.hi) := hl
        omega
      refine Stay.begin ?_
      show moved f.row (f.mid + 1) f.pl = _
      rw [el, s.1, moved_self (by rw [List.length_range]; exact h4)]
  · rw [loP_half, loP_act h]
    show _ = fb (f.hi - (f.mid + 1)) + _ + 1
    have e1 : f.hi - (f.mid + 1) = (f.hi - f.lo - 1) / 2 := by omega
    rw [e1, fb_step (by omega : 0 < f.hi - f.lo)]
    omega
theorem stay_stps {e : Nat} {row0 : List Nat} {f : PF} (ls : Nat × Nat → Bool) (hls : ∀ x y, y < x → x < e → ls (x, y) = false) (g : Good e row0 f) (s : Stay e f) : ∀ k, (∀ i, i < k → (f.stps ls e i).wt ≠ none) → Stay e (f.stps ls e k) ∧ loP e f = k + loP e (f.stps ls e k)
  | 0, _ => ⟨s, by show loP e f = 0 + loP e f; omega⟩
  | k + 1, h => by
    obtain ⟨s1, e1⟩ := stay_stps ls hls g s k fun i hi => h i (by omega)
    have hk := h k (by omega)
    obtain ⟨q, hq⟩ := Option.ne_none_iff_exists'.mp hk
    have a := (g.stps ls k).act hk
    have h1 := a.hp; have h2 := a.lh; have h3 := a.md; have h4 := a.pe
    have eq : q = ((f.stps ls e k).pl, (f.stps ls e k).mid) := by
      have := a.wq
      rw [hq, s1.1] at this
      have e2 : ∀ i, i < e → (List.range e).getD i 0 = i := fun i hi => by
        rw [List.getD_eq_getElem?_getD, List.getElem?_range hi]
        rfl
      rw [e2 _ h4, e2 _ (by omega)] at this
      exact Option.some.inj this
    have hf : ls q = false := by rw [eq]; exact hls _ _ (by omega) h4
    obtain ⟨t1, t2⟩ := stay_take a hk s1
    rw [stps_next hq, hf]
    exact ⟨t1, by omega⟩
theorem count_easy {e rd N : Nat} (ls : Nat × Nat → Bool) (hls : ∀ x y, y < x → x < e → ls (x, y) = false) (h64 : e ≤ 64) (hw : ((init (List.range e) e rd).stps ls e N).wt = none) (hbe : ∀ i, i < N → ((init (List.range e) e rd).stps ls e i).wt ≠ none) : N = S fb (max rd 1) e := by
  have g := Good.init (rd := rd) (row := List.range e) List.length_range h64
  obtain ⟨_, h2⟩ := stay_stps ls hls g (Stay.begin rfl) N hbe
  have e2 : loP e (init (List.range e) e rd) = S fb (max rd 1) e := loP_begin
  have e4 : loP e ((init (List.range e) e rd).stps ls e N) = 0 := by unfold loP; rw [if_pos hw]
  omega
/-! all go to the front -/
def Front (e m : Nat) (f : PF) : Prop := m ≤ f.pl ∧ f.row.drop f.pl = (List.range e).drop f.pl ∧ (∀ x ∈ f.row.take f.pl, x < f.pl) ∧ (f.wt ≠ none → f.lo = 0)
theorem Front.begin {e m : Nat} {f : PF} (h1 : m ≤ f.pl) (h2 : f.row.drop f.pl = (List.range e).drop f.pl) (h3 : ∀ x ∈ f.row.take f.pl, x < f.pl) : Front e m (begin e f) := by
  unfold PF.begin
  split
  · exact ⟨h1, h2, h3, fun _ => rfl⟩
  · exact ⟨h1, h2, h3, fun z => absurd rfl z⟩
theorem front_take {e m : Nat} {f : PF} (l : f.row.length = e) (a : Act e f) (h : f.wt ≠ none) (s : Front e m f) : Front e m (take e true f) ∧ hiP e f = hiP e (take e true f) + 1 := by
  have h1 := a.hp; have h2 := a.lh; have h3 := a.md; have h4 := a.pe
  obtain ⟨s1, s2, s3, s4⟩ := s
  have hl0 := s4 h
  constructor
  · unfold PF.take
    split
    · exact ⟨s1, s2, s3, fun _ => hl0⟩
    · have e0 : (half true f).lo = 0 := hl0
      have lm : (moved f.row 0 f.pl).length = e := by rw [moved_len (Nat.zero_le _) (by omega)]; exact l
      have em : moved f.row 0 f.pl = f.row.getD f.pl 0 :: (f.row.take f.pl ++ f.row.drop (f.pl + 1)) := by
        unfold moved
        rw [List.take_zero, List.nil_append, List.drop_zero, Nat.sub_zero]
      have ep : f.row.getD f.pl 0 = f.pl := by
        have a2 : f.row[f.pl]? = (f.row.drop f.pl)[0]? := by rw [List.getElem?_drop]; rfl
        rw [List.getD_eq_getElem?_getD, a2, s2, List.getElem?_drop, Nat.add_zero, List.getElem?_range h4]
        rfl
      have ltk : (f.row.take f.pl).length = f.pl := by rw [List.length_take]; omega
      refine Front.begin (by show m ≤ f.pl + 1; omega) ?_ ?_
      · show (moved f.row (half true f).lo f.pl).drop (f.pl + 1) = (List.range e).drop (f.pl + 1)
        rw [e0, em, List.drop_succ_cons, List.drop_left' ltk]
        have := congrArg (List.drop 1) s2
        rw [List.drop_drop, List.drop_drop] at this
        exact this
      · intro x hx
        have hx : x ∈ (moved f.row (half true f).lo f.pl).take (f.pl + 1) := hx
        rw [e0, em, List.take_succ_cons, List.take_left' ltk] at hx
        show x < f.pl + 1
        rcases List.mem_cons.mp hx with e | hx
        · omega
        · have := s3 x hx
          omega
  · rw [hiP_half, hiP_act h]
    show _ = bl (f.mid - f.lo) + _ + 1
    have e1 : f.mid - f.lo = (f.hi - f.lo) / 2 := by omega
    rw [e1, bl_step (by omega : 0 < f.hi - f.lo)]
    omega
theorem front_stps {e m : Nat} {row0 : List Nat} {f : PF} (ls : Nat × Nat → Bool) (hls : ∀ x y, m ≤ x → y < x → x < e → ls (x, y) = true) (g : Good e row0 f) (s : Front e m f) : ∀ k, (∀ i, i < k → (f.stps ls e i).wt ≠ none) → Front e m (f.stps ls e k) ∧ hiP e f = k + hiP e (f.stps ls e k)
  | 0, _ => ⟨s, by show hiP e f = 0 + hiP e f; omega⟩
  | k + 1, h => by
    obtain ⟨s1, e1⟩ := front_stps ls hls g s k fun i hi => h i (by omega)
    have hk := h k (by omega)
    obtain ⟨q, hq⟩ := Option.ne_none_iff_exists'.mp hk
    have gk := g.stps ls k
    have a := gk.act hk
    have h1 := a.hp; have h2 := a.lh; have h3 := a.md; have h4 := a.pe; have h5 := gk.len
    have hf : ls q = true := by
      have hwq := a.wq
      rw [hq] at hwq
      have ep : (f.stps ls e k).row.getD (f.stps ls e k).pl 0 = (f.stps ls e k).pl := by
        have a2 : (f.stps ls e k).row[(f.stps ls e k).pl]? = ((f.stps ls e k).row.drop (f.stps ls e k).pl)[0]? := by rw [List.getElem?_drop]; rfl
        rw [List.getD_eq_getElem?_getD, a2, s1.2.1, List.getElem?_drop, Nat.add_zero, List.getElem?_range h4]
        rfl
      have em : (f.stps ls e k).row.getD (f.stps ls e k).mid 0 ∈ (f.stps ls e k).row.take (f.stps ls e k).pl := by
        rw [List.getD_eq_getElem?_getD, List.getElem?_eq_getElem (by omega : (f.stps ls e k).mid < (f.stps ls e k).row.length)]
        show (f.stps ls e k).row[(f.stps ls e k).mid]'(by omega) ∈ _
        exact List.mem_take_iff_getElem.mpr ⟨(f.stps ls e k).mid, by omega, rfl⟩
      have hx := s1.2.2.1 _ em
      rw [Option.some.inj hwq, ep]
      exact hls _ _ s1.1 hx h4
    obtain ⟨t1, t2⟩ := front_take h5 a hk s1
    rw [stps_next hq, hf]
    exact ⟨t1, by omega⟩
theorem count_hard {e rd N : Nat} (ls : Nat × Nat → Bool) (hls : ∀ x y, max rd 1 ≤ x → y < x → x < e → ls (x, y) = true) (h64 : e ≤ 64) (hw : ((init (List.range e) e rd).stps ls e N).wt = none) (hbe : ∀ i, i < N → ((init (List.range e) e rd).stps ls e i).wt ≠ none) : N = S bl (max rd 1) e := by
  have g := Good.init (rd := rd) (row := List.range e) List.length_range h64
  have fr : Front e (max rd 1) (init (List.range e) e rd) := Front.begin (Nat.le_refl _) rfl fun x hx => by
    have hx : x ∈ (List.range e).take (max rd 1) := hx
    rw [List.take_range] at hx
    have := List.mem_range.mp hx
    show x < max rd 1
    omega
  obtain ⟨_, h2⟩ := front_stps ls hls g fr N hbe
  have e2 : hiP e (init (List.range e) e rd) = S bl (max rd 1) e := hiP_begin
  have e4 : hiP e ((init (List.range e) e rd).stps ls e N) = 0 := by unfold hiP; rw [if_pos hw]
  omega
/-! the ways to a place -/
def spots (place : Nat) : Nat → Nat → Nat → Nat
  | 0, _, _ => 0
  | k + 1, lo, hi => if lo < hi then (if place ≤ (lo + hi) / 2 then spots place k lo ((lo + hi) / 2) else spots place k ((lo + hi) / 2 + 1) hi) + 1 else 0
def way (i p : Nat) : Nat := spots p 64 0 i
theorem ways_right : ∀ i, i < 64 → 0 < i → way i 0 = bl i ∧ way i 1 = bl i ∧ way i i = fb i ∧ ∀ p, p < i + 1 → fb i ≤ way i p ∧ way i p ≤ bl i := by decide +kernel
end PF
end L2

namespace K16
open PySem PySem.Spec PyProof.Rows L2
def topS (i : Nat) : Stmt := PySem.Challenge.pw_askedorder_k16_fewest_and_most_placed.main.body.getD i (.Pass ⟨0, 0, 0, 0⟩)
abbrev s_ask_honestly : Stmt := topS 1
abbrev N_ask_honestly : List Str := ["machine", "keys", "questions", "one", "other"]
abbrev P_ask_honestly : List Str := ["machine", "keys"]
theorem sc_ask_honestly : FnScope N_ask_honestly P_ask_honestly (defScope s_ask_honestly) := ⟨rfl, rfl, rfl, by decide +kernel, rfl, by decide +kernel, by decide +kernel⟩
abbrev s_is_integer : Stmt := topS 8
abbrev N_is_integer : List Str := ["value"]
abbrev P_is_integer : List Str := ["value"]
theorem sc_is_integer : FnScope N_is_integer P_is_integer (defScope s_is_integer) := ⟨rfl, rfl, rfl, by decide +kernel, rfl, by decide +kernel, by decide +kernel⟩
abbrev s_is_within : Stmt := topS 9
abbrev N_is_within : List Str := ["value", "least", "most"]
abbrev P_is_within : List Str := ["value", "least", "most"]
theorem sc_is_within : FnScope N_is_within P_is_within (defScope s_is_within) := ⟨rfl, rfl, rfl, by decide +kernel, rfl, by decide +kernel, by decide +kernel⟩
abbrev s_check_keys : Stmt := topS 10
abbrev N_check_keys : List Str := ["keys", "fewest", "most", "index", "key"]
abbrev P_check_keys : List Str := ["keys", "fewest", "most"]
theorem sc_check_keys : FnScope N_check_keys P_check_keys (defScope s_check_keys) := ⟨rfl, rfl, rfl, by decide +kernel, rfl, by decide +kernel, by decide +kernel⟩
abbrev s_check_number : Stmt := topS 11
abbrev N_check_number : List Str := ["name", "value", "least", "most"]
abbrev P_check_number : List Str := ["name", "value", "least", "most"]
theorem sc_check_number : FnScope N_check_number P_check_number (defScope s_check_number) := ⟨rfl, rfl, rfl, by decide +kernel, rfl, by decide +kernel, by decide +kernel⟩
abbrev s_fewest_of_halving : Stmt := topS 13
abbrev N_fewest_of_halving : List Str := ["size"]
abbrev P_fewest_of_halving : List Str := ["size"]
theorem sc_fewest_of_halving : FnScope N_fewest_of_halving P_fewest_of_halving (defScope s_fewest_of_halving) := ⟨rfl, rfl, rfl, by decide +kernel, rfl, by decide +kernel, by decide +kernel⟩
abbrev s_most_of_halving : Stmt := topS 14
abbrev N_most_of_halving : List Str := ["size"]
abbrev P_most_of_halving : List Str := ["size"]
theorem sc_most_of_halving : FnScope N_most_of_halving P_most_of_halving (defScope s_most_of_halving) := ⟨rfl, rfl, rfl, by decide +kernel, rfl, by decide +kernel, by decide +kernel⟩
abbrev s_Placer___init__ : Stmt := inClass (topS 16) 0
abbrev N_Placer___init__ : List Str := ["self", "row", "start", "end", "ready"]
abbrev P_Placer___init__ : List Str := ["self", "row", "start", "end", "ready"]
theorem sc_Placer___init__ : FnScope N_Placer___init__ P_Placer___init__ (defScope s_Placer___init__) := ⟨rfl, rfl, rfl, by decide +kernel, rfl, by decide +kernel, by decide +kernel⟩
abbrev s_Placer_take : Stmt := inClass (topS 16) 1
abbrev N_Placer_take : List Str := ["self", "is_less"]
abbrev P_Placer_take : List Str := ["self", "is_less"]
theorem sc_Placer_take : FnScope N_Placer_take P_Placer_take (defScope s_Placer_take) := ⟨rfl, rfl, rfl, by decide +kernel, rfl, by decide +kernel, by decide +kernel⟩
abbrev s_Placer__begin_item : Stmt := inClass (topS 16) 2
abbrev N_Placer__begin_item : List Str := ["self"]
abbrev P_Placer__begin_item : List Str := ["self"]
theorem sc_Placer__begin_item : FnScope N_Placer__begin_item P_Placer__begin_item (defScope s_Placer__begin_item) := ⟨rfl, rfl, rfl, by decide +kernel, rfl, by decide +kernel, by decide +kernel⟩
abbrev s_Placer__ask_about_middle : Stmt := inClass (topS 16) 3
abbrev N_Placer__ask_about_middle : List Str := ["self"]
abbrev P_Placer__ask_about_middle : List Str := ["self"]
theorem sc_Placer__ask_about_middle : FnScope N_Placer__ask_about_middle P_Placer__ask_about_middle (defScope s_Placer__ask_about_middle) := ⟨rfl, rfl, rfl, by decide +kernel, rfl, by decide +kernel, by decide +kernel⟩
abbrev s_Placer__put : Stmt := inClass (topS 16) 4
abbrev N_Placer__put : List Str := ["self", "item"]
abbrev P_Placer__put : List Str := ["self"]
theorem sc_Placer__put : FnScope N_Placer__put P_Placer__put (defScope s_Placer__put) := ⟨rfl, rfl, rfl, by decide +kernel, rfl, by decide +kernel, by decide +kernel⟩
abbrev s_placed : Stmt := topS 19
abbrev N_placed : List Str := ["keys", "ready", "row", "questions"]
abbrev P_placed : List Str := ["keys", "ready"]
theorem sc_placed : FnScope N_placed P_placed (defScope s_placed) := ⟨rfl, rfl, rfl, by decide +kernel, rfl, by decide +kernel, by decide +kernel⟩
abbrev s_fewest_placing : Stmt := topS 20
abbrev N_fewest_placing : List Str := ["many", "ready", "index"]
abbrev P_fewest_placing : List Str := ["many", "ready"]
theorem sc_fewest_placing : FnScope N_fewest_placing P_fewest_placing (defScope s_fewest_placing) := ⟨rfl, rfl, rfl, by decide +kernel, rfl, by decide +kernel, by decide +kernel⟩
abbrev s_most_placing : Stmt := topS 21
abbrev N_most_placing : List Str := ["many", "ready", "index"]
abbrev P_most_placing : List Str := ["many", "ready"]
theorem sc_most_placing : FnScope N_most_placing P_most_placing (defScope s_most_placing) := ⟨rfl, rfl, rfl, by decide +kernel, rfl, by decide +kernel, by decide +kernel⟩
abbrev s_easy_keys : Stmt := topS 22
abbrev N_easy_keys : List Str := ["many", "ready"]
abbrev P_easy_keys : List Str := ["many", "ready"]
theorem sc_easy_keys : FnScope N_easy_keys P_easy_keys (defScope s_easy_keys) := ⟨rfl, rfl, rfl, by decide +kernel, rfl, by decide +kernel, by decide +kernel⟩
abbrev s_hard_keys : Stmt := topS 23
abbrev N_hard_keys : List Str := ["many", "ready", "index"]
abbrev P_hard_keys : List Str := ["many", "ready"]
theorem sc_hard_keys : FnScope N_hard_keys P_hard_keys (defScope s_hard_keys) := ⟨rfl, rfl, rfl, by decide +kernel, rfl, by decide +kernel, by decide +kernel⟩
abbrev s_placed_indexes : Stmt := topS 24
abbrev N_placed_indexes : List Str := ["many", "ready"]
abbrev P_placed_indexes : List Str := ["many", "ready"]
theorem sc_placed_indexes : FnScope N_placed_indexes P_placed_indexes (defScope s_placed_indexes) := ⟨rfl, rfl, rfl, by decide +kernel, rfl, by decide +kernel, by decide +kernel⟩
abbrev s_check_placing : Stmt := topS 25
abbrev N_check_placing : List Str := ["keys", "ready"]
abbrev P_check_placing : List Str := ["keys", "ready"]
theorem sc_check_placing : FnScope N_check_placing P_check_placing (defScope s_check_placing) := ⟨rfl, rfl, rfl, by decide +kernel, rfl, by decide +kernel, by decide +kernel⟩
abbrev s_check_numbers : Stmt := topS 26
abbrev N_check_numbers : List Str := ["many", "ready"]
abbrev P_check_numbers : List Str := ["many", "ready"]
theorem sc_check_numbers : FnScope N_check_numbers P_check_numbers (defScope s_check_numbers) := ⟨rfl, rfl, rfl, by decide +kernel, rfl, by decide +kernel, by decide +kernel⟩
abbrev s_source : Stmt := topS 28
abbrev N_source : List Str := ["cell"]
abbrev P_source : List Str := ["cell"]
theorem sc_source : FnScope N_source P_source (defScope s_source) := ⟨rfl, rfl, rfl, by decide +kernel, rfl, by decide +kernel, by decide +kernel⟩
abbrev s_draw : Stmt := topS 29
abbrev N_draw : List Str := ["source", "size", "digit", "mixed"]
abbrev P_draw : List Str := ["source", "size"]
theorem sc_draw : FnScope N_draw P_draw (defScope s_draw) := ⟨rfl, rfl, rfl, by decide +kernel, rfl, by decide +kernel, by decide +kernel⟩
abbrev s_pick : Stmt := topS 30
abbrev N_pick : List Str := ["source", "items"]
abbrev P_pick : List Str := ["source", "items"]
theorem sc_pick : FnScope N_pick P_pick (defScope s_pick) := ⟨rfl, rfl, rfl, by decide +kernel, rfl, by decide +kernel, by decide +kernel⟩
abbrev s_keys : Stmt := topS 31
abbrev N_keys : List Str := ["source", "size", "wide", "way", "given", "index", "step"]
abbrev P_keys : List Str := ["source", "size"]
theorem sc_keys : FnScope N_keys P_keys (defScope s_keys) := ⟨rfl, rfl, rfl, by decide +kernel, rfl, by decide +kernel, by decide +kernel⟩
abbrev s_spots : Stmt := topS 32
abbrev N_spots : List Str := ["index", "place", "low", "high", "found", "middle"]
abbrev P_spots : List Str := ["index", "place"]
theorem sc_spots : FnScope N_spots P_spots (defScope s_spots) := ⟨rfl, rfl, rfl, by decide +kernel, rfl, by decide +kernel, by decide +kernel⟩
abbrev s_ways : Stmt := topS 33
abbrev N_ways : List Str := ["index", "ways", "place"]
abbrev P_ways : List Str := ["index"]
theorem sc_ways : FnScope N_ways P_ways (defScope s_ways) := ⟨rfl, rfl, rfl, by decide +kernel, rfl, by decide +kernel, by decide +kernel⟩
abbrev s_is_rising : Stmt := topS 34
abbrev N_is_rising : List Str := ["given", "first", "k"]
abbrev P_is_rising : List Str := ["given", "first"]
theorem sc_is_rising : FnScope N_is_rising P_is_rising (defScope s_is_rising) := ⟨rfl, rfl, rfl, by decide +kernel, rfl, by decide +kernel, by decide +kernel⟩
abbrev s_right : Stmt := topS 35
abbrev N_right : List Str := ["size", "first", "ways", "few", "index", "top", "easy", "hard", "given", "due"]
abbrev P_right : List Str := ["size", "first", "ways"]
theorem sc_right : FnScope N_right P_right (defScope s_right) := ⟨rfl, rfl, rfl, by decide +kernel, rfl, by decide +kernel, by decide +kernel⟩
abbrev s_law : Stmt := topS 36
abbrev N_law : List Str := ["script", "ways", "index", "size", "cell", "source", "go", "first", "given"]
abbrev P_law : List Str := ["script"]
theorem sc_law : FnScope N_law P_law (defScope s_law) := ⟨rfl, rfl, rfl, by decide +kernel, rfl, by decide +kernel, by decide +kernel⟩
def kg_easy_keys_0_many_ready {α : Type} : List α → List α → List α
  | [], [a, b] => [a, b]
  | _, _ => []
theorem kg_vals_easy_keys_0_many_ready : ∀ {vs zs : List V} {us ws : List Value}, Vals vs us → Vals zs ws → Vals (kg_easy_keys_0_many_ready vs zs) (kg_easy_keys_0_many_ready us ws)
  | _, _, _, _, .nil, .cons r_a (.cons r_b .nil) => .cons r_a (.cons r_b .nil)
  | _, _, _, _, .cons _ _, _ => .nil
  | _, _, _, _, .nil, .nil => .nil
  | _, _, _, _, .nil, .cons _ .nil => .nil
  | _, _, _, _, .nil, .cons _ (.cons _ (.cons _ _)) => .nil
def kg_fewest_placing_0_ready_many {α : Type} : List α → List α → List α
  | [], [a, b] => [b, a]
  | _, _ => []
theorem kg_vals_fewest_placing_0_ready_many : ∀ {vs zs : List V} {us ws : List Value}, Vals vs us → Vals zs ws → Vals (kg_fewest_placing_0_ready_many vs zs) (kg_fewest_placing_0_ready_many us ws)
  | _, _, _, _, .nil, .cons r_a (.cons r_b .nil) => .cons r_b (.cons r_a .nil)
  | _, _, _, _, .cons _ _, _ => .nil
  | _, _, _, _, .nil, .nil => .nil
  | _, _, _, _, .nil, .cons _ .nil => .nil
  | _, _, _, _, .nil, .cons _ (.cons _ (.cons _ _)) => .nil
def kg_hard_keys_0_ready_many {α : Type} : List α → List α → List α
  | [], [a, b] => [b, a]
  | _, _ => []
theorem kg_vals_hard_keys_0_ready_many : ∀ {vs zs : List V} {us ws : List Value}, Vals vs us → Vals zs ws → Vals (kg_hard_keys_0_ready_many vs zs) (kg_hard_keys_0_ready_many us ws)
  | _, _, _, _, .nil, .cons r_a (.cons r_b .nil) => .cons r_b (.cons r_a .nil)
  | _, _, _, _, .cons _ _, _ => .nil
  | _, _, _, _, .nil, .nil => .nil
  | _, _, _, _, .nil, .cons _ .nil => .nil
  | _, _, _, _, .nil, .cons _ (.cons _ (.cons _ _)) => .nil
def kg_most_placing_0_ready_many {α : Type} : List α → List α → List α
  | [], [a, b] => [b, a]
  | _, _ => []
theorem kg_vals_most_placing_0_ready_many : ∀ {vs zs : List V} {us ws : List Value}, Vals vs us → Vals zs ws → Vals (kg_most_placing_0_ready_many vs zs) (kg_most_placing_0_ready_many us ws)
  | _, _, _, _, .nil, .cons r_a (.cons r_b .nil) => .cons r_b (.cons r_a .nil)
  | _, _, _, _, .cons _ _, _ => .nil
  | _, _, _, _, .nil, .nil => .nil
  | _, _, _, _, .nil, .cons _ .nil => .nil
  | _, _, _, _, .nil, .cons _ (.cons _ (.cons _ _)) => .nil
structure Ad where
  (ask_honestly : Addr) (is_integer : Addr) (is_within : Addr) (check_keys : Addr) (check_number : Addr) (fewest_of_halving : Addr) (most_of_halving : Addr) (Placer___init__ : Addr) (Placer_take : Addr) (Placer__begin_item : Addr) (Placer__ask_about_middle : Addr) (Placer__put : Addr) (placed : Addr) (fewest_placing : Addr) (most_placing : Addr) (easy_keys : Addr) (hard_keys : Addr) (placed_indexes : Addr) (check_placing : Addr) (check_numbers : Addr) (source : Addr) (draw : Addr) (pick : Addr) (keys : Addr) (spots : Addr) (ways : Addr) (is_rising : Addr) (right : Addr) (law : Addr) (t_MOST_PLACED : Tok) (c_Placer : Addr)
structure Fd where
  (ask_honestly : FuncData) (is_integer : FuncData) (is_within : FuncData) (check_keys : FuncData) (check_number : FuncData) (fewest_of_halving : FuncData) (most_of_halving : FuncData) (Placer___init__ : FuncData) (Placer_take : FuncData) (Placer__begin_item : FuncData) (Placer__ask_about_middle : FuncData) (Placer__put : FuncData) (placed : FuncData) (fewest_placing : FuncData) (most_placing : FuncData) (easy_keys : FuncData) (hard_keys : FuncData) (placed_indexes : FuncData) (check_placing : FuncData) (check_numbers : FuncData) (source : FuncData) (draw : FuncData) (pick : FuncData) (keys : FuncData) (spots : FuncData) (ways : FuncData) (is_rising : FuncData) (right : FuncData) (law : FuncData)
/-- what the top has written -/
structure Txt (K : PySem.W.Frag) (mg : Str → Option Value) (a : Ad) (d : Fd) : Prop where
  g_ask_honestly : mg "ask_honestly" = some (.ref a.ask_honestly)
  k_ask_honestly : PySem.W.keepIn K (.ref a.ask_honestly) = true
  f_ask_honestly : Fun K "ask_honestly" "ask_honestly" s_ask_honestly a.ask_honestly d.ask_honestly
  b_ask_honestly : Binds K d.ask_honestly P_ask_honestly []
  g_is_integer : mg "is_integer" = some (.ref a.is_integer)
  k_is_integer : PySem.W.keepIn K (.ref a.is_integer) = true
  f_is_integer : Fun K "is_integer" "is_integer" s_is_integer a.is_integer d.is_integer
  b_is_integer : Binds K d.is_integer P_is_integer []
  g_is_within : mg "is_within" = some (.ref a.is_within)
  k_is_within : PySem.W.keepIn K (.ref a.is_within) = true
  f_is_within : Fun K "is_within" "is_within" s_is_within a.is_within d.is_within
  b_is_within : Binds K d.is_within P_is_within []
  g_check_keys : mg "check_keys" = some (.ref a.check_keys)
  k_check_keys : PySem.W.keepIn K (.ref a.check_keys) = true
  f_check_keys : FunV K "check_keys" "check_keys" s_check_keys a.check_keys d.check_keys
  b_check_keys : Binds K d.check_keys P_check_keys []
  g_check_number : mg "check_number" = some (.ref a.check_number)
  k_check_number : PySem.W.keepIn K (.ref a.check_number) = true
  f_check_number : FunV K "check_number" "check_number" s_check_number a.check_number d.check_number
  b_check_number : Binds K d.check_number P_check_number []
  g_fewest_of_halving : mg "fewest_of_halving" = some (.ref a.fewest_of_halving)
  k_fewest_of_halving : PySem.W.keepIn K (.ref a.fewest_of_halving) = true
  f_fewest_of_halving : Fun K "fewest_of_halving" "fewest_of_halving" s_fewest_of_halving a.fewest_of_halving d.fewest_of_halving
  b_fewest_of_halving : Binds K d.fewest_of_halving P_fewest_of_halving []
  g_most_of_halving : mg "most_of_halving" = some (.ref a.most_of_halving)
  k_most_of_halving : PySem.W.keepIn K (.ref a.most_of_halving) = true
  f_most_of_halving : Fun K "most_of_halving" "most_of_halving" s_most_of_halving a.most_of_halving d.most_of_halving
  b_most_of_halving : Binds K d.most_of_halving P_most_of_halving []
  m_Placer___init__ : Meth K a.c_Placer "__init__" a.Placer___init__
  f_Placer___init__ : Fun K "__init__" "Placer.__init__" s_Placer___init__ a.Placer___init__ d.Placer___init__
  b_Placer___init__ : Binds K d.Placer___init__ P_Placer___init__ []
  m_Placer_take : Meth K a.c_Placer "take" a.Placer_take
  f_Placer_take : Fun K "take" "Placer.take" s_Placer_take a.Placer_take d.Placer_take
  b_Placer_take : Binds K d.Placer_take P_Placer_take []
  m_Placer__begin_item : Meth K a.c_Placer "_begin_item" a.Placer__begin_item
  f_Placer__begin_item : Fun K "_begin_item" "Placer._begin_item" s_Placer__begin_item a.Placer__begin_item d.Placer__begin_item
  b_Placer__begin_item : Binds K d.Placer__begin_item P_Placer__begin_item []
  m_Placer__ask_about_middle : Meth K a.c_Placer "_ask_about_middle" a.Placer__ask_about_middle
  f_Placer__ask_about_middle : Fun K "_ask_about_middle" "Placer._ask_about_middle" s_Placer__ask_about_middle a.Placer__ask_about_middle d.Placer__ask_about_middle
  b_Placer__ask_about_middle : Binds K d.Placer__ask_about_middle P_Placer__ask_about_middle []
  m_Placer__put : Meth K a.c_Placer "_put" a.Placer__put
  f_Placer__put : Fun K "_put" "Placer._put" s_Placer__put a.Placer__put d.Placer__put
  b_Placer__put : Binds K d.Placer__put P_Placer__put []
  g_placed : mg "placed" = some (.ref a.placed)
  k_placed : PySem.W.keepIn K (.ref a.placed) = true
  f_placed : Fun K "placed" "placed" s_placed a.placed d.placed
  b_placed : Binds K d.placed P_placed []
  g_fewest_placing : mg "fewest_placing" = some (.ref a.fewest_placing)
  k_fewest_placing : PySem.W.keepIn K (.ref a.fewest_placing) = true
  f_fewest_placing : Fun K "fewest_placing" "fewest_placing" s_fewest_placing a.fewest_placing d.fewest_placing
  b_fewest_placing : Binds K d.fewest_placing P_fewest_placing []
  kn_fewest_placing_0_ready_many : KBn K d.fewest_placing P_fewest_placing 0 ["ready", "many"] (fun us ws => kg_fewest_placing_0_ready_many us ws) (fun us ws => kg_fewest_placing_0_ready_many us ws)
  g_most_placing : mg "most_placing" = some (.ref a.most_placing)
  k_most_placing : PySem.W.keepIn K (.ref a.most_placing) = true
  f_most_placing : Fun K "most_placing" "most_placing" s_most_placing a.most_placing d.most_placing
  b_most_placing : Binds K d.most_placing P_most_placing []
  kn_most_placing_0_ready_many : KBn K d.most_placing P_most_placing 0 ["ready", "many"] (fun us ws => kg_most_placing_0_ready_many us ws) (fun us ws => kg_most_placing_0_ready_many us ws)
  g_easy_keys : mg "easy_keys" = some (.ref a.easy_keys)
  k_easy_keys : PySem.W.keepIn K (.ref a.easy_keys) = true
  f_easy_keys : Fun K "easy_keys" "easy_keys" s_easy_keys a.easy_keys d.easy_keys
  b_easy_keys : Binds K d.easy_keys P_easy_keys []
  kn_easy_keys_0_many_ready : KBn K d.easy_keys P_easy_keys 0 ["many", "ready"] (fun us ws => kg_easy_keys_0_many_ready us ws) (fun us ws => kg_easy_keys_0_many_ready us ws)
  g_hard_keys : mg "hard_keys" = some (.ref a.hard_keys)
  k_hard_keys : PySem.W.keepIn K (.ref a.hard_keys) = true
  f_hard_keys : Fun K "hard_keys" "hard_keys" s_hard_keys a.hard_keys d.hard_keys
  b_hard_keys : Binds K d.hard_keys P_hard_keys []
  kn_hard_keys_0_ready_many : KBn K d.hard_keys P_hard_keys 0 ["ready", "many"] (fun us ws => kg_hard_keys_0_ready_many us ws) (fun us ws => kg_hard_keys_0_ready_many us ws)
  g_placed_indexes : mg "_placed_indexes" = some (.ref a.placed_indexes)
  k_placed_indexes : PySem.W.keepIn K (.ref a.placed_indexes) = true
  f_placed_indexes : Fun K "_placed_indexes" "_placed_indexes" s_placed_indexes a.placed_indexes d.placed_indexes
  b_placed_indexes : Binds K d.placed_indexes P_placed_indexes []
  g_check_placing : mg "_check_placing" = some (.ref a.check_placing)
  k_check_placing : PySem.W.keepIn K (.ref a.check_placing) = true
  f_check_placing : Fun K "_check_placing" "_check_placing" s_check_placing a.check_placing d.check_placing
  b_check_placing : Binds K d.check_placing P_check_placing []
  g_check_numbers : mg "_check_numbers" = some (.ref a.check_numbers)
  k_check_numbers : PySem.W.keepIn K (.ref a.check_numbers) = true
  f_check_numbers : Fun K "_check_numbers" "_check_numbers" s_check_numbers a.check_numbers d.check_numbers
  b_check_numbers : Binds K d.check_numbers P_check_numbers []
  g_source : mg "_law_source" = some (.ref a.source)
  k_source : PySem.W.keepIn K (.ref a.source) = true
  f_source : Fun K "_law_source" "_law_source" s_source a.source d.source
  b_source : Binds K d.source P_source []
  g_draw : mg "_law_draw" = some (.ref a.draw)
  k_draw : PySem.W.keepIn K (.ref a.draw) = true
  f_draw : Fun K "_law_draw" "_law_draw" s_draw a.draw d.draw
  b_draw : Binds K d.draw P_draw []
  g_pick : mg "_law_pick" = some (.ref a.pick)
  k_pick : PySem.W.keepIn K (.ref a.pick) = true
  f_pick : Fun K "_law_pick" "_law_pick" s_pick a.pick d.pick
  b_pick : Binds K d.pick P_pick []
  g_keys : mg "_law_keys" = some (.ref a.keys)
  k_keys : PySem.W.keepIn K (.ref a.keys) = true
  f_keys : Fun K "_law_keys" "_law_keys" s_keys a.keys d.keys
  b_keys : Binds K d.keys P_keys []
  g_spots : mg "_law_spots" = some (.ref a.spots)
  k_spots : PySem.W.keepIn K (.ref a.spots) = true
  f_spots : Fun K "_law_spots" "_law_spots" s_spots a.spots d.spots
  b_spots : Binds K d.spots P_spots []
  g_ways : mg "_law_ways" = some (.ref a.ways)
  k_ways : PySem.W.keepIn K (.ref a.ways) = true
  f_ways : Fun K "_law_ways" "_law_ways" s_ways a.ways d.ways
  b_ways : Binds K d.ways P_ways []
  g_is_rising : mg "_law_is_rising" = some (.ref a.is_rising)
  k_is_rising : PySem.W.keepIn K (.ref a.is_rising) = true
  f_is_rising : Fun K "_law_is_rising" "_law_is_rising" s_is_rising a.is_rising d.is_rising
  b_is_rising : Binds K d.is_rising P_is_rising []
  g_right : mg "_law_right" = some (.ref a.right)
  k_right : PySem.W.keepIn K (.ref a.right) = true
  f_right : Fun K "_law_right" "_law_right" s_right a.right d.right
  b_right : Binds K d.right P_right []
  g_law : mg "law" = some (.ref a.law)
  k_law : PySem.W.keepIn K (.ref a.law) = true
  f_law : Fun K "law" "law" s_law a.law d.law
  b_law : Binds K d.law P_law []
  g_MOST_PLACED : mg "MOST_PLACED" = some (.int 64 a.t_MOST_PLACED)
  z_abs : mg "abs" = none
  z_bool : mg "bool" = none
  z_enumerate : mg "enumerate" = none
  z_int : mg "int" = none
  z_isinstance : mg "isinstance" = none
  z_len : mg "len" = none
  z_list : mg "list" = none
  z_max : mg "max" = none
  z_min : mg "min" = none
  z_range : mg "range" = none
  z_sorted : mg "sorted" = none
  z_sum : mg "sum" = none
  z_tuple : mg "tuple" = none
  cl_Placer : Cls K a.c_Placer
  g_Placer : mg "Placer" = some (.ref a.c_Placer)
  mk_Placer : Mk K a.c_Placer a.Placer___init__
  n_row : NoAttr K a.c_Placer "row"
  n_start : NoAttr K a.c_Placer "start"
  n_end : NoAttr K a.c_Placer "end"
  n_place : NoAttr K a.c_Placer "place"
  n_low : NoAttr K a.c_Placer "low"
  n_high : NoAttr K a.c_Placer "high"
  n_middle : NoAttr K a.c_Placer "middle"
  n_waiting : NoAttr K a.c_Placer "waiting"
/-! keywords -/
theorem kbn_fewest_placing_0_ready_many {K : PySem.W.Frag} {f : Addr} {fd : FuncData} (F : Fun K "fewest_placing" "fewest_placing" s_fewest_placing f fd) : KBn K fd P_fewest_placing 0 ["ready", "many"] (fun us ws => kg_fewest_placing_0_ready_many us ws) (fun us ws => kg_fewest_placing_0_ready_many us ws) := by
  obtain ⟨oc, od, kV, doc, pm, an, cdv, ct, osl, rfl, lk, hcd⟩ := F.ex
  refine ⟨fun s us ws _ h1 h2 => ?_, fun {vs us zs ws} r1 r2 => ?_⟩
  · match us, ws, h1, h2 with
    | [], [_, _], _, _ => exact .of_eq rfl
  · exact kg_vals_fewest_placing_0_ready_many r1 r2
theorem kbn_most_placing_0_ready_many {K : PySem.W.Frag} {f : Addr} {fd : FuncData} (F : Fun K "most_placing" "most_placing" s_most_placing f fd) : KBn K fd P_most_placing 0 ["ready", "many"] (fun us ws => kg_most_placing_0_ready_many us ws) (fun us ws => kg_most_placing_0_ready_many us ws) := by
  obtain ⟨oc, od, kV, doc, pm, an, cdv, ct, osl, rfl, lk, hcd⟩ := F.ex
  refine ⟨fun s us ws _ h1 h2 => ?_, fun {vs us zs ws} r1 r2 => ?_⟩
  · match us, ws, h1, h2 with
    | [], [_, _], _, _ => exact .of_eq rfl
  · exact kg_vals_most_placing_0_ready_many r1 r2
theorem kbn_easy_keys_0_many_ready {K : PySem.W.Frag} {f : Addr} {fd : FuncData} (F : Fun K "easy_keys" "easy_keys" s_easy_keys f fd) : KBn K fd P_easy_keys 0 ["many", "ready"] (fun us ws => kg_easy_keys_0_many_ready us ws) (fun us ws => kg_easy_keys_0_many_ready us ws) := by
  obtain ⟨oc, od, kV, doc, pm, an, cdv, ct, osl, rfl, lk, hcd⟩ := F.ex
  refine ⟨fun s us ws _ h1 h2 => ?_, fun {vs us zs ws} r1 r2 => ?_⟩
  · match us, ws, h1, h2 with
    | [], [_, _], _, _ => exact .of_eq rfl
  · exact kg_vals_easy_keys_0_many_ready r1 r2
theorem kbn_hard_keys_0_ready_many {K : PySem.W.Frag} {f : Addr} {fd : FuncData} (F : Fun K "hard_keys" "hard_keys" s_hard_keys f fd) : KBn K fd P_hard_keys 0 ["ready", "many"] (fun us ws => kg_hard_keys_0_ready_many us ws) (fun us ws => kg_hard_keys_0_ready_many us ws) := by
  obtain ⟨oc, od, kV, doc, pm, an, cdv, ct, osl, rfl, lk, hcd⟩ := F.ex
  refine ⟨fun s us ws _ h1 h2 => ?_, fun {vs us zs ws} r1 r2 => ?_⟩
  · match us, ws, h1, h2 with
    | [], [_, _], _, _ => exact .of_eq rfl
  · exact kg_vals_hard_keys_0_ready_many r1 r2
end K16

namespace K16
open PySem PySem.Spec PyProof.Rows L2
def spP0 (C : Addr) (pre : Nat → PF → Prop) (fn : Nat → PF → PF) : Sp := fun vs H Q _ => ∃ (x r : Addr) (e : Nat) (f : PF), vs = [.ref x] ∧ PAt C H x r e f ∧ f.row.length = e ∧ e ≤ 64 ∧ pre e f ∧ ∀ H', PAt C H' x r e (fn e f) → Fr2 x r H H' → Q .non H'
def spP1 (C : Addr) : Sp := fun vs H Q _ => ∃ (x r : Addr) (e : Nat) (row0 : List Nat) (f : PF) (b : Bool), vs = [.ref x, .bl b] ∧ PAt C H x r e f ∧ PF.Good e row0 f ∧ f.wt ≠ none ∧ ∀ H', PAt C H' x r e (f.take e b) → Fr2 x r H H' → Q .non H'
def spInitP (C : Addr) : Sp := fun vs H Q _ => ∃ (x dx r : Addr) (e rd : Nat) (row : List Nat), vs = [.ref x, .ref r, .int 0, .int (e : Int), .int (rd : Int)] ∧ H x = some (.ins C dx []) ∧ H r = some (.lst (nV row)) ∧ x ≠ r ∧ row.length = e ∧ e ≤ 64 ∧ ∀ H', PAt C H' x r e (PF.init row e rd) → Fr2 x r H H' → Q .non H'
theorem nV_moved {row : List Nat} {lo pl : Nat} (h1 : lo ≤ pl) (h2 : pl < row.length) : ((nV row).take (lo + 1) ++ ((nV row).drop lo).take (pl - lo) ++ (nV row).drop (pl + 1)).set lo (.int ((row.getD pl 0 : Nat) : Int)) = nV (PF.moved row lo pl) := by
  have l1 : ((nV row).take lo).length = lo := by rw [List.length_take, List.length_map]; omega
  have e1 : (nV row).take (lo + 1) = (nV row).take lo ++ [.int ((row.getD lo 0 : Nat) : Int)] := by
    rw [List.take_succ, List.getElem?_map, List.getElem?_eq_getElem (by omega)]
    simp [List.getD_eq_getElem?_getD, List.getElem?_eq_getElem (show lo < row.length by omega)]
  rw [e1, List.append_assoc, List.append_assoc, List.set_append_right _ _ (by omega), l1, Nat.sub_self]
  unfold PF.moved
  simp only [List.map_append, List.map_take, List.map_drop, List.map_cons, List.singleton_append, List.set_cons_zero]
section
variable {P : Program} {w : World} {K : PySem.W.Frag} {mg : Str → Option Value} {base : Heap} {a : Ad} {d : Fd}
theorem ok_askM (T : Txt K mg a d) : FnOk P w K mg base CX0 1 a.Placer__ask_about_middle d.Placer__ask_about_middle P_Placer__ask_about_middle (spP0 a.c_Placer (fun e f => f.pl < e ∧ f.hi ≤ f.pl ∧ f.lo < f.hi) fun _ f => PF.askM f) := by
  refine T.f_Placer__ask_about_middle.ok sc_Placer__ask_about_middle (fun vs H Q E h => ?_) (fun cdv A outer s0 H vs Q E hr h => ?_)
  · obtain ⟨x, r, e, f, rfl, _⟩ := h
    rfl
  · obtain ⟨x, r, e, f, rfl, hF, hl, h64, ⟨hp, hh, hlh⟩, q⟩ := h
    refine ⟨_, (pss_cons (ps_fld (pv 0) (pe_op op_fdivW (pe_op op_add (pe_fld (pv 0) rfl) (pe_fld (pv 0) rfl)) pe_int) rfl)
    (pss_one (ps_fld (pv 0) (pe_tup (pa_cons (pe_ix ix_list (pe_fld (pv 0) rfl) (pe_fld (pv 0) rfl) (fun _ _ => rfl)) (pa_cons (pe_ix ix_list (pe_fld (pv 0) rfl) (pe_fld (pv 0) rfl) (fun _ _ => rfl)) pa_nil))) rfl))), ?_⟩
    obtain ⟨n, dx, wv, hx, hw, hrw⟩ := id hF
    refine ⟨_, rfl, x, a.c_Placer, dx, _, _, rfl, hx, T.cl_Placer, T.n_low, rfl, ?_⟩
    refine ⟨_, rfl, x, a.c_Placer, dx, _, _, rfl, hx, T.cl_Placer, T.n_high, rfl, ?_⟩
    refine ⟨_, _, rfl, rfl, _, _, rfl, rfl, wide_div (b := 64) (by decide) (by decide) (by decide) (by decide), ?_⟩
    refine ⟨_, rfl, x, a.c_Placer, dx, _, rfl, hx, T.cl_Placer, T.n_middle, by show 8 < 1000; decide, ?_⟩
    have em : ((f.lo : Int) + (f.hi : Int)) / 2 = (((f.lo + f.hi) / 2 : Nat) : Int) := by omega
    obtain ⟨F1, hx1, fr1⟩ := hF.set hx { f with mid := (f.lo + f.hi) / 2 } wv rfl hw (w := putF "middle" (.int (((f.lo : Int) + (f.hi : Int)) / 2)) (fldsP r e f wv)) (by rw [em]; rfl)
    try dsimp only
    generalize upd H x (.ins a.c_Placer dx (putF "middle" (.int (((f.lo : Int) + (f.hi : Int)) / 2)) (fldsP r e f wv))) = H1 at F1 hx1 fr1 ⊢
    obtain ⟨_, _, _, _, hw1, hrw1⟩ := id F1
    have hrw1 : H1 r = some (.lst (nV f.row)) := hrw1
    refine ⟨_, rfl, x, a.c_Placer, dx, _, _, rfl, hx1, T.cl_Placer, T.n_row, rfl, ?_⟩
    refine ⟨_, rfl, x, a.c_Placer, dx, _, _, rfl, hx1, T.cl_Placer, T.n_place, rfl, ?_⟩
    refine ⟨r, _, _, _, rfl, rfl, L2.sq_of hrw1, nV_get (by show f.pl < f.row.length; omega), ?_⟩
    refine ⟨_, rfl, x, a.c_Placer, dx, _, _, rfl, hx1, T.cl_Placer, T.n_row, rfl, ?_⟩
    refine ⟨_, rfl, x, a.c_Placer, dx, _, _, rfl, hx1, T.cl_Placer, T.n_middle, rfl, ?_⟩
    refine ⟨r, _, _, _, rfl, rfl, L2.sq_of hrw1, nV_get (by show (f.lo + f.hi) / 2 < f.row.length; omega), ?_⟩
    refine ⟨by show 2 ≤ sizeLine; decide, fun t ht => ?_⟩
    have s1 := same_upd (o := .tup [.int ((f.row.getD f.pl 0 : Nat) : Int), .int ((f.row.getD ((f.lo + f.hi) / 2) 0 : Nat) : Int)]) ht
    have hT : upd H1 t (.tup [.int ((f.row.getD f.pl 0 : Nat) : Int), .int ((f.row.getD ((f.lo + f.hi) / 2) 0 : Nat) : Int)]) t = some (.tup [.int ((f.row.getD f.pl 0 : Nat) : Int), .int ((f.row.getD ((f.lo + f.hi) / 2) 0 : Nat) : Int)]) := upd_same
    generalize upd H1 t (.tup [.int ((f.row.getD f.pl 0 : Nat) : Int), .int ((f.row.getD ((f.lo + f.hi) / 2) 0 : Nat) : Int)]) = H2 at s1 hT ⊢
    have hx2 := s1 _ _ hx1
    refine ⟨_, rfl, x, a.c_Placer, dx, _, rfl, hx2, T.cl_Placer, T.n_waiting, by show 8 < 1000; decide, ?_⟩
    obtain ⟨F3, hx3, fr3⟩ := (F1.same s1).set hx2 (PF.askM f) (.ref t) rfl ⟨t, rfl, hT⟩ (w := putF "waiting" (.ref t) (fldsP r e { f with mid := (f.lo + f.hi) / 2 } wv)) rfl
    exact q _ F3 ((fr1.trans (Fr2.of s1)).trans fr3)
theorem ok_beginP (T : Txt K mg a d) : FnOk P w K mg base CX0 2 a.Placer__begin_item d.Placer__begin_item P_Placer__begin_item (spP0 a.c_Placer (fun _ f => 1 ≤ f.pl) PF.begin) := by
  have G_Placer__ask_about_middle : FnOk P w K mg base CX0 1 a.Placer__ask_about_middle d.Placer__ask_about_middle P_Placer__ask_about_middle (spP0 a.c_Placer (fun e f => f.pl < e ∧ f.hi ≤ f.pl ∧ f.lo < f.hi) fun _ f => PF.askM f) := ok_askM T
  refine T.f_Placer__begin_item.ok sc_Placer__begin_item (fun vs H Q E h => ?_) (fun cdv A outer s0 H vs Q E hr h => ?_)
  · obtain ⟨x, r, e, f, rfl, _⟩ := h
    rfl
  · obtain ⟨x, r, e, f, rfl, hF, hl, h64, p1, q⟩ := h
    refine ⟨_, (pss_cons (ps_fld (pv 0) pe_non rfl)
    (pss_one (ps_if (pt_cmpR op_lt (pe_fld (pv 0) rfl) (pe_fld (pv 0) rfl) (nomark _)) (pss_cons (ps_fld (pv 0) (pe_fld (pv 0) rfl) rfl)
      (pss_cons (ps_fld (pv 0) (pe_fld (pv 0) rfl) rfl)
      (pss_one (ps_expr (pe_meth0 (pv 0) T.cl_Placer T.m_Placer__ask_about_middle G_Placer__ask_about_middle (hr.mono (by decide)) T.b_Placer__ask_about_middle .nil pass0))))) pss_nil))), ?_⟩
    obtain ⟨n, dx, wv, hx, hw, hrw⟩ := id hF
    refine ⟨_, rfl, x, a.c_Placer, dx, _, rfl, hx, T.cl_Placer, T.n_waiting, by show 8 < 1000; decide, ?_⟩
    obtain ⟨F1, hx1, fr1⟩ := hF.set hx { f with wt := none } .non rfl rfl (w := putF "waiting" .non (fldsP r e f wv)) rfl
    generalize upd H x (.ins a.c_Placer dx (putF "waiting" .non (fldsP r e f wv))) = H1 at F1 hx1 fr1 ⊢
    refine ⟨_, rfl, x, a.c_Placer, dx, _, _, rfl, hx1, T.cl_Placer, T.n_place, rfl, ?_⟩
    refine ⟨_, rfl, x, a.c_Placer, dx, _, _, rfl, hx1, T.cl_Placer, T.n_end, rfl, ?_⟩
    refine ⟨_, _, rfl, rfl, decide (f.pl < e), congrArg V.bl (by simp), ?_⟩
    by_cases h0 : f.pl < e
    · rw [decide_eq_true h0]
      refine iteT ?_
      refine ⟨_, rfl, x, a.c_Placer, dx, _, _, rfl, hx1, T.cl_Placer, T.n_start, rfl, ?_⟩
      refine ⟨_, rfl, x, a.c_Placer, dx, _, rfl, hx1, T.cl_Placer, T.n_low, by show 8 < 1000; decide, ?_⟩
      obtain ⟨F2, hx2, fr2⟩ := F1.set hx1 { f with wt := none, lo := 0 } .non rfl rfl (w := putF "low" (.int 0) (fldsP r e { f with wt := none } .non)) rfl
      generalize upd H1 x (.ins a.c_Placer dx (putF "low" (.int 0) (fldsP r e { f with wt := none } .non))) = H2 at F2 hx2 fr2 ⊢
      refine ⟨_, rfl, x, a.c_Placer, dx, _, _, rfl, hx2, T.cl_Placer, T.n_place, rfl, ?_⟩
      refine ⟨_, rfl, x, a.c_Placer, dx, _, rfl, hx2, T.cl_Placer, T.n_high, by show 8 < 1000; decide, ?_⟩
      obtain ⟨F3, hx3, fr3⟩ := F2.set hx2 { f with wt := none, lo := 0, hi := f.pl } .non rfl rfl (w := putF "high" (.int (f.pl : Int)) (fldsP r e { f with wt := none, lo := 0 } .non)) rfl
      generalize upd H2 x (.ins a.c_Placer dx (putF "high" (.int (f.pl : Int)) (fldsP r e { f with wt := none, lo := 0 } .non))) = H3 at F3 hx3 fr3 ⊢
      refine ⟨_, rfl, x, dx, _, rfl, hx3, rfl, x, r, e, _, rfl, F3, hl, h64, ⟨h0, Nat.le_refl _, p1⟩, fun H4 F4 fr4 => ?_⟩
      refine q _ ?_ (((fr1.trans fr2).trans fr3).trans fr4)
      unfold PF.begin
      rw [if_pos h0]
      exact F4
    · rw [decide_eq_false h0]
      refine iteF (q _ ?_ fr1)
      unfold PF.begin
      rw [if_neg h0]
      exact F1
theorem ok_put (T : Txt K mg a d) : FnOk P w K mg base CX0 3 a.Placer__put d.Placer__put P_Placer__put (spP0 a.c_Placer (fun e f => f.lo ≤ f.pl ∧ f.pl < e) PF.put) := by
  have G_Placer__begin_item : FnOk P w K mg base CX0 2 a.Placer__begin_item d.Placer__begin_item P_Placer__begin_item (spP0 a.c_Placer (fun _ f => 1 ≤ f.pl) PF.begin) := ok_beginP T
  refine T.f_Placer__put.ok sc_Placer__put (fun vs H Q E h => ?_) (fun cdv A outer s0 H vs Q E hr h => ?_)
  · obtain ⟨x, r, e, f, rfl, _⟩ := h
    rfl
  · obtain ⟨x, r, e, f, rfl, hF, hl, h64, ⟨hlp, hpe⟩, q⟩ := h
    refine ⟨_, (pss_cons (ps_set (i := 1) sc_Placer__put.nd rfl (Or.inl rfl) (pe_ix ix_list (pe_fld (pv 0) rfl) (pe_fld (pv 0) rfl) (fun _ _ => rfl)))
    (pss_cons (ps_asg (pe_slice sl_list (pe_fld (pv 0) rfl) (po_some (pe_fld (pv 0) rfl)) (po_some (pe_fld (pv 0) rfl))) (pg_slice (pe_fld (pv 0) rfl) (po_some (pe_op op_add (pe_fld (pv 0) rfl) pe_int)) (po_some (pe_op op_add (pe_fld (pv 0) rfl) pe_int))))
    (pss_cons (ps_asg (pv 1) (pg_sub (pe_fld (pv 0) rfl) (pe_fld (pv 0) rfl) set_list))
    (pss_cons (ps_fldaug (pv 0) pe_int in_add)
    (pss_one (ps_expr (pe_meth0 (pv 0) T.cl_Placer T.m_Placer__begin_item G_Placer__begin_item (hr.mono (by decide)) T.b_Placer__begin_item .nil pass0))))))), ?_⟩
    obtain ⟨n, dx, wv, hx, hw, hrw⟩ := id hF
    have ln : (nV f.row).length = f.row.length := List.length_map _
    refine ⟨_, rfl, x, a.c_Placer, dx, _, _, rfl, hx, T.cl_Placer, T.n_row, rfl, ?_⟩
    refine ⟨_, rfl, x, a.c_Placer, dx, _, _, rfl, hx, T.cl_Placer, T.n_place, rfl, ?_⟩
    refine ⟨r, _, _, _, rfl, rfl, L2.sq_of hrw, nV_get (by omega), ?_⟩
    refine ⟨_, rfl, x, a.c_Placer, dx, _, _, rfl, hx, T.cl_Placer, T.n_row, rfl, ?_⟩
    refine ⟨_, rfl, x, a.c_Placer, dx, _, _, rfl, hx, T.cl_Placer, T.n_low, rfl, _, rfl, ?_⟩
    refine ⟨_, rfl, x, a.c_Placer, dx, _, _, rfl, hx, T.cl_Placer, T.n_place, rfl, _, rfl, ?_⟩
    refine ⟨r, _, rfl, L2.sq_of hrw, fun b hb => ?_⟩
    rw [cut_mid _ _ _ hlp (by omega)]
    have s1 := same_upd (o := .lst (((nV f.row).drop f.lo).take (f.pl - f.lo))) hb
    have hb1 : upd H b (.lst (((nV f.row).drop f.lo).take (f.pl - f.lo))) b = some (.lst (((nV f.row).drop f.lo).take (f.pl - f.lo))) := upd_same
    have nrb : r ≠ b := fun e => by rw [← e, hrw] at hb; cases hb
    generalize upd H b (.lst (((nV f.row).drop f.lo).take (f.pl - f.lo))) = H1 at s1 hb1 ⊢
    have hx1 := s1 _ _ hx
    have hrw1 := s1 _ _ hrw
    refine ⟨_, rfl, x, a.c_Placer, dx, _, _, rfl, hx1, T.cl_Placer, T.n_row, rfl, ?_⟩
    refine ⟨_, rfl, x, a.c_Placer, dx, _, _, rfl, hx1, T.cl_Placer, T.n_low, rfl, _, _, rfl, rfl, _, rfl, ?_⟩
    refine ⟨_, rfl, x, a.c_Placer, dx, _, _, rfl, hx1, T.cl_Placer, T.n_place, rfl, _, _, rfl, rfl, _, rfl, ?_⟩
    have lc : (((nV f.row).drop f.lo).take (f.pl - f.lo)).length ≤ 64 := by
      rw [List.length_take, List.length_drop, ln]
      omega
    refine ⟨r, b, _, _, (f.lo : Int) + 1, (f.pl : Int) + 1, rfl, rfl, rfl, rfl, hrw1, hb1, nrb, by omega, by omega, by rw [ln]; omega, ?_, ?_⟩
    · rw [ln]
      exact Nat.le_trans (by omega : _ ≤ 128) (by decide)
    have t1 : ((f.lo : Int) + 1).toNat = f.lo + 1 := by omega
    have t2 : ((f.pl : Int) + 1).toNat = f.pl + 1 := by omega
    rw [t1, t2]
    have hrw2 : upd H1 r (.lst ((nV f.row).take (f.lo + 1) ++ ((nV f.row).drop f.lo).take (f.pl - f.lo) ++ (nV f.row).drop (f.pl + 1))) r = some (.lst ((nV f.row).take (f.lo + 1) ++ ((nV f.row).drop f.lo).take (f.pl - f.lo) ++ (nV f.row).drop (f.pl + 1))) := upd_same
    have hx2 : upd H1 r (.lst ((nV f.row).take (f.lo + 1) ++ ((nV f.row).drop f.lo).take (f.pl - f.lo) ++ (nV f.row).drop (f.pl + 1))) x = some (.ins a.c_Placer dx (fldsP r e f wv)) := by rw [upd_ne n]; exact hx1
    have fr2 : Fr2 x r H (upd H1 r (.lst ((nV f.row).take (f.lo + 1) ++ ((nV f.row).drop f.lo).take (f.pl - f.lo) ++ (nV f.row).drop (f.pl + 1)))) := (Fr2.of s1).trans Fr2.putr
    have back : PAt a.c_Placer (upd (upd H1 r (.lst ((nV f.row).take (f.lo + 1) ++ ((nV f.row).drop f.lo).take (f.pl - f.lo) ++ (nV f.row).drop (f.pl + 1)))) r (.lst (nV (PF.moved f.row f.lo f.pl)))) x r e { f with row := PF.moved f.row f.lo f.pl } := by
      have eu : upd (upd H1 r (.lst ((nV f.row).take (f.lo + 1) ++ ((nV f.row).drop f.lo).take (f.pl - f.lo) ++ (nV f.row).drop (f.pl + 1)))) r (.lst (nV (PF.moved f.row f.lo f.pl))) = upd H1 r (.lst (nV (PF.moved f.row f.lo f.pl))) := by
        funext z
        by_cases hz : z = r
        · rw [hz, upd_same, upd_same]
        · rw [upd_ne hz, upd_ne hz, upd_ne hz]
      rw [eu]
      exact (hF.same s1).putRow rfl
    generalize upd H1 r (.lst ((nV f.row).take (f.lo + 1) ++ ((nV f.row).drop f.lo).take (f.pl - f.lo) ++ (nV f.row).drop (f.pl + 1))) = H2 at hrw2 hx2 fr2 back ⊢
    refine ⟨_, rfl, ?_⟩
    refine ⟨_, rfl, x, a.c_Placer, dx, _, _, rfl, hx2, T.cl_Placer, T.n_row, rfl, ?_⟩
    refine ⟨_, rfl, x, a.c_Placer, dx, _, _, rfl, hx2, T.cl_Placer, T.n_low, rfl, ?_⟩
    have ll : ((nV f.row).take (f.lo + 1) ++ ((nV f.row).drop f.lo).take (f.pl - f.lo) ++ (nV f.row).drop (f.pl + 1)).length = f.row.length := by
      rw [List.length_append, List.length_append, List.length_take, List.length_take, List.length_drop, List.length_drop, ln]
      omega
    refine ⟨r, _, (f.lo : Int), f.lo, rfl, rfl, hrw2, ?_, ?_⟩
    · unfold ixN
      rw [if_pos (Int.natCast_nonneg _), if_pos (by rw [ll]; omega), Int.toNat_natCast]
    rw [nV_moved hlp (by omega)]
    have fr3 : Fr2 x r H (upd H2 r (.lst (nV (PF.moved f.row f.lo f.pl)))) := fr2.trans Fr2.putr
    generalize upd H2 r (.lst (nV (PF.moved f.row f.lo f.pl))) = H3 at back fr3 ⊢
    obtain ⟨_, dx3, wv3, hx3, hw3, hr3⟩ := id back
    refine ⟨_, rfl, x, a.c_Placer, dx3, _, _, rfl, hx3, T.cl_Placer, T.n_place, rfl, ?_⟩
    refine ⟨_, _, rfl, rfl, dx3, _, hx3, by show 8 < 1000; decide, ?_⟩
    obtain ⟨F4, hx4, fr4⟩ := back.set hx3 { f with row := PF.moved f.row f.lo f.pl, pl := f.pl + 1 } wv3 rfl hw3 (w := putF "place" (.int ((f.pl : Int) + 1)) (fldsP r e { f with row := PF.moved f.row f.lo f.pl } wv3)) rfl
    generalize upd H3 x (.ins a.c_Placer dx3 (putF "place" (.int ((f.pl : Int) + 1)) (fldsP r e { f with row := PF.moved f.row f.lo f.pl } wv3))) = H4 at F4 hx4 fr4 ⊢
    exact ⟨_, rfl, x, dx3, _, rfl, hx4, rfl, x, r, e, _, rfl, F4, by show (PF.moved f.row f.lo f.pl).length = e; rw [PF.moved_len hlp (by omega)]; exact hl, h64, by show 1 ≤ f.pl + 1; omega, fun H5 F5 fr5 => q _ F5 ((fr3.trans fr4).trans fr5)⟩
theorem ok_takeP (T : Txt K mg a d) : FnOk P w K mg base CX0 4 a.Placer_take d.Placer_take P_Placer_take (spP1 a.c_Placer) := by
  have G_Placer__ask_about_middle : FnOk P w K mg base CX0 1 a.Placer__ask_about_middle d.Placer__ask_about_middle P_Placer__ask_about_middle (spP0 a.c_Placer (fun e f => f.pl < e ∧ f.hi ≤ f.pl ∧ f.lo < f.hi) fun _ f => PF.askM f) := ok_askM T
  have G_Placer__put : FnOk P w K mg base CX0 3 a.Placer__put d.Placer__put P_Placer__put (spP0 a.c_Placer (fun e f => f.lo ≤ f.pl ∧ f.pl < e) PF.put) := ok_put T
  refine T.f_Placer_take.ok sc_Placer_take (fun vs H Q E h => ?_) (fun cdv A outer s0 H vs Q E hr h => ?_)
  · obtain ⟨x, r, e, row0, f, b, rfl, _⟩ := h
    rfl
  · obtain ⟨x, r, e, row0, f, b, rfl, hF, g, hne, q⟩ := h
    refine ⟨_, (pss_cons (ps_if (pt_val (pv 1)) (pss_one (ps_fld (pv 0) (pe_fld (pv 0) rfl) rfl)) (pss_one (ps_fld (pv 0) (pe_op op_add (pe_fld (pv 0) rfl) pe_int) rfl)))
    (pss_one (ps_if (pt_cmpR op_lt (pe_fld (pv 0) rfl) (pe_fld (pv 0) rfl) (nomark _)) (pss_one (ps_expr (pe_meth0 (pv 0) T.cl_Placer T.m_Placer__ask_about_middle G_Placer__ask_about_middle (hr.mono (by decide)) T.b_Placer__ask_about_middle .nil pass0))) (pss_one (ps_expr (pe_meth0 (pv 0) T.cl_Placer T.m_Placer__put G_Placer__put (hr.mono (by decide)) T.b_Placer__put .nil pass0)))))), ?_⟩
    have ac := g.act hne
    obtain ⟨i1, i2⟩ := PF.half_in ac b
    have hl := g.len
    have h64 := g.e64
    have fin : ∀ H1, PAt a.c_Placer H1 x r e (PF.half b f) → Fr2 x r H H1 → ∀ dx wv, H1 x = some (.ins a.c_Placer dx (fldsP r e (PF.half b f) wv)) → (if decide ((PF.half b f).lo < (PF.half b f).hi) = true then (∀ H2, PAt a.c_Placer H2 x r e (PF.askM (PF.half b f)) → Fr2 x r H1 H2 → Q .non H2) else (∀ H2, PAt a.c_Placer H2 x r e (PF.put e (PF.half b f)) → Fr2 x r H1 H2 → Q .non H2)) := fun H1 F1 fr1 dx wv hx1 => by
      by_cases h0 : (PF.half b f).lo < (PF.half b f).hi
      · rw [if_pos (decide_eq_true h0)]
        intro H2 F2 fr2
        refine q H2 ?_ (fr1.trans fr2)
        unfold PF.take
        rw [if_pos h0]
        exact F2
      · rw [if_neg (by rw [decide_eq_false h0]; decide)]
        intro H2 F2 fr2
        refine q H2 ?_ (fr1.trans fr2)
        unfold PF.take
        rw [if_neg h0]
        exact F2
    obtain ⟨n, dx, wv, hx, hw, hrw⟩ := id hF
    have hrowb : (PF.half b f).row.length = e := by rw [PF.half_row]; exact hl
    have second : ∀ H1, PAt a.c_Placer H1 x r e (PF.half b f) → Fr2 x r H H1 → ∀ dx wv, H1 x = some (.ins a.c_Placer dx (fldsP r e (PF.half b f) wv)) → True := fun _ _ _ _ _ _ => True.intro
    cases b with
    | true =>
      refine ⟨_, rfl, true, rfl, iteT ?_⟩
      refine ⟨_, rfl, x, a.c_Placer, dx, _, _, rfl, hx, T.cl_Placer, T.n_middle, rfl, ?_⟩
      refine ⟨_, rfl, x, a.c_Placer, dx, _, rfl, hx, T.cl_Placer, T.n_high, by show 8 < 1000; decide, ?_⟩
      obtain ⟨F1, hx1, fr1⟩ := hF.set hx (PF.half true f) wv rfl hw (w := putF "high" (.int (f.mid : Int)) (fldsP r e f wv)) rfl
      generalize upd H x (.ins a.c_Placer dx (putF "high" (.int (f.mid : Int)) (fldsP r e f wv))) = H1 at F1 hx1 fr1 ⊢
      refine ⟨_, rfl, x, a.c_Placer, dx, _, _, rfl, hx1, T.cl_Placer, T.n_low, rfl, ?_⟩
      refine ⟨_, rfl, x, a.c_Placer, dx, _, _, rfl, hx1, T.cl_Placer, T.n_high, rfl, ?_⟩
      refine ⟨_, _, rfl, rfl, decide ((PF.half true f).lo < (PF.half true f).hi), congrArg V.bl (by simp), ?_⟩
      have fi := fin H1 F1 fr1 dx wv hx1
      by_cases h0 : (PF.half true f).lo < (PF.half true f).hi
      · rw [decide_eq_true h0] at fi ⊢
        rw [if_pos rfl] at fi
        exact iteT ⟨_, rfl, x, dx, _, rfl, hx1, rfl, x, r, e, _, rfl, F1, hrowb, h64, ⟨by rw [PF.half_pl]; exact ac.pe, by rw [PF.half_pl]; exact i2, h0⟩, fi⟩
      · rw [decide_eq_false h0] at fi ⊢
        rw [if_neg (by decide)] at fi
        exact iteF ⟨_, rfl, x, dx, _, rfl, hx1, rfl, x, r, e, _, rfl, F1, hrowb, h64, ⟨by rw [PF.half_pl]; omega, by rw [PF.half_pl]; exact ac.pe⟩, fi⟩
    | false =>
      refine ⟨_, rfl, false, rfl, iteF ?_⟩
      refine ⟨_, rfl, x, a.c_Placer, dx, _, _, rfl, hx, T.cl_Placer, T.n_middle, rfl, _, _, rfl, rfl, ?_⟩
      refine ⟨_, rfl, x, a.c_Placer, dx, _, rfl, hx, T.cl_Placer, T.n_low, by show 8 < 1000; decide, ?_⟩
      obtain ⟨F1, hx1, fr1⟩ := hF.set hx (PF.half false f) wv rfl hw (w := putF "low" (.int ((f.mid : Int) + 1)) (fldsP r e f wv)) rfl
      try dsimp only
      generalize upd H x (.ins a.c_Placer dx (putF "low" (.int ((f.mid : Int) + 1)) (fldsP r e f wv))) = H1 at F1 hx1 fr1 ⊢
      refine ⟨_, rfl, x, a.c_Placer, dx, _, _, rfl, hx1, T.cl_Placer, T.n_low, rfl, ?_⟩
      refine ⟨_, rfl, x, a.c_Placer, dx, _, _, rfl, hx1, T.cl_Placer, T.n_high, rfl, ?_⟩
      refine ⟨_, _, rfl, rfl, decide ((PF.half false f).lo < (PF.half false f).hi), congrArg V.bl (by simp), ?_⟩
      have fi := fin H1 F1 fr1 dx wv hx1
      by_cases h0 : (PF.half false f).lo < (PF.half false f).hi
      · rw [decide_eq_true h0] at fi ⊢
        rw [if_pos rfl] at fi
        exact iteT ⟨_, rfl, x, dx, _, rfl, hx1, rfl, x, r, e, _, rfl, F1, hrowb, h64, ⟨by rw [PF.half_pl]; exact ac.pe, by rw [PF.half_pl]; exact i2, h0⟩, fi⟩
      · rw [decide_eq_false h0] at fi ⊢
        rw [if_neg (by decide)] at fi
        exact iteF ⟨_, rfl, x, dx, _, rfl, hx1, rfl, x, r, e, _, rfl, F1, hrowb, h64, ⟨by rw [PF.half_pl]; omega, by rw [PF.half_pl]; exact ac.pe⟩, fi⟩
theorem ok_initP (T : Txt K mg a d) : FnOk P w K mg base CX0 3 a.Placer___init__ d.Placer___init__ P_Placer___init__ (spInitP a.c_Placer) := by
  have G_Placer__begin_item : FnOk P w K mg base CX0 2 a.Placer__begin_item d.Placer__begin_item P_Placer__begin_item (spP0 a.c_Placer (fun _ f => 1 ≤ f.pl) PF.begin) := ok_beginP T
  refine T.f_Placer___init__.ok sc_Placer___init__ (fun vs H Q E h => ?_) (fun cdv A outer s0 H vs Q E hr h => ?_)
  · obtain ⟨x, dx, r, e, rd, row, rfl, _⟩ := h
    rfl
  · obtain ⟨x, dx, r, e, rd, row, rfl, hx, hrw, n, hl, h64, q⟩ := h
    refine ⟨_, (pss_cons (ps_fld (pv 0) (pv 1) rfl)
    (pss_cons (ps_fld (pv 0) (pv 2) rfl)
    (pss_cons (ps_fld (pv 0) (pv 3) rfl)
    (pss_cons (ps_fld (pv 0) (pe_op op_add (pv 2) (pe_callB (call_max2 rfl) (by rfl) T.z_max (by decide +kernel) (pa_cons (pv 4) (pa_cons pe_int pa_nil)))) rfl)
    (pss_cons (ps_fld (pv 0) (pv 2) rfl)
    (pss_cons (ps_fld (pv 0) (pv 2) rfl)
    (pss_cons (ps_fld (pv 0) (pv 2) rfl)
    (pss_cons (ps_fld (pv 0) pe_non rfl)
    (pss_one (ps_expr (pe_meth0 (pv 0) T.cl_Placer T.m_Placer__begin_item G_Placer__begin_item (hr.mono (by decide)) T.b_Placer__begin_item .nil pass0))))))))))), ?_⟩
    have em : (0 : Int) + (if (1 : Int) > (rd : Int) then 1 else (rd : Int)) = ((max rd 1 : Nat) : Int) := by
      by_cases h : rd = 0
      · subst h; rfl
      · rw [if_neg (by omega), Nat.max_eq_left (by omega)]
        omega
    refine ⟨_, rfl, _, rfl, x, a.c_Placer, dx, _, rfl, hx, T.cl_Placer, T.n_row, by show 0 < 1000; decide, ?_⟩
    refine ⟨_, rfl, _, rfl, x, a.c_Placer, dx, _, rfl, upd_same, T.cl_Placer, T.n_start, by show 1 < 1000; decide, ?_⟩
    refine ⟨_, rfl, _, rfl, x, a.c_Placer, dx, _, rfl, upd_same, T.cl_Placer, T.n_end, by show 2 < 1000; decide, ?_⟩
    refine ⟨_, rfl, _, rfl, _, _, rfl, _, _, rfl, rfl, _, rfl, x, a.c_Placer, dx, _, rfl, upd_same, T.cl_Placer, T.n_place, by show 3 < 1000; decide, ?_⟩
    refine ⟨_, rfl, _, rfl, x, a.c_Placer, dx, _, rfl, upd_same, T.cl_Placer, T.n_low, by show 4 < 1000; decide, ?_⟩
    refine ⟨_, rfl, _, rfl, x, a.c_Placer, dx, _, rfl, upd_same, T.cl_Placer, T.n_high, by show 5 < 1000; decide, ?_⟩
    refine ⟨_, rfl, _, rfl, x, a.c_Placer, dx, _, rfl, upd_same, T.cl_Placer, T.n_middle, by show 6 < 1000; decide, ?_⟩
    refine ⟨_, rfl, x, a.c_Placer, dx, _, rfl, upd_same, T.cl_Placer, T.n_waiting, by show 7 < 1000; decide, ?_⟩
    refine ⟨_, rfl, x, dx, _, rfl, upd_same, rfl, x, r, e, { row := row, pl := max rd 1, lo := 0, hi := 0, mid := 0, wt := none }, rfl, ⟨n, dx, .non, ?_, rfl, ?_⟩, hl, h64, Nat.le_max_right _ _, fun H1 F1 fr1 => q _ F1 (Fr2.trans ?_ fr1)⟩
    · rw [upd_same]
      refine congrArg (fun z => some (HO.ins a.c_Placer dx [("row", .ref r), ("start", .int 0), ("end", .int (e : Int)), ("place", .int z), ("low", .int 0), ("high", .int 0), ("middle", .int 0), ("waiting", .non)])) em
    · rw [upd_ne n.symm, upd_ne n.symm, upd_ne n.symm, upd_ne n.symm, upd_ne n.symm, upd_ne n.symm, upd_ne n.symm, upd_ne n.symm]
      exact hrw
    exact ((((((Fr2.putx.trans Fr2.putx).trans Fr2.putx).trans Fr2.putx).trans Fr2.putx).trans Fr2.putx).trans Fr2.putx).trans Fr2.putx
end

end K16

namespace K16
open PySem PySem.Spec PyProof.Rows L2
def spIsInt : Sp := fun vs H Q _ => ∃ i, vs = [.int i] ∧ Q (.bl true) H
section
variable {P : Program} {w : World} {K : PySem.W.Frag} {mg : Str → Option Value} {base : Heap} {a : Ad} {d : Fd}
theorem ok_is_integer (T : Txt K mg a d) : FnOk P w K mg base CX0 1 a.is_integer d.is_integer P_is_integer spIsInt := by
  refine T.f_is_integer.ok sc_is_integer (fun vs H Q E h => ?_) (fun cdv A outer s H vs Q E hr h => ?_)
  · obtain ⟨i, rfl, _⟩ := h
    rfl
  · obtain ⟨i, rfl, q⟩ := h
    refine ⟨_, (pss_one (ps_ret (pe_and (pe_callB call_isi (by rfl) T.z_isinstance (by decide +kernel) (pa_cons (pv 0) (pa_cons (pe_bltn (v := .ty "int") (u := .type "int") (by rfl) T.z_int (by decide +kernel) rfl) pa_nil))) (pe_one (pe_not (pe_callB call_isi (by rfl) T.z_isinstance (by decide +kernel) (pa_cons (pv 0) (pa_cons (pe_bltn (v := .ty "bool") (u := .type "bool") (by rfl) T.z_bool (by decide +kernel) rfl) pa_nil)))))))), ?_⟩
    refine ⟨_, rfl, .int i, .ty "int", .type "int", .type "int", true, rfl, .ty _, .base (.int i), kit_ty (by decide +kernel), true, rfl, iteT ?_⟩
    exact ⟨_, rfl, .int i, .ty "bool", .type "int", .type "bool", false, rfl, .ty _, .base (.int i), kit_ty (by decide +kernel), false, rfl, q⟩
end
def spWithin : Sp := fun vs H Q _ => ∃ v lo hi, vs = [.int v, .int lo, .int hi] ∧ lo ≤ v ∧ v ≤ hi ∧ Q (.bl true) H
section
variable {P : Program} {w : World} {K : PySem.W.Frag} {mg : Str → Option Value} {base : Heap} {a : Ad} {d : Fd}
theorem ok_is_within (T : Txt K mg a d) : FnOk P w K mg base CX0 2 a.is_within d.is_within P_is_within spWithin := by
  have G_is_integer : FnOk P w K mg base CX0 1 a.is_integer d.is_integer P_is_integer spIsInt := ok_is_integer T
  refine T.f_is_within.ok sc_is_within (fun vs H Q E h => ?_) (fun cdv A outer s H vs Q E hr h => ?_)
  · obtain ⟨v, lo, hi, rfl, _⟩ := h
    rfl
  · obtain ⟨v, lo, hi, rfl, h1, h2, q⟩ := h
    refine ⟨_, (pss_one (ps_ret (pe_and (pe_call G_is_integer (hr.mono (by decide)) (by rfl) T.g_is_integer T.k_is_integer T.b_is_integer .nil pass0 (pa_cons (pv 0) pa_nil)) (pe_and (pe_cmpR op_ge (pv 0) (pv 1) (nomark _)) (pe_one (pe_or (pe_cmpR op_isN (pv 2) pe_non (nomark _)) (pe_one (pe_cmpR op_le (pv 0) (pv 2) (nomark _))))))))), ?_⟩
    refine ⟨_, rfl, v, rfl, true, rfl, iteT ?_⟩
    refine ⟨_, rfl, _, rfl, _, _, rfl, rfl, true, congrArg V.bl (decide_eq_true h1), iteT ?_⟩
    refine ⟨_, rfl, rfl, false, rfl, iteF ?_⟩
    refine ⟨_, rfl, _, rfl, _, _, rfl, rfl, ?_⟩
    show Q (V.bl (decide (v ≤ hi))) H
    rw [decide_eq_true h2]
    exact q
end



/-- keys: a list or a tuple of ints -/
def KeysAt (H : Hp) (p : Addr) (ns : List Int) : Prop := H p = some (.lst (ns.map V.int)) ∨ H p = some (.tup (ns.map V.int))
theorem KeysAt.same {H H' : Hp} {p : Addr} {ns : List Int} (e : Same H H') (h : KeysAt H p ns) : KeysAt H' p ns := h.imp (e _ _) (e _ _)
def spCheckKeysN : Sp := fun vs H Q _ => ∃ p ns lo hi, vs = [.ref p, .int lo, .int hi] ∧ KeysAt H p ns ∧ lo ≤ (ns.length : Int) ∧ (ns.length : Int) ≤ hi ∧ ∀ H', Same H H' → Q .non H'
theorem keys_item {ns : List Int} {i : Nat} {x : V} (h : (ns.map V.int)[i]? = some x) : ∃ z, ns[i]? = some z ∧ x = .int z := by
  rw [List.getElem?_map] at h
  cases e : ns[i]? with
  | none => rw [e] at h; cases h
  | some z => rw [e] at h; exact ⟨z, rfl, (Option.some.inj h).symm⟩
section
variable {P : Program} {w : World} {K : PySem.W.Frag} {mg : Str → Option Value} {base : Heap} {a : Ad} {d : Fd}
theorem ok_check_keys (T : Txt K mg a d) : FnOk P w K mg base CX0 2 a.check_keys d.check_keys P_check_keys spCheckKeysN := by
  have G_is_integer : FnOk P w K mg base CX0 1 a.is_integer d.is_integer P_is_integer spIsInt := ok_is_integer T
  refine T.f_check_keys.ok sc_check_keys (fun vs H Q E h => ?_) (fun cdv A outer s H vs Q E hr h => ?_)
  · obtain ⟨p, ns, lo, hi, rfl, _⟩ := h
    rfl
  · obtain ⟨p, ns, lo, hi, rfl, hK, hl1, hl2, q⟩ := h
    refine ⟨_, (pss_cons (ps_if (PW.pt (pw_or (pt_not (pt_val (pe_callB call_isiT (by rfl) T.z_isinstance (by decide +kernel) (pa_cons (pv 0) (pa_cons (pe_tup (pa_cons (pe_bltn (v := .ty "list") (u := .type "list") (by rfl) T.z_list (by decide +kernel) rfl) (pa_cons (pe_bltn (v := .ty "tuple") (u := .type "tuple") (by rfl) T.z_tuple (by decide +kernel) rfl) pa_nil))) pa_nil))))) (pw_or1 (pt_not (pt_chain op_le op_le (pv 1) (pe_callB call_len_seq (by rfl) T.z_len PySem.boot_len (pa_cons (pv 0) pa_nil)) (pv 2)))))) (pss_one ps_never) pss_nil)
    (pss_one (ps_for PassesOwn.never rfl (pi_enumA (by rfl) T.z_enumerate (pa_cons (pv 0) pa_nil)) (pg_tup rfl (pgs_cons (pg_name (i := 3) sc_check_keys.nd rfl (Or.inl rfl)) (pgs_cons (pg_name (i := 4) sc_check_keys.nd rfl (Or.inl rfl)) pgs_nil)))
      (pss_one (ps_if (pt_not (pt_val (pe_call G_is_integer (hr.mono (by decide)) (by rfl) T.g_is_integer T.k_is_integer T.b_is_integer .nil pass0 (pa_cons (pv 4) pa_nil)))) (pss_one ps_never) pss_nil))))), ?_⟩
    refine ⟨_, rfl, by show 2 ≤ sizeLine; decide, fun tp htp => ?_⟩
    have s1 : Same H (upd H tp (.tup [.ty "list", .ty "tuple"])) := same_upd htp
    have hK1 := hK.same s1
    have hT : upd H tp (.tup [.ty "list", .ty "tuple"]) tp = some (.tup [.ty "list", .ty "tuple"]) := upd_same
    generalize upd H tp (.tup [.ty "list", .ty "tuple"]) = H1 at s1 hK1 hT ⊢
    have cs : Paired ClsV [.ty "list", .ty "tuple"] [.type "list", .type "tuple"] := .cons (.ty _) (.cons (.ty _) .nil)
    have hS : SqL K H1 p (ns.map V.int) ∨ SqT K H1 p (ns.map V.int) := hK1.imp L2.sq_of L2.st_of
    obtain ⟨t, hty, hkit⟩ : ∃ t, TyX K H1 (.ref p) t ∧ PySem.W.kitAny K t [.type "list", .type "tuple"] = some true := by
      rcases hK1 with hl | ht
      · exact ⟨_, .base (.lst hl), kitAny_cons (b := true) (kit_ty (by decide +kernel)) (fun z => nomatch z) (fun _ => rfl)⟩
      · exact ⟨_, .base (.tup ht), kitAny_cons (b := false) (kit_ty (by decide +kernel)) (fun _ => kitAny_cons (b := true) (kit_ty (by decide +kernel)) (fun z => nomatch z) (fun _ => rfl)) (fun z => nomatch z)⟩
    refine ⟨.ref p, tp, _, t, _, true, rfl, hT, cs, hty, hkit, true, rfl, iteF ?_⟩
    have el : (ns.map V.int).length = ns.length := List.length_map _
    refine ⟨_, rfl, _, rfl, p, _, rfl, hS, _, _, rfl, rfl, true, congrArg V.bl (decide_eq_true (by rw [el]; exact hl1)), iteT ⟨_, rfl, _, _, rfl, rfl, true, congrArg V.bl (decide_eq_true (by rw [el]; exact hl2)), iteF ?_⟩⟩
    · refine ⟨_, rfl, p, ns.map V.int, rfl, hS.imp (fun hs => ⟨hs, ?_⟩) (fun hs => ⟨hs, ?_⟩)⟩
      · refine for_iteL (K := K) (a := p) (xs := ns.map V.int) (fun i σ H' => (∃ u v, σ = [some (.ref p), some (.int lo), some (.int hi), u, v]) ∧ Same H1 H') ⟨⟨_, _, rfl⟩, Same.refl _⟩ (fun i σ H' _ h => h.2.seq hs) ?_ ?_
        · rintro i y σ H2 Tp hy ⟨⟨u, v, rfl⟩, sm⟩ hn
          obtain ⟨z, _, rfl⟩ := keys_item hy
          refine ⟨Tp, _, rfl, L2.st_of upd_same, rfl, _, _, rfl, _, _, rfl, rfl, ?_⟩
          refine ⟨_, rfl, z, rfl, true, rfl, iteF ?_⟩
          exact ⟨⟨_, _, rfl⟩, sm.trans (same_upd hn)⟩
        · rintro σ H' ⟨_, sm⟩
          exact q H' (s1.trans sm)
      · refine for_iteT (K := K) (a := p) (xs := ns.map V.int) (fun i σ H' => (∃ u v, σ = [some (.ref p), some (.int lo), some (.int hi), u, v]) ∧ Same H1 H') ⟨⟨_, _, rfl⟩, Same.refl _⟩ (fun i σ H' _ h => Same.tupS h.2 hs) ?_ ?_
        · rintro i y σ H2 Tp hy ⟨⟨u, v, rfl⟩, sm⟩ hn
          obtain ⟨z, _, rfl⟩ := keys_item hy
          refine ⟨Tp, _, rfl, L2.st_of upd_same, rfl, _, _, rfl, _, _, rfl, rfl, ?_⟩
          refine ⟨_, rfl, z, rfl, true, rfl, iteF ?_⟩
          exact ⟨⟨_, _, rfl⟩, sm.trans (same_upd hn)⟩
        · rintro σ H' ⟨_, sm⟩
          exact q H' (s1.trans sm)
end

def spCheckNumber : Sp := fun vs H Q _ => ∃ (nm : Str) (v lo hi : Int), vs = [.str nm, .int v, .int lo, .int hi] ∧ lo ≤ v ∧ v ≤ hi ∧ Q .non H
section
variable {P : Program} {w : World} {K : PySem.W.Frag} {mg : Str → Option Value} {base : Heap} {a : Ad} {d : Fd}
theorem ok_check_number (T : Txt K mg a d) : FnOk P w K mg base CX0 3 a.check_number d.check_number P_check_number spCheckNumber := by
  have G_is_within : FnOk P w K mg base CX0 2 a.is_within d.is_within P_is_within spWithin := ok_is_within T
  refine T.f_check_number.ok sc_check_number (fun vs H Q E h => ?_) (fun cdv A outer s H vs Q E hr h => ?_)
  · obtain ⟨nm, v, lo, hi, rfl, _⟩ := h
    rfl
  · obtain ⟨nm, v, lo, hi, rfl, h1, h2, q⟩ := h
    refine ⟨_, (pss_one (ps_if (pt_not (pt_val (pe_call G_is_within (hr.mono (by decide)) (by rfl) T.g_is_within T.k_is_within T.b_is_within .nil pass0 (pa_cons (pv 1) (pa_cons (pv 2) (pa_cons (pv 3) pa_nil)))))) (pss_one ps_never) pss_nil)), ?_⟩
    exact ⟨_, rfl, _, rfl, _, rfl, v, lo, hi, rfl, h1, h2, true, rfl, iteF q⟩
end

theorem keys_get {H : Hp} {K : PySem.W.Frag} {p : Addr} {ns : List Int} (h : KeysAt H p ns) {i : Nat} (hi : i < ns.length) (Q : V → Hp → Prop) (q : Q (.int (ns.getD i 0)) H) : rIx K (.ref p) (.int (i : Int)) H Q := by
  have e : atI (ns.map V.int) (i : Int) = some (.int (ns.getD i 0)) := by
    refine atI_nat ?_
    rw [List.getElem?_map, List.getElem?_eq_getElem hi]
    simp [List.getD_eq_getElem?_getD, List.getElem?_eq_getElem hi]
  rcases h with h | h
  · exact .inl ⟨p, _, i, _, rfl, rfl, L2.sq_of h, e, q⟩
  · exact .inr (.inl ⟨p, _, i, _, rfl, rfl, L2.st_of h, e, q⟩)
def spAskP (C : Addr) : Sp := fun vs H Q _ => ∃ (x p r : Addr) (rd : Nat) (ns : List Int) (row : List Nat), vs = [.ref x, .ref p] ∧ KeysAt H p ns ∧ PAt C H x r row.length (PF.init row row.length rd) ∧ p ≠ r ∧ row.length ≤ 64 ∧ row.Perm (List.range ns.length) ∧
  ∀ (N : Nat) (l : Addr) (H' : Hp), ((PF.init row row.length rd).stps (less ns) row.length N).wt = none → (∀ i, i < N → ((PF.init row row.length rd).stps (less ns) row.length i).wt ≠ none) → N ≤ 400 →
    Fr2 x r H H' → PAt C H' x r row.length ((PF.init row row.length rd).stps (less ns) row.length N) → H l = none → QAt H' l ((PF.init row row.length rd).asks (less ns) row.length N) → Q (.ref l) H'
section
variable {P : Program} {w : World} {K : PySem.W.Frag} {mg : Str → Option Value} {base : Heap} {a : Ad} {d : Fd}
theorem ok_asksP (T : Txt K mg a d) : FnOk P w K mg base CX0 5 a.ask_honestly d.ask_honestly P_ask_honestly (spAskP a.c_Placer) := by
  have G_Placer_take : FnOk P w K mg base CX0 4 a.Placer_take d.Placer_take P_Placer_take (spP1 a.c_Placer) := ok_takeP T
  refine T.f_ask_honestly.ok sc_ask_honestly (fun vs H Q E h => ?_) (fun cdv A outer s0 H vs Q E hr h => ?_)
  · obtain ⟨x, p, r, rd, ns, row, rfl, _⟩ := h
    rfl
  · obtain ⟨x, p, r, rd, ns, row, rfl, hK, F2, npr, hl, pm, q⟩ := h
    refine ⟨_, (pss_cons (ps_set (i := 2) sc_ask_honestly.nd rfl (Or.inl rfl) (pe_lst pa_nil))
    (pss_cons (ps_while PassesOwn.never (pt_cmpR op_notN (pe_fld (pv 0) rfl) pe_non (nomark _))
      (pss_cons (ps_asg (pe_fld (pv 0) rfl) (pg_tup rfl (pgs_cons (pg_name (i := 3) sc_ask_honestly.nd rfl (Or.inl rfl)) (pgs_cons (pg_name (i := 4) sc_ask_honestly.nd rfl (Or.inl rfl)) pgs_nil))))
        (pss_cons (ps_expr (pe_bm PySem.F.plainAttrs_list PySem.F.slot_list_append PySem.F.type_list_append mt_append (pv 2) (pa_cons (pe_fld (pv 0) rfl) pa_nil)))
        (pss_one (ps_expr (pe_meth (pv 0) T.cl_Placer T.m_Placer_take G_Placer_take (hr.mono (by decide)) T.b_Placer_take .nil pass0 (pa_cons (pe_cmpR op_lt (pe_ix ix_seq (pv 1) (pv 3) (fun _ _ => rfl)) (pe_ix ix_seq (pv 1) (pv 4) (fun _ _ => rfl)) (nomark _)) pa_nil)))))))
    (pss_one (ps_ret (pv 2))))), ?_⟩
    have ln : ns.length = row.length := by rw [pm.length_eq, List.length_range]
    obtain ⟨_, dx2, wv2, hx2, hw2, hr2⟩ := id F2
    have nxp : x ≠ p := fun e => by
      rw [e] at hx2
      rcases hK with h | h
      · rw [h] at hx2; cases hx2
      · rw [h] at hx2; cases hx2
    refine ⟨Nat.zero_le _, fun l hlN => ?_⟩
    have G0 : PF.Good row.length row (PF.init row row.length rd) := PF.Good.init rfl hl
    have F3 := F2.same (same_upd (o := .lst []) hlN)
    have SH3 : Fr2 x r H (upd H l (.lst [])) := fun b o _ _ h => same_upd hlN b o h
    have hq0 : QAt (upd H l (.lst [])) l [] := QAt.nil upd_same
    generalize upd H l (.lst []) = H3 at F3 SH3 hq0 ⊢
    refine ⟨fun m σ H' => ∃ (n : Nat) (u v : Option V), σ = [some (.ref x), some (.ref p), some (.ref l), u, v] ∧ m = PF.phi row.length ((PF.init row row.length rd).stps (less ns) row.length n) ∧ n + m ≤ 400 ∧
      (∀ i, i < n → ((PF.init row row.length rd).stps (less ns) row.length i).wt ≠ none) ∧ PAt a.c_Placer H' x r row.length ((PF.init row row.length rd).stps (less ns) row.length n) ∧ QAt H' l ((PF.init row row.length rd).asks (less ns) row.length n) ∧ Fr2 x r H H',
      ⟨_, 0, none, none, rfl, rfl, ?_, fun i h => absurd h (Nat.not_lt_zero _), F3, hq0, SH3⟩, ?_⟩
    · have h1 := PF.phi_init (row := row) (e := row.length) (rd := rd) hl
      show 0 + PF.phi row.length (PF.init row row.length rd) ≤ 400
      omega
    · rintro m σ H4 ⟨n, u, v, rfl, rfl, hm, hbe, F4, hq4, SH4⟩
      have Gn := PF.Good.stps (less ns) G0 n
      have hnx : ∀ q, ((PF.init row row.length rd).stps (less ns) row.length n).wt = some q → (PF.init row row.length rd).stps (less ns) row.length (n + 1) = ((PF.init row row.length rd).stps (less ns) row.length n).take row.length (less ns q) := fun q h => PF.stps_next h
      have hak : ∀ q, ((PF.init row row.length rd).stps (less ns) row.length n).wt = some q → (PF.init row row.length rd).asks (less ns) row.length (n + 1) = (PF.init row row.length rd).asks (less ns) row.length n ++ [q] := fun q h => PF.asks_next h
      have hmt : ∀ q b, ((PF.init row row.length rd).stps (less ns) row.length n).wt = some q → PF.phi row.length (((PF.init row row.length rd).stps (less ns) row.length n).take row.length b) < PF.phi row.length ((PF.init row row.length rd).stps (less ns) row.length n) := fun q b h => PF.phi_take Gn (by rw [h]; exact Option.some_ne_none _) b
      have hN := q n
      have hasl := PF.asks_len (less ns) row.length (PF.init row row.length rd) n
      generalize hf : (PF.init row row.length rd).stps (less ns) row.length n = f at hm F4 Gn hnx hak hmt hN ⊢
      obtain ⟨_, dx4, wv4, hx4, hw4, hr4⟩ := id F4
      refine ⟨_, rfl, x, a.c_Placer, dx4, _, _, rfl, hx4, T.cl_Placer, T.n_waiting, rfl, rfl, ?_⟩
      cases hwt : f.wt with
      | none =>
        rw [hwt] at hw4
        cases hw4
        refine ⟨false, rfl, iteF ?_⟩
        exact ⟨_, rfl, hN l _ hwt hbe (by omega) SH4 F4 hlN hq4⟩
      | some pr =>
        obtain ⟨i, j⟩ := pr
        rw [hwt] at hw4
        obtain ⟨t, rfl, ht⟩ := hw4
        refine ⟨true, rfl, iteT ⟨_, fun _ _ h => h, ?_⟩⟩
        obtain ⟨hi, hj, _⟩ := (Gn.pmRange pm).items hwt
        have K4 : KeysAt H4 p ns := hK.imp (SH4 _ _ nxp.symm npr) (SH4 _ _ nxp.symm npr)
        refine ⟨_, rfl, x, a.c_Placer, dx4, _, _, rfl, hx4, T.cl_Placer, T.n_waiting, rfl, t, _, rfl, L2.st_of ht, rfl, _, _, rfl, _, _, rfl, rfl, ?_⟩
        obtain ⟨ts, hts, hlen, hpa⟩ := id hq4
        refine ⟨_, rfl, .inl ⟨rfl, _, L2.sq_of hts⟩, _, rfl, x, a.c_Placer, dx4, _, _, rfl, hx4, T.cl_Placer, T.n_waiting, rfl, l, ts, _, rfl, rfl, hts, ?_, ?_⟩
        · rw [hlen, hasl]
          exact Nat.lt_of_le_of_lt (by omega : n ≤ 400) (by decide : 400 < sizeLine)
        have hpair : PairAt H4 (.ref t) (i, j) := ⟨t, rfl, ht⟩
        have hq5 := QAt.push hts hq4 hpair
        have SH5 : Fr2 x r H (upd H4 l (.lst (ts ++ [.ref t]))) := fun b o n1 n2 h => by
          rw [upd_ne (ne_of_none h hlN)]
          exact SH4 b o n1 n2 h
        have nlx : l ≠ x := fun e => by rw [e, hx4] at hts; cases hts
        have nlr : l ≠ r := fun e => by rw [e, hr2] at hlN; cases hlN
        have F5 : PAt a.c_Placer (upd H4 l (.lst (ts ++ [.ref t]))) x r row.length f := by
          obtain ⟨g1, g2, g3, g4, g5, g6⟩ := id F4
          exact ⟨g1, g2, g3, by rw [upd_ne nlx.symm]; exact g4, g5.upd hts (fun i j e => by cases e), by rw [upd_ne nlr.symm]; exact g6⟩
        have nlp : p ≠ l := fun e => by
          rw [← e] at hlN
          rcases hK with h | h
          · rw [h] at hlN; cases hlN
          · rw [h] at hlN; cases hlN
        have K5 : KeysAt (upd H4 l (.lst (ts ++ [.ref t]))) p ns := K4.imp (fun h => by rw [upd_ne nlp]; exact h) (fun h => by rw [upd_ne nlp]; exact h)
        have hx5 : upd H4 l (.lst (ts ++ [.ref t])) x = some (.ins a.c_Placer dx4 (fldsP r row.length f (.ref t))) := by rw [upd_ne nlx.symm]; exact hx4
        generalize upd H4 l (.lst (ts ++ [.ref t])) = H5 at hq5 SH5 F5 K5 hx5 ⊢
        refine ⟨_, rfl, x, dx4, _, rfl, hx5, rfl, ?_⟩
        refine ⟨_, rfl, _, rfl, keys_get K5 hi _ ⟨_, rfl, _, rfl, keys_get K5 hj _ ⟨_, _, rfl, rfl, ?_⟩⟩⟩
        refine ⟨x, r, row.length, row, f, less ns (i, j), rfl, F5, Gn, by rw [hwt]; exact Option.some_ne_none _, fun H6 F6 fr6 => ?_⟩
        have hlt := hmt (i, j) (less ns (i, j)) hwt
        rw [← hnx (i, j) hwt] at F6 hlt
        rw [← hak (i, j) hwt] at hq5
        refine ⟨_, hlt, n + 1, _, _, rfl, rfl, by omega, fun k hk => ?_, F6, ?_, ?_⟩
        · by_cases e : k = n
          · rw [e, hf, hwt]
            exact Option.some_ne_none _
          · exact hbe k (by omega)
        · obtain ⟨ts5, h5, _⟩ := id hq5
          refine hq5.keep (fun y hy => fr6 _ _ nlx nlr hy) (fun t' i' j' ht' => fr6 _ _ (ne_of ht' hx5 (fun e => by cases e)) ?_ ht')
          obtain ⟨_, _, _, _, _, h6⟩ := F5
          exact ne_of ht' h6 (fun e => by cases e)
        · exact fun b o n1 n2 h => fr6 _ _ n1 n2 (SH5 b o n1 n2 h)
end
/-- the placer after n questions, in a row of all items -/
abbrev plN (ns : List Int) (rd n : Nat) : PF := (PF.init (List.range ns.length) (List.range ns.length).length rd).stps (less ns) (List.range ns.length).length n
abbrev plQ (ns : List Int) (rd n : Nat) : List (Nat × Nat) := (PF.init (List.range ns.length) (List.range ns.length).length rd).asks (less ns) (List.range ns.length).length n
theorem plN_good {ns : List Int} (rd : Nat) (h2 : ns.length ≤ 64) (n : Nat) : PF.Good (List.range ns.length).length (List.range ns.length) (plN ns rd n) :=
  PF.Good.stps (less ns) (PF.Good.init rfl (by rw [List.length_range]; exact h2)) n

theorem kfree {H' : Hp} {p z : Addr} {ns : List Int} (h1 : KeysAt H' p ns) (h2 : H' z = none) : p ≠ z := fun e => by
  rw [← e] at h2
  rcases h1 with h | h
  · rw [h] at h2; cases h2
  · rw [h] at h2; cases h2
theorem sfree {H1 H' : Hp} {z : Addr} (sm : Same H1 H') (hz : H' z = none) : H1 z = none := by
  cases e : H1 z with
  | none => rfl
  | some o => rw [sm _ _ e] at hz; cases hz
def spCheckP : Sp := fun vs H Q _ => ∃ (p : Addr) (ns : List Int) (rd : Nat), vs = [.ref p, .int (rd : Int)] ∧ KeysAt H p ns ∧ ns.length ≤ 64 ∧ rd ≤ ns.length ∧ ∀ H', Same H H' → Q .non H'
def spCheckNs : Sp := fun vs H Q _ => ∃ (n rd : Nat), vs = [.int (n : Int), .int (rd : Int)] ∧ n ≤ 64 ∧ rd ≤ n ∧ Q .non H
def spPlaced : Sp := fun vs H Q _ => ∃ (p : Addr) (rd : Nat) (ns : List Int), vs = [.ref p, .int (rd : Int)] ∧ KeysAt H p ns ∧ ns.length ≤ 64 ∧ rd ≤ ns.length ∧
  ∀ (N : Nat) (t r ql : Addr) (H' : Hp), (plN ns rd N).wt = none → (∀ i, i < N → (plN ns rd i).wt ≠ none) → N ≤ 400 → Same H H' → H' t = some (.tup [.ref r, .ref ql]) → H t = none → H r = none → H ql = none → r ≠ ql →
    H' r = some (.lst (nV (plN ns rd N).row)) → QAt H' ql (plQ ns rd N) → Q (.ref t) H'
section
variable {P : Program} {w : World} {K : PySem.W.Frag} {mg : Str → Option Value} {base : Heap} {a : Ad} {d : Fd}
theorem ok_check_placing (T : Txt K mg a d) : FnOk P w K mg base CX0 4 a.check_placing d.check_placing P_check_placing spCheckP := by
  have G_check_keys : FnOk P w K mg base CX0 2 a.check_keys d.check_keys P_check_keys spCheckKeysN := ok_check_keys T
  have G_check_number : FnOk P w K mg base CX0 3 a.check_number d.check_number P_check_number spCheckNumber := ok_check_number T
  refine T.f_check_placing.ok sc_check_placing (fun vs H Q E h => ?_) (fun cdv A outer s0 H vs Q E hr h => ?_)
  · obtain ⟨p, ns, rd, rfl, _⟩ := h
    rfl
  · obtain ⟨p, ns, rd, rfl, hK, h64, hrd, q⟩ := h
    refine ⟨_, (pss_cons (ps_expr (pe_call G_check_keys (hr.mono (by decide)) (by rfl) T.g_check_keys T.k_check_keys T.b_check_keys .nil pass0 (pa_cons (pv 0) (pa_cons pe_int (pa_cons (pe_glob (v := .int 64) rfl T.g_MOST_PLACED ⟨_, rfl⟩) pa_nil)))))
    (pss_one (ps_expr (pe_call G_check_number (hr.mono (by decide)) (by rfl) T.g_check_number T.k_check_number T.b_check_number .nil pass0 (pa_cons pe_str (pa_cons (pv 1) (pa_cons pe_int (pa_cons (pe_callB call_len_seq (by rfl) T.z_len PySem.boot_len (pa_cons (pv 0) pa_nil)) pa_nil)))))))), ?_⟩
    have ek : (ns.map V.int).length = ns.length := List.length_map _
    refine ⟨_, rfl, p, ns, 0, 64, rfl, hK, by omega, by omega, fun H1 s1 => ?_⟩
    have hS1 : SqL K H1 p (ns.map V.int) ∨ SqT K H1 p (ns.map V.int) := (hK.same s1).imp L2.sq_of L2.st_of
    exact ⟨_, rfl, _, rfl, p, _, rfl, hS1, "ready", (rd : Int), 0, _, rfl, by omega, by rw [ek]; omega, q H1 s1⟩
theorem ok_check_numbers (T : Txt K mg a d) : FnOk P w K mg base CX0 4 a.check_numbers d.check_numbers P_check_numbers spCheckNs := by
  have G_check_number : FnOk P w K mg base CX0 3 a.check_number d.check_number P_check_number spCheckNumber := ok_check_number T
  refine T.f_check_numbers.ok sc_check_numbers (fun vs H Q E h => ?_) (fun cdv A outer s0 H vs Q E hr h => ?_)
  · obtain ⟨n, rd, rfl, _⟩ := h
    rfl
  · obtain ⟨n, rd, rfl, h64, hrd, q⟩ := h
    refine ⟨_, (pss_cons (ps_expr (pe_call G_check_number (hr.mono (by decide)) (by rfl) T.g_check_number T.k_check_number T.b_check_number .nil pass0 (pa_cons pe_str (pa_cons (pv 0) (pa_cons pe_int (pa_cons (pe_glob (v := .int 64) rfl T.g_MOST_PLACED ⟨_, rfl⟩) pa_nil))))))
    (pss_one (ps_expr (pe_call G_check_number (hr.mono (by decide)) (by rfl) T.g_check_number T.k_check_number T.b_check_number .nil pass0 (pa_cons pe_str (pa_cons (pv 1) (pa_cons pe_int (pa_cons (pv 0) pa_nil)))))))), ?_⟩
    refine ⟨_, rfl, "many", (n : Int), 0, 64, rfl, by omega, by omega, ?_⟩
    exact ⟨_, rfl, _, rfl, "ready", (rd : Int), 0, (n : Int), rfl, by omega, by omega, q⟩
theorem ok_placed (T : Txt K mg a d) : FnOk P w K mg base CX0 6 a.placed d.placed P_placed spPlaced := by
  have G_check_placing : FnOk P w K mg base CX0 4 a.check_placing d.check_placing P_check_placing spCheckP := ok_check_placing T
  have G_Placer___init__ : FnOk P w K mg base CX0 3 a.Placer___init__ d.Placer___init__ P_Placer___init__ (spInitP a.c_Placer) := ok_initP T
  have G_ask_honestly : FnOk P w K mg base CX0 5 a.ask_honestly d.ask_honestly P_ask_honestly (spAskP a.c_Placer) := ok_asksP T
  refine T.f_placed.ok sc_placed (fun vs H Q E h => ?_) (fun cdv A outer s0 H vs Q E hr h => ?_)
  · obtain ⟨p, rd, ns, rfl, _⟩ := h
    rfl
  · obtain ⟨p, rd, ns, rfl, hK, h64, hrd, q⟩ := h
    refine ⟨_, (pss_cons (ps_expr (pe_call G_check_placing (hr.mono (by decide)) (by rfl) T.g_check_placing T.k_check_placing T.b_check_placing .nil pass0 (pa_cons (pv 0) (pa_cons (pv 1) pa_nil))))
    (pss_cons (ps_set (i := 2) sc_placed.nd rfl (Or.inl rfl) (pe_listRg (by rfl) (by rfl) T.z_list (prg_1 (by rfl) T.z_range (pe_callB call_len_seq (by rfl) T.z_len PySem.boot_len (pa_cons (pv 0) pa_nil)))))
    (pss_cons (ps_set (i := 3) sc_placed.nd rfl (Or.inl rfl) (pe_call G_ask_honestly (hr.mono (by decide)) (by rfl) T.g_ask_honestly T.k_ask_honestly T.b_ask_honestly .nil pass0 (pa_cons (pe_make T.mk_Placer G_Placer___init__ (hr.mono (by decide)) (by rfl) T.g_Placer T.b_Placer___init__ .nil pass0 (pa_cons (pv 2) (pa_cons pe_int (pa_cons (pe_callB call_len_seq (by rfl) T.z_len PySem.boot_len (pa_cons (pv 2) pa_nil)) (pa_cons (pv 1) pa_nil))))) (pa_cons (pv 0) pa_nil))))
    (pss_one (ps_ret (pe_tup (pa_cons (pv 2) (pa_cons (pv 3) pa_nil)))))))), ?_⟩
    have ek : (ns.map V.int).length = ns.length := List.length_map _
    have er : (List.range ns.length).length = ns.length := List.length_range
    refine ⟨_, rfl, _, rfl, p, ns, rd, rfl, hK, h64, hrd, fun H1 s1 => ?_⟩
    have hK1 := hK.same s1
    have hS1 : SqL K H1 p (ns.map V.int) ∨ SqT K H1 p (ns.map V.int) := hK1.imp L2.sq_of L2.st_of
    refine ⟨_, rfl, p, _, rfl, hS1, _, rfl, by rw [ek]; exact rgOk_nat (by omega), fun r hrN => ?_⟩
    rw [ek, rg_nat]
    have s2 := same_upd (o := .lst (nV (List.range ns.length))) hrN
    have hr2 : upd H1 r (.lst (nV (List.range ns.length))) r = some (.lst (nV (List.range ns.length))) := upd_same
    have hK2 := hK1.same s2
    have npr : p ≠ r := kfree hK1 hrN
    have hrH : H r = none := sfree s1 hrN
    generalize upd H1 r (.lst (nV (List.range ns.length))) = H2 at s2 hr2 hK2 ⊢
    refine ⟨_, rfl, _, rfl, r, _, rfl, .inl (L2.sq_of hr2), _, rfl, ?_⟩
    intro x dx hx hdx nxd
    have nxr : x ≠ r := fun e => by rw [e, hr2] at hx; cases hx
    have s12 : Same H H2 := s1.trans s2
    have xH : H x = none := sfree s12 hx
    have s3 : Same H2 (upd (upd H2 dx (.own x)) x (.ins a.c_Placer dx [])) := (same_upd hdx).trans (same_upd (by rw [upd_ne nxd.symm]; exact hx))
    have hxi : upd (upd H2 dx (.own x)) x (.ins a.c_Placer dx []) x = some (.ins a.c_Placer dx []) := upd_same
    generalize upd (upd H2 dx (.own x)) x (.ins a.c_Placer dx []) = H3 at s3 hxi ⊢
    refine ⟨x, dx, r, (List.range ns.length).length, rd, List.range ns.length, by rw [List.length_map]; rfl, hxi, s3 _ _ hr2, nxr, rfl, by rw [er]; exact h64, fun H4 F4 fr4 => ⟨rfl, ?_⟩⟩
    have nxp : p ≠ x := kfree hK2 hx
    have hK4 : KeysAt H4 p ns := (hK2.same s3).imp (fr4 _ _ nxp npr) (fr4 _ _ nxp npr)
    refine ⟨_, rfl, x, p, r, rd, ns, _, rfl, hK4, F4, npr, by rw [er]; exact h64, List.Perm.refl _, fun N l H5 hwt hbe hN fr5 F5 lN Q5 => ?_⟩
    have S5 : Same H H5 := fun b o h => by
      have nx : b ≠ x := fun e => by rw [e, xH] at h; cases h
      have nr : b ≠ r := fun e => by rw [e, hrH] at h; cases h
      exact fr5 b o nx nr (fr4 b o nx nr (s3 _ _ (s12 _ _ h)))
    have lH : H l = none := by
      cases e : H l with
      | none => rfl
      | some o =>
        have nx : l ≠ x := fun e2 => by rw [e2, xH] at e; cases e
        have nr : l ≠ r := fun e2 => by rw [e2, hrH] at e; cases e
        rw [fr4 _ _ nx nr (s3 _ _ (s12 _ _ e))] at lN
        cases lN
    obtain ⟨_, dx5, wv5, hx5, hw5, hr5⟩ := id F5
    have nrl : r ≠ l := fun e => by
      obtain ⟨_, _, _, _, _, h⟩ := F4
      rw [e, lN] at h
      cases h
    refine ⟨_, rfl, _, rfl, by show 2 ≤ sizeLine; decide, fun t ht => ?_⟩
    have st := same_upd (o := .tup [.ref r, .ref l]) ht
    exact q N t r l _ hwt hbe hN (S5.trans st) upd_same (sfree S5 ht) hrH lH nrl (st _ _ hr5) (Q5.same st)
end

end K16

namespace K16
open PySem PySem.Spec PyProof.Rows L2
def spSource : Sp := fun vs H Q _ => ∃ c, vs = [.int c] ∧ ∀ p x y z, 0 ≤ x → H p = none → Q (.ref p) (upd H p (.lst [.int x, .int y, .int z]))
def spDraw : Sp := fun vs H Q _ => ∃ p b, vs = [.ref p, .int b] ∧ Src H p ∧ 0 < b ∧ b.natAbs < 2 ^ 100 ∧ ∀ v x y z : Int, 0 ≤ v → v < b → 0 ≤ x → Q (.int v) (upd H p (.lst [.int x, .int y, .int z]))
def spPick (K : PySem.W.Frag) : Sp := fun vs H Q _ => ∃ p r xs, vs = [.ref p, .ref r] ∧ Src H p ∧ r ≠ p ∧ SqL K H r xs ∧ 0 < xs.length ∧ xs.length < 2 ^ 60 ∧ ∀ (v : V) (H' : Hp), v ∈ xs → Dn p H H' → Q v H'
section
variable {P : Program} {w : World} {K : PySem.W.Frag} {mg : Str → Option Value} {base : Heap} {a : Ad} {d : Fd}
theorem ok_source (T : Txt K mg a d) : FnOk P w K mg base CX0 1 a.source d.source P_source spSource := by
  refine T.f_source.ok sc_source (fun vs H Q E h => ?_) (fun cdv A outer s H vs Q E hr h => ?_)
  · obtain ⟨c, rfl, _⟩ := h
    rfl
  · obtain ⟨c, rfl, q⟩ := h
    refine ⟨_, (pss_one (ps_ret (pe_lst (pa_cons (pe_op op_mul (pe_callB call_abs (by rfl) T.z_abs (by decide +kernel) (pa_cons (pv 0) pa_nil)) (pe_callTy call_int1 (by rfl) T.z_int (by decide +kernel) (pa_cons (pe_cmpR op_ge (pe_callB call_abs (by rfl) T.z_abs (by decide +kernel) (pa_cons (pv 0) pa_nil)) (pe_op op_powW pe_int pe_int) (nomark _)) pa_nil))) (pa_cons (pe_op op_mod (pe_callTy call_int1 (by rfl) T.z_int (by decide +kernel) (pa_cons (pv 0) pa_nil)) pe_int) (pa_cons pe_int pa_nil)))))), ?_⟩
    have nn : 0 ≤ (if c < 0 then -c else c) := by split <;> omega
    refine ⟨_, rfl, _, rfl, _, rfl, _, rfl, _, _, rfl, rfl, ⟨by decide, by decide⟩, _, _, rfl, rfl, .inr ⟨_, rfl, ?_⟩⟩
    have hb : ∀ k : Bool, (-(2 ^ 64) < (if k = true then (1 : Int) else 0) ∧ (if k = true then (1 : Int) else 0) < 2 ^ 64) ∧ 0 ≤ (if k = true then (1 : Int) else 0) := fun k => by cases k <;> decide
    exact ⟨_, _, rfl, rfl, .inr (hb _).1, _, rfl, .inl ⟨_, rfl, _, _, rfl, rfl, (by show (0 : Int) < 2147483587; decide), by show 3 ≤ sizeLine; decide, fun p hp => q p _ _ _ (Int.mul_nonneg nn (hb _).2) hp⟩⟩
theorem ok_draw (T : Txt K mg a d) : FnOk P w K mg base CX0 1 a.draw d.draw P_draw spDraw := by
  refine T.f_draw.ok sc_draw (fun vs H Q E h => ?_) (fun cdv A outer s H vs Q E hr h => ?_)
  · obtain ⟨p, b, rfl, _⟩ := h
    rfl
  · obtain ⟨p, b, rfl, ⟨x, y, z, x0, hp⟩, b0, b64, q⟩ := h
    refine ⟨_, (pss_cons (ps_if (pt_cmpR op_gt (pe_ix ix_list (pv 0) pe_int (fun _ _ => rfl)) pe_int (nomark _)) (pss_cons (ps_set (i := 2) sc_draw.nd rfl (Or.inl rfl) (pe_op op_mod (pe_callTy call_int1 (by rfl) T.z_int (by decide +kernel) (pa_cons (pe_ix ix_list (pv 0) pe_int (fun _ _ => rfl)) pa_nil)) (pv 1)))
      (pss_cons (ps_asg (pe_op op_fdivW (pe_ix ix_list (pv 0) pe_int (fun _ _ => rfl)) (pv 1)) (pg_sub (pv 0) pe_int set_list))
      (pss_one (ps_ret (pv 2))))) pss_nil)
    (pss_cons (ps_asg (pe_op op_add (pe_ix ix_list (pv 0) pe_int (fun _ _ => rfl)) pe_int) (pg_sub (pv 0) pe_int set_list))
    (pss_cons (ps_set (i := 3) sc_draw.nd rfl (Or.inl rfl) (pe_op op_mod (pe_callTy call_int1 (by rfl) T.z_int (by decide +kernel) (pa_cons (pe_op op_mul (pe_op op_add (pe_op op_add (pe_ix ix_list (pv 0) pe_int (fun _ _ => rfl)) (pe_op op_mul pe_int (pe_ix ix_list (pv 0) pe_int (fun _ _ => rfl)))) pe_int) pe_int) pa_nil)) pe_int))
    (pss_cons (ps_set (i := 3) sc_draw.nd rfl (Or.inl rfl) (pe_op op_mod (pe_callTy call_int1 (by rfl) T.z_int (by decide +kernel) (pa_cons (pe_op op_mul (pv 3) (pe_op op_add (pe_op op_add (pe_op op_fdivW (pv 3) pe_int) pe_int) (pe_ix ix_list (pv 0) pe_int (fun _ _ => rfl)))) pa_nil)) pe_int))
    (pss_one (ps_ret (pe_op op_mod (pe_callTy call_int1 (by rfl) T.z_int (by decide +kernel) (pa_cons (pe_op op_fdivW (pe_op op_mod (pe_callTy call_int1 (by rfl) T.z_int (by decide +kernel) (pa_cons (pe_op op_mul (pv 3) (pe_op op_add (pe_op op_fdivW (pv 3) pe_int) pe_int)) pa_nil)) pe_int) pe_int) pa_nil)) (pv 1)))))))), ?_⟩
    have hS := L2.sq_of (K := K) hp
    have g0 : atI [V.int x, V.int y, V.int z] 0 = some (.int x) := atI_nat (j := 0) rfl
    have g1 : atI [V.int x, V.int y, V.int z] 1 = some (.int y) := atI_nat (j := 1) rfl
    have g2 : atI [V.int x, V.int y, V.int z] 2 = some (.int z) := atI_nat (j := 2) rfl
    refine ⟨_, rfl, p, _, _, _, rfl, rfl, hS, g0, _, _, rfl, rfl, _, rfl, ite2 (fun _ => ?_) (fun _ => ?_)⟩
    · refine ⟨_, rfl, p, _, _, _, rfl, rfl, hS, g0, .inl ⟨_, rfl, _, rfl, _, _, rfl, rfl, b0, ?_⟩⟩
      refine ⟨_, rfl, p, _, _, _, rfl, rfl, hS, g0, _, rfl, _, _, rfl, rfl, wide_div b0 b64 (by decide) (by decide), ?_⟩
      refine ⟨_, rfl, p, _, _, 0, rfl, rfl, hp, rfl, ?_⟩
      exact ⟨_, rfl, q _ _ _ _ (mb x b0).1 (mb x b0).2 (Int.ediv_nonneg x0 (by omega))⟩
    · refine ⟨_, rfl, p, _, _, _, rfl, rfl, hS, g2, _, _, rfl, rfl, ?_⟩
      refine ⟨_, rfl, p, _, _, 2, rfl, rfl, hp, rfl, ?_⟩
      have hp' : upd H p (.lst ([V.int x, V.int y, V.int z].set 2 (.int (z + 1)))) p = some (.lst [V.int x, V.int y, V.int (z + 1)]) := upd_same
      have hS' := L2.sq_of (K := K) hp'
      have g1' : atI [V.int x, V.int y, V.int (z + 1)] 1 = some (.int y) := atI_nat (j := 1) rfl
      have g2' : atI [V.int x, V.int y, V.int (z + 1)] 2 = some (.int (z + 1)) := atI_nat (j := 2) rfl
      refine ⟨_, rfl, p, _, _, _, rfl, rfl, hS', g1', _, rfl, p, _, _, _, rfl, rfl, hS', g2', 52711, z + 1, rfl, rfl, .inl ⟨by decide, by decide⟩, _, _, rfl, rfl, _, _, rfl, rfl, _, _, rfl, rfl, .inr ⟨by decide, by decide⟩, .inl ⟨_, rfl, _, _, rfl, rfl, (by show (0 : Int) < 2147483629; decide), ?_⟩⟩
      have w1 : ∀ i : Int, CDivW i 1021 := fun i => wide_div (b := 64) (by decide) (by decide) (by decide) (by decide)
      have w2 : ∀ i : Int, CDivW i 2011 := fun i => wide_div (b := 64) (by decide) (by decide) (by decide) (by decide)
      have w3 : ∀ i : Int, CDivW i 3 := fun i => wide_div (b := 64) (by decide) (by decide) (by decide) (by decide)
      refine ⟨_, rfl, _, rfl, _, _, rfl, rfl, w1 _, _, _, rfl, rfl, _, rfl, p, _, _, _, rfl, rfl, hS', g2', _, _, rfl, rfl, _, _, rfl, rfl, .inl (mbw _ (c := 2147483629) (by decide) (by decide)), .inl ⟨_, rfl, _, _, rfl, rfl, (by show (0 : Int) < 2147483579; decide), ?_⟩⟩
      refine ⟨_, rfl, _, rfl, _, _, rfl, rfl, w2 _, _, _, rfl, rfl, _, _, rfl, rfl, .inl (mbw _ (c := 2147483579) (by decide) (by decide)), .inl ⟨_, rfl, _, _, rfl, rfl, (by show (0 : Int) < 2147483549; decide), _, _, rfl, rfl, w3 _, .inl ⟨_, rfl, _, rfl, _, _, rfl, rfl, b0, q _ _ _ _ (mb _ b0).1 (mb _ b0).2 x0⟩⟩⟩
theorem ok_pick (T : Txt K mg a d) : FnOk P w K mg base CX0 2 a.pick d.pick P_pick (spPick K) := by
  have G_draw : FnOk P w K mg base CX0 1 a.draw d.draw P_draw spDraw := ok_draw T
  refine T.f_pick.ok sc_pick (fun vs H Q E h => ?_) (fun cdv A outer s H vs Q E hr h => ?_)
  · obtain ⟨p, r, xs, rfl, _⟩ := h
    rfl
  · obtain ⟨p, r, xs, rfl, hs, ne, hx, l0, l1, q⟩ := h
    refine ⟨_, (pss_one (ps_ret (pe_ix ix_list (pv 1) (pe_call G_draw (hr.mono (by decide)) (by rfl) T.g_draw T.k_draw T.b_draw .nil pass0 (pa_cons (pv 0) (pa_cons (pe_callB call_len_seq (by rfl) T.z_len PySem.boot_len (pa_cons (pv 1) pa_nil)) pa_nil))) (fun _ _ => rfl)))), ?_⟩
    refine ⟨_, rfl, _, rfl, _, rfl, r, xs, rfl, .inl hx, p, _, rfl, hs, by omega, ?_, fun v x y z v0 v1 x0 => ?_⟩
    · have e : ((xs.length : Nat) : Int).natAbs = xs.length := Int.natAbs_natCast _
      rw [e]
      exact Nat.lt_trans l1 (by decide)
    · obtain ⟨i, rfl⟩ : ∃ i : Nat, v = (i : Int) := ⟨v.toNat, (Int.toNat_of_nonneg v0).symm⟩
      have hi : i < xs.length := by omega
      have gi : xs[i]? = some xs[i] := List.getElem?_eq_getElem hi
      exact ⟨r, xs, _, xs[i], rfl, rfl, SB.seq SB.put ne hx, atI_nat gi, q _ _ (List.getElem_mem hi) (.put x0)⟩
end

theorem ints_in {lo hi : Int} {v : V} : ∀ {xs : List V}, (xs.all fun v => match v with | .int i => decide (lo ≤ i) && decide (i ≤ hi) | _ => false) = true → v ∈ xs → ∃ i, v = .int i ∧ lo ≤ i ∧ i ≤ hi := by
  intro xs h hv
  have := List.all_eq_true.mp h v hv
  cases v with
  | int i =>
    rw [Bool.and_eq_true, decide_eq_true_eq, decide_eq_true_eq] at this
    exact ⟨i, rfl, this.1, this.2⟩
  | _ => cases this
theorem last_at {ms : List Int} (h : ms ≠ []) : ∃ z, atI (ms.map V.int) (-1) = some (.int z) := by
  rcases List.eq_nil_or_concat ms with e | ⟨m, z, e⟩
  · exact absurd e h
  · refine ⟨z, ?_⟩
    rw [e, List.concat_eq_append, List.map_append, List.map_singleton]
    exact atI_last _ _
theorem Dn.push {p l : Addr} {H H' : Hp} {o : HO} (hl : H l = none) (n : l ≠ p) (d : Dn p H H') : Dn p H (upd H' l o) := by
  refine ⟨fun b u nb e => ?_, d.2.upd n⟩
  rw [upd_ne (ne_of_none e hl)]
  exact d.1 b u nb e
def spKeys : Sp := fun vs H Q _ => ∃ (p : Addr) (n : Nat), vs = [.ref p, .int (n : Int)] ∧ Src H p ∧ n ≤ 90000 ∧ ∀ (r : Addr) (ms : List Int) (H' : Hp), ms.length = n → H r = none → Dn p H H' → H' r = some (.lst (ms.map V.int)) → Q (.ref r) H'
section
variable {P : Program} {w : World} {K : PySem.W.Frag} {mg : Str → Option Value} {base : Heap} {a : Ad} {d : Fd}
theorem ok_keys (T : Txt K mg a d) : FnOk P w K mg base CX0 3 a.keys d.keys P_keys spKeys := by
  have G_draw : FnOk P w K mg base CX0 1 a.draw d.draw P_draw spDraw := ok_draw T
  have G_pick : FnOk P w K mg base CX0 2 a.pick d.pick P_pick (spPick K) := ok_pick T
  refine T.f_keys.ok sc_keys (fun vs H Q E h => ?_) (fun cdv A outer s H vs Q E hr h => ?_)
  · obtain ⟨p, n, rfl, _⟩ := h
    rfl
  · obtain ⟨p, n, rfl, hs, hn, q⟩ := h
    refine ⟨_, (pss_cons (ps_set (i := 2) sc_keys.nd rfl (Or.inl rfl) (pe_call G_pick (hr.mono (by decide)) (by rfl) T.g_pick T.k_pick T.b_pick .nil pass0 (pa_cons (pv 0) (pa_cons (pe_lst (pa_cons pe_int (pa_cons pe_int (pa_cons pe_int (pa_cons pe_int (pa_cons pe_int (pa_cons (pe_op op_powW pe_int pe_int) pa_nil))))))) pa_nil))))
    (pss_cons (ps_par (i := 3) (j := 4) rfl sc_keys.nd rfl rfl (by decide) rfl rfl (pa_cons (pe_call G_draw (hr.mono (by decide)) (by rfl) T.g_draw T.k_draw T.b_draw .nil pass0 (pa_cons (pv 0) (pa_cons pe_int pa_nil))) (pa_cons (pe_lst pa_nil) pa_nil)) (by rfl))
    (pss_cons (ps_for PassesOwn.never rfl (pi_range1 (by rfl) T.z_range (pa_cons (pv 1) pa_nil)) (pg_name (i := 5) sc_keys.nd rfl (Or.inl rfl))
      (pss_one (ps_if (PW.pt (pw_or (pt_cmpR op_eq (pv 3) pe_int (nomark _)) (pw_or1 (pt_cmpR (op_eqD hr.units) (pv 4) (pe_lst pa_nil) (nomark _))))) (pss_one (ps_expr (pe_bm PySem.F.plainAttrs_list PySem.F.slot_list_append PySem.F.type_list_append mt_append (pv 4) (pa_cons (pe_op op_sub (pe_call G_draw (hr.mono (by decide)) (by rfl) T.g_draw T.k_draw T.b_draw .nil pass0 (pa_cons (pv 0) (pa_cons (pv 2) pa_nil))) (pe_op op_fdivW (pv 2) pe_int)) pa_nil)))) (pss_one (ps_if (pt_cmpR op_eq (pv 3) pe_int (nomark _)) (pss_one (ps_expr (pe_bm PySem.F.plainAttrs_list PySem.F.slot_list_append PySem.F.type_list_append mt_append (pv 4) (pa_cons (pe_op op_add (pe_ix ix_list (pv 4) (pe_un un_neg pe_int) (fun _ _ => rfl)) (pe_call G_pick (hr.mono (by decide)) (by rfl) T.g_pick T.k_pick T.b_pick .nil pass0 (pa_cons (pv 0) (pa_cons (pe_lst (pa_cons pe_int (pa_cons pe_int (pa_cons pe_int (pa_cons pe_int (pa_cons pe_int (pa_cons (pe_un un_neg pe_int) pa_nil))))))) pa_nil)))) pa_nil)))) (pss_one (ps_if (pt_cmpR op_eq (pv 3) pe_int (nomark _)) (pss_one (ps_expr (pe_bm PySem.F.plainAttrs_list PySem.F.slot_list_append PySem.F.type_list_append mt_append (pv 4) (pa_cons (pe_op op_sub (pe_ix ix_list (pv 4) (pe_un un_neg pe_int) (fun _ _ => rfl)) (pe_call G_pick (hr.mono (by decide)) (by rfl) T.g_pick T.k_pick T.b_pick .nil pass0 (pa_cons (pv 0) (pa_cons (pe_lst (pa_cons pe_int (pa_cons pe_int (pa_cons pe_int (pa_cons pe_int (pa_cons pe_int (pa_cons pe_int (pa_cons (pe_un un_neg pe_int) pa_nil)))))))) pa_nil)))) pa_nil)))) (pss_cons (ps_set (i := 6) sc_keys.nd rfl (Or.inl rfl) (pe_call G_pick (hr.mono (by decide)) (by rfl) T.g_pick T.k_pick T.b_pick .nil pass0 (pa_cons (pv 0) (pa_cons (pe_lst (pa_cons pe_int (pa_cons pe_int (pa_cons pe_int (pa_cons (pe_un un_neg pe_int) (pa_cons (pe_un un_neg pe_int) pa_nil)))))) pa_nil))))
              (pss_one (ps_expr (pe_bm PySem.F.plainAttrs_list PySem.F.slot_list_append PySem.F.type_list_append mt_append (pv 4) (pa_cons (pe_op op_add (pe_ix ix_list (pv 4) (pe_un un_neg pe_int) (fun _ _ => rfl)) (pe_op op_mul (pv 6) (pe_op op_add pe_int (pe_call G_draw (hr.mono (by decide)) (by rfl) T.g_draw T.k_draw T.b_draw .nil pass0 (pa_cons (pv 0) (pa_cons pe_int pa_nil)))))) pa_nil))))))))))))
    (pss_one (ps_ret (pv 4)))))), ?_⟩
    refine ⟨_, rfl, _, _, rfl, rfl, ⟨by decide, by decide⟩, by show 6 ≤ sizeLine; decide, fun r0 hr0 => ?_⟩
    refine ⟨p, r0, _, rfl, hs.new hr0, hs.ne hr0, L2.sq_of upd_same, by show 0 < 6; decide, by show 6 < 2 ^ 60; decide, fun wv H1 hwv d1 => ?_⟩
    obtain ⟨wide, rfl, wl, wh⟩ := ints_in (lo := 1) (hi := 100000000000000000000) (by decide +kernel) hwv
    have w0 : 0 < wide := by omega
    have w1 : wide.natAbs < 2 ^ 100 := by omega
    have wd2 : CDivW wide 2 := wide_div (b := 64) (by decide) (by decide) (by decide) (by decide)
    have dn1 : Dn p H H1 := ((Dn.refl hs).new hr0).trans d1
    refine ⟨_, rfl, p, 4, rfl, dn1.2, by decide, by decide, fun way x y z y0 y1 x0 => ?_⟩
    have dn2 : Dn p H _ := dn1.trans (.put (x := x) (y := y) (z := z) x0)
    refine ⟨Nat.zero_le _, fun l hlN => ⟨_, _, rfl, ?_⟩⟩
    have nlp : l ≠ p := dn2.2.ne hlN
    have lH : H l = none := dn2.free hlN
    have dn3 := dn2.new (o := .lst []) hlN
    have hl3 : upd (upd H1 p (.lst [.int x, .int y, .int z])) l (.lst []) l = some (.lst (([] : List Int).map V.int)) := upd_same
    generalize upd (upd H1 p (.lst [.int x, .int y, .int z])) l (.lst []) = H3 at dn3 hl3 ⊢
    refine ⟨_, rfl, n, rfl, by omega, by omega, for_range (lo := 0) (n := n) (fun i σ H' => ∃ (ms : List Int) (u v : Option V), σ = [some (.ref p), some (.int (n : Int)), some (.int wide), some (.int way), some (.ref l), u, v] ∧ ms.length = i ∧ Dn p H H' ∧ H' l = some (.lst (ms.map V.int))) ⟨[], none, none, rfl, rfl, dn3, hl3⟩ ?_ ?_⟩
    · rintro i σ H4 hi ⟨ms, u, v, rfl, hm, d4, hl4⟩
      refine ⟨_, rfl, rfl, _, rfl, ?_⟩
      by_cases hw : way = 0
      · rw [decide_eq_true (congrArg V.int hw)]
        refine iteT (B := True) (iteT ?_)
        refine ⟨_, rfl, .inl ⟨rfl, _, L2.sq_of hl4⟩, _, rfl, _, rfl, p, wide, rfl, (d4).2, w0, w1, fun v x y z v0 v1 x0 => ?_⟩
        have dv := (d4).trans (Dn.put (x := x) (y := y) (z := z) x0)
        have hlv := (Dn.put (p := p) (H := _) (x := x) (y := y) (z := z) x0).1 _ _ nlp hl4
        refine ⟨_, rfl, _, _, rfl, rfl, wd2, _, _, rfl, rfl, l, _, _, rfl, rfl, hlv, by rw [List.length_map]; exact Nat.lt_of_le_of_lt (by omega : ms.length ≤ 90000) (by decide), ms ++ [v - wide / 2], _, _, rfl, by simp [hm], Dn.push lH nlp dv, ?_⟩
        rw [map_snoc]
        exact upd_same
      · rw [decide_eq_false (fun e => hw (V.int.inj e))]
        refine iteF ⟨_, rfl, Nat.zero_le _, fun e he => ⟨_, .list [], dp_ints (L2.sq_of (same_upd he _ _ hl4)), .lst (L2.sq_of upd_same) .nil, shaped_ints _, by decide, _, rfl, ?_⟩⟩
        have d5 := d4.new (o := .lst []) he
        have hl5 : upd H4 e (.lst []) l = some (.lst (ms.map V.int)) := same_upd he _ _ hl4
        generalize upd H4 e (.lst []) = H5 at d5 hl5 ⊢
        refine ite2 (fun c => ?_) (fun c => ?_)
        · refine ⟨_, rfl, .inl ⟨rfl, _, L2.sq_of hl5⟩, _, rfl, _, rfl, p, wide, rfl, (d5).2, w0, w1, fun v x y z v0 v1 x0 => ?_⟩
          have dv := (d5).trans (Dn.put (x := x) (y := y) (z := z) x0)
          have hlv := (Dn.put (p := p) (H := _) (x := x) (y := y) (z := z) x0).1 _ _ nlp hl5
          refine ⟨_, rfl, _, _, rfl, rfl, wd2, _, _, rfl, rfl, l, _, _, rfl, rfl, hlv, by rw [List.length_map]; exact Nat.lt_of_le_of_lt (by omega : ms.length ≤ 90000) (by decide), ms ++ [v - wide / 2], _, _, rfl, by simp [hm], Dn.push lH nlp dv, ?_⟩
          rw [map_snoc]
          exact upd_same
        · have ne : ms ≠ [] := fun e2 => c (by rw [e2]; rfl)
          obtain ⟨zl, gl⟩ := last_at ne
          refine ⟨_, rfl, rfl, _, rfl, ite2 (fun _ => ?_) (fun _ => ?_)⟩
          · refine ⟨_, rfl, .inl ⟨rfl, _, L2.sq_of hl5⟩, _, rfl, _, rfl, l, _, _, _, rfl, rfl, L2.sq_of hl5, gl, _, rfl, _, rfl, by show 6 ≤ sizeLine; decide, fun r hr => ?_⟩
            refine ⟨p, r, _, rfl, d5.2.new hr, d5.2.ne hr, L2.sq_of upd_same, by show 0 < 6; decide, by show 6 < 2 ^ 60; decide, fun kv H6 hkv d6 => ?_⟩
            obtain ⟨k, rfl, _, _⟩ := ints_in (lo := -1) (hi := 2) (by decide +kernel) hkv
            have d7 := (d5.new hr).trans d6
            have hl7 := d6.1 _ _ nlp (same_upd hr _ _ hl5)
            refine ⟨_, _, rfl, rfl, l, _, _, rfl, rfl, hl7, by rw [List.length_map]; exact Nat.lt_of_le_of_lt (by omega : ms.length ≤ 90000) (by decide), ms ++ [zl + k], _, _, rfl, by simp [hm], Dn.push lH nlp d7, ?_⟩
            rw [map_snoc]
            exact upd_same
          refine ⟨_, rfl, rfl, _, rfl, ite2 (fun _ => ?_) (fun _ => ?_)⟩
          · refine ⟨_, rfl, .inl ⟨rfl, _, L2.sq_of hl5⟩, _, rfl, _, rfl, l, _, _, _, rfl, rfl, L2.sq_of hl5, gl, _, rfl, _, rfl, by show 7 ≤ sizeLine; decide, fun r hr => ?_⟩
            refine ⟨p, r, _, rfl, d5.2.new hr, d5.2.ne hr, L2.sq_of upd_same, by show 0 < 7; decide, by show 7 < 2 ^ 60; decide, fun kv H6 hkv d6 => ?_⟩
            obtain ⟨k, rfl, _, _⟩ := ints_in (lo := -1) (hi := 2) (by decide +kernel) hkv
            have d7 := (d5.new hr).trans d6
            have hl7 := d6.1 _ _ nlp (same_upd hr _ _ hl5)
            refine ⟨_, _, rfl, rfl, l, _, _, rfl, rfl, hl7, by rw [List.length_map]; exact Nat.lt_of_le_of_lt (by omega : ms.length ≤ 90000) (by decide), ms ++ [zl - k], _, _, rfl, by simp [hm], Dn.push lH nlp d7, ?_⟩
            rw [map_snoc]
            exact upd_same
          refine ⟨_, rfl, _, rfl, _, rfl, by show 5 ≤ sizeLine; decide, fun r hr => ?_⟩
          refine ⟨p, r, _, rfl, d5.2.new hr, d5.2.ne hr, L2.sq_of upd_same, by show 0 < 5; decide, by show 5 < 2 ^ 60; decide, fun kv H6 hkv d6 => ?_⟩
          obtain ⟨k, rfl, k0, k1⟩ := ints_in (lo := -1) (hi := 1) (by decide +kernel) hkv
          have d7 := (d5.new hr).trans d6
          have hl7 := d6.1 _ _ nlp (same_upd hr _ _ hl5)
          refine ⟨_, rfl, .inl ⟨rfl, _, L2.sq_of hl7⟩, _, rfl, _, rfl, l, _, _, _, rfl, rfl, L2.sq_of hl7, gl, _, rfl, _, rfl, p, 2, rfl, d7.2, by decide, by decide, fun v x y z v0 v1 x0 => ?_⟩
          have d8 := d7.trans (.put (x := x) (y := y) (z := z) x0)
          have hl8 := (Dn.put (p := p) (H := H6) (x := x) (y := y) (z := z) x0).1 _ _ nlp hl7
          refine ⟨_, _, rfl, rfl, _, _, rfl, rfl, .inl ⟨by omega, by omega⟩, _, _, rfl, rfl, l, _, _, rfl, rfl, hl8, by rw [List.length_map]; exact Nat.lt_of_le_of_lt (by omega : ms.length ≤ 90000) (by decide), ms ++ [zl + k * (1 + v)], _, _, rfl, by simp [hm], Dn.push lH nlp d8, ?_⟩
          rw [map_snoc]
          exact upd_same
    · rintro σ H4 ⟨ms, u, v, rfl, hm, d4, hl4⟩
      exact ⟨_, rfl, q l ms H4 hm lH d4 hl4⟩
end

end K16

namespace K16
open PySem PySem.Spec PyProof.Rows L2
/-- the places of the items that are placed -/
def idxK (n rd : Nat) : List Int := (List.range (n - max rd 1)).map fun j => ((max rd 1 + j : Nat) : Int)
def easyK (n : Nat) : List Int := (List.range n).map fun i => ((i : Nat) : Int)
def hardK (n rd : Nat) : List Int := (List.range rd).map (fun i => ((i : Nat) : Int)) ++ (List.range (n - rd)).map fun j => -((rd : Int) + (j : Nat))
theorem rg_easy (n : Nat) : rgV 0 (n : Int) = (easyK n).map V.int := by
  unfold rgV easyK
  rw [List.map_map, Int.sub_zero, Int.toNat_natCast]
  exact List.map_congr_left fun i _ => by
    show V.int (0 + (i : Int)) = V.int (i : Int)
    rw [Int.zero_add]
theorem rg_idx (n rd : Nat) : rgV (if (1 : Int) > (rd : Int) then 1 else (rd : Int)) (n : Int) = (idxK n rd).map V.int := by
  unfold rgV idxK
  have e : (if (1 : Int) > (rd : Int) then (1 : Int) else (rd : Int)) = ((max rd 1 : Nat) : Int) := by
    split <;> omega
  rw [e, List.map_map]
  have e2 : ((n : Int) - ((max rd 1 : Nat) : Int)).toNat = n - max rd 1 := by omega
  rw [e2]
  exact List.map_congr_left fun i _ => by
    show V.int (((max rd 1 : Nat) : Int) + (i : Int)) = V.int ((max rd 1 + i : Nat) : Int)
    rw [Int.natCast_add]
theorem sum_castN (f : Nat → Nat) : ∀ L : List Nat, (L.map fun j => ((f j : Nat) : Int)).sum = (((L.map f).sum : Nat) : Int)
  | [] => rfl
  | a :: r => by
    rw [List.map_cons, List.sum_cons, List.map_cons, List.sum_cons, sum_castN f r, Int.natCast_add]
theorem bits_bl (n : Nat) : (Builtin.Int.intBits (n : Int) : Nat) = PF.bl n := by
  unfold Builtin.Int.intBits PF.bl
  rcases Nat.eq_zero_or_pos n with h | h
  · subst h
    rfl
  · simp [Nat.pos_iff_ne_zero.mp h]
theorem bits_fb (n : Nat) : ((Builtin.Int.intBits ((n : Int) + 1) : Nat) : Int) - 1 = (PF.fb n : Nat) := by
  have e : (n : Int) + 1 = ((n + 1 : Nat) : Int) := by omega
  rw [e, bits_bl]
  unfold PF.bl PF.fb
  rw [if_neg (by omega)]
  omega
def spIdx : Sp := fun vs H Q _ => ∃ (n rd : Nat), vs = [.int (n : Int), .int (rd : Int)] ∧ n ≤ 64 ∧ rd ≤ n ∧ ∀ (p : Addr) (H' : Hp), Same H H' → H p = none → H' p = some (.lst ((idxK n rd).map V.int)) → Q (.ref p) H'
def spSum (g : Nat → Nat) : Sp := fun vs H Q _ => ∃ (n rd : Nat), vs = [.int (n : Int), .int (rd : Int)] ∧ n ≤ 64 ∧ rd ≤ n ∧ ∀ H', Same H H' → Q (.int ((PF.S g (max rd 1) n : Nat) : Int)) H'
def spKs (g : Nat → Nat → List Int) : Sp := fun vs H Q _ => ∃ (n rd : Nat), vs = [.int (n : Int), .int (rd : Int)] ∧ n ≤ 64 ∧ rd ≤ n ∧ ∀ (p : Addr) (H' : Hp), Same H H' → H p = none → H' p = some (.lst ((g n rd).map V.int)) → Q (.ref p) H'
theorem idx_at {n rd i : Nat} {x : V} (h : ((idxK n rd).map V.int)[i]? = some x) : i < n - max rd 1 ∧ x = .int ((max rd 1 + i : Nat) : Int) := by
  have hi : i < n - max rd 1 := by
    have := (List.getElem?_eq_some_iff.mp h).1
    unfold idxK at this
    rw [List.length_map, List.length_map, List.length_range] at this
    exact this
  refine ⟨hi, ?_⟩
  unfold idxK at h
  rw [List.getElem?_map, List.getElem?_map, List.getElem?_range hi] at h
  exact (Option.some.inj h).symm
theorem S_list (g : Nat → Nat) (n rd : Nat) : ((List.range (n - max rd 1)).map fun j => ((g (max rd 1 + j) : Nat) : Int)).sum = ((PF.S g (max rd 1) n : Nat) : Int) := sum_castN (fun j => g (max rd 1 + j)) _
def spHalf (g : Nat → Nat) : Sp := fun vs H Q _ => ∃ n : Nat, vs = [.int (n : Int)] ∧ Q (.int ((g n : Nat) : Int)) H
section
variable {P : Program} {w : World} {K : PySem.W.Frag} {mg : Str → Option Value} {base : Heap} {a : Ad} {d : Fd}
theorem ok_idx (T : Txt K mg a d) : FnOk P w K mg base CX0 1 a.placed_indexes d.placed_indexes P_placed_indexes spIdx := by
  refine T.f_placed_indexes.ok sc_placed_indexes (fun vs H Q E h => ?_) (fun cdv A outer s0 H vs Q E hr h => ?_)
  · obtain ⟨n, rd, rfl, _⟩ := h
    rfl
  · obtain ⟨n, rd, rfl, h64, hrd, q⟩ := h
    refine ⟨_, (pss_one (ps_ret (pe_listRg (by rfl) (by rfl) T.z_list (prg_2 (by rfl) T.z_range (pe_callB (call_max2 rfl) (by rfl) T.z_max (by decide +kernel) (pa_cons (pv 1) (pa_cons pe_int pa_nil))) (pv 0))))), ?_⟩
    refine ⟨_, rfl, _, _, rfl, _, rfl, _, _, rfl, rfl, ?_, fun p hp => ?_⟩
    · have e : (if (1 : Int) > (rd : Int) then (1 : Int) else (rd : Int)) = ((max rd 1 : Nat) : Int) := by
        split <;> omega
      rw [e]
      exact RgOk.of_le (by omega) (by omega) (by omega) (by omega)
    rw [rg_idx]
    exact q p _ (same_upd hp) hp upd_same
theorem ok_fhalf (T : Txt K mg a d) : FnOk P w K mg base CX0 1 a.fewest_of_halving d.fewest_of_halving P_fewest_of_halving (spHalf PF.fb) := by
  refine T.f_fewest_of_halving.ok sc_fewest_of_halving (fun vs H Q E h => ?_) (fun cdv A outer s0 H vs Q E hr h => ?_)
  · obtain ⟨n, rfl, _⟩ := h
    rfl
  · obtain ⟨n, rfl, q⟩ := h
    refine ⟨_, (pss_one (ps_ret (pe_op op_sub (pe_bits (pe_op op_add (pv 0) pe_int)) pe_int))), ?_⟩
    refine ⟨_, rfl, _, _, rfl, rfl, _, rfl, _, _, rfl, rfl, ?_⟩
    show Q (.int (((Builtin.Int.intBits ((n : Int) + 1) : Nat) : Int) - 1)) H
    rw [bits_fb]
    exact q
theorem ok_mhalf (T : Txt K mg a d) : FnOk P w K mg base CX0 1 a.most_of_halving d.most_of_halving P_most_of_halving (spHalf PF.bl) := by
  refine T.f_most_of_halving.ok sc_most_of_halving (fun vs H Q E h => ?_) (fun cdv A outer s0 H vs Q E hr h => ?_)
  · obtain ⟨n, rfl, _⟩ := h
    rfl
  · obtain ⟨n, rfl, q⟩ := h
    refine ⟨_, (pss_one (ps_ret (pe_bits (pv 0)))), ?_⟩
    refine ⟨_, rfl, _, rfl, ?_⟩
    show Q (.int ((Builtin.Int.intBits (n : Int) : Nat) : Int)) H
    rw [bits_bl]
    exact q
theorem ok_few (T : Txt K mg a d) : FnOk P w K mg base CX0 5 a.fewest_placing d.fewest_placing P_fewest_placing (spSum PF.fb) := by
  have G_check_numbers : FnOk P w K mg base CX0 4 a.check_numbers d.check_numbers P_check_numbers spCheckNs := ok_check_numbers T
  have G_placed_indexes : FnOk P w K mg base CX0 1 a.placed_indexes d.placed_indexes P_placed_indexes spIdx := ok_idx T
  have G_fewest_of_halving : FnOk P w K mg base CX0 1 a.fewest_of_halving d.fewest_of_halving P_fewest_of_halving (spHalf PF.fb) := ok_fhalf T
  refine T.f_fewest_placing.ok sc_fewest_placing (fun vs H Q E h => ?_) (fun cdv A outer s0 H vs Q E hr h => ?_)
  · obtain ⟨n, rd, rfl, _⟩ := h
    rfl
  · obtain ⟨n, rd, rfl, h64, hrd, q⟩ := h
    refine ⟨_, (pss_cons (ps_expr (pe_call G_check_numbers (hr.mono (by decide)) (by rfl) T.g_check_numbers T.k_check_numbers T.b_check_numbers .nil pass0 (pa_cons (pv 0) (pa_cons (pv 1) pa_nil))))
    (pss_one (ps_ret (pe_callB (cr_sum rfl) (by rfl) T.z_sum (by decide +kernel) (pa_cons (pe_lc (own := [("index", 2)]) (g := gName 2) (tt := tYes) rfl sc_fewest_placing.nd (pi_list (pe_call G_placed_indexes (hr.mono (by decide)) (by rfl) T.g_placed_indexes T.k_placed_indexes T.b_placed_indexes .nil pass0 (pa_cons (pv 0) (pa_cons (pv 1) pa_nil)))) (blkOk_by (N := N_fewest_placing) (sc := defScope s_fewest_placing) (by decide +kernel)) (fun _ _ _ _ _ => pg_name (i := 2) sc_fewest_placing.nd rfl (Or.inl rfl)) (fun _ _ _ _ _ => pts_nil) (fun _ _ _ _ _ => (pe_call G_fewest_of_halving (hr.mono (by decide)) (by rfl) T.g_fewest_of_halving T.k_fewest_of_halving T.b_fewest_of_halving .nil pass0 (pa_cons (pv 2) pa_nil)))) pa_nil))))), ?_⟩
    refine ⟨_, rfl, _, rfl, n, rd, rfl, h64, hrd, ?_⟩
    refine ⟨_, rfl, _, rfl, n, rd, rfl, h64, hrd, fun p H1 s1 pN hp => ?_⟩
    refine ⟨p, rfl, ⟨_, L2.sq_of hp⟩, fun D hD => ?_⟩
    refine lc_list (K := K) (a := p) (xs := (idxK n rd).map V.int) (fun i H' => Same H1 H' ∧ H' D = some (.lst (((List.range i).map fun j => ((PF.fb (max rd 1 + j) : Nat) : Int)).map V.int))) ⟨same_upd hD, upd_same⟩ (fun i H' _ h => L2.sq_of (h.1 _ _ hp)) ?_ ?_
    · rintro i x H2 hx ⟨s2, h2⟩
      obtain ⟨hi, rfl⟩ := idx_at hx
      refine ⟨rfl, _, rfl, max rd 1 + i, rfl, _, h2, ?_, ?_, ?_⟩
      · rw [List.length_map, List.length_map, List.length_range]
        exact Nat.lt_of_le_of_lt (by omega : _ ≤ 64) (by decide)
      · intro b o e
        rw [upd_ne (ne_of_none e hD)]
        exact s2 _ _ e
      · rw [upd_same, List.range_succ, List.map_append, List.map_append]
        rfl
    rintro H2 ⟨s2, h2⟩
    have el : ((idxK n rd).map V.int).length = n - max rd 1 := by
      unfold idxK
      rw [List.length_map, List.length_map, List.length_range]
    rw [el] at h2
    refine ⟨D, _, rfl, L2.sq_of h2, ?_⟩
    rw [S_list]
    exact q _ (s1.trans s2)
theorem ok_most (T : Txt K mg a d) : FnOk P w K mg base CX0 5 a.most_placing d.most_placing P_most_placing (spSum PF.bl) := by
  have G_check_numbers : FnOk P w K mg base CX0 4 a.check_numbers d.check_numbers P_check_numbers spCheckNs := ok_check_numbers T
  have G_placed_indexes : FnOk P w K mg base CX0 1 a.placed_indexes d.placed_indexes P_placed_indexes spIdx := ok_idx T
  have G_most_of_halving : FnOk P w K mg base CX0 1 a.most_of_halving d.most_of_halving P_most_of_halving (spHalf PF.bl) := ok_mhalf T
  refine T.f_most_placing.ok sc_most_placing (fun vs H Q E h => ?_) (fun cdv A outer s0 H vs Q E hr h => ?_)
  · obtain ⟨n, rd, rfl, _⟩ := h
    rfl
  · obtain ⟨n, rd, rfl, h64, hrd, q⟩ := h
    refine ⟨_, (pss_cons (ps_expr (pe_call G_check_numbers (hr.mono (by decide)) (by rfl) T.g_check_numbers T.k_check_numbers T.b_check_numbers .nil pass0 (pa_cons (pv 0) (pa_cons (pv 1) pa_nil))))
    (pss_one (ps_ret (pe_callB (cr_sum rfl) (by rfl) T.z_sum (by decide +kernel) (pa_cons (pe_lc (own := [("index", 2)]) (g := gName 2) (tt := tYes) rfl sc_most_placing.nd (pi_list (pe_call G_placed_indexes (hr.mono (by decide)) (by rfl) T.g_placed_indexes T.k_placed_indexes T.b_placed_indexes .nil pass0 (pa_cons (pv 0) (pa_cons (pv 1) pa_nil)))) (blkOk_by (N := N_most_placing) (sc := defScope s_most_placing) (by decide +kernel)) (fun _ _ _ _ _ => pg_name (i := 2) sc_most_placing.nd rfl (Or.inl rfl)) (fun _ _ _ _ _ => pts_nil) (fun _ _ _ _ _ => (pe_call G_most_of_halving (hr.mono (by decide)) (by rfl) T.g_most_of_halving T.k_most_of_halving T.b_most_of_halving .nil pass0 (pa_cons (pv 2) pa_nil)))) pa_nil))))), ?_⟩
    refine ⟨_, rfl, _, rfl, n, rd, rfl, h64, hrd, ?_⟩
    refine ⟨_, rfl, _, rfl, n, rd, rfl, h64, hrd, fun p H1 s1 pN hp => ?_⟩
    refine ⟨p, rfl, ⟨_, L2.sq_of hp⟩, fun D hD => ?_⟩
    refine lc_list (K := K) (a := p) (xs := (idxK n rd).map V.int) (fun i H' => Same H1 H' ∧ H' D = some (.lst (((List.range i).map fun j => ((PF.bl (max rd 1 + j) : Nat) : Int)).map V.int))) ⟨same_upd hD, upd_same⟩ (fun i H' _ h => L2.sq_of (h.1 _ _ hp)) ?_ ?_
    · rintro i x H2 hx ⟨s2, h2⟩
      obtain ⟨hi, rfl⟩ := idx_at hx
      refine ⟨rfl, _, rfl, max rd 1 + i, rfl, _, h2, ?_, ?_, ?_⟩
      · rw [List.length_map, List.length_map, List.length_range]
        exact Nat.lt_of_le_of_lt (by omega : _ ≤ 64) (by decide)
      · intro b o e
        rw [upd_ne (ne_of_none e hD)]
        exact s2 _ _ e
      · rw [upd_same, List.range_succ, List.map_append, List.map_append]
        rfl
    rintro H2 ⟨s2, h2⟩
    have el : ((idxK n rd).map V.int).length = n - max rd 1 := by
      unfold idxK
      rw [List.length_map, List.length_map, List.length_range]
    rw [el] at h2
    refine ⟨D, _, rfl, L2.sq_of h2, ?_⟩
    rw [S_list]
    exact q _ (s1.trans s2)
theorem ok_easy (T : Txt K mg a d) : FnOk P w K mg base CX0 5 a.easy_keys d.easy_keys P_easy_keys (spKs fun n _ => easyK n) := by
  have G_check_numbers : FnOk P w K mg base CX0 4 a.check_numbers d.check_numbers P_check_numbers spCheckNs := ok_check_numbers T
  refine T.f_easy_keys.ok sc_easy_keys (fun vs H Q E h => ?_) (fun cdv A outer s0 H vs Q E hr h => ?_)
  · obtain ⟨n, rd, rfl, _⟩ := h
    rfl
  · obtain ⟨n, rd, rfl, h64, hrd, q⟩ := h
    refine ⟨_, (pss_cons (ps_expr (pe_call G_check_numbers (hr.mono (by decide)) (by rfl) T.g_check_numbers T.k_check_numbers T.b_check_numbers .nil pass0 (pa_cons (pv 0) (pa_cons (pv 1) pa_nil))))
    (pss_one (ps_ret (pe_listRg (by rfl) (by rfl) T.z_list (prg_1 (by rfl) T.z_range (pv 0)))))), ?_⟩
    refine ⟨_, rfl, _, rfl, n, rd, rfl, h64, hrd, ?_⟩
    refine ⟨_, rfl, _, rfl, rgOk_nat (by omega), fun p hp => ?_⟩
    rw [rg_easy]
    exact q p _ (same_upd hp) hp upd_same
theorem ok_hard (T : Txt K mg a d) : FnOk P w K mg base CX0 5 a.hard_keys d.hard_keys P_hard_keys (spKs hardK) := by
  have G_check_numbers : FnOk P w K mg base CX0 4 a.check_numbers d.check_numbers P_check_numbers spCheckNs := ok_check_numbers T
  refine T.f_hard_keys.ok sc_hard_keys (fun vs H Q E h => ?_) (fun cdv A outer s0 H vs Q E hr h => ?_)
  · obtain ⟨n, rd, rfl, _⟩ := h
    rfl
  · obtain ⟨n, rd, rfl, h64, hrd, q⟩ := h
    refine ⟨_, (pss_cons (ps_expr (pe_call G_check_numbers (hr.mono (by decide)) (by rfl) T.g_check_numbers T.k_check_numbers T.b_check_numbers .nil pass0 (pa_cons (pv 0) (pa_cons (pv 1) pa_nil))))
    (pss_one (ps_ret (pe_op op_catS (pe_listRg (by rfl) (by rfl) T.z_list (prg_1 (by rfl) T.z_range (pv 1))) (pe_lc (own := [("index", 2)]) (g := gName 2) (tt := tYes) rfl sc_hard_keys.nd (pi_range2 (by rfl) T.z_range (pa_cons (pv 1) (pa_cons (pv 0) pa_nil))) (blkOk_by (N := N_hard_keys) (sc := defScope s_hard_keys) (by decide +kernel)) (fun _ _ _ _ _ => pg_name (i := 2) sc_hard_keys.nd rfl (Or.inl rfl)) (fun _ _ _ _ _ => pts_nil) (fun _ _ _ _ _ => (pe_un un_neg (pv 2)))))))), ?_⟩
    refine ⟨_, rfl, _, rfl, n, rd, rfl, h64, hrd, ?_⟩
    refine ⟨_, rfl, _, rfl, rgOk_nat (by omega), fun p hp => ?_⟩
    rw [rg_easy]
    have s1 := same_upd (o := .lst ((easyK rd).map V.int)) hp
    have hp1 : upd H p (.lst ((easyK rd).map V.int)) p = some (.lst ((easyK rd).map V.int)) := upd_same
    generalize upd H p (.lst ((easyK rd).map V.int)) = H1 at s1 hp1 ⊢
    refine ⟨_, rfl, _, rfl, _, _, rfl, ⟨by omega, by omega, by omega, by omega⟩, fun D hD => ?_⟩
    refine lc_range (lo := (rd : Int)) (n := ((n : Int) - (rd : Int)).toNat) (fun i H' => Same H1 H' ∧ H' D = some (.lst (((List.range i).map fun j => -((rd : Int) + (j : Nat))).map V.int))) ⟨same_upd hD, upd_same⟩ ?_ ?_
    · rintro i H2 hi ⟨s2, h2⟩
      refine ⟨rfl, _, rfl, _, rfl, _, h2, ?_, ?_, ?_⟩
      · rw [List.length_map, List.length_map, List.length_range]
        exact Nat.lt_of_le_of_lt (by omega : _ ≤ 64) (by decide)
      · intro b o e
        rw [upd_ne (ne_of_none e hD)]
        exact s2 _ _ e
      · rw [upd_same, List.range_succ, List.map_append, List.map_append]
        rfl
    rintro H2 ⟨s2, h2⟩
    have en : ((n : Int) - (rd : Int)).toNat = n - rd := by omega
    rw [en] at h2
    refine ⟨p, D, _, _, rfl, rfl, L2.sq_of (s2 _ _ hp1), L2.sq_of h2, ?_, fun r hr => ?_⟩
    · unfold easyK
      rw [List.length_map, List.length_map, List.length_map, List.length_map, List.length_range, List.length_range]
      exact Nat.le_trans (by omega : _ ≤ 64) (by decide)
    have s12 := s1.trans s2
    refine q r _ (s12.trans (same_upd hr)) (sfree s12 hr) ?_
    rw [upd_same, ← List.map_append]
    rfl
end
end K16

namespace K16
open PySem PySem.Spec PyProof.Rows L2
def spSpots : Sp := fun vs H Q _ => ∃ (i p : Nat), vs = [.int (i : Int), .int (p : Int)] ∧ i < 64 ∧ ∀ (r : Addr) (H' : Hp) (xs : List V), Same H H' → H r = none → H' r = some (.lst xs) → xs.length = PF.way i p → Q (.ref r) H'
def spWays : Sp := fun vs H Q _ => ∃ (i : Nat), vs = [.int (i : Int)] ∧ 0 < i ∧ i < 64 ∧ ∀ (t : Addr) (H' : Hp), Same H H' → H t = none → H' t = some (.tup [.int ((PF.fb i : Nat) : Int), .int ((PF.bl i : Nat) : Int)]) → Q (.ref t) H'
def spRising : Sp := fun vs H Q _ => ∃ (p : Addr) (ns : List Int) (rd : Nat), vs = [.ref p, .int (rd : Int)] ∧ H p = some (.lst (ns.map V.int)) ∧ rd ≤ ns.length ∧ rd ≤ 64 ∧ (∀ k, k + 1 < rd → ns.getD k 0 < ns.getD (k + 1) 0) ∧ ∀ H', Same H H' → Q (.bl true) H'
theorem spots_end {p k lo hi : Nat} (h : ¬ lo < hi) : PF.spots p k lo hi = 0 := by
  cases k with
  | zero => rfl
  | succ k =>
    unfold PF.spots
    rw [if_neg h]
theorem spots_low {p k lo hi : Nat} (h : lo < hi) (hp : p ≤ (lo + hi) / 2) : PF.spots p (k + 1) lo hi = PF.spots p k lo ((lo + hi) / 2) + 1 := by
  conv => lhs; unfold PF.spots
  rw [if_pos h, if_pos hp]
theorem spots_high {p k lo hi : Nat} (h : lo < hi) (hp : ¬ p ≤ (lo + hi) / 2) : PF.spots p (k + 1) lo hi = PF.spots p k ((lo + hi) / 2 + 1) hi + 1 := by
  conv => lhs; unfold PF.spots
  rw [if_pos h, if_neg hp]
section
variable {P : Program} {w : World} {K : PySem.W.Frag} {mg : Str → Option Value} {base : Heap} {a : Ad} {d : Fd}
theorem ok_spots (T : Txt K mg a d) : FnOk P w K mg base CX0 1 a.spots d.spots P_spots spSpots := by
  refine T.f_spots.ok sc_spots (fun vs H Q E h => ?_) (fun cdv A outer s0 H vs Q E hr h => ?_)
  · obtain ⟨i, p, rfl, _⟩ := h
    rfl
  · obtain ⟨i, p, rfl, hi, q⟩ := h
    refine ⟨_, (pss_cons (ps_par3 (i := 2) (j := 3) (l := 4) rfl sc_spots.nd rfl rfl rfl (by decide) (by decide) (by decide) rfl rfl rfl (pa_cons pe_int (pa_cons (pv 0) (pa_cons (pe_lst pa_nil) pa_nil))) (by rfl))
    (pss_cons (ps_while PassesOwn.never (pt_cmpR op_lt (pv 2) (pv 3) (nomark _))
      (pss_cons (ps_set (i := 5) sc_spots.nd rfl (Or.inl rfl) (pe_op op_add (pv 2) (pe_op op_fdivW (pe_op op_sub (pv 3) (pv 2)) pe_int)))
        (pss_cons (ps_expr (pe_bm PySem.F.plainAttrs_list PySem.F.slot_list_append PySem.F.type_list_append mt_append (pv 4) (pa_cons (pv 5) pa_nil)))
        (pss_one (ps_if (pt_cmpR op_le (pv 1) (pv 5) (nomark _)) (pss_one (ps_set (i := 3) sc_spots.nd rfl (Or.inl rfl) (pv 5))) (pss_one (ps_set (i := 2) sc_spots.nd rfl (Or.inl rfl) (pe_op op_add (pv 5) pe_int))))))))
    (pss_one (ps_ret (pv 4))))), ?_⟩
    refine ⟨_, rfl, Nat.zero_le _, fun r hr0 => ⟨_, _, _, rfl, ?_⟩⟩
    refine while_by (fun σ H' => ∃ (lo hi k : Nat) (xs : List V) (u : Option V), σ = [some (.int (i : Int)), some (.int (p : Int)), some (.int (lo : Int)), some (.int (hi : Int)), some (.ref r), u] ∧ hi ≤ i ∧ hi - lo ≤ k ∧ Same H H' ∧ H' r = some (.lst xs) ∧ xs.length ≤ 64 - k ∧ k ≤ 64 ∧ xs.length + PF.spots p k lo hi = PF.way i p) (fun σ _ => match σ with
      | _ :: _ :: some (.int lo) :: some (.int hi) :: _ => (hi - lo).toNat
      | _ => 0) ⟨0, i, 64, [], none, rfl, Nat.le_refl _, by omega, same_upd hr0, upd_same, Nat.zero_le _, Nat.le_refl _, by rw [List.length_nil, Nat.zero_add]; rfl⟩ ?_ ?_
    · rintro σ H1 ⟨lo, hi', k, xs, u, rfl, hhi, hk, s1, h1, lx, k64, hw⟩
      refine ⟨_, rfl, _, rfl, _, _, rfl, rfl, decide (lo < hi'), congrArg V.bl (decide_eq_decide.mpr (by omega)), ?_⟩
      by_cases h : lo < hi'
      · rw [decide_eq_true h]
        refine iteT ?_
        have em : (lo : Int) + ((hi' : Int) - (lo : Int)) / 2 = (((lo + hi') / 2 : Nat) : Int) := by omega
        obtain ⟨k, rfl⟩ : ∃ j, k = j + 1 := ⟨k - 1, by omega⟩
        refine ⟨_, rfl, _, rfl, _, rfl, _, _, rfl, rfl, _, _, rfl, rfl, wide_div (b := 64) (by decide) (by decide) (by decide) (by decide), _, _, rfl, rfl, ?_⟩
        dsimp only
        rw [em]
        refine ⟨_, rfl, .inl ⟨rfl, _, L2.sq_of h1⟩, _, rfl, r, xs, _, rfl, rfl, h1, Nat.lt_of_le_of_lt (by omega : xs.length ≤ 64) (by decide), ?_⟩
        have h2 : upd H1 r (.lst (xs ++ [.int (((lo + hi') / 2 : Nat) : Int)])) r = some (.lst (xs ++ [.int (((lo + hi') / 2 : Nat) : Int)])) := upd_same
        have s2 : Same H (upd H1 r (.lst (xs ++ [.int (((lo + hi') / 2 : Nat) : Int)]))) := fun b o e => by
          rw [upd_ne (ne_of_none e hr0)]
          exact s1 _ _ e
        generalize upd H1 r (.lst (xs ++ [.int (((lo + hi') / 2 : Nat) : Int)])) = H2 at h2 s2 ⊢
        refine ⟨_, rfl, _, rfl, _, _, rfl, rfl, _, rfl, ?_⟩
        refine ite2 (fun hc => ?_) (fun hc => ?_)
        · have hc := of_decide_eq_true hc
          refine ⟨_, rfl, ⟨lo, (lo + hi') / 2, k, _, _, rfl, by omega, by omega, s2, h2, ?_, by omega, ?_⟩, ?_⟩
          · rw [List.length_append, List.length_singleton]
            omega
          · rw [List.length_append, List.length_singleton]
            rw [spots_low h (by omega)] at hw
            omega
          · show ((((lo + hi') / 2 : Nat) : Int) - (lo : Int)).toNat < ((hi' : Int) - (lo : Int)).toNat
            omega
        · have hc : ¬ (p : Int) ≤ (((lo + hi') / 2 : Nat) : Int) := fun z => hc (decide_eq_true z)
          refine ⟨_, rfl, _, _, rfl, rfl, ⟨(lo + hi') / 2 + 1, hi', k, _, _, rfl, hhi, by omega, s2, h2, ?_, by omega, ?_⟩, ?_⟩
          · rw [List.length_append, List.length_singleton]
            omega
          · rw [List.length_append, List.length_singleton]
            rw [spots_high h (by omega)] at hw
            omega
          · show ((hi' : Int) - ((((lo + hi') / 2 : Nat) : Int) + 1)).toNat < ((hi' : Int) - (lo : Int)).toNat
            omega
      · rw [decide_eq_false h]
        refine iteF ⟨_, rfl, ?_⟩
        rw [spots_end h, Nat.add_zero] at hw
        exact q r H1 xs s1 hr0 h1 hw
    · rintro σ H' Q1 Q2 hq ⟨v, h1, v2, h2, x, y, h3, h4, b, h5, h6⟩
      exact ⟨v, h1, v2, h2, x, y, h3, h4, b, h5, hq _ _ h6⟩
theorem ok_ways (T : Txt K mg a d) : FnOk P w K mg base CX0 2 a.ways d.ways P_ways spWays := by
  have G_spots : FnOk P w K mg base CX0 1 a.spots d.spots P_spots spSpots := ok_spots T
  refine T.f_ways.ok sc_ways (fun vs H Q E h => ?_) (fun cdv A outer s0 H vs Q E hr h => ?_)
  · obtain ⟨i, rfl, _⟩ := h
    rfl
  · obtain ⟨i, rfl, i0, i64, q⟩ := h
    refine ⟨_, (pss_cons (ps_setLc (i := 1) (own := [("place", 2)]) (g := gName 2) (tt := tYes) rfl sc_ways.nd rfl rfl (sw_true rfl rfl rfl (by decide +kernel)) (pi_range1 (by rfl) T.z_range (pa_cons (pe_op op_add (pv 0) pe_int) pa_nil)) (blkOk_by (N := N_ways) (sc := defScope s_ways) (by decide +kernel)) (fun _ _ _ _ _ => pg_name (i := 2) sc_ways.nd rfl (Or.inl rfl)) (fun _ _ _ _ _ => pts_nil) (fun _ _ _ _ _ => (pe_callB (show CallR _ _ (rLenK K) from call_len_seq) (by rfl) T.z_len PySem.boot_len (pa_cons (pe_call G_spots (hr.mono (by decide)) (by rfl) T.g_spots T.k_spots T.b_spots .nil pass0 (pa_cons (pv 0) (pa_cons (pv 2) pa_nil))) pa_nil))))
    (pss_cons (ps_if (PW.pt (pw_or (pt_cmpR op_ne (pe_ix ix_list (pv 1) pe_int (fun _ _ => rfl)) (pe_callB (cr_max rfl) (by rfl) T.z_max (by decide +kernel) (pa_cons (pv 1) pa_nil)) (nomark _)) (pw_or (pt_cmpR op_ne (pe_ix ix_list (pv 1) pe_int (fun _ _ => rfl)) (pe_callB (cr_max rfl) (by rfl) T.z_max (by decide +kernel) (pa_cons (pv 1) pa_nil)) (nomark _)) (pw_or1 (pt_cmpR op_ne (pe_ix ix_list (pv 1) (pv 0) (fun _ _ => rfl)) (pe_callB (cr_min rfl) (by rfl) T.z_min (by decide +kernel) (pa_cons (pv 1) pa_nil)) (nomark _)))))) (pss_one (ps_ret pe_non)) pss_nil)
    (pss_one (ps_ret (pe_tup (pa_cons (pe_callB (cr_min rfl) (by rfl) T.z_min (by decide +kernel) (pa_cons (pv 1) pa_nil)) (pa_cons (pe_callB (cr_max rfl) (by rfl) T.z_max (by decide +kernel) (pa_cons (pv 1) pa_nil)) pa_nil))))))), ?_⟩
    obtain ⟨w0, w1, wi, wb⟩ := PF.ways_right i i64 i0
    have e1 : ((i : Int) + 1).toNat = i + 1 := by omega
    refine ⟨_, rfl, _, _, rfl, rfl, _, rfl, by omega, by omega, fun D hD => ?_⟩
    refine lc_range (lo := 0) (n := ((i : Int) + 1).toNat) (fun j H' => Same H H' ∧ H' D = some (.lst (((List.range j).map fun k => ((PF.way i k : Nat) : Int)).map V.int))) ⟨same_upd hD, upd_same⟩ ?_ ?_
    · rintro j H1 hj ⟨s1, h1⟩
      rw [e1] at hj
      refine ⟨rfl, _, rfl, _, rfl, i, j, congrArg (fun z : Int => [V.int (i : Int), V.int z]) (Int.zero_add _), i64, fun r H2 xs s2 rN hr2 lx => ?_⟩
      refine ⟨r, xs, rfl, .inl (L2.sq_of hr2), _, s2 _ _ h1, ?_, ?_, ?_⟩
      · rw [List.length_map, List.length_map, List.length_range]
        exact Nat.lt_of_le_of_lt (by omega : _ ≤ 64) (by decide)
      · intro b o e
        rw [upd_ne (ne_of_none e hD)]
        exact s2 _ _ (s1 _ _ e)
      · rw [upd_same, List.range_succ, List.map_append, List.map_append, lx]
        rfl
    rw [e1]
    rintro H1 ⟨s1, h1⟩
    generalize hL : (List.range (i + 1)).map (fun k => ((PF.way i k : Nat) : Int)) = L at h1
    have lL : L.length = i + 1 := by rw [← hL, List.length_map, List.length_range]
    have lLV : (L.map V.int).length = i + 1 := by rw [List.length_map, lL]
    have at_ : ∀ k, k < i + 1 → atI (L.map V.int) (k : Int) = some (.int ((PF.way i k : Nat) : Int)) := fun k hk => by
      refine atI_nat ?_
      rw [List.getElem?_map, ← hL, List.getElem?_map, List.getElem?_range hk]
      rfl
    have mem_ : ∀ m, m ∈ L → ∃ k, k < i + 1 ∧ m = ((PF.way i k : Nat) : Int) := fun m hm => by
      rw [← hL] at hm
      obtain ⟨k, hk, rfl⟩ := List.mem_map.mp hm
      exact ⟨k, List.mem_range.mp hk, rfl⟩
    have in_ : ∀ k, k < i + 1 → ((PF.way i k : Nat) : Int) ∈ L := fun k hk => by
      rw [← hL]
      exact List.mem_map.mpr ⟨k, List.mem_range.mpr hk, rfl⟩
    have isMax : ∀ m, m ∈ L → (∀ y, y ∈ L → y ≤ m) → m = ((PF.bl i : Nat) : Int) := fun m hm hall => by
      obtain ⟨k, hk, rfl⟩ := mem_ m hm
      have h1 := (wb k hk).2
      have h2 := hall _ (in_ 0 (by omega))
      rw [w0] at h2
      omega
    have isMin : ∀ m, m ∈ L → (∀ y, y ∈ L → m ≤ y) → m = ((PF.fb i : Nat) : Int) := fun m hm hall => by
      obtain ⟨k, hk, rfl⟩ := mem_ m hm
      have h1 := (wb k hk).1
      have h2 := hall _ (in_ i (by omega))
      rw [wi] at h2
      omega
    have ne : 0 < L.length := by omega
    have a0 := at_ 0 (by omega)
    have a1 := at_ 1 (by omega)
    have ai := at_ i (by omega)
    rw [w0] at a0
    rw [w1] at a1
    rw [wi] at ai
    refine ⟨_, rfl, D, _, _, _, rfl, rfl, L2.sq_of h1, a0, _, rfl, D, L, rfl, L2.sq_of h1, ne, fun m hm hall => ?_⟩
    have em := isMax m hm hall
    subst em
    refine ⟨rfl, false, by rw [decide_eq_true rfl]; rfl, iteF ?_⟩
    refine ⟨_, rfl, D, _, _, _, rfl, rfl, L2.sq_of h1, a1, _, rfl, D, L, rfl, L2.sq_of h1, ne, fun m hm hall => ?_⟩
    have em := isMax m hm hall
    subst em
    refine ⟨rfl, false, by rw [decide_eq_true rfl]; rfl, iteF ?_⟩
    refine ⟨_, rfl, _, rfl, D, _, _, _, rfl, rfl, L2.sq_of h1, ai, _, rfl, D, L, rfl, L2.sq_of h1, ne, fun m hm hall => ?_⟩
    have em := isMin m hm hall
    subst em
    refine ⟨rfl, false, by rw [decide_eq_true rfl]; rfl, iteF ?_⟩
    refine ⟨_, rfl, D, L, rfl, L2.sq_of h1, ne, fun m hm hall => ?_⟩
    have em := isMin m hm hall
    subst em
    refine ⟨_, rfl, D, L, rfl, L2.sq_of h1, ne, fun m hm hall => ?_⟩
    have em := isMax m hm hall
    subst em
    refine ⟨by show 2 ≤ sizeLine; decide, fun t ht => ?_⟩
    exact q t _ (s1.trans (same_upd ht)) (sfree s1 ht) upd_same
theorem ok_rising (T : Txt K mg a d) : FnOk P w K mg base CX0 1 a.is_rising d.is_rising P_is_rising spRising := by
  refine T.f_is_rising.ok sc_is_rising (fun vs H Q E h => ?_) (fun cdv A outer s0 H vs Q E hr h => ?_)
  · obtain ⟨p, ns, rd, rfl, _⟩ := h
    rfl
  · obtain ⟨p, ns, rd, rfl, hp, hrd, r64, hup, q⟩ := h
    refine ⟨_, (pss_one (ps_ret (pe_cmpR (op_eqD hr.units) (pe_lc (own := [("k", 2)]) (g := gName 2)  rfl sc_is_rising.nd (pi_range2 (by rfl) T.z_range (pa_cons pe_int (pa_cons (pv 1) pa_nil))) (blkOk_by (N := N_is_rising) (sc := defScope s_is_rising) (by decide +kernel)) (fun _ _ _ _ _ => pg_name (i := 2) sc_is_rising.nd rfl (Or.inl rfl)) (fun _ _ _ _ _ => (pts_one (pt_not (pt_cmpR op_lt (pe_ix (show IxR _ (rIxL K) from ix_list) (pv 0) (pe_op op_sub (pv 2) pe_int) (fun _ _ => rfl)) (pe_ix (show IxR _ (rIxL K) from ix_list) (pv 0) (pv 2) (fun _ _ => rfl)) (nomark _))))) (fun _ _ _ _ _ => (pv 2))) (pe_lst pa_nil) (nomark _)))), ?_⟩
    refine ⟨_, rfl, _, _, rfl, ⟨by omega, by omega, by omega, by omega⟩, fun D hD => ?_⟩
    refine lc_range (lo := 1) (n := ((rd : Int) - 1).toNat) (fun i H' => Same H H' ∧ H' D = some (.lst [])) ⟨same_upd hD, upd_same⟩ ?_ ?_
    · rintro i H1 hi ⟨s1, h1⟩
      have hi : i + 1 < rd := by omega
      have e1 : (1 : Int) + (i : Int) = ((i + 1 : Nat) : Int) := by omega
      have e2 : (1 : Int) + (i : Int) - 1 = ((i : Nat) : Int) := by omega
      have hp1 := s1 _ _ hp
      have g : ∀ j, j < ns.length → atI (ns.map V.int) (j : Int) = some (.int (ns.getD j 0)) := fun j hj => by
        refine atI_nat ?_
        rw [List.getElem?_map, List.getD_eq_getElem?_getD, List.getElem?_eq_getElem hj]
        rfl
      refine ⟨rfl, ?_⟩
      refine ⟨_, rfl, _, rfl, _, _, rfl, rfl, p, _, _, _, rfl, rfl, L2.sq_of hp1, by rw [e2]; exact g i (by omega), _, rfl, _, rfl, p, _, _, _, rfl, rfl, L2.sq_of hp1, by rw [e1]; exact g (i + 1) (by omega), _, _, rfl, rfl, true, congrArg V.bl (decide_eq_true (hup i hi)), ?_⟩
      exact iteF ⟨s1, h1⟩
    rintro H1 ⟨s1, h1⟩
    refine ⟨Nat.zero_le _, fun l hl => ?_⟩
    have s2 := same_upd (o := .lst []) hl
    have h2 := s2 _ _ h1
    have h3 : upd H1 l (.lst []) l = some (.lst []) := upd_same
    generalize upd H1 l (.lst []) = H2 at s2 h2 h3 ⊢
    refine ⟨.list [], .list [], .lst (L2.sq_of h2) .nil, .lst (L2.sq_of h3) .nil, rfl, rfl, ?_⟩
    exact q _ (s1.trans s2)
end
end K16

namespace K16
open PySem PySem.Spec PyProof.Rows L2
def WaysAt (H : Hp) (p : Addr) : Prop := ∃ ts : List V, H p = some (.lst ts) ∧ ts.length = 64 ∧ ∀ i, 0 < i → i < 64 → ∃ t, ts[i]? = some (.ref t) ∧ H t = some (.tup [.int ((PF.fb i : Nat) : Int), .int ((PF.bl i : Nat) : Int)])
theorem WaysAt.same {H H' : Hp} {p : Addr} (s : Same H H') (h : WaysAt H p) : WaysAt H' p := by
  obtain ⟨ts, h1, h2, h3⟩ := h
  refine ⟨ts, s _ _ h1, h2, fun i a b => ?_⟩
  obtain ⟨t, h4, h5⟩ := h3 i a b
  exact ⟨t, h4, s _ _ h5⟩
/-- keys that fit: so many, the first ones rising, so many questions -/
def Fit (n rd due : Nat) (ns : List Int) : Prop := ns.length = n ∧ (∀ k, k + 1 < rd → ns.getD k 0 < ns.getD (k + 1) 0) ∧ ∀ N, (plN ns rd N).wt = none → (∀ i, i < N → (plN ns rd i).wt ≠ none) → N = due
theorem easyK_len (n : Nat) : (easyK n).length = n := by unfold easyK; rw [List.length_map, List.length_range]
theorem hardK_len {n rd : Nat} (h : rd ≤ n) : (hardK n rd).length = n := by
  unfold hardK
  rw [List.length_append, List.length_map, List.length_map, List.length_range, List.length_range]
  omega
theorem easyK_get {n k : Nat} (h : k < n) : (easyK n).getD k 0 = (k : Int) := by
  unfold easyK
  rw [List.getD_eq_getElem?_getD, List.getElem?_map, List.getElem?_range h]
  rfl
theorem hardK_low {n rd k : Nat} (h : k < rd) : (hardK n rd).getD k 0 = (k : Int) := by
  unfold hardK
  rw [List.getD_eq_getElem?_getD, List.getElem?_append_left (by rw [List.length_map, List.length_range]; exact h), List.getElem?_map, List.getElem?_range h]
  rfl
theorem hardK_high {n rd k : Nat} (h : rd ≤ k) (h2 : k < n) : (hardK n rd).getD k 0 = -(k : Int) := by
  unfold hardK
  rw [List.getD_eq_getElem?_getD, List.getElem?_append_right (by rw [List.length_map, List.length_range]; exact h), List.length_map, List.length_range, List.getElem?_map, List.getElem?_range (by omega)]
  show -((rd : Int) + ((k - rd : Nat) : Int)) = -(k : Int)
  omega
theorem fit_easy {n rd : Nat} (h64 : n ≤ 64) (hrd : rd ≤ n) : Fit n rd (PF.S PF.fb (max rd 1) n) (easyK n) := by
  refine ⟨easyK_len n, fun k hk => ?_, fun N h1 h2 => ?_⟩
  · rw [easyK_get (by omega), easyK_get (by omega)]
    omega
  · have e : (easyK n).length = n := easyK_len n
    unfold plN at h1 h2
    rw [e, List.length_range] at h1 h2
    refine PF.count_easy _ (fun x y hy hx => ?_) h64 h1 h2
    show decide ((easyK n).getD x 0 < (easyK n).getD y 0) = false
    rw [easyK_get hx, easyK_get (by omega)]
    exact decide_eq_false (by omega)
theorem fit_hard {n rd : Nat} (h64 : n ≤ 64) (hrd : rd ≤ n) : Fit n rd (PF.S PF.bl (max rd 1) n) (hardK n rd) := by
  refine ⟨hardK_len hrd, fun k hk => ?_, fun N h1 h2 => ?_⟩
  · rw [hardK_low (by omega), hardK_low (by omega)]
    omega
  · have e : (hardK n rd).length = n := hardK_len hrd
    unfold plN at h1 h2
    rw [e, List.length_range] at h1 h2
    refine PF.count_hard _ (fun x y hm hy hx => ?_) h64 h1 h2
    show decide ((hardK n rd).getD x 0 < (hardK n rd).getD y 0) = true
    rw [hardK_high (by omega) hx]
    rcases Nat.lt_or_ge y rd with h | h
    · rw [hardK_low h]
      exact decide_eq_true (by omega)
    · rw [hardK_high h (by omega)]
      exact decide_eq_true (by omega)
def spRight : Sp := fun vs H Q _ => ∃ (n rd : Nat) (p : Addr), vs = [.int (n : Int), .int (rd : Int), .ref p] ∧ n ≤ 64 ∧ rd ≤ n ∧ WaysAt H p ∧ ∀ H', Same H H' → Q (.bl true) H'
section
variable {P : Program} {w : World} {K : PySem.W.Frag} {mg : Str → Option Value} {base : Heap} {a : Ad} {d : Fd}
theorem ok_right (T : Txt K mg a d) : FnOk P w K mg base CX0 7 a.right d.right P_right spRight := by
  have G_fewest_placing : FnOk P w K mg base CX0 5 a.fewest_placing d.fewest_placing P_fewest_placing (spSum PF.fb) := ok_few T
  have G_most_placing : FnOk P w K mg base CX0 5 a.most_placing d.most_placing P_most_placing (spSum PF.bl) := ok_most T
  have G_easy_keys : FnOk P w K mg base CX0 5 a.easy_keys d.easy_keys P_easy_keys (spKs fun n _ => easyK n) := ok_easy T
  have G_hard_keys : FnOk P w K mg base CX0 5 a.hard_keys d.hard_keys P_hard_keys (spKs hardK) := ok_hard T
  have G_is_rising : FnOk P w K mg base CX0 1 a.is_rising d.is_rising P_is_rising spRising := ok_rising T
  have G_placed : FnOk P w K mg base CX0 6 a.placed d.placed P_placed spPlaced := ok_placed T
  refine T.f_right.ok sc_right (fun vs H Q E h => ?_) (fun cdv A outer s0 H vs Q E hr h => ?_)
  · obtain ⟨n, rd, p, rfl, _⟩ := h
    rfl
  · obtain ⟨n, rd, p, rfl, h64, hrd, hW, q⟩ := h
    refine ⟨_, (pss_cons (ps_set (i := 3) sc_right.nd rfl (Or.inl rfl) (pe_callB (cr_sum rfl) (by rfl) T.z_sum (by decide +kernel) (pa_cons (pe_lc (own := [("index", 4)]) (g := gName 4) (tt := tYes) rfl sc_right.nd (pi_range2 (by rfl) T.z_range (pa_cons (pe_callB (call_max2 rfl) (by rfl) T.z_max (by decide +kernel) (pa_cons pe_int (pa_cons (pv 1) pa_nil))) (pa_cons (pv 0) pa_nil))) (blkOk_by (N := N_right) (sc := defScope s_right) (by decide +kernel)) (fun _ _ _ _ _ => pg_name (i := 4) sc_right.nd rfl (Or.inl rfl)) (fun _ _ _ _ _ => pts_nil) (fun _ _ _ _ _ => (pe_ix (show IxR _ (rIxT K) from ix_tup) (pe_ix (show IxR _ (rIxL K) from ix_list) (pv 2) (pv 4) (fun _ _ => rfl)) pe_int (fun _ _ => rfl)))) pa_nil)))
    (pss_cons (ps_set (i := 5) sc_right.nd rfl (Or.inl rfl) (pe_callB (cr_sum rfl) (by rfl) T.z_sum (by decide +kernel) (pa_cons (pe_lc (own := [("index", 4)]) (g := gName 4) (tt := tYes) rfl sc_right.nd (pi_range2 (by rfl) T.z_range (pa_cons (pe_callB (call_max2 rfl) (by rfl) T.z_max (by decide +kernel) (pa_cons pe_int (pa_cons (pv 1) pa_nil))) (pa_cons (pv 0) pa_nil))) (blkOk_by (N := N_right) (sc := defScope s_right) (by decide +kernel)) (fun _ _ _ _ _ => pg_name (i := 4) sc_right.nd rfl (Or.inl rfl)) (fun _ _ _ _ _ => pts_nil) (fun _ _ _ _ _ => (pe_ix (show IxR _ (rIxT K) from ix_tup) (pe_ix (show IxR _ (rIxL K) from ix_list) (pv 2) (pv 4) (fun _ _ => rfl)) pe_int (fun _ _ => rfl)))) pa_nil)))
    (pss_cons (ps_if (PW.pt (pw_or (pt_cmpR op_ne (pe_call G_fewest_placing (hr.mono (by decide)) (by rfl) T.g_fewest_placing T.k_fewest_placing T.b_fewest_placing .nil pass0 (pa_cons (pv 0) (pa_cons (pv 1) pa_nil))) (pv 3) (nomark _)) (pw_or1 (pt_cmpR op_ne (pe_callN0 G_most_placing (hr.mono (by decide)) (by rfl) T.g_most_placing T.k_most_placing T.kn_most_placing_0_ready_many pass0 (pk_cons (pv 1) (pk_cons (pv 0) pk_nil))) (pv 5) (nomark _))))) (pss_one (ps_ret pe_bl)) pss_nil)
    (pss_cons (ps_if (PW.pt (pw_or (pt_cmpR op_ne (pe_callN0 G_fewest_placing (hr.mono (by decide)) (by rfl) T.g_fewest_placing T.k_fewest_placing T.kn_fewest_placing_0_ready_many pass0 (pk_cons (pv 1) (pk_cons (pv 0) pk_nil))) (pv 3) (nomark _)) (pw_or1 (pt_cmpR op_ne (pe_call G_most_placing (hr.mono (by decide)) (by rfl) T.g_most_placing T.k_most_placing T.b_most_placing .nil pass0 (pa_cons (pv 0) (pa_cons (pv 1) pa_nil))) (pv 5) (nomark _))))) (pss_one (ps_ret pe_bl)) pss_nil)
    (pss_cons (ps_par (i := 6) (j := 7) rfl sc_right.nd rfl rfl (by decide) rfl rfl (pa_cons (pe_call G_easy_keys (hr.mono (by decide)) (by rfl) T.g_easy_keys T.k_easy_keys T.b_easy_keys .nil pass0 (pa_cons (pv 0) (pa_cons (pv 1) pa_nil))) (pa_cons (pe_call G_hard_keys (hr.mono (by decide)) (by rfl) T.g_hard_keys T.k_hard_keys T.b_hard_keys .nil pass0 (pa_cons (pv 0) (pa_cons (pv 1) pa_nil))) pa_nil)) (by rfl))
    (pss_cons (ps_for PassesOwn.never rfl (pi_list (pe_lst (pa_cons (pe_tup (pa_cons (pv 6) (pa_cons (pv 3) pa_nil))) (pa_cons (pe_tup (pa_cons (pv 7) (pa_cons (pv 5) pa_nil))) pa_nil)))) (pg_tup rfl (pgs_cons (pg_name (i := 8) sc_right.nd rfl (Or.inl rfl)) (pgs_cons (pg_name (i := 9) sc_right.nd rfl (Or.inl rfl)) pgs_nil)))
      (pss_one (ps_if (PW.pt (pw_or (pt_cmpR op_ne (pe_callB call_len_seq (by rfl) T.z_len PySem.boot_len (pa_cons (pv 8) pa_nil)) (pv 0) (nomark _)) (pw_or (pt_not (pt_val (pe_call G_is_rising (hr.mono (by decide)) (by rfl) T.g_is_rising T.k_is_rising T.b_is_rising .nil pass0 (pa_cons (pv 8) (pa_cons (pv 1) pa_nil))))) (pw_or1 (pt_cmpR op_ne (pe_callB call_len_seq (by rfl) T.z_len PySem.boot_len (pa_cons (pe_ix ix_tup (pe_call G_placed (hr.mono (by decide)) (by rfl) T.g_placed T.k_placed T.b_placed .nil pass0 (pa_cons (pv 8) (pa_cons (pv 1) pa_nil))) pe_int (fun _ _ => rfl)) pa_nil)) (pv 9) (nomark _)))))) (pss_one (ps_ret pe_bl)) pss_nil)))
    (pss_cons (ps_expr (pe_bm PySem.F.plainAttrs_list PySem.F.slot_list_append PySem.F.type_list_append mt_append (pv 6) (pa_cons pe_int pa_nil)))
    (pss_one (ps_ret (pe_and (pe_cmpR op_eq (pe_callB call_len_seq (by rfl) T.z_len PySem.boot_len (pa_cons (pe_callN0 G_easy_keys (hr.mono (by decide)) (by rfl) T.g_easy_keys T.k_easy_keys T.kn_easy_keys_0_many_ready pass0 (pk_cons (pv 0) (pk_cons (pv 1) pk_nil))) pa_nil)) (pv 0) (nomark _)) (pe_one (pe_cmpR (op_eqD hr.units) (pe_callN0 G_hard_keys (hr.mono (by decide)) (by rfl) T.g_hard_keys T.k_hard_keys T.kn_hard_keys_0_ready_many pass0 (pk_cons (pv 1) (pk_cons (pv 0) pk_nil))) (pv 7) (nomark _))))))))))))), ?_⟩
    have em : (if (rd : Int) > 1 then (rd : Int) else 1) = ((max rd 1 : Nat) : Int) := by split <;> omega
    have e2 : ((n : Int) - ((max rd 1 : Nat) : Int)).toNat = n - max rd 1 := by omega
    have ix : ∀ j : Nat, ((max rd 1 : Nat) : Int) + (j : Int) = ((max rd 1 + j : Nat) : Int) := fun j => by omega
    -- few
    refine ⟨_, rfl, _, _, rfl, _, rfl, ((max rd 1 : Nat) : Int), (n : Int), congrArg (fun z : Int => [V.int z, V.int (n : Int)]) em, ⟨by omega, by omega, by omega, by omega⟩, fun D hD => ?_⟩
    refine lc_range (lo := ((max rd 1 : Nat) : Int)) (n := ((n : Int) - ((max rd 1 : Nat) : Int)).toNat) (fun i H' => Same H H' ∧ H' D = some (.lst (((List.range i).map fun j => ((PF.fb (max rd 1 + j) : Nat) : Int)).map V.int))) ⟨same_upd hD, upd_same⟩ ?_ ?_
    · rintro i H1 hi ⟨s1, h1⟩
      obtain ⟨ts, hts, lts, hget⟩ := hW.same s1
      obtain ⟨t, ht1, ht2⟩ := hget (max rd 1 + i) (by omega) (by omega)
      refine ⟨rfl, _, rfl, _, rfl, p, ts, _, _, rfl, rfl, L2.sq_of hts, by rw [ix]; exact atI_nat ht1, t, _, _, _, rfl, rfl, L2.st_of ht2, rfl, _, h1, ?_, ?_, ?_⟩
      · rw [List.length_map, List.length_map, List.length_range]
        exact Nat.lt_of_le_of_lt (by omega : _ ≤ 64) (by decide)
      · intro b o e
        rw [upd_ne (ne_of_none e hD)]
        exact s1 _ _ e
      · rw [upd_same, List.range_succ, List.map_append, List.map_append]
        rfl
    rw [e2]
    rintro H1 ⟨s1, h1⟩
    refine ⟨D, _, rfl, L2.sq_of h1, ?_⟩
    rw [S_list]
    clear h1 hD
    -- top
    refine ⟨_, rfl, _, _, rfl, _, rfl, ((max rd 1 : Nat) : Int), (n : Int), congrArg (fun z : Int => [V.int z, V.int (n : Int)]) em, ⟨by omega, by omega, by omega, by omega⟩, fun D hD => ?_⟩
    refine lc_range (lo := ((max rd 1 : Nat) : Int)) (n := ((n : Int) - ((max rd 1 : Nat) : Int)).toNat) (fun i H' => Same H H' ∧ H' D = some (.lst (((List.range i).map fun j => ((PF.bl (max rd 1 + j) : Nat) : Int)).map V.int))) ⟨s1.trans (same_upd hD), upd_same⟩ ?_ ?_
    · rintro i H2 hi ⟨s2, h2⟩
      obtain ⟨ts, hts, lts, hget⟩ := hW.same s2
      obtain ⟨t, ht1, ht2⟩ := hget (max rd 1 + i) (by omega) (by omega)
      refine ⟨rfl, _, rfl, _, rfl, p, ts, _, _, rfl, rfl, L2.sq_of hts, by rw [ix]; exact atI_nat ht1, t, _, _, _, rfl, rfl, L2.st_of ht2, rfl, _, h2, ?_, ?_, ?_⟩
      · rw [List.length_map, List.length_map, List.length_range]
        exact Nat.lt_of_le_of_lt (by omega : _ ≤ 64) (by decide)
      · intro b o e
        rw [upd_ne (ne_of_none (s1 _ _ e) hD)]
        exact s2 _ _ e
      · rw [upd_same, List.range_succ, List.map_append, List.map_append]
        rfl
    rw [e2]
    rintro H2 ⟨s2, h2⟩
    refine ⟨D, _, rfl, L2.sq_of h2, ?_⟩
    rw [S_list]
    clear h2 hD
    generalize hf : PF.S PF.fb (max rd 1) n = few
    generalize ht : PF.S PF.bl (max rd 1) n = top
    refine ⟨_, rfl, _, rfl, n, rd, rfl, h64, hrd, fun H3 s3 => ⟨_, rfl, rfl, false, by rw [hf, decide_eq_true rfl]; rfl, iteF ?_⟩⟩
    refine ⟨_, rfl, _, rfl, rfl, n, rd, rfl, h64, hrd, fun H4 s4 => ⟨_, rfl, rfl, false, by rw [ht, decide_eq_true rfl]; rfl, iteF ?_⟩⟩
    refine ⟨_, rfl, _, rfl, rfl, n, rd, rfl, h64, hrd, fun H5 s5 => ⟨_, rfl, rfl, false, by rw [hf, decide_eq_true rfl]; rfl, iteF ?_⟩⟩
    refine ⟨_, rfl, _, rfl, n, rd, rfl, h64, hrd, fun H6 s6 => ⟨_, rfl, rfl, false, by rw [ht, decide_eq_true rfl]; rfl, iteF ?_⟩⟩
    have s06 := (((s2.trans s3).trans s4).trans s5).trans s6
    clear s1 s2 s3 s4 s5 s6
    refine ⟨_, rfl, _, rfl, n, rd, rfl, h64, hrd, fun ep H7 s7 epN hep => ?_⟩
    refine ⟨_, rfl, _, rfl, n, rd, rfl, h64, hrd, fun hp H8 s8 hpN hhp => ⟨_, _, rfl, ?_⟩⟩
    have hep8 := s8 _ _ hep
    refine ⟨_, rfl, _, rfl, by show 2 ≤ sizeLine; decide, fun t1 ht1 => ⟨_, rfl, _, rfl, by show 2 ≤ sizeLine; decide, fun t2 ht2 => ⟨by show 2 ≤ sizeLine; decide, fun l hl => ⟨l, rfl, ⟨_, L2.sq_of upd_same⟩, ?_⟩⟩⟩⟩
    have fe := fit_easy h64 hrd
    have fh := fit_hard h64 hrd
    rw [hf] at fe
    rw [ht] at fh
    generalize hHe : upd (upd (upd H8 t1 (.tup [.ref ep, .int (few : Int)])) t2 (.tup [.ref hp, .int (top : Int)])) l (.lst [.ref t1, .ref t2]) = H9
    have s9 : Same H8 H9 := by
      rw [← hHe]
      exact ((same_upd ht1).trans (same_upd ht2)).trans (same_upd hl)
    have h9l : H9 l = some (.lst [.ref t1, .ref t2]) := by
      rw [← hHe]
      exact upd_same
    have h9b : H9 t2 = some (.tup [.ref hp, .int (top : Int)]) := by
      rw [← hHe]
      exact same_upd hl _ _ upd_same
    have h9a : H9 t1 = some (.tup [.ref ep, .int (few : Int)]) := by
      rw [← hHe]
      exact same_upd hl _ _ (same_upd ht2 _ _ upd_same)
    have hep9 := s9 _ _ hep8
    have hhp9 := s9 _ _ hhp
    have each : ∀ (i : Nat) (y : V), ([.ref t1, .ref t2] : List V)[i]? = some y → ∃ (t g : Addr) (ns : List Int) (due : Nat), y = .ref t ∧ H9 t = some (.tup [.ref g, .int (due : Int)]) ∧ H9 g = some (.lst (ns.map V.int)) ∧ Fit n rd due ns := by
      intro i y hy
      match i, hy with
      | 0, hy => exact ⟨t1, ep, _, few, (Option.some.inj hy).symm, h9a, hep9, fe⟩
      | 1, hy => exact ⟨t2, hp, _, top, (Option.some.inj hy).symm, h9b, hhp9, fh⟩
      | i + 2, hy => simp at hy
    refine for_list (K := K) (a := l) (xs := [.ref t1, .ref t2]) (fun i σ H' => (∃ (u4 u8 u9 : Option V), σ = [some (.int (n : Int)), some (.int (rd : Int)), some (.ref p), some (.int (few : Int)), u4, some (.int (top : Int)), some (.ref ep), some (.ref hp), u8, u9]) ∧ Same H9 H')
      ⟨⟨_, _, _, rfl⟩, Same.refl _⟩ (fun i σ H' _ h => L2.sq_of (h.2 _ _ h9l)) ?_ ?_
    · rintro i y σ HA hy ⟨⟨u4, u8, u9, rfl⟩, sA⟩
      obtain ⟨t, g, ns, due, rfl, htt, hg, ln, hup, hN⟩ := each i y hy
      refine ⟨t, _, rfl, L2.st_of (sA _ _ htt), rfl, _, _, rfl, _, _, rfl, rfl, ?_⟩
      refine ⟨_, rfl, g, _, rfl, .inl (L2.sq_of (sA _ _ hg)), _, rfl, rfl, false, by rw [List.length_map, ln, decide_eq_true rfl]; rfl, iteF ?_⟩
      refine ⟨_, rfl, _, rfl, g, ns, rd, rfl, sA _ _ hg, by omega, by omega, hup, fun HB sB => ⟨true, rfl, iteF ?_⟩⟩
      refine ⟨_, rfl, _, rfl, g, rd, ns, rfl, .inl (sB _ _ (sA _ _ hg)), by omega, by omega, fun N t3 r3 q3 HC hwt hbe hN4 sC htC tN rN qN nrq hrC hQ => ?_⟩
      obtain ⟨tq, htq, hlen, _⟩ := id hQ
      rw [PF.asks_len] at hlen
      refine ⟨t3, _, _, _, rfl, rfl, L2.st_of htC, rfl, q3, _, rfl, .inl (L2.sq_of htq), _, rfl, rfl, false, by rw [hlen, hN N hwt hbe, decide_eq_true rfl]; rfl, iteF ⟨⟨_, _, _, rfl⟩, (sA.trans sB).trans sC⟩⟩
    · rintro σ HA ⟨⟨u4, u8, u9, rfl⟩, sA⟩
      have hepA := sA _ _ hep9
      refine ⟨_, rfl, .inl ⟨rfl, _, L2.sq_of hepA⟩, ep, _, _, rfl, rfl, hepA, ?_, ?_⟩
      · rw [List.length_map, easyK_len]
        exact Nat.lt_of_le_of_lt h64 (by decide)
      have hh : hp ≠ ep := fun e => by rw [e, hep] at hpN; cases hpN
      have eH : H ep = none := sfree s06 epN
      have hhpA := sA _ _ hhp9
      have sB : Same H (upd HA ep (.lst ((easyK n).map V.int ++ [V.int 0]))) := fun b o h => by
        rw [upd_ne (ne_of_none h eH)]
        exact sA _ _ (s9 _ _ (s8 _ _ (s7 _ _ (s06 _ _ h))))
      have hhpB : upd HA ep (.lst ((easyK n).map V.int ++ [V.int 0])) hp = some (.lst ((hardK n rd).map V.int)) := by
        rw [upd_ne hh]
        exact hhpA
      generalize upd HA ep (.lst ((easyK n).map V.int ++ [V.int 0])) = HB at sB hhpB ⊢
      refine ⟨_, rfl, _, rfl, rfl, n, rd, rfl, h64, hrd, fun e3 HC sC e3N he3 => ?_⟩
      refine ⟨e3, _, rfl, .inl (L2.sq_of he3), _, rfl, rfl, true, by rw [List.length_map, easyK_len, decide_eq_true rfl], iteT ?_⟩
      refine ⟨_, rfl, _, rfl, rfl, n, rd, rfl, h64, hrd, fun h3 HD sD h3N hh3 => ?_⟩
      refine ⟨_, rfl, _, _, dp_ints (L2.sq_of hh3), dp_ints (L2.sq_of (sD _ _ (sC _ _ hhpB))), shaped_ints _, shaped_ints _, ?_⟩
      rw [eqv_ints]
      exact q _ ((sB.trans sC).trans sD)
end
end K16

namespace K16
open PySem PySem.Spec PyProof.Rows L2
theorem units65 {k : Nat} {A : Around} (r : Room k A) : A.units + 65 < cLine := by have := r.un; omega
def spLaw (K : PySem.W.Frag) : Sp := fun vs H Q _ => ∃ (a : Addr) (ns : List Int), vs = [.ref a] ∧ SqL K H a (ns.map V.int) ∧ ns.length ≤ 63 ∧ ∀ H', Q (.bl true) H'
theorem cells_int {ns : List Int} {lo hi : Option Int} {x : V} (h : x ∈ cutV (ns.map V.int ++ [V.int 0]) lo hi) : ∃ c, x = .int c := by
  have h := cut_mem h
  rw [List.mem_append] at h
  rcases h with h | h
  · obtain ⟨c, _, e⟩ := List.mem_map.mp h
    exact ⟨c, e.symm⟩
  · exact ⟨0, List.mem_singleton.mp h⟩
/-- all ways, as pairs -/
def wq (j : Nat) : Nat × Nat := (PF.fb (j + 1), PF.bl (j + 1))
theorem none_in (qs : List (Nat × Nat)) : ((qs.map pD).any fun z => PyData.eqv z .none) = false := by
  rw [List.any_eq_false]
  intro z hz
  obtain ⟨q, _, rfl⟩ := List.mem_map.mp hz
  exact Bool.noConfusion
theorem shaped_qs (qs : List (Nat × Nat)) : SeqAt.shaped (.list (qs.map pD)) = true := by
  unfold SeqAt.shaped
  refine Bool.and_eq_true_iff.mpr ⟨canLay_pairs qs, decide_eq_true ?_⟩
  have h2 := depth_pairs qs
  show PyData.depthAll (qs.map pD) + 1 ≤ 64
  omega
section
variable {P : Program} {w : World} {K : PySem.W.Frag} {mg : Str → Option Value} {base : Heap} {a : Ad} {d : Fd}
theorem ok_law (T : Txt K mg a d) : FnOk P w K mg base CX0 8 a.law d.law P_law (spLaw K) := by
  have G_source : FnOk P w K mg base CX0 1 a.source d.source P_source spSource := ok_source T
  have G_draw : FnOk P w K mg base CX0 1 a.draw d.draw P_draw spDraw := ok_draw T
  have G_keys : FnOk P w K mg base CX0 3 a.keys d.keys P_keys spKeys := ok_keys T
  have G_ways : FnOk P w K mg base CX0 2 a.ways d.ways P_ways spWays := ok_ways T
  have G_right : FnOk P w K mg base CX0 7 a.right d.right P_right spRight := ok_right T
  have G_placed : FnOk P w K mg base CX0 6 a.placed d.placed P_placed spPlaced := ok_placed T
  have G_fewest_placing : FnOk P w K mg base CX0 5 a.fewest_placing d.fewest_placing P_fewest_placing (spSum PF.fb) := ok_few T
  have G_most_placing : FnOk P w K mg base CX0 5 a.most_placing d.most_placing P_most_placing (spSum PF.bl) := ok_most T
  refine T.f_law.ok sc_law (fun vs H Q E h => ?_) (fun cdv A outer s H vs Q E hr h => ?_)
  · obtain ⟨p, n, rfl, _⟩ := h
    rfl
  · obtain ⟨sp, ns, rfl, hS, hlen, q⟩ := h
    refine ⟨_, (pss_cons (ps_set (i := 1) sc_law.nd rfl (Or.inl rfl) (pe_op op_catS (pe_lst (pa_cons pe_non pa_nil)) (pe_lc (own := [("index", 2)]) (g := gName 2) (tt := tYes) rfl sc_law.nd (pi_range2 (by rfl) T.z_range (pa_cons pe_int (pa_cons pe_int pa_nil))) (blkOk_by (N := N_law) (sc := defScope s_law) (by decide +kernel)) (fun _ _ _ _ _ => pg_name (i := 2) sc_law.nd rfl (Or.inl rfl)) (fun _ _ _ _ _ => pts_nil) (fun _ _ _ _ _ => (pe_call G_ways (hr.mono (by decide)) (by rfl) T.g_ways T.k_ways T.b_ways .nil pass0 (pa_cons (pv 2) pa_nil))))))
    (pss_cons (ps_if (pt_cmpR (op_inD (units65 hr)) pe_non (pe_slice sl_list (pv 1) (po_some pe_int) po_none) (by rfl)) (pss_one (ps_ret pe_bl)) pss_nil)
    (pss_cons (ps_for PassesOwn.never rfl (pi_range1 (by rfl) T.z_range (pa_cons pe_int pa_nil)) (pg_name (i := 3) sc_law.nd rfl (Or.inl rfl))
      (pss_one (ps_if (PW.pt (pw_or (pt_not (pt_val (pe_call G_right (hr.mono (by decide)) (by rfl) T.g_right T.k_right T.b_right .nil pass0 (pa_cons (pv 3) (pa_cons pe_int (pa_cons (pv 1) pa_nil)))))) (pw_or (pt_not (pt_val (pe_call G_right (hr.mono (by decide)) (by rfl) T.g_right T.k_right T.b_right .nil pass0 (pa_cons (pv 3) (pa_cons (pv 3) (pa_cons (pv 1) pa_nil)))))) (pw_or1 (pt_not (pt_val (pe_call G_right (hr.mono (by decide)) (by rfl) T.g_right T.k_right T.b_right .nil pass0 (pa_cons (pv 3) (pa_cons (pe_op op_fdivW (pv 3) pe_int) (pa_cons (pv 1) pa_nil)))))))))) (pss_one (ps_ret pe_bl)) pss_nil)))
    (pss_cons (ps_for PassesOwn.never rfl (pi_list (pe_slice sl_list (pe_op op_catS (pv 0) (pe_lst (pa_cons pe_int pa_nil))) po_none (po_some pe_int))) (pg_name (i := 4) sc_law.nd rfl (Or.inl rfl))
      (pss_cons (ps_set (i := 5) sc_law.nd rfl (Or.inl rfl) (pe_call G_source (hr.mono (by decide)) (by rfl) T.g_source T.k_source T.b_source .nil pass0 (pa_cons (pv 4) pa_nil)))
        (pss_one (ps_for PassesOwn.never rfl (pi_range1 (by rfl) T.z_range (pa_cons pe_int pa_nil)) (pg_name (i := 6) sc_law.nd rfl (Or.inl rfl))
          (pss_cons (ps_set (i := 3) sc_law.nd rfl (Or.inl rfl) (pe_op op_add pe_int (pe_call G_draw (hr.mono (by decide)) (by rfl) T.g_draw T.k_draw T.b_draw .nil pass0 (pa_cons (pv 5) (pa_cons pe_int pa_nil)))))
            (pss_cons (ps_set (i := 7) sc_law.nd rfl (Or.inl rfl) (pe_call G_draw (hr.mono (by decide)) (by rfl) T.g_draw T.k_draw T.b_draw .nil pass0 (pa_cons (pv 5) (pa_cons (pe_op op_add (pv 3) pe_int) pa_nil))))
            (pss_cons (ps_if (pt_not (pt_val (pe_call G_right (hr.mono (by decide)) (by rfl) T.g_right T.k_right T.b_right .nil pass0 (pa_cons (pv 3) (pa_cons (pv 7) (pa_cons (pv 1) pa_nil)))))) (pss_one (ps_ret pe_bl)) pss_nil)
            (pss_cons (ps_set (i := 8) sc_law.nd rfl (Or.inl rfl) (pe_call G_keys (hr.mono (by decide)) (by rfl) T.g_keys T.k_keys T.b_keys .nil pass0 (pa_cons (pv 5) (pa_cons (pv 3) pa_nil))))
            (pss_cons (ps_set (i := 8) sc_law.nd rfl (Or.inl rfl) (pe_op op_catS (pe_callB cr_sortedI (by rfl) T.z_sorted (by decide +kernel) (pa_cons (pe_slice sl_list (pv 8) po_none (po_some (pv 7))) pa_nil)) (pe_slice sl_list (pv 8) (po_some (pv 7)) po_none)))
            (pss_one (ps_if (pt_not (pt_chain op_le op_le (pe_call G_fewest_placing (hr.mono (by decide)) (by rfl) T.g_fewest_placing T.k_fewest_placing T.b_fewest_placing .nil pass0 (pa_cons (pv 3) (pa_cons (pv 7) pa_nil))) (pe_callB call_len_seq (by rfl) T.z_len PySem.boot_len (pa_cons (pe_ix ix_tup (pe_call G_placed (hr.mono (by decide)) (by rfl) T.g_placed T.k_placed T.b_placed .nil pass0 (pa_cons (pv 8) (pa_cons (pv 7) pa_nil))) pe_int (fun _ _ => rfl)) pa_nil)) (pe_call G_most_placing (hr.mono (by decide)) (by rfl) T.g_most_placing T.k_most_placing T.b_most_placing .nil pass0 (pa_cons (pv 3) (pa_cons (pv 7) pa_nil))))) (pss_one (ps_ret pe_bl)) pss_nil)))))))))))
    (pss_one (ps_ret pe_bl)))))), ?_⟩
    have sz : (ns.map V.int).length + 1 ≤ sizeLine := by
      rw [List.length_map]
      exact Nat.le_trans (by omega) (by decide : 64 ≤ sizeLine)
    -- ways
    refine ⟨by show 1 ≤ sizeLine; decide, fun l1 hl1 => ?_⟩
    have s1 := same_upd (o := .lst [.non]) hl1
    have h1 : upd H l1 (.lst [.non]) l1 = some (.lst [.non]) := upd_same
    have hS1 := s1.seq hS
    generalize upd H l1 (.lst [.non]) = H1 at s1 h1 hS1 ⊢
    refine ⟨1, 64, rfl, by decide, fun D hD => ?_⟩
    refine lc_range (lo := 1) (n := 63) (fun i H' => Same H1 H' ∧ ∃ xs : List V, H' D = some (.lst xs) ∧ xs.length = i ∧ ∀ (j : Nat) (v : V) (qq : Nat × Nat), xs[j]? = some v → ((List.range i).map wq)[j]? = some qq → PairAt H' v qq) ⟨same_upd hD, [], upd_same, rfl, fun j v qq h => by simp at h⟩ ?_ ?_
    · rintro i H2 hi ⟨s2, xs, h2, lx, hx⟩
      refine ⟨rfl, _, rfl, i + 1, congrArg (fun z : Int => [V.int z]) (by omega : (1 : Int) + (i : Int) = ((i + 1 : Nat) : Int)), by omega, by omega, fun t H3 s3 tN ht => ?_⟩
      have h3 := s3 _ _ h2
      have nD : t ≠ D := fun e => by rw [e, h2] at tN; cases tN
      refine ⟨_, h3, by rw [lx]; exact Nat.lt_of_lt_of_le hi (by decide), fun b o e => ?_, xs ++ [.ref t], upd_same, by rw [List.length_append, lx]; rfl, fun j v qq hv hq => ?_⟩
      · rw [upd_ne (ne_of_none e hD)]
        exact s3 _ _ (s2 _ _ e)
      have up : ∀ {v : V} {qq : Nat × Nat}, PairAt H3 v qq → PairAt (upd H3 D (.lst (xs ++ [.ref t]))) v qq := fun ⟨t', e, h⟩ => ⟨t', e, by rw [upd_ne (fun z => by rw [z, h3] at h; cases h)]; exact h⟩
      rw [List.range_succ, List.map_append] at hq
      have ll : ((List.range i).map wq).length = i := by rw [List.length_map, List.length_range]
      rcases Nat.lt_or_ge j i with hj | hj
      · rw [List.getElem?_append_left (by omega)] at hv hq
        obtain ⟨t', e, h⟩ := hx j v qq hv hq
        exact up ⟨t', e, s3 _ _ h⟩
      · rw [List.getElem?_append_right (by omega)] at hv hq
        rw [lx] at hv
        rw [ll] at hq
        have ej : j - i = 0 := by
          have := (List.getElem?_eq_some_iff.mp hv).1
          simp only [List.length_singleton] at this
          omega
        rw [ej] at hv hq
        have e1 := Option.some.inj hv
        have e2 := Option.some.inj hq
        rw [← e1, ← e2]
        exact up ⟨t, rfl, ht⟩
    rintro H2 ⟨s2, xs, h2, lx, hx⟩
    have hS2 := s2.seq hS1
    refine ⟨l1, D, _, _, rfl, rfl, L2.sq_of (s2 _ _ h1), L2.sq_of h2, by rw [lx]; show 1 + 63 ≤ sizeLine; decide, fun wp hwp => ?_⟩
    have s3 := same_upd (o := .lst ([.non] ++ xs)) hwp
    have h3 : upd H2 wp (.lst ([.non] ++ xs)) wp = some (.lst ([.non] ++ xs)) := upd_same
    have hS3 := s3.seq hS2
    have hx3 : ∀ (j : Nat) (v : V) (qq : Nat × Nat), xs[j]? = some v → ((List.range 63).map wq)[j]? = some qq → PairAt (upd H2 wp (.lst ([.non] ++ xs))) v qq := fun j v qq h5 h6 => by
      obtain ⟨t, e, h⟩ := hx j v qq h5 h6
      exact ⟨t, e, s3 _ _ h⟩
    generalize upd H2 wp (.lst ([.non] ++ xs)) = H3 at s3 h3 hS3 hx3 ⊢
    have hW : WaysAt H3 wp := by
      refine ⟨_, h3, by rw [List.length_append, lx]; rfl, fun i i0 i64 => ?_⟩
      have hi : i - 1 < xs.length := by omega
      obtain ⟨t, e, h⟩ := hx3 (i - 1) xs[i - 1] (wq (i - 1)) (List.getElem?_eq_getElem hi) (by rw [List.getElem?_map, List.getElem?_range (by omega)]; rfl)
      refine ⟨t, ?_, ?_⟩
      · rw [List.getElem?_append_right (by show 1 ≤ i; omega)]
        show xs[i - 1]? = _
        rw [List.getElem?_eq_getElem hi, e]
      · have ei : i - 1 + 1 = i := by omega
        have h : H3 t = some (.tup [.int ((PF.fb (i - 1 + 1) : Nat) : Int), .int ((PF.bl (i - 1 + 1) : Nat) : Int)]) := h
        rw [ei] at h
        exact h
    -- None in ways[1:]
    refine ⟨_, rfl, 1, rfl, wp, _, rfl, L2.sq_of h3, fun c hc => ?_⟩
    rw [show cutV ([.non] ++ xs) (some 1) none = xs from (cut_drop ([V.non] ++ xs) 1).trans rfl]
    have s4 := same_upd (o := .lst xs) hc
    have h4 : upd H3 c (.lst xs) c = some (.lst xs) := upd_same
    have hW4 := hW.same s4
    have hS4 := s4.seq hS3
    have hx4 : ∀ (j : Nat) (v : V) (qq : Nat × Nat), xs[j]? = some v → ((List.range 63).map wq)[j]? = some qq → PairAt (upd H3 c (.lst xs)) v qq := fun j v qq h5 h6 => by
      obtain ⟨t, e, h⟩ := hx3 j v qq h5 h6
      exact ⟨t, e, s4 _ _ h⟩
    generalize upd H3 c (.lst xs) = H4 at s4 h4 hW4 hS4 hx4 ⊢
    refine ⟨.none, _, .non, .lst (L2.sq_of h4) (dpAll_pairs (qs := (List.range 63).map wq) (by rw [lx, List.length_map, List.length_range]) hx4), rfl, shaped_qs _, false, by rw [none_in], iteF ?_⟩
    -- all sizes
    refine ⟨65, rfl, by decide, by decide, ?_⟩
    refine for_range (lo := 0) (n := 65) (fun i σ H' => (∃ (u2 u3 u4 u5 u6 u7 u8 : Option V), σ = [some (.ref sp), some (.ref wp), u2, u3, u4, u5, u6, u7, u8]) ∧ Same H4 H') ⟨⟨_, _, _, _, _, _, _, rfl⟩, Same.refl _⟩ ?_ ?_
    · rintro i σ H5 hi ⟨⟨u2, u3, u4, u5, u6, u7, u8, rfl⟩, s5⟩
      have e0 : (0 : Int) + (i : Int) = (i : Int) := Int.zero_add _
      have e3 : ((0 : Int) + (i : Int)) / 2 = ((i / 2 : Nat) : Int) := by omega
      have hW5 := hW4.same s5
      refine ⟨_, rfl, _, rfl, i, 0, wp, congrArg (fun z : Int => [V.int z, V.int 0, V.ref wp]) e0, by omega, by omega, hW5, fun H6 s6 => ⟨true, rfl, iteF ?_⟩⟩
      refine ⟨_, rfl, _, rfl, _, rfl, i, i, wp, congrArg (fun z : Int => [V.int z, V.int z, V.ref wp]) e0, by omega, by omega, hW5.same s6, fun H7 s7 => ⟨true, rfl, iteF ?_⟩⟩
      refine ⟨_, rfl, _, rfl, _, _, rfl, rfl, wide_div (b := 64) (by decide) (by decide) (by decide) (by decide), _, rfl, i, i / 2, wp, ?_, by omega, by omega, (hW5.same s6).same s7, fun H8 s8 => ⟨true, rfl, iteF ?_⟩⟩
      · exact (congrArg (fun z : Int => [V.int z, V.int (((0 : Int) + (i : Int)) / 2), V.ref wp]) e0).trans (congrArg (fun z : Int => [V.int (i : Int), V.int z, V.ref wp]) e3)
      · exact ⟨⟨_, _, _, _, _, _, _, rfl⟩, ((s5.trans s6).trans s7).trans s8⟩
    rintro σ H5 ⟨⟨u2, u3, u4, u5, u6, u7, u8, rfl⟩, s5⟩
    have hW5 := hW4.same s5
    have hS5 := s5.seq hS4
    refine ⟨_, rfl, by show 1 ≤ sizeLine; decide, fun b2 hb2 => ⟨sp, b2, _, _, rfl, rfl, (same_upd hb2).seq hS5, L2.sq_of upd_same, sz, fun c2 hc2 => ?_⟩⟩
    refine ⟨4, rfl, c2, _, rfl, L2.sq_of upd_same, fun e he => ⟨e, rfl, ⟨_, L2.sq_of upd_same⟩, ?_⟩⟩
    have sE : Same H5 (upd (upd (upd H5 b2 (.lst [.int 0])) c2 (.lst (ns.map V.int ++ [V.int 0]))) e (.lst (cutV (ns.map V.int ++ [V.int 0]) none (some 4)))) := ((same_upd hb2).trans (same_upd hc2)).trans (same_upd he)
    have hE : upd (upd (upd H5 b2 (.lst [.int 0])) c2 (.lst (ns.map V.int ++ [V.int 0]))) e (.lst (cutV (ns.map V.int ++ [V.int 0]) none (some 4))) e = some (.lst (cutV (ns.map V.int ++ [V.int 0]) none (some 4))) := upd_same
    generalize upd (upd (upd H5 b2 (.lst [.int 0])) c2 (.lst (ns.map V.int ++ [V.int 0]))) e (.lst (cutV (ns.map V.int ++ [V.int 0]) none (some 4))) = He at sE hE
    have hWE := hW5.same sE
    refine for_list (K := K) (a := e) (xs := cutV (ns.map V.int ++ [V.int 0]) none (some 4)) (fun i σ H' => (∃ (u2 u3 u4 u5 u6 u7 u8 : Option V), σ = [some (.ref sp), some (.ref wp), u2, u3, u4, u5, u6, u7, u8]) ∧ Same He H')
      ⟨⟨_, _, _, _, _, _, _, rfl⟩, Same.refl _⟩ (fun i σ H' _ h => L2.sq_of (h.2 _ _ hE)) ?_ ?_
    · rintro i y σ HA hy ⟨⟨u2, u3, u4, u5, u6, u7, u8, rfl⟩, sm⟩
      obtain ⟨cell, rfl⟩ := cells_int (List.mem_of_getElem? hy)
      refine ⟨_, rfl, cell, rfl, fun p x y z x0 hp => ?_⟩
      have sm1 : Same He (upd HA p (.lst [.int x, .int y, .int z])) := sm.trans (same_upd hp)
      have sr1 : Src (upd HA p (.lst [.int x, .int y, .int z])) p := .put x0
      have fp : He p = none := sm.free hp
      generalize upd HA p (.lst [.int x, .int y, .int z]) = HB at sm1 sr1 ⊢
      have sDn : ∀ {H4 : Hp}, Dn p HB H4 → Same He H4 := fun d b o e => d.1 b o (ne_of_none e fp) (sm1 _ _ e)
      refine ⟨4, rfl, by decide, by decide, ?_⟩
      refine for_range (lo := 0) (n := 4) (fun i σ H' => (∃ (u2 u3 u6 u7 u8 : Option V), σ = [some (.ref sp), some (.ref wp), u2, u3, some (.int cell), some (.ref p), u6, u7, u8]) ∧ Dn p HB H') ⟨⟨_, _, _, _, _, rfl⟩, Dn.refl sr1⟩ ?_ ?_
      · rintro go σ HC hgo ⟨⟨u2, u3, u6, u7, u8, rfl⟩, dC⟩
        refine ⟨_, rfl, p, 64, rfl, dC.2, by decide, by decide, fun v x y z v0 v1 x0 => ?_⟩
        have d1 : Dn p HB (upd HC p (.lst [.int x, .int y, .int z])) := dC.trans (.put x0)
        generalize upd HC p (.lst [.int x, .int y, .int z]) = H1 at d1 ⊢
        obtain ⟨n, en, n0, n64⟩ : ∃ n : Nat, 1 + v = (n : Int) ∧ 0 < n ∧ n ≤ 64 := ⟨(1 + v).toNat, by omega, by omega, by omega⟩
        refine ⟨_, _, rfl, rfl, ?_⟩
        dsimp only
        rw [en]
        refine ⟨_, rfl, _, rfl, _, _, rfl, rfl, p, _, rfl, d1.2, by omega, by omega, fun vf x y z vf0 vf1 x0 => ?_⟩
        have d2 : Dn p HB (upd H1 p (.lst [.int x, .int y, .int z])) := d1.trans (.put x0)
        generalize upd H1 p (.lst [.int x, .int y, .int z]) = H2 at d2 ⊢
        obtain ⟨rd, rfl⟩ : ∃ j : Nat, vf = (j : Int) := ⟨vf.toNat, (Int.toNat_of_nonneg vf0).symm⟩
        have hrd : rd ≤ n := by omega
        refine ⟨_, rfl, _, rfl, _, rfl, n, rd, wp, rfl, n64, hrd, hWE.same (sDn d2), fun H3 s3 => ⟨true, rfl, iteF ?_⟩⟩
        have d3 := d2.same s3
        refine ⟨_, rfl, _, rfl, p, n, rfl, d3.2, by omega, fun g ms H4 lm gN d4' hg4 => ?_⟩
        have d4 := d3.trans d4'
        refine ⟨_, rfl, _, rfl, _, rfl, g, _, rfl, L2.sq_of hg4, fun c1 hc1 => ?_⟩
        rw [cut_take, ← List.map_take]
        have s5 := same_upd (o := .lst ((ms.take rd).map V.int)) hc1
        have hc5 : upd H4 c1 (.lst ((ms.take rd).map V.int)) c1 = some (.lst ((ms.take rd).map V.int)) := upd_same
        generalize upd H4 c1 (.lst ((ms.take rd).map V.int)) = H5 at s5 hc5 ⊢
        refine ⟨c1, _, rfl, L2.sq_of hc5, fun m1 p1 pm pw p1N => ?_⟩
        have s6 := same_upd (o := .lst (m1.map V.int)) p1N
        have hp6 : upd H5 p1 (.lst (m1.map V.int)) p1 = some (.lst (m1.map V.int)) := upd_same
        generalize upd H5 p1 (.lst (m1.map V.int)) = H6 at s6 hp6 ⊢
        refine ⟨_, rfl, _, rfl, _, rfl, g, _, rfl, L2.sq_of (s6 _ _ (s5 _ _ hg4)), fun c2 hc2 => ?_⟩
        rw [cut_drop, ← List.map_drop]
        have s7 := same_upd (o := .lst ((ms.drop rd).map V.int)) hc2
        have hc7 : upd H6 c2 (.lst ((ms.drop rd).map V.int)) c2 = some (.lst ((ms.drop rd).map V.int)) := upd_same
        generalize upd H6 c2 (.lst ((ms.drop rd).map V.int)) = H7 at s7 hc7 ⊢
        have l1 : m1.length = rd := by
          rw [pm.length_eq, List.length_take]
          omega
        have l2 : (m1 ++ ms.drop rd).length = n := by
          rw [List.length_append, l1, List.length_drop]
          omega
        refine ⟨p1, c2, _, _, rfl, rfl, L2.sq_of (s7 _ _ hp6), L2.sq_of hc7, ?_, fun g2 hg2 => ?_⟩
        · rw [← List.length_append, ← List.map_append, List.length_map, l2]
          exact Nat.le_trans n64 (by decide)
        rw [← List.map_append]
        have s8 := same_upd (o := .lst ((m1 ++ ms.drop rd).map V.int)) hg2
        have hg8 : upd H7 g2 (.lst ((m1 ++ ms.drop rd).map V.int)) g2 = some (.lst ((m1 ++ ms.drop rd).map V.int)) := upd_same
        generalize upd H7 g2 (.lst ((m1 ++ ms.drop rd).map V.int)) = H8 at s8 hg8 ⊢
        generalize m1 ++ ms.drop rd = ks at l2 hg8
        have d8 := (((d4.same s5).same s6).same s7).same s8
        refine ⟨_, rfl, _, rfl, n, rd, rfl, n64, hrd, fun H9 s9 => ?_⟩
        refine ⟨_, rfl, _, rfl, g2, rd, ks, rfl, .inl (s9 _ _ hg8), by omega, by omega, fun N t r ql H10 hwt hbe hN s10 ht tN rN qN nrq hr10 hQ => ?_⟩
        obtain ⟨tq, htq, hlen, _⟩ := id hQ
        rw [PF.asks_len] at hlen
        have er : (List.range ks.length).length = ks.length := List.length_range
        have cb := PF.count_between (row := List.range ks.length) (less ks) rfl (by rw [er]; omega) hwt hbe
        rw [er, l2] at cb
        refine ⟨t, _, _, _, rfl, rfl, L2.st_of ht, rfl, ql, _, rfl, .inl (L2.sq_of htq), _, _, rfl, rfl, true, congrArg V.bl (decide_eq_true (by rw [hlen]; exact Int.ofNat_le.mpr cb.1)), iteT ?_⟩
        refine ⟨_, rfl, _, rfl, n, rd, rfl, n64, hrd, fun H11 s11 => ⟨_, _, rfl, rfl, true, congrArg V.bl (decide_eq_true (by rw [hlen]; exact Int.ofNat_le.mpr cb.2)), iteF ?_⟩⟩
        exact ⟨⟨_, _, _, _, _, rfl⟩, ((d8.same s9).same s10).same s11⟩
      · rintro σ HC ⟨⟨u2, u3, u6, u7, u8, rfl⟩, dC⟩
        exact ⟨⟨_, _, _, _, _, _, _, rfl⟩, sDn dC⟩
    · rintro σ HA ⟨⟨u2, u3, u4, u5, u6, u7, u8, rfl⟩, sm⟩
      exact q _
end
end K16

namespace K16
open PySem PySem.Spec PyProof.Rows L2
theorem all_mk {l : PySem.W.OpenLaw} {w : World} {K : PySem.W.Frag} {h : Heap} {mg : Str → Option Value} {fa f0 f1 f2 f3 f4 f5 f6 f7 f8 f9 f10 f11 f12 f13 f14 f15 f16 f17 f18 f19 f20 f21 f22 f23 f24 f25 f26 f27 f28 C_Placer : Addr} {t_MOST_PLACED : Tok} (X : K.In h) (G : h.Ns mainGlobals mg) (hfa : mg "law" = some (.ref fa))
    {od0 an0 od1 an1 od2 an2 od3 an3 od4 an4 od5 an5 od6 an6 od7 an7 od8 an8 od9 an9 od10 an10 od11 an11 od12 an12 od13 an13 od14 an14 od15 an15 od16 an16 od17 an17 od18 an18 od19 an19 od20 an20 od21 an21 od22 an22 od23 an23 od24 an24 od25 an25 od26 an26 od27 an27 od28 an28 : Option Addr} {sl0 sl1 sl2 sl3 sl4 sl5 sl6 sl7 sl8 sl9 sl10 sl11 sl12 sl13 sl14 sl15 sl16 sl17 sl18 sl19 sl20 sl21 sl22 sl23 sl24 sl25 sl26 sl27 sl28 : Array (Option Value)} {oc0 kV0 dc0 pm0 cd0 ct0 oc1 kV1 dc1 pm1 cd1 ct1 oc2 kV2 dc2 pm2 cd2 ct2 oc3 kV3 dc3 pm3 cd3 ct3 oc4 kV4 dc4 pm4 cd4 ct4 oc5 kV5 dc5 pm5 cd5 ct5 oc6 kV6 dc6 pm6 cd6 ct6 oc7 kV7 dc7 pm7 cd7 ct7 oc8 kV8 dc8 pm8 cd8 ct8 oc9 kV9 dc9 pm9 cd9 ct9 oc10 kV10 dc10 pm10 cd10 ct10 oc11 kV11 dc11 pm11 cd11 ct11 oc12 kV12 dc12 pm12 cd12 ct12 oc13 kV13 dc13 pm13 cd13 ct13 oc14 kV14 dc14 pm14 cd14 ct14 oc15 kV15 dc15 pm15 cd15 ct15 oc16 kV16 dc16 pm16 cd16 ct16 oc17 kV17 dc17 pm17 cd17 ct17 oc18 kV18 dc18 pm18 cd18 ct18 oc19 kV19 dc19 pm19 cd19 ct19 oc20 kV20 dc20 pm20 cd20 ct20 oc21 kV21 dc21 pm21 cd21 ct21 oc22 kV22 dc22 pm22 cd22 ct22 oc23 kV23 dc23 pm23 cd23 ct23 oc24 kV24 dc24 pm24 cd24 ct24 oc25 kV25 dc25 pm25 cd25 ct25 oc26 kV26 dc26 pm26 cd26 ct26 oc27 kV27 dc27 pm27 cd27 ct27 oc28 kV28 dc28 pm28 cd28 ct28 : Value}
    {T3 : Addr} {odT3 : Option Addr} {oT3 : Value} {nT3 : Nat} {slT3 : Array (Option Value)} {uT3_0 : Tok} {uT3_1 : Tok}
    {T4 : Addr} {odT4 : Option Addr} {oT4 : Value} {nT4 : Nat} {slT4 : Array (Option Value)} 
    (a0 : PySem.W.nsIn K mainGlobals "ask_honestly" = some (some (.ref f0))) (l0 : K.lookup f0 = some ⟨oc0, od0, .func (PySem.W.fnOf "ask_honestly" "ask_honestly" (defArgs s_ask_honestly) (defBody s_ask_honestly) (defScope s_ask_honestly) .none kV0 dc0 pm0 an0 cd0 ct0), sl0⟩) (c0 : PySem.W.codeIn K cd0 "ask_honestly" = true) (k0 : PySem.W.keepIn K (.ref f0) = true)
    (a1 : PySem.W.nsIn K mainGlobals "is_integer" = some (some (.ref f1))) (l1 : K.lookup f1 = some ⟨oc1, od1, .func (PySem.W.fnOf "is_integer" "is_integer" (defArgs s_is_integer) (defBody s_is_integer) (defScope s_is_integer) .none kV1 dc1 pm1 an1 cd1 ct1), sl1⟩) (c1 : PySem.W.codeIn K cd1 "is_integer" = true) (k1 : PySem.W.keepIn K (.ref f1) = true)
    (a2 : PySem.W.nsIn K mainGlobals "is_within" = some (some (.ref f2))) (l2 : K.lookup f2 = some ⟨oc2, od2, .func (PySem.W.fnOf "is_within" "is_within" (defArgs s_is_within) (defBody s_is_within) (defScope s_is_within) .none kV2 dc2 pm2 an2 cd2 ct2), sl2⟩) (c2 : PySem.W.codeIn K cd2 "is_within" = true) (k2 : PySem.W.keepIn K (.ref f2) = true)
    (a3 : PySem.W.nsIn K mainGlobals "check_keys" = some (some (.ref f3))) (l3 : K.lookup f3 = some ⟨oc3, od3, .func (PySem.W.fnOf "check_keys" "check_keys" (defArgs s_check_keys) (defBody s_check_keys) (defScope s_check_keys) (.ref T3) kV3 dc3 pm3 an3 cd3 ct3), sl3⟩) (c3 : PySem.W.codeIn K cd3 "check_keys" = true) (k3 : PySem.W.keepIn K (.ref f3) = true)
    (t3 : K.lookup T3 = some ⟨oT3, odT3, .seq #[.int 0 uT3_0, .int 2000 uT3_1] nT3, slT3⟩)
    (a4 : PySem.W.nsIn K mainGlobals "check_number" = some (some (.ref f4))) (l4 : K.lookup f4 = some ⟨oc4, od4, .func (PySem.W.fnOf "check_number" "check_number" (defArgs s_check_number) (defBody s_check_number) (defScope s_check_number) (.ref T4) kV4 dc4 pm4 an4 cd4 ct4), sl4⟩) (c4 : PySem.W.codeIn K cd4 "check_number" = true) (k4 : PySem.W.keepIn K (.ref f4) = true)
    (t4 : K.lookup T4 = some ⟨oT4, odT4, .seq #[.none] nT4, slT4⟩)
    (a5 : PySem.W.nsIn K mainGlobals "fewest_of_halving" = some (some (.ref f5))) (l5 : K.lookup f5 = some ⟨oc5, od5, .func (PySem.W.fnOf "fewest_of_halving" "fewest_of_halving" (defArgs s_fewest_of_halving) (defBody s_fewest_of_halving) (defScope s_fewest_of_halving) .none kV5 dc5 pm5 an5 cd5 ct5), sl5⟩) (c5 : PySem.W.codeIn K cd5 "fewest_of_halving" = true) (k5 : PySem.W.keepIn K (.ref f5) = true)
    (a6 : PySem.W.nsIn K mainGlobals "most_of_halving" = some (some (.ref f6))) (l6 : K.lookup f6 = some ⟨oc6, od6, .func (PySem.W.fnOf "most_of_halving" "most_of_halving" (defArgs s_most_of_halving) (defBody s_most_of_halving) (defScope s_most_of_halving) .none kV6 dc6 pm6 an6 cd6 ct6), sl6⟩) (c6 : PySem.W.codeIn K cd6 "most_of_halving" = true) (k6 : PySem.W.keepIn K (.ref f6) = true)
    (a7 : PySem.W.findIn K (.ref C_Placer) "__init__" = some (some (.ref f7))) (i7 : PySem.W.isFn K (.ref f7) = true) (l7 : K.lookup f7 = some ⟨oc7, od7, .func (PySem.W.fnOf "__init__" "Placer.__init__" (defArgs s_Placer___init__) (defBody s_Placer___init__) (defScope s_Placer___init__) .none kV7 dc7 pm7 an7 cd7 ct7), sl7⟩) (c7 : PySem.W.codeIn K cd7 "Placer.__init__" = true) (k7 : PySem.W.keepIn K (.ref f7) = true)
    (a8 : PySem.W.findIn K (.ref C_Placer) "take" = some (some (.ref f8))) (i8 : PySem.W.isFn K (.ref f8) = true) (l8 : K.lookup f8 = some ⟨oc8, od8, .func (PySem.W.fnOf "take" "Placer.take" (defArgs s_Placer_take) (defBody s_Placer_take) (defScope s_Placer_take) .none kV8 dc8 pm8 an8 cd8 ct8), sl8⟩) (c8 : PySem.W.codeIn K cd8 "Placer.take" = true) (k8 : PySem.W.keepIn K (.ref f8) = true)
    (a9 : PySem.W.findIn K (.ref C_Placer) "_begin_item" = some (some (.ref f9))) (i9 : PySem.W.isFn K (.ref f9) = true) (l9 : K.lookup f9 = some ⟨oc9, od9, .func (PySem.W.fnOf "_begin_item" "Placer._begin_item" (defArgs s_Placer__begin_item) (defBody s_Placer__begin_item) (defScope s_Placer__begin_item) .none kV9 dc9 pm9 an9 cd9 ct9), sl9⟩) (c9 : PySem.W.codeIn K cd9 "Placer._begin_item" = true) (k9 : PySem.W.keepIn K (.ref f9) = true)
    (a10 : PySem.W.findIn K (.ref C_Placer) "_ask_about_middle" = some (some (.ref f10))) (i10 : PySem.W.isFn K (.ref f10) = true) (l10 : K.lookup f10 = some ⟨oc10, od10, .func (PySem.W.fnOf "_ask_about_middle" "Placer._ask_about_middle" (defArgs s_Placer__ask_about_middle) (defBody s_Placer__ask_about_middle) (defScope s_Placer__ask_about_middle) .none kV10 dc10 pm10 an10 cd10 ct10), sl10⟩) (c10 : PySem.W.codeIn K cd10 "Placer._ask_about_middle" = true) (k10 : PySem.W.keepIn K (.ref f10) = true)
    (a11 : PySem.W.findIn K (.ref C_Placer) "_put" = some (some (.ref f11))) (i11 : PySem.W.isFn K (.ref f11) = true) (l11 : K.lookup f11 = some ⟨oc11, od11, .func (PySem.W.fnOf "_put" "Placer._put" (defArgs s_Placer__put) (defBody s_Placer__put) (defScope s_Placer__put) .none kV11 dc11 pm11 an11 cd11 ct11), sl11⟩) (c11 : PySem.W.codeIn K cd11 "Placer._put" = true) (k11 : PySem.W.keepIn K (.ref f11) = true)
    (a12 : PySem.W.nsIn K mainGlobals "placed" = some (some (.ref f12))) (l12 : K.lookup f12 = some ⟨oc12, od12, .func (PySem.W.fnOf "placed" "placed" (defArgs s_placed) (defBody s_placed) (defScope s_placed) .none kV12 dc12 pm12 an12 cd12 ct12), sl12⟩) (c12 : PySem.W.codeIn K cd12 "placed" = true) (k12 : PySem.W.keepIn K (.ref f12) = true)
    (a13 : PySem.W.nsIn K mainGlobals "fewest_placing" = some (some (.ref f13))) (l13 : K.lookup f13 = some ⟨oc13, od13, .func (PySem.W.fnOf "fewest_placing" "fewest_placing" (defArgs s_fewest_placing) (defBody s_fewest_placing) (defScope s_fewest_placing) .none kV13 dc13 pm13 an13 cd13 ct13), sl13⟩) (c13 : PySem.W.codeIn K cd13 "fewest_placing" = true) (k13 : PySem.W.keepIn K (.ref f13) = true)
    (a14 : PySem.W.nsIn K mainGlobals "most_placing" = some (some (.ref f14))) (l14 : K.lookup f14 = some ⟨oc14, od14, .func (PySem.W.fnOf "most_placing" "most_placing" (defArgs s_most_placing) (defBody s_most_placing) (defScope s_most_placing) .none kV14 dc14 pm14 an14 cd14 ct14), sl14⟩) (c14 : PySem.W.codeIn K cd14 "most_placing" = true) (k14 : PySem.W.keepIn K (.ref f14) = true)
    (a15 : PySem.W.nsIn K mainGlobals "easy_keys" = some (some (.ref f15))) (l15 : K.lookup f15 = some ⟨oc15, od15, .func (PySem.W.fnOf "easy_keys" "easy_keys" (defArgs s_easy_keys) (defBody s_easy_keys) (defScope s_easy_keys) .none kV15 dc15 pm15 an15 cd15 ct15), sl15⟩) (c15 : PySem.W.codeIn K cd15 "easy_keys" = true) (k15 : PySem.W.keepIn K (.ref f15) = true)
    (a16 : PySem.W.nsIn K mainGlobals "hard_keys" = some (some (.ref f16))) (l16 : K.lookup f16 = some ⟨oc16, od16, .func (PySem.W.fnOf "hard_keys" "hard_keys" (defArgs s_hard_keys) (defBody s_hard_keys) (defScope s_hard_keys) .none kV16 dc16 pm16 an16 cd16 ct16), sl16⟩) (c16 : PySem.W.codeIn K cd16 "hard_keys" = true) (k16 : PySem.W.keepIn K (.ref f16) = true)
    (a17 : PySem.W.nsIn K mainGlobals "_placed_indexes" = some (some (.ref f17))) (l17 : K.lookup f17 = some ⟨oc17, od17, .func (PySem.W.fnOf "_placed_indexes" "_placed_indexes" (defArgs s_placed_indexes) (defBody s_placed_indexes) (defScope s_placed_indexes) .none kV17 dc17 pm17 an17 cd17 ct17), sl17⟩) (c17 : PySem.W.codeIn K cd17 "_placed_indexes" = true) (k17 : PySem.W.keepIn K (.ref f17) = true)
    (a18 : PySem.W.nsIn K mainGlobals "_check_placing" = some (some (.ref f18))) (l18 : K.lookup f18 = some ⟨oc18, od18, .func (PySem.W.fnOf "_check_placing" "_check_placing" (defArgs s_check_placing) (defBody s_check_placing) (defScope s_check_placing) .none kV18 dc18 pm18 an18 cd18 ct18), sl18⟩) (c18 : PySem.W.codeIn K cd18 "_check_placing" = true) (k18 : PySem.W.keepIn K (.ref f18) = true)
    (a19 : PySem.W.nsIn K mainGlobals "_check_numbers" = some (some (.ref f19))) (l19 : K.lookup f19 = some ⟨oc19, od19, .func (PySem.W.fnOf "_check_numbers" "_check_numbers" (defArgs s_check_numbers) (defBody s_check_numbers) (defScope s_check_numbers) .none kV19 dc19 pm19 an19 cd19 ct19), sl19⟩) (c19 : PySem.W.codeIn K cd19 "_check_numbers" = true) (k19 : PySem.W.keepIn K (.ref f19) = true)
    (a20 : PySem.W.nsIn K mainGlobals "_law_source" = some (some (.ref f20))) (l20 : K.lookup f20 = some ⟨oc20, od20, .func (PySem.W.fnOf "_law_source" "_law_source" (defArgs s_source) (defBody s_source) (defScope s_source) .none kV20 dc20 pm20 an20 cd20 ct20), sl20⟩) (c20 : PySem.W.codeIn K cd20 "_law_source" = true) (k20 : PySem.W.keepIn K (.ref f20) = true)
    (a21 : PySem.W.nsIn K mainGlobals "_law_draw" = some (some (.ref f21))) (l21 : K.lookup f21 = some ⟨oc21, od21, .func (PySem.W.fnOf "_law_draw" "_law_draw" (defArgs s_draw) (defBody s_draw) (defScope s_draw) .none kV21 dc21 pm21 an21 cd21 ct21), sl21⟩) (c21 : PySem.W.codeIn K cd21 "_law_draw" = true) (k21 : PySem.W.keepIn K (.ref f21) = true)
    (a22 : PySem.W.nsIn K mainGlobals "_law_pick" = some (some (.ref f22))) (l22 : K.lookup f22 = some ⟨oc22, od22, .func (PySem.W.fnOf "_law_pick" "_law_pick" (defArgs s_pick) (defBody s_pick) (defScope s_pick) .none kV22 dc22 pm22 an22 cd22 ct22), sl22⟩) (c22 : PySem.W.codeIn K cd22 "_law_pick" = true) (k22 : PySem.W.keepIn K (.ref f22) = true)
    (a23 : PySem.W.nsIn K mainGlobals "_law_keys" = some (some (.ref f23))) (l23 : K.lookup f23 = some ⟨oc23, od23, .func (PySem.W.fnOf "_law_keys" "_law_keys" (defArgs s_keys) (defBody s_keys) (defScope s_keys) .none kV23 dc23 pm23 an23 cd23 ct23), sl23⟩) (c23 : PySem.W.codeIn K cd23 "_law_keys" = true) (k23 : PySem.W.keepIn K (.ref f23) = true)
    (a24 : PySem.W.nsIn K mainGlobals "_law_spots" = some (some (.ref f24))) (l24 : K.lookup f24 = some ⟨oc24, od24, .func (PySem.W.fnOf "_law_spots" "_law_spots" (defArgs s_spots) (defBody s_spots) (defScope s_spots) .none kV24 dc24 pm24 an24 cd24 ct24), sl24⟩) (c24 : PySem.W.codeIn K cd24 "_law_spots" = true) (k24 : PySem.W.keepIn K (.ref f24) = true)
    (a25 : PySem.W.nsIn K mainGlobals "_law_ways" = some (some (.ref f25))) (l25 : K.lookup f25 = some ⟨oc25, od25, .func (PySem.W.fnOf "_law_ways" "_law_ways" (defArgs s_ways) (defBody s_ways) (defScope s_ways) .none kV25 dc25 pm25 an25 cd25 ct25), sl25⟩) (c25 : PySem.W.codeIn K cd25 "_law_ways" = true) (k25 : PySem.W.keepIn K (.ref f25) = true)
    (a26 : PySem.W.nsIn K mainGlobals "_law_is_rising" = some (some (.ref f26))) (l26 : K.lookup f26 = some ⟨oc26, od26, .func (PySem.W.fnOf "_law_is_rising" "_law_is_rising" (defArgs s_is_rising) (defBody s_is_rising) (defScope s_is_rising) .none kV26 dc26 pm26 an26 cd26 ct26), sl26⟩) (c26 : PySem.W.codeIn K cd26 "_law_is_rising" = true) (k26 : PySem.W.keepIn K (.ref f26) = true)
    (a27 : PySem.W.nsIn K mainGlobals "_law_right" = some (some (.ref f27))) (l27 : K.lookup f27 = some ⟨oc27, od27, .func (PySem.W.fnOf "_law_right" "_law_right" (defArgs s_right) (defBody s_right) (defScope s_right) .none kV27 dc27 pm27 an27 cd27 ct27), sl27⟩) (c27 : PySem.W.codeIn K cd27 "_law_right" = true) (k27 : PySem.W.keepIn K (.ref f27) = true)
    (a28 : PySem.W.nsIn K mainGlobals "law" = some (some (.ref f28))) (l28 : K.lookup f28 = some ⟨oc28, od28, .func (PySem.W.fnOf "law" "law" (defArgs s_law) (defBody s_law) (defScope s_law) .none kV28 dc28 pm28 an28 cd28 ct28), sl28⟩) (c28 : PySem.W.codeIn K cd28 "law" = true) (k28 : PySem.W.keepIn K (.ref f28) = true)
    (v_MOST_PLACED : PySem.W.nsIn K mainGlobals "MOST_PLACED" = some (some (.int 64 t_MOST_PLACED)))
    (z_abs : PySem.W.nsIn K mainGlobals "abs" = some none)
    (z_bool : PySem.W.nsIn K mainGlobals "bool" = some none)
    (z_enumerate : PySem.W.nsIn K mainGlobals "enumerate" = some none)
    (z_int : PySem.W.nsIn K mainGlobals "int" = some none)
    (z_isinstance : PySem.W.nsIn K mainGlobals "isinstance" = some none)
    (z_len : PySem.W.nsIn K mainGlobals "len" = some none)
    (z_list : PySem.W.nsIn K mainGlobals "list" = some none)
    (z_max : PySem.W.nsIn K mainGlobals "max" = some none)
    (z_min : PySem.W.nsIn K mainGlobals "min" = some none)
    (z_range : PySem.W.nsIn K mainGlobals "range" = some none)
    (z_sorted : PySem.W.nsIn K mainGlobals "sorted" = some none)
    (z_sum : PySem.W.nsIn K mainGlobals "sum" = some none)
    (z_tuple : PySem.W.nsIn K mainGlobals "tuple" = some none)
    (aC_Placer : PySem.W.nsIn K mainGlobals "Placer" = some (some (.ref C_Placer)))
    (pg_Placer : PySem.W.plainGet K C_Placer Str.empty = true)
    (hd_Placer : PySem.W.hasDictIn K C_Placer = true)
    (po_Placer : PySem.W.plainOver K C_Placer = true)
    (sa_Placer : PySem.W.findIn K (.ref C_Placer) "__setattr__" = some (some (.builtin "object.__setattr__")))
    (mk_Placer : PySem.W.makesIn K C_Placer = true)
    (kc_Placer : PySem.W.keepIn K (.ref C_Placer) = true)
    (n_row : PySem.W.findIn K (.ref C_Placer) "row" = some none)
    (n_start : PySem.W.findIn K (.ref C_Placer) "start" = some none)
    (n_end : PySem.W.findIn K (.ref C_Placer) "end" = some none)
    (n_place : PySem.W.findIn K (.ref C_Placer) "place" = some none)
    (n_low : PySem.W.findIn K (.ref C_Placer) "low" = some none)
    (n_high : PySem.W.findIn K (.ref C_Placer) "high" = some none)
    (n_middle : PySem.W.findIn K (.ref C_Placer) "middle" = some none)
    (n_waiting : PySem.W.findIn K (.ref C_Placer) "waiting" = some none)
    : ∃ fd : FuncData, (∀ (s : Shared) (v : Value), BindsTo s fd ⟨[v], []⟩ [("script", v)]) ∧ ∀ base : Heap, K.In base → base.Ns mainGlobals mg → FnOk l.prog w K mg base CX0 8 fa fd ["script"] (spLaw K) := by
  have e : fa = f28 := by
    have e := hfa.symm.trans (PySem.W.mg_of X G a28)
    cases e
    rfl
  have F0 := fun_mk (st := s_ask_honestly) l0 c0 k0
  have B0 := F0.binds (ps := P_ask_honestly) fun _ _ _ _ _ _ us hl => match us, hl with | [_, _], _ => rfl
  have F1 := fun_mk (st := s_is_integer) l1 c1 k1
  have B1 := F1.binds (ps := P_is_integer) fun _ _ _ _ _ _ us hl => match us, hl with | [_], _ => rfl
  have F2 := fun_mk (st := s_is_within) l2 c2 k2
  have B2 := F2.binds (ps := P_is_within) fun _ _ _ _ _ _ us hl => match us, hl with | [_, _, _], _ => rfl
  have F3 := funV_mk (st := s_check_keys) l3 c3
  have B3_0 := bindsV (st := s_check_keys) (dvs := [.int 0, .int 2000]) (its := [.int 0 uT3_0, .int 2000 uT3_1]) (ps := P_check_keys) l3 c3 k3 t3 (.cons ⟨_, rfl⟩ (.cons ⟨_, rfl⟩ .nil)) 3 2 (List.cons_ne_nil _ _) rfl fun _ _ _ _ _ _ _ us its h1 h2 => match us, its, h1, h2 with | [_, _, _], [_, _], _, _ => ⟨_, rfl, rfl⟩
  obtain ⟨ds3, rds3, bds3⟩ := B3_0
  have F4 := funV_mk (st := s_check_number) l4 c4
  have B4_0 := bindsV (st := s_check_number) (dvs := [.non]) (its := [.none]) (ps := P_check_number) l4 c4 k4 t4 (.cons rfl .nil) 4 1 (List.cons_ne_nil _ _) rfl fun _ _ _ _ _ _ _ us its h1 h2 => match us, its, h1, h2 with | [_, _, _, _], [_], _, _ => ⟨_, rfl, rfl⟩
  obtain ⟨ds4, rds4, bds4⟩ := B4_0
  have F5 := fun_mk (st := s_fewest_of_halving) l5 c5 k5
  have B5 := F5.binds (ps := P_fewest_of_halving) fun _ _ _ _ _ _ us hl => match us, hl with | [_], _ => rfl
  have F6 := fun_mk (st := s_most_of_halving) l6 c6 k6
  have B6 := F6.binds (ps := P_most_of_halving) fun _ _ _ _ _ _ us hl => match us, hl with | [_], _ => rfl
  have F7 := fun_mk (st := s_Placer___init__) l7 c7 k7
  have B7 := F7.binds (ps := P_Placer___init__) fun _ _ _ _ _ _ us hl => match us, hl with | [_, _, _, _, _], _ => rfl
  have F8 := fun_mk (st := s_Placer_take) l8 c8 k8
  have B8 := F8.binds (ps := P_Placer_take) fun _ _ _ _ _ _ us hl => match us, hl with | [_, _], _ => rfl
  have F9 := fun_mk (st := s_Placer__begin_item) l9 c9 k9
  have B9 := F9.binds (ps := P_Placer__begin_item) fun _ _ _ _ _ _ us hl => match us, hl with | [_], _ => rfl
  have F10 := fun_mk (st := s_Placer__ask_about_middle) l10 c10 k10
  have B10 := F10.binds (ps := P_Placer__ask_about_middle) fun _ _ _ _ _ _ us hl => match us, hl with | [_], _ => rfl
  have F11 := fun_mk (st := s_Placer__put) l11 c11 k11
  have B11 := F11.binds (ps := P_Placer__put) fun _ _ _ _ _ _ us hl => match us, hl with | [_], _ => rfl
  have F12 := fun_mk (st := s_placed) l12 c12 k12
  have B12 := F12.binds (ps := P_placed) fun _ _ _ _ _ _ us hl => match us, hl with | [_, _], _ => rfl
  have F13 := fun_mk (st := s_fewest_placing) l13 c13 k13
  have B13 := F13.binds (ps := P_fewest_placing) fun _ _ _ _ _ _ us hl => match us, hl with | [_, _], _ => rfl
  have F14 := fun_mk (st := s_most_placing) l14 c14 k14
  have B14 := F14.binds (ps := P_most_placing) fun _ _ _ _ _ _ us hl => match us, hl with | [_, _], _ => rfl
  have F15 := fun_mk (st := s_easy_keys) l15 c15 k15
  have B15 := F15.binds (ps := P_easy_keys) fun _ _ _ _ _ _ us hl => match us, hl with | [_, _], _ => rfl
  have F16 := fun_mk (st := s_hard_keys) l16 c16 k16
  have B16 := F16.binds (ps := P_hard_keys) fun _ _ _ _ _ _ us hl => match us, hl with | [_, _], _ => rfl
  have F17 := fun_mk (st := s_placed_indexes) l17 c17 k17
  have B17 := F17.binds (ps := P_placed_indexes) fun _ _ _ _ _ _ us hl => match us, hl with | [_, _], _ => rfl
  have F18 := fun_mk (st := s_check_placing) l18 c18 k18
  have B18 := F18.binds (ps := P_check_placing) fun _ _ _ _ _ _ us hl => match us, hl with | [_, _], _ => rfl
  have F19 := fun_mk (st := s_check_numbers) l19 c19 k19
  have B19 := F19.binds (ps := P_check_numbers) fun _ _ _ _ _ _ us hl => match us, hl with | [_, _], _ => rfl
  have F20 := fun_mk (st := s_source) l20 c20 k20
  have B20 := F20.binds (ps := P_source) fun _ _ _ _ _ _ us hl => match us, hl with | [_], _ => rfl
  have F21 := fun_mk (st := s_draw) l21 c21 k21
  have B21 := F21.binds (ps := P_draw) fun _ _ _ _ _ _ us hl => match us, hl with | [_, _], _ => rfl
  have F22 := fun_mk (st := s_pick) l22 c22 k22
  have B22 := F22.binds (ps := P_pick) fun _ _ _ _ _ _ us hl => match us, hl with | [_, _], _ => rfl
  have F23 := fun_mk (st := s_keys) l23 c23 k23
  have B23 := F23.binds (ps := P_keys) fun _ _ _ _ _ _ us hl => match us, hl with | [_, _], _ => rfl
  have F24 := fun_mk (st := s_spots) l24 c24 k24
  have B24 := F24.binds (ps := P_spots) fun _ _ _ _ _ _ us hl => match us, hl with | [_, _], _ => rfl
  have F25 := fun_mk (st := s_ways) l25 c25 k25
  have B25 := F25.binds (ps := P_ways) fun _ _ _ _ _ _ us hl => match us, hl with | [_], _ => rfl
  have F26 := fun_mk (st := s_is_rising) l26 c26 k26
  have B26 := F26.binds (ps := P_is_rising) fun _ _ _ _ _ _ us hl => match us, hl with | [_, _], _ => rfl
  have F27 := fun_mk (st := s_right) l27 c27 k27
  have B27 := F27.binds (ps := P_right) fun _ _ _ _ _ _ us hl => match us, hl with | [_, _, _], _ => rfl
  have F28 := fun_mk (st := s_law) l28 c28 k28
  have B28 := F28.binds (ps := P_law) fun _ _ _ _ _ _ us hl => match us, hl with | [_], _ => rfl
  have T : Txt K mg ⟨f0, f1, f2, f3, f4, f5, f6, f7, f8, f9, f10, f11, f12, f13, f14, f15, f16, f17, f18, f19, f20, f21, f22, f23, f24, f25, f26, f27, f28, t_MOST_PLACED, C_Placer⟩ ⟨_, _, _, _, _, _, _, _, _, _, _, _, _, _, _, _, _, _, _, _, _, _, _, _, _, _, _, _, _⟩ := ⟨PySem.W.mg_of X G a0, k0, F0, B0, PySem.W.mg_of X G a1, k1, F1, B1, PySem.W.mg_of X G a2, k2, F2, B2, PySem.W.mg_of X G a3, k3, F3, Binds.none rds3 bds3, PySem.W.mg_of X G a4, k4, F4, Binds.none rds4 bds4, PySem.W.mg_of X G a5, k5, F5, B5, PySem.W.mg_of X G a6, k6, F6, B6, ⟨a7, i7, k7⟩, F7, B7, ⟨a8, i8, k8⟩, F8, B8, ⟨a9, i9, k9⟩, F9, B9, ⟨a10, i10, k10⟩, F10, B10, ⟨a11, i11, k11⟩, F11, B11, PySem.W.mg_of X G a12, k12, F12, B12, PySem.W.mg_of X G a13, k13, F13, B13, kbn_fewest_placing_0_ready_many F13, PySem.W.mg_of X G a14, k14, F14, B14, kbn_most_placing_0_ready_many F14, PySem.W.mg_of X G a15, k15, F15, B15, kbn_easy_keys_0_many_ready F15, PySem.W.mg_of X G a16, k16, F16, B16, kbn_hard_keys_0_ready_many F16, PySem.W.mg_of X G a17, k17, F17, B17, PySem.W.mg_of X G a18, k18, F18, B18, PySem.W.mg_of X G a19, k19, F19, B19, PySem.W.mg_of X G a20, k20, F20, B20, PySem.W.mg_of X G a21, k21, F21, B21, PySem.W.mg_of X G a22, k22, F22, B22, PySem.W.mg_of X G a23, k23, F23, B23, PySem.W.mg_of X G a24, k24, F24, B24, PySem.W.mg_of X G a25, k25, F25, B25, PySem.W.mg_of X G a26, k26, F26, B26, PySem.W.mg_of X G a27, k27, F27, B27, PySem.W.mg_of X G a28, k28, F28, B28, PySem.W.mg_of X G v_MOST_PLACED, PySem.W.mg_none_of X G z_abs, PySem.W.mg_none_of X G z_bool, PySem.W.mg_none_of X G z_enumerate, PySem.W.mg_none_of X G z_int, PySem.W.mg_none_of X G z_isinstance, PySem.W.mg_none_of X G z_len, PySem.W.mg_none_of X G z_list, PySem.W.mg_none_of X G z_max, PySem.W.mg_none_of X G z_min, PySem.W.mg_none_of X G z_range, PySem.W.mg_none_of X G z_sorted, PySem.W.mg_none_of X G z_sum, PySem.W.mg_none_of X G z_tuple, ⟨pg_Placer, hd_Placer, po_Placer, sa_Placer⟩, PySem.W.mg_of X G aC_Placer, ⟨mk_Placer, a7, i7, kc_Placer⟩, n_row, n_start, n_end, n_place, n_low, n_high, n_middle, n_waiting⟩
  exact ⟨_, fun s v => .of_eq rfl, fun base _ _ => by rw [e]; exact ok_law T⟩
end K16
open PySem PySem.W PyProof.Rows
set_option maxHeartbeats 0 in
theorem PySem.Challenge.cw_askedorder_k16_fewest_and_most_placed_holds : PySem.Challenge.rw_askedorder_k16_fewest_and_most_placed.Holds := by
  w_on; o_law; k_head; (case hw => w_witness2)
  k_fill
  refine L2.walk_of (l := PySem.Challenge.rw_askedorder_k16_fewest_and_most_placed) (n := 63) (k := 8) (x := "script") (CX := fun _ => L2.CX0) (sp := fun w => K16.spLaw _) rfl (by decide) rfl ⟨rfl, by decide, by decide⟩ (fun w h Y => PySem.W.kIn_of Y) ?F (fun _ _ a ns hl _ hS => ⟨a, ns, rfl, hS, hl, fun _ => rfl⟩) (fun _ _ _ _ _ h => h)
  case F =>
    intro w mg fa h KX G hmg
    refine' K16.all_mk KX G hmg ?a0 ?l0 ?c0 ?k0 ?a1 ?l1 ?c1 ?k1 ?a2 ?l2 ?c2 ?k2 ?a3 ?l3 ?c3 ?k3 ?t3 ?a4 ?l4 ?c4 ?k4 ?t4 ?a5 ?l5 ?c5 ?k5 ?a6 ?l6 ?c6 ?k6 ?a7 ?i7 ?l7 ?c7 ?k7 ?a8 ?i8 ?l8 ?c8 ?k8 ?a9 ?i9 ?l9 ?c9 ?k9 ?a10 ?i10 ?l10 ?c10 ?k10 ?a11 ?i11 ?l11 ?c11 ?k11 ?a12 ?l12 ?c12 ?k12 ?a13 ?l13 ?c13 ?k13 ?a14 ?l14 ?c14 ?k14 ?a15 ?l15 ?c15 ?k15 ?a16 ?l16 ?c16 ?k16 ?a17 ?l17 ?c17 ?k17 ?a18 ?l18 ?c18 ?k18 ?a19 ?l19 ?c19 ?k19 ?a20 ?l20 ?c20 ?k20 ?a21 ?l21 ?c21 ?k21 ?a22 ?l22 ?c22 ?k22 ?a23 ?l23 ?c23 ?k23 ?a24 ?l24 ?c24 ?k24 ?a25 ?l25 ?c25 ?k25 ?a26 ?l26 ?c26 ?k26 ?a27 ?l27 ?c27 ?k27 ?a28 ?l28 ?c28 ?k28 ?v_MOST_PLACED ?z_abs ?z_bool ?z_enumerate ?z_int ?z_isinstance ?z_len ?z_list ?z_max ?z_min ?z_range ?z_sorted ?z_sum ?z_tuple ?aC_Placer ?pg_Placer ?hd_Placer ?po_Placer ?sa_Placer ?mk_Placer ?kc_Placer ?n_row ?n_start ?n_end ?n_place ?n_low ?n_high ?n_middle ?n_waiting
    (case aC_Placer => k_is); (case a0 => k_is); (case l0 => k_is); (case c0 => k_is); (case k0 => k_is); (case a1 => k_is)
    (case l1 => k_is); (case c1 => k_is); (case k1 => k_is); (case a2 => k_is); (case l2 => k_is); (case c2 => k_is)
    (case k2 => k_is); (case a3 => k_is); (case l3 => k_is); (case c3 => k_is); (case k3 => k_is); (case t3 => k_is)
    (case a4 => k_is); (case l4 => k_is); (case c4 => k_is); (case k4 => k_is); (case t4 => k_is); (case a5 => k_is)
    (case l5 => k_is); (case c5 => k_is); (case k5 => k_is); (case a6 => k_is); (case l6 => k_is); (case c6 => k_is)
    (case k6 => k_is); (case a7 => k_is); (case i7 => k_is); (case l7 => k_is); (case c7 => k_is); (case k7 => k_is)
    (case a8 => k_is); (case i8 => k_is); (case l8 => k_is); (case c8 => k_is); (case k8 => k_is); (case a9 => k_is)
    (case i9 => k_is); (case l9 => k_is); (case c9 => k_is); (case k9 => k_is); (case a10 => k_is); (case i10 => k_is)
    (case l10 => k_is); (case c10 => k_is); (case k10 => k_is); (case a11 => k_is); (case i11 => k_is); (case l11 => k_is)
    (case c11 => k_is); (case k11 => k_is); (case a12 => k_is); (case l12 => k_is); (case c12 => k_is); (case k12 => k_is)
    (case a13 => k_is); (case l13 => k_is); (case c13 => k_is); (case k13 => k_is); (case a14 => k_is); (case l14 => k_is)
    (case c14 => k_is); (case k14 => k_is); (case a15 => k_is); (case l15 => k_is); (case c15 => k_is); (case k15 => k_is)
    (case a16 => k_is); (case l16 => k_is); (case c16 => k_is); (case k16 => k_is); (case a17 => k_is); (case l17 => k_is)
    (case c17 => k_is); (case k17 => k_is); (case a18 => k_is); (case l18 => k_is); (case c18 => k_is); (case k18 => k_is)
    (case a19 => k_is); (case l19 => k_is); (case c19 => k_is); (case k19 => k_is); (case a20 => k_is); (case l20 => k_is)
    (case c20 => k_is); (case k20 => k_is); (case a21 => k_is); (case l21 => k_is); (case c21 => k_is); (case k21 => k_is)
    (case a22 => k_is); (case l22 => k_is); (case c22 => k_is); (case k22 => k_is); (case a23 => k_is); (case l23 => k_is)
    (case c23 => k_is); (case k23 => k_is); (case a24 => k_is); (case l24 => k_is); (case c24 => k_is); (case k24 => k_is)
    (case a25 => k_is); (case l25 => k_is); (case c25 => k_is); (case k25 => k_is); (case a26 => k_is); (case l26 => k_is)
    (case c26 => k_is); (case k26 => k_is); (case a27 => k_is); (case l27 => k_is); (case c27 => k_is); (case k27 => k_is)
    (case a28 => k_is); (case l28 => k_is); (case c28 => k_is); (case k28 => k_is); (case v_MOST_PLACED => k_is); (case z_abs => k_is)
    (case z_bool => k_is); (case z_enumerate => k_is); (case z_int => k_is); (case z_isinstance => k_is); (case z_len => k_is); (case z_list => k_is)
    (case z_max => k_is); (case z_min => k_is); (case z_range => k_is); (case z_sorted => k_is); (case z_sum => k_is); (case z_tuple => k_is)
    (case pg_Placer => k_is); (case hd_Placer => k_is); (case po_Placer => k_is); (case sa_Placer => k_is); (case mk_Placer => k_is); (case kc_Placer => k_is)
    (case n_row => k_is); (case n_start => k_is); (case n_end => k_is); (case n_place => k_is); (case n_low => k_is); (case n_high => k_is)
    (case n_middle => k_is); (case n_waiting => k_is)


