import PyProof.Rows.All
import Wide.All
import OpenK.AllK
import Wide.FinOn
import HandS.ForMost
import HandS.ForExc
import HandS.Wide
import HandS.IsInst
import HandS.Style
import HandS.Evl
import HandS.Defaults
import HandS.WordsExc
import KE.GoesEnum
import HandS.SortRule
import HandS.SortInts
import HandS.WordsDict
import HandS.Conv
import HandS.ExcInit
import HandS.ExcField
import HandS.ExcOwn
import HandS.TryMany
import HandS.WideBits
import HandS.WideMore
import HandS.Small
import PySem.Challenge.RW_askedorder_k13_least_lengths
set_option Elab.async false
set_option linter.all false
set_option maxRecDepth 100000
set_option maxHeartbeats 8000000
namespace L2
open PySem PySem.Spec PyProof.Rows
/-! ### own rules: list + list of lists that are only read, powers, repr of a bool, calls by keywords alone -/
def rCatS (K : PySem.W.Frag) : R2 := fun x y H Q => ∃ l b xs zs, x = .ref l ∧ y = .ref b ∧ SqL K H l xs ∧ SqL K H b zs ∧ xs.length + zs.length ≤ sizeLine ∧ ∀ p, H p = none → Q (.ref p) (upd H p (.lst (xs ++ zs)))
theorem op_catS {X : Cx} : OpR X (binaryOp .Add) (rCatS X.K) := by
  intro pins s σ H x y v u Q I rx ry h
  obtain ⟨l, b, xs, zs, rfl, rfl, hH, hB, hz, q⟩ := h
  cases rx
  cases ry
  obtain ⟨its, r, pl, hl⟩ := I.list hH
  obtain ⟨its2, r2, pl2, hl2⟩ := I.list hB
  have e1 := r.length
  have e2 := r2.length
  obtain ⟨⟨cls, dd, data, sl⟩, n, ho, hc, hdd, hd⟩ := pl
  obtain ⟨⟨cls2, dd2, data2, sl2⟩, n2, ho2, hc2, hdd2, hd2⟩ := pl2
  simp only at hc hd hc2 hd2
  subst hc hd hc2 hd2
  have e : its.toArray ++ its2.toArray = (its ++ its2).toArray := by simp
  refine concat_meets ⟨_, ho, rfl⟩ ⟨_, ho2, rfl⟩ noFill_list_add seq_list_add PySem.F.slot_list_add PySem.F.entry_list_add (PySem.F.args_list_add_2 _ _) (list_addW l b its.toArray its2.toArray n n2 dd dd2 sl sl2 (by simp only [List.size_toArray]; omega)) ⟨ho, ho2, ?_⟩
  rw [e]
  exact ⟨.ref _, _, I.lnew (t' := s.toks) (r.append r2) (by rw [List.length_append]; omega), rfl, q _ I.fresh⟩
def CPowW (i j : Int) : Prop := 0 ≤ j ∧ (Builtin.Int.intBits i : Int) * j ≤ 2 ^ 27
theorem op_powW {X : Cx} : OpR X (binaryOp .Pow) (rI CPowW fun i j => .int (i ^ j.toNat)) := opI fun _ _ _ _ _ _ _ hc q => pow_int hc.1 hc.2 q
theorem call_repr_bool {X : Cx} : CallR X (.builtin "repr") (fun xs H Q => ∃ b, xs = [.bl b] ∧ Q (.str (if b then "True" else "False")) H) := by
  intro pins s σ H xs us Q I r h
  obtain ⟨b, rfl, q⟩ := h
  obtain ⟨u, rfl, r1⟩ := vals1 r
  cases r1
  exact PySem.P.repr_of_bool ⟨.str _, H, I.tok _, ⟨_, rfl⟩, q⟩
/-- f(k = v, ..), keywords alone -/
def tCallK0 (sp : Sp) (gV : List V → List V → List V) (E : XK) (tk : TA) : TE := fun σ H Q => tk σ H fun zs H2 => sp (gV [] zs) H2 Q E
theorem pe_callK0 {X : Cx} {CX : CXT} {k : Nat} {f : Addr} {fd : FuncData} {ps ks : List Str} {sp : Sp} {E : XK} {x : Str} {p pos : Pos} {kws : List Keyword} {tk : TA} {g : List Value → List Value → List Value} {gV : List V → List V → List V}
    (F : FnOk X.prog X.w X.K X.mg X.base CX k f fd ps sp) (hr : Room k X.A) (hg : Gl X x) (hm : X.mg x = some (.ref f)) (hk : PySem.W.keepIn X.K (.ref f) = true) (hb : KBinds X.K fd ps ks g gV) (hx : Passes CX X E)
    (hkw : PK X kws tk) (hall : (backToKw pos (keywordEach kws X.env)).all (·.1.isSome) = true := by rfl) (hks : (backToKw pos (keywordEach kws X.env)).filterMap (·.1) = ks := by rfl)
    (hdb : (x == ("__debug__" : Str)) = false := by decide)
    (hpl : ((backTo pos (starEach [] X.env)).any (·.1) || (backToKw pos (keywordEach kws X.env)).any (·.1.isNone)) = false := by rfl) :
    PE X (.Call (.Name x p) [] kws pos) (tCallK0 sp gV E tk) := by
  refine ⟨fun pins s σ H Q I h => ?_⟩
  refine wpAny_Call_Name_kw (ld_glob I hg hm ?_ hdb)
  refine PySem.W.callWith_KW0 (h₀ := X.base) I.ok.mod.kin hk hall ?_ hpl
  refine thn (hkw.run pos pins s σ H _ I h) fun ws s2 ⟨zs, H2, I2, rz, q2⟩ => ⟨I2.kIn, ?_⟩
  rw [hks]
  exact run_fnk F hr hb hx I2 .nil rz q2
/-! ### heaps: all but one address -/
/-- all that was tracked, but at p, is as it was -/
def SB (p : Addr) (H H' : Hp) : Prop := ∀ b o, b ≠ p → H b = some o → H' b = some o
theorem SB.refl (p : Addr) (H : Hp) : SB p H H := fun _ _ _ h => h
theorem SB.trans {p : Addr} {H H1 H2 : Hp} (a : SB p H H1) (b : SB p H1 H2) : SB p H H2 := fun c o n h => b c o n (a c o n h)
theorem SB.new {p q : Addr} {H : Hp} {o : HO} (h : H q = none) : SB p H (upd H q o) := fun b u n e => by
  rw [upd_ne (ne_of_none e h)]
  exact e
theorem SB.put {p : Addr} {H : Hp} {o : HO} : SB p H (upd H p o) := fun b u n e => by
  rw [upd_ne n]
  exact e
theorem SB.of {p : Addr} {H H' : Hp} (a : Same H H') : SB p H H' := fun c o _ h => a c o h
theorem SB.seq {p : Addr} {K : PySem.W.Frag} {H H' : Hp} {a : Addr} {xs : List V} (e : SB p H H') (n : a ≠ p) (h : SqL K H a xs) : SqL K H' a xs := by
  rcases h with (h | ⟨o, h⟩) | h
  · exact .inl (.inl (e _ _ n h))
  · exact .inl (.inr ⟨o, e _ _ n h⟩)
  · exact .inr h
theorem SB.tup {p : Addr} {K : PySem.W.Frag} {H H' : Hp} {a : Addr} {xs : List V} (e : SB p H H') (n : a ≠ p) (h : SqT K H a xs) : SqT K H' a xs := by
  rcases h with (h | ⟨o, h⟩) | h
  · exact .inl (.inl (e _ _ n h))
  · exact .inl (.inr ⟨o, e _ _ n h⟩)
  · exact .inr h
/-- what is free behind was free before, but at p -/
theorem SB.free {p : Addr} {H H' : Hp} (e : SB p H H') {l : Addr} (n : l ≠ p) (h : H' l = Option.none) : H l = Option.none := by
  cases q : H l with
  | none => rfl
  | some o =>
    rw [e l o n q] at h
    cases h
theorem same_upd {H : Hp} {p : Addr} {o : HO} (h : H p = none) : Same H (upd H p o) := fun b x e => by
  rw [upd_ne (ne_of_none e h)]
  exact e
theorem Same.tupS {K : PySem.W.Frag} {H H' : Hp} {a : Addr} {xs : List V} (e : Same H H') (h : SqT K H a xs) : SqT K H' a xs := by
  rcases h with (h | ⟨o, h⟩) | h
  · exact .inl (.inl (e _ _ h))
  · exact .inl (.inr ⟨o, e _ _ h⟩)
  · exact .inr h
theorem sq_of {K : PySem.W.Frag} {H : Hp} {a : Addr} {xs : List V} (h : H a = some (.lst xs)) : SqL K H a xs := .inl (.inl h)
theorem st_of {K : PySem.W.Frag} {H : Hp} {a : Addr} {xs : List V} (h : H a = some (.tup xs)) : SqT K H a xs := .inl (.inl h)
end L2
namespace L2
open PySem PySem.Spec PyProof.Rows
theorem for_iteL {K : PySem.W.Frag} {a : Addr} {xs : List V} {g : TG} {tb : TS} {D : Ends} {σ : St} {H : Hp} (Pv : Nat → St → Hp → Prop) (h0 : Pv 0 σ H) (hl : ∀ i σ H, i ≤ xs.length → Pv i σ H → SqL K H a xs)
    (hs : ∀ i x σ H T, xs[i]? = some x → Pv i σ H → H T = none → g (.ref T) σ (upd H T (.tup [.int (i : Nat), x])) fun σ2 H2 => tb { D with nx := Pv (i + 1), ct := Pv (i + 1), bk := D.nx } σ2 H2) (hd : ∀ σ H, Pv xs.length σ H → D.nx σ H) :
    ∃ W : Nat → Nat → St → Hp → Prop, (∃ m, W 0 m σ H) ∧ ∀ i m σ H, W i m σ H →
      ((Ite K a).stop i H ∧ D.nx σ H) ∨ ((Ite K a).go i H ∧ ∃ N : St → Hp → Prop, (∀ σ' H', N σ' H' → ∃ m', m' < m ∧ W (i + 1) m' σ' H') ∧ ∀ x H', (Ite K a).yld i H x H' → g x σ H' fun σ2 H2 => tb { D with nx := N, ct := N, bk := D.nx } σ2 H2) := by
  refine ⟨fun i m σ H => m = xs.length - i ∧ i ≤ xs.length ∧ Pv i σ H, ⟨xs.length, by simp, Nat.zero_le _, h0⟩, ?_⟩
  rintro i m σ H ⟨rfl, hi, p⟩
  have q := hl i σ H hi p
  by_cases hlt : i < xs.length
  · refine .inr ⟨⟨xs, xs[i], q, by simp [hlt]⟩, Pv (i + 1), fun σ' H' p' => ⟨xs.length - (i + 1), by omega, rfl, hlt, p'⟩, fun x H' y => ?_⟩
    obtain ⟨T, z, e, nT, eH, f⟩ := y
    subst e eH
    exact hs i z σ _ T (f xs q) p nT
  · have e : i = xs.length := by omega
    subst e
    exact .inl ⟨⟨xs, q, Nat.le_refl _⟩, hd σ H p⟩
end L2

namespace L2
open PySem PySem.Spec PyProof.Rows
/-! ### a def that has defaults -/
structure FunV (K : PySem.W.Frag) (x qual : Str) (st : Stmt) (f : Addr) (fd : FuncData) : Prop where
  ex : ∃ (oc : Value) (od : Option Addr) (dV kV doc pm : Value) (an : Option Addr) (cdv ct : Value) (osl : Array (Option Value)),
    fd = PySem.W.fnOf x qual (defArgs st) (defBody st) (defScope st) dV kV doc pm an cdv ct ∧ K.lookup f = some ⟨oc, od, .func fd, osl⟩ ∧ PySem.W.codeIn K cdv qual = true
section
variable {P : Program} {w : World} {K : PySem.W.Frag} {mg : Str → Option Value} {base : Heap}
theorem FunV.ok {x qual : Str} {st : Stmt} {f : Addr} {fd : FuncData} {N ps : List Str} {k : Nat} {sp : Sp} (F : FunV K x qual st f fd) (S : FnScope N ps (defScope st)) (len : ∀ vs H Q E, sp vs H Q E → vs.length = ps.length)
    (hbody : ∀ (cdv : Value) (A : Around) (outer : List Env) (s : Shared) (H : Hp) (vs : List V) (Q : VK) (E : XK), Room k (A.deeper (envOfC qual (defScope st) s.heap.objs.size f cdv)) → sp vs H Q E →
      ∃ t, PSs (cxOf CX0 P w K mg base N qual (defScope st) f cdv A outer s H E).nox (defBody st) t ∧ t { nx := fun _ H' => Q .non H', rt := Q } (start N vs) H) : FnOk P w K mg base CX0 (k + 1) f fd ps sp := by
  obtain ⟨oc, od, dV, kV, doc, pm, an, cdv, ct, osl, rfl, lk, hcd⟩ := F.ex
  refine fn_of lk hcd S len fun A outer s H vs Q E hr hsp => ?_
  obtain ⟨t, h, q⟩ := hbody cdv A outer s H vs Q E hr hsp
  exact ⟨t, h.nox, q⟩
theorem FunV.okX {x qual : Str} {st : Stmt} {f : Addr} {fd : FuncData} {N ps : List Str} {k : Nat} {sp : Sp} (F : FunV K x qual st f fd) (S : FnScope N ps (defScope st)) (len : ∀ vs H Q E, sp vs H Q E → vs.length = ps.length)
    (hbody : ∀ (cdv : Value) (A : Around) (outer : List Env) (s : Shared) (H : Hp) (vs : List V) (Q : VK) (E : XK), Room k (A.deeper (envOfC qual (defScope st) s.heap.objs.size f cdv)) → sp vs H Q E →
      ∃ t, PSs (cxOf (L2.CX P w) P w K mg base N qual (defScope st) f cdv A outer s H E) (defBody st) t ∧ t { nx := fun _ H' => Q .non H', rt := Q } (start N vs) H) : FnOk P w K mg base (L2.CX P w) (k + 1) f fd ps sp := by
  obtain ⟨oc, od, dV, kV, doc, pm, an, cdv, ct, osl, rfl, lk, hcd⟩ := F.ex
  exact fn_of lk hcd S len fun A outer s H vs Q E hr hsp => hbody cdv A outer s H vs Q E hr hsp
theorem funV_mk {x qual : Str} {st : Stmt} {f : Addr} {oc : Value} {od an : Option Addr} {osl : Array (Option Value)} {dV kV doc pm cdv ct : Value} (l : K.lookup f = some ⟨oc, od, .func (PySem.W.fnOf x qual (defArgs st) (defBody st) (defScope st) dV kV doc pm an cdv ct), osl⟩)
    (c : PySem.W.codeIn K cdv qual = true) : FunV K x qual st f (PySem.W.fnOf x qual (defArgs st) (defBody st) (defScope st) dV kV doc pm an cdv ct) := ⟨oc, od, dV, kV, doc, pm, an, cdv, ct, osl, rfl, l, c⟩
/-- how the arguments bind where the last defaults fill up: dvs the defaults, j of them are written -/
theorem bindsV {x qual : Str} {st : Stmt} {f T : Addr} {oc oT : Value} {od odT an : Option Addr} {osl slT : Array (Option Value)} {kV doc pm cdv ct : Value} {its : List Value} {nT : Nat} {ps : List Str} {dvs : List V}
    (l : K.lookup f = some ⟨oc, od, .func (PySem.W.fnOf x qual (defArgs st) (defBody st) (defScope st) (.ref T) kV doc pm an cdv ct), osl⟩)
    (c : PySem.W.codeIn K cdv qual = true) (kp : PySem.W.keepIn K (.ref f) = true) (lT : K.lookup T = some ⟨oT, odT, .seq its.toArray nT, slT⟩) (rT : Vals dvs its) (n j : Nat) (hd : dvs ≠ []) (hn : n + (dvs.length - j) = ps.length)
    (h : ∀ (T : Addr) (kV doc pm : Value) (an : Option Addr) (cdv ct : Value) (us its : List Value), us.length = n → its.length = dvs.length →
      ∃ k, bindArgs (PySem.W.fnOf x qual (defArgs st) (defBody st) (defScope st) (.ref T) kV doc pm an cdv ct) ⟨us, []⟩ = seqItems? (.ref T) >>= k ∧ k (some its.toArray) = pure (ps.zip (us ++ its.drop j))) :
    ∃ ds, Vals (dvs.drop j) ds ∧ Binds K (PySem.W.fnOf x qual (defArgs st) (defBody st) (defScope st) (.ref T) kV doc pm an cdv ct) ps ds := by
  have F : FunD K x qual (defArgs st) (defBody st) (defScope st) dvs [] f _ := ⟨⟨_, _, _, _, _, _, _, _, _, _, rfl, l, c, .inr ⟨hd, T, _, its, nT, rfl, lT, rfl, rT⟩, .inl rfl⟩, kp⟩
  exact F.binds1 (ps := ps) n j hd hn h
theorem Binds.none {fd : FuncData} {ps : List Str} {ds : List Value} (r : Vals [] ds) (b : Binds K fd ps ds) : Binds K fd ps [] := by
  cases r
  exact b
end
end L2

namespace PySem
open Sem (wp)
theorem meets_enumerate_new0 {v : Value} {o : Obj} {H : Heap → Prop} (B : Begins v o H) :
    Meets (Builtin.«enumerate.__new__» ⟨[.type "enumerate", v], []⟩) (fun _ R s => H s.heap ∧
      R (.ok (.ret (.ref (s.heap.push o).objs.size))) { s with heap := (s.heap.push o).push { cls := .type "enumerate", data := .fields #[.none, .bool false, .ref s.heap.objs.size, rawInt 0, .none, .none] } }) :=
  .of_wp fun prog w A R s h => by
    obtain ⟨hp, g, d, tk, os⟩ := s; obtain ⟨h1, h⟩ := h
    have hsub := sub_enumerate
    have q1 : ∀ {A' : Around} {E : Value → Shared → Prop} {Q : Value → Shared → Prop}, Q (.ref hp.objs.size) ⟨hp.push o, g, d, tk, os⟩ → wpAny (model prog w) A' (pyIter v) Q E ⟨hp, g, d, tk, os⟩ :=
      fun q => B.iter prog w _ _ ⟨hp, g, d, tk, os⟩ _ h1 q
    wp_walk using q1
    refine wpAny_stack_any fun st => wpAny_pure ?_
    split
    · rename_i c _ _ _ _ _
      cases (c == Value.type "enumerate")
      · wp_walk using q1
        exact ⟨_, rfl, h⟩
      · wp_walk using q1
        exact ⟨_, rfl, h⟩
    · wp_walk using q1
      exact ⟨_, rfl, h⟩
theorem enum_begins0 {prog : Program} {w : World} {A : Around} {E : Value → Shared → Prop} {s : Shared} {v : Value} {o : Obj} {H : Heap → Prop} {Q : Value → Shared → Prop} (B : Begins v o H) (h1 : H s.heap)
    (h : ∀ h', IsEnum h' (s.heap.objs.size + 1) s.heap.objs.size 0 .none → h'.get? s.heap.objs.size = some o → h'.objs.size = s.heap.objs.size + 2 →
      (∀ b o, s.heap.get? b = some o → h'.get? b = some o) → Q (.ref (s.heap.objs.size + 1)) { s with heap := h' }) :
    wpAny (model prog w) A (call (.type "enumerate") [v]) Q E s := by
  refine callType_new F.called_enumerate (by decide) (F.typeCall_enumerate_1 _) (F.newCall_enumerate_1 _) (fun obj => F.args_object_init_2 obj _) F.entry_enumerate_new
    (meets_enumerate_new0 B) ⟨h1, ?_⟩
  have hz : (s.heap.push o).objs.size = s.heap.objs.size + 1 := Heap.size_push ..
  show _ ∧ _
  rw [hz]
  have he : IsEnum ((s.heap.push o).push { cls := .type "enumerate", data := .fields #[.none, .bool false, .ref s.heap.objs.size, rawInt 0, .none, .none] }) (s.heap.objs.size + 1) s.heap.objs.size 0 .none := by
    have := Heap.get?_push_size (s.heap.push o) (o := { cls := .type "enumerate", data := .fields #[.none, .bool false, .ref s.heap.objs.size, rawInt 0, .none, .none] }) rfl
    rw [hz] at this; exact this
  refine ⟨⟨_, he, rfl⟩, h _ he (Heap.get?_push_of_some _ (Heap.get?_push_size _ B.free)) (by rw [Heap.size_push, hz]) fun b o x => Heap.get?_push_of_some _ (Heap.get?_push_of_some _ x)⟩
end PySem
namespace L2
open PySem PySem.Spec PyProof.Rows
/-- the tuple at a, each item in a new pair -/
def IteT (K : PySem.W.Frag) (a : Addr) : It :=
  ⟨fun i H => ∃ (xs : List V) (x : V), SqT K H a xs ∧ xs[i]? = some x, fun i H v H' => ∃ T x, v = .ref T ∧ H T = none ∧ H' = upd H T (.tup [.int (i : Nat), x]) ∧ ∀ xs, SqT K H a xs → xs[i]? = some x, fun i H => ∃ xs : List V, SqT K H a xs ∧ xs.length ≤ i⟩
theorem turn_enumT {P : Program} {w : World} {K : PySem.W.Frag} {elts : List Expr} {kk : Nat} {tpos : Pos} (a e it : Addr) (hae : e ≠ a) (hai : a ≠ it) :
    Turn P w K (.Tuple elts kk tpos) (IteT K a) [e, it] e (fun i h => (∃ old, IsEnum h e it ((i : Nat) : Int) old) ∧ h.IsTupleIter it a i ∧ e ≠ it) where
  mem := by simp
  obj := fun i h st b hb => by
    obtain ⟨⟨old, he⟩, ⟨o, ho, hc, hd⟩, _⟩ := st
    have e' : b = e ∨ b = it := by simpa using hb
    rcases e' with z | z
    · rw [z]; exact ⟨_, he, fun v q => nomatch q⟩
    · rw [z]; exact ⟨o, ho, fun v q => by rw [hd] at q; cases q⟩
  keep := fun i h h' st k => let ⟨⟨old, he⟩, hi, hne⟩ := st; ⟨⟨old, k e (by simp) _ he⟩, hi.at fun o q => k it (by simp) o q, hne⟩
  item := by
    intro X hP hw hK hc i pins s σ H E I hf st hg
    subst hP hw hK
    obtain ⟨⟨old, he⟩, hit, hne⟩ := st
    obtain ⟨xs, x, hq, hx⟩ := hg
    obtain ⟨its, rv, p, hz⟩ := I.tuple hq
    obtain ⟨u, hu, ru⟩ := rv.get hx
    have hel : e < s.heap.objs.size := Heap.lt_size he
    have hil : it < s.heap.objs.size := by obtain ⟨_, q, _⟩ := hit; exact Heap.lt_size q
    have hlt : i < its.toArray.size := by
      have z := (List.getElem?_eq_some_iff.mp hu).1
      simpa using z
    refine wpAny_pyNext_enum_itemD (Draws.tuple (A := X.A.in1) (I.ok.hd hc) it a hai its.toArray) he ⟨hit, p⟩ hlt hne (by simp [hne, hae]) fun x' h' tk hP' ho hit' hT hsz hk => ?_
    have ex : x' = u := by
      have q : its.toArray[i]? = some u := by simpa using hu
      rw [q] at hP'
      exact (Option.some.inj hP').symm
    subst ex
    refine ⟨_, rfl, wpAny_letOwnedTupleGo_enum (s := { s with heap := h', toks := tk + 1 }) ho fun h'' he' sb => ?_⟩
    have hT2 : h''.get? s.heap.objs.size = some { cls := .type "tuple", data := .seq #[.int i tk, x'] } := (sb.2 _ (Nat.ne_of_gt hel)).trans hT
    have new : ObjOk X.prog X.w (upd H s.heap.objs.size (.tup [.int (i : Nat), x])) h'' s.heap.objs.size (.tup [.int (i : Nat), x]) :=
      ⟨by show 2 ≤ sizeLine; decide, [.int i tk, x'], .cons ⟨_, rfl⟩ (.cons ru .nil), ⟨_, hT2, rfl, _, rfl⟩⟩
    have I1 : Inv X pins σ (upd H s.heap.objs.size (.tup [.int (i : Nat), x])) { s with heap := h'', toks := tk + 1 } :=
      I.turnedNew (ch := [e, it]) (fun b ob hb q => (sb.2 b (fun z => hb (by simp [z]))).trans (hk b ob (fun z => hb (by simp [z])) (fun z => hb (by simp [z])) q)) hf (Nat.le_refl _) new
    refine ⟨.ref s.heap.objs.size, _, I1, rfl, ⟨_, x, rfl, I.hok.fresh (Nat.le_refl _), rfl, fun ys hy => by rw [I.tuple_inj hy hq]; exact hx⟩, ⟨⟨x', ?_⟩, hit'.1.at fun o q => (sb.2 it (Ne.symm hne)).trans q, hne⟩, fun b hb => ?_⟩
    · have e1 : ((i + 1 : Nat) : Int) = (i : Int) + 1 := by omega
      rw [e1]; exact he'
    · have hb' : b < s.heap.objs.size := by
        have e' : b = e ∨ b = it := by simpa using hb
        rcases e' with z | z
        · rw [z]; exact hel
        · rw [z]; exact hil
      rw [upd_ne (Nat.ne_of_lt hb')]
      exact (hf b hb).1
  done := by
    intro X hP hw hK hc i pins s σ H E I hf st hg
    subst hP hw hK
    obtain ⟨⟨old, he⟩, hit, hne⟩ := st
    obtain ⟨xs, hq, hx⟩ := hg
    obtain ⟨its, rv, p, hz⟩ := I.tuple hq
    obtain ⟨f0, f1, f2, f3, f4, f5⟩ := hf it (by simp)
    have hl := rv.length
    have hT : s.TypeIs (.ref e) "enumerate" := ⟨_, he, rfl⟩
    have hN : its.toArray[i]? = none := by simp; omega
    unfold pyNext
    refine wpAny_bind (wpAny_attempt (wpAny_callSpecial?_slot (name := Str.ofString "__next__") hT F.slot_enumerate_next
      (wpAny_call_entry F.slot_enumerate_next hT F.entry_enumerate_next ?_ (F.args_enumerate_next_1 _))))
    show wpAny _ _ (field (.ref e) 2 >>= _) _ _ _
    refine wpAny_bind (wpAny_field he rfl (x := .ref it) rfl ?_)
    refine wpAny_bind (wpAny_nextOf_tuple_end (I.ok.hd hc) hit p hN fun h' x he' hx' => ?_)
    obtain ⟨o, ho, hcc⟩ := hx'
    refine wpAny_bind (wpAny_isInstance (T := "StopIteration") (b := true) ⟨o, ho, hcc⟩ isSubtype_stop ?_)
    exact wpAny_pure ⟨rfl, I.turned (t' := s.toks) (fun b o hb q => he' b o hb q) f0 f1 f3 f4 f5⟩
  self := fun A i s Q E st h => let ⟨⟨_, he⟩, _⟩ := st; wpAny_pyIter_enum he h
/-- enumerate of a list or a tuple -/
def iEnumA (K : PySem.W.Frag) (ta : TA) : TI := fun σ H R => ta σ H fun vs H1 => ∃ a xs, vs = [.ref a] ∧ ((SqL K H1 a xs ∧ R (Ite K a) H1) ∨ (SqT K H1 a xs ∧ R (IteT K a) H1))
theorem pi_enumA {X : Cx} {e : Expr} {ta : TA} {p pos tpos : Pos} {elts : List Expr} {kk : Nat} (hg : Gl X "enumerate") (hm : X.mg "enumerate" = none) (ha : PA X [e] ta) (hs : starEach [e] X.env = [(false, eval e X.env)] := by rfl) :
    PI X (.Tuple elts kk tpos) (.Call (.Name "enumerate" p) [e] [] pos) (iEnumA X.K ta) := by
  refine ⟨fun pins s σ H R I h => ?_⟩
  refine Call_ (ld_blt I hg hm boot_enumerate (PyProof.Rows.callWith_type1 (thn (ha.run pos pins s σ H _ I h) fun us s1 ⟨vs, H1, I1, r1, q1⟩ => ?_) hs rfl))
  obtain ⟨a, xs, ex, q1⟩ := q1
  subst ex
  cases r1 with
  | cons r rr =>
    cases rr
    cases r
    have fp : ∀ b, b ∈ [s1.heap.objs.size + 1, s1.heap.objs.size] → s1.heap.objs.size ≤ b := fun b hb => by
      have e' : b = s1.heap.objs.size + 1 ∨ b = s1.heap.objs.size := by simpa using hb
      rcases e' with z | z
      · rw [z]; exact Nat.le_add_right _ _
      · rw [z]; exact Nat.le_refl _
    rcases q1 with ⟨hq, q⟩ | ⟨hq, q⟩
    · obtain ⟨its, rv, p', hz⟩ := I1.list hq
      refine call_enumerate_list p'.isList fun h' he hit hsz hk => wpAny_pyIter_enum he ?_
      have I2 : Inv X pins σ H1 { s1 with heap := h' } := I1.kept (t' := s1.toks) hk
      exact ⟨s1.heap.objs.size + 1, [s1.heap.objs.size + 1, s1.heap.objs.size], _, _, H1, rfl, I2, turn_enum a (s1.heap.objs.size + 1) s1.heap.objs.size, ⟨⟨.none, he⟩, hit, Nat.succ_ne_self _⟩, fun b hb => I1.fpOk (fp b hb) (I1.hok.fresh (fp b hb)), q⟩
    · obtain ⟨its, rv, p', hz⟩ := I1.tuple hq
      have hlt : a < s1.heap.objs.size := by
        obtain ⟨o, ho, _⟩ := id p'
        exact Heap.lt_size ho
      refine enum_begins0 (begins_tuple a its.toArray) p' fun h' he hit hsz hk => wpAny_pyIter_enum he ?_
      have I2 : Inv X pins σ H1 { s1 with heap := h' } := I1.kept (t' := s1.toks) hk
      exact ⟨s1.heap.objs.size + 1, [s1.heap.objs.size + 1, s1.heap.objs.size], _, _, H1, rfl, I2, turn_enumT a (s1.heap.objs.size + 1) s1.heap.objs.size (Nat.ne_of_gt (Nat.lt_succ_of_lt hlt)) (Nat.ne_of_lt hlt), ⟨⟨.none, he⟩, ⟨_, hit, rfl, rfl⟩, Nat.succ_ne_self _⟩, fun b hb => I1.fpOk (fp b hb) (I1.hok.fresh (fp b hb)), q⟩
end L2
namespace L2
open PySem PySem.Spec PyProof.Rows
theorem for_iteT {K : PySem.W.Frag} {a : Addr} {xs : List V} {g : TG} {tb : TS} {D : Ends} {σ : St} {H : Hp} (Pv : Nat → St → Hp → Prop) (h0 : Pv 0 σ H) (hl : ∀ i σ H, i ≤ xs.length → Pv i σ H → SqT K H a xs)
    (hs : ∀ i x σ H T, xs[i]? = some x → Pv i σ H → H T = none → g (.ref T) σ (upd H T (.tup [.int (i : Nat), x])) fun σ2 H2 => tb { D with nx := Pv (i + 1), ct := Pv (i + 1), bk := D.nx } σ2 H2) (hd : ∀ σ H, Pv xs.length σ H → D.nx σ H) :
    ∃ W : Nat → Nat → St → Hp → Prop, (∃ m, W 0 m σ H) ∧ ∀ i m σ H, W i m σ H →
      ((IteT K a).stop i H ∧ D.nx σ H) ∨ ((IteT K a).go i H ∧ ∃ N : St → Hp → Prop, (∀ σ' H', N σ' H' → ∃ m', m' < m ∧ W (i + 1) m' σ' H') ∧ ∀ x H', (IteT K a).yld i H x H' → g x σ H' fun σ2 H2 => tb { D with nx := N, ct := N, bk := D.nx } σ2 H2) := by
  refine ⟨fun i m σ H => m = xs.length - i ∧ i ≤ xs.length ∧ Pv i σ H, ⟨xs.length, by simp, Nat.zero_le _, h0⟩, ?_⟩
  rintro i m σ H ⟨rfl, hi, p⟩
  have q := hl i σ H hi p
  by_cases hlt : i < xs.length
  · refine .inr ⟨⟨xs, xs[i], q, by simp [hlt]⟩, Pv (i + 1), fun σ' H' p' => ⟨xs.length - (i + 1), by omega, rfl, hlt, p'⟩, fun x H' y => ?_⟩
    obtain ⟨T, z, e, nT, eH, f⟩ := y
    subst e eH
    exact hs i z σ _ T (f xs q) p nT
  · have e : i = xs.length := by omega
    subst e
    exact .inl ⟨⟨xs, q, Nat.le_refl _⟩, hd σ H p⟩
end L2

namespace L2
open PySem PySem.Spec PyProof.Rows
/-! ### sources of draws: a list of three ints, the first one from 0 on -/
def Src (H : Hp) (p : Addr) : Prop := ∃ x y z : Int, 0 ≤ x ∧ H p = some (.lst [.int x, .int y, .int z])
theorem Src.put {H : Hp} {p : Addr} {x y z : Int} (h : 0 ≤ x) : Src (upd H p (.lst [.int x, .int y, .int z])) p := ⟨x, y, z, h, upd_same⟩
theorem Src.ne {H : Hp} {p q : Addr} (h : Src H p) (n : H q = none) : q ≠ p := fun e => by
  obtain ⟨x, y, z, _, hp⟩ := h
  rw [← e, n] at hp
  cases hp
theorem Src.at {H H' : Hp} {p : Addr} (h : Src H p) (e : H' p = H p) : Src H' p := by
  obtain ⟨x, y, z, x0, hp⟩ := h
  exact ⟨x, y, z, x0, e.trans hp⟩
theorem Src.upd {H : Hp} {p q : Addr} {o : HO} (h : Src H p) (n : q ≠ p) : Src (L2.upd H q o) p := h.at (upd_ne (Ne.symm n))
theorem Src.new {H : Hp} {p q : Addr} {o : HO} (h : Src H p) (n : H q = none) : Src (L2.upd H q o) p := h.upd (h.ne n)
theorem Src.same {H H' : Hp} {p : Addr} (h : Src H p) (e : Same H H') : Src H' p := by
  obtain ⟨x, y, z, x0, hp⟩ := h
  exact ⟨x, y, z, x0, e _ _ hp⟩
/-- what a draw leaves: all but the source stands, the source is one -/
def Dn (p : Addr) (H H' : Hp) : Prop := SB p H H' ∧ Src H' p
theorem Dn.put {p : Addr} {H : Hp} {x y z : Int} (h : 0 ≤ x) : Dn p H (L2.upd H p (.lst [.int x, .int y, .int z])) := ⟨SB.put, .put h⟩
theorem Dn.trans {p : Addr} {H H1 H2 : Hp} (a : Dn p H H1) (b : Dn p H1 H2) : Dn p H H2 := ⟨a.1.trans b.1, b.2⟩
theorem Dn.new {p q : Addr} {H H' : Hp} {o : HO} (a : Dn p H H') (n : H' q = none) : Dn p H (L2.upd H' q o) := ⟨a.1.trans (SB.new n), a.2.new n⟩
theorem Dn.same {p : Addr} {H H' H2 : Hp} (a : Dn p H H') (e : Same H' H2) : Dn p H H2 := ⟨a.1.trans (SB.of e), a.2.same e⟩
theorem Dn.refl {p : Addr} {H : Hp} (h : Src H p) : Dn p H H := ⟨SB.refl p H, h⟩
/-- an address that is new behind a draw was new before -/
theorem Dn.free {p q : Addr} {H H' : Hp} (a : Dn p H H') (n : H' q = none) : H q = none := a.1.free (a.2.ne n) n
theorem map_snoc (ms : List Int) (v : Int) : ms.map V.int ++ [V.int v] = (ms ++ [v]).map V.int := by simp
theorem rep_flat (b : Int) : ∀ n : Nat, (List.replicate n [V.int b]).flatten = (List.replicate n b).map V.int
  | 0 => rfl
  | n + 1 => by
    rw [List.replicate_succ, List.replicate_succ, List.flatten_cons, rep_flat b n]
    rfl
theorem lt64 {c : Int} {x : Int} (h0 : 0 ≤ x) (h1 : x < c) (hc : c ≤ 2 ^ 63) : -(2 ^ 64) < x ∧ x < 2 ^ 64 := by omega
theorem mb (x : Int) {c : Int} (h : 0 < c) : 0 ≤ x % c ∧ x % c < c := ⟨Int.emod_nonneg _ (by omega), Int.emod_lt_of_pos _ h⟩
theorem mbw (x : Int) {c : Int} (h : 0 < c) (hc : c ≤ 2 ^ 63) : -(2 ^ 64) < x % c ∧ x % c < 2 ^ 64 := lt64 (mb x h).1 (mb x h).2 hc
/-- a comprehension over range(n) each of whose items is an int, reckoned by draws -/
theorem lc_ints {te : TE} {σ : L2.St} {H1 : Hp} {D p : Addr} {n j : Nat} {vs : List Nat} {Qd : Hp → Prop} (hn : n ≤ 1000000) (hs : Src H1 p) (hD : H1 D = none)
    (hw : ∀ v, wipe ((wipe σ vs).set j v) vs = wipe σ vs)
    (he : ∀ (k : Nat) (H3 : Hp) (R : VK), k < n → Dn p H1 H3 → (∀ (v : Int) (H4 : Hp), Dn p H3 H4 → R (.int v) H4) → te ((wipe σ vs).set j (some (.int (0 + (k : Nat))))) H3 R)
    (hd : ∀ (ms : List Int) (H' : Hp), ms.length = n → Dn p H1 H' → H' D = some (.lst (ms.map V.int)) → Qd H') :
    ∃ W : Nat → Nat → Hp → Prop, (∃ m, W 0 m (L2.upd H1 D (.lst []))) ∧ ∀ i m H, W i m H →
      ((Itr 0 n).stop i H ∧ Qd H) ∨ ((Itr 0 n).go i H ∧ ∃ Nx : Hp → Prop, (∀ H', Nx H' → ∃ m', m' < m ∧ W (i + 1) m' H') ∧ ∀ x H', (Itr 0 n).yld i H x H' → gName j x (wipe σ vs) H' fun σ2 H2 => wipe σ2 vs = wipe σ vs ∧ tYes σ2 H2 fun b H3 =>
        if b = true then te σ2 H3 fun y H4 => ∃ acc, H4 D = some (.lst acc) ∧ acc.length < sizeLine ∧ Nx (L2.upd H4 D (.lst (acc ++ [y]))) else Nx H3) := by
  have nD : D ≠ p := hs.ne hD
  refine lc_range (lo := 0) (n := n) (fun i H => ∃ ms : List Int, ms.length = i ∧ Dn p H1 H ∧ H D = some (.lst (ms.map V.int))) ⟨[], rfl, (Dn.refl hs).new hD, upd_same⟩ ?_ ?_
  · rintro i H hi ⟨ms, hl, dr, hh⟩
    refine ⟨hw _, ?_⟩
    refine he i H _ hi dr fun v H4 d4 => ?_
    have h4 := d4.1 _ _ nD hh
    refine ⟨_, h4, ?_, ms ++ [v], by simp [hl], ?_, ?_⟩
    · rw [List.length_map, hl]
      exact Nat.lt_of_le_of_lt (Nat.le_trans (Nat.le_of_lt hi) hn) (by decide)
    · have dd := dr.trans d4
      refine ⟨fun b o nb e => ?_, dd.2.upd nD⟩
      rw [upd_ne (ne_of_none e hD)]
      exact dd.1 b o nb e
    · rw [map_snoc]
      exact upd_same
  · rintro H ⟨ms, hl, dr, hh⟩
    exact hd ms H hl dr hh
end L2
namespace L2
open PySem PySem.Spec PyProof.Rows
theorem canLay_ints : ∀ ns : List Int, PyData.canLayAll0 (ns.map PyData.int) = true
  | [] => rfl
  | n :: r => by
    show (PyData.canLay0 (.int n) && PyData.canLayAll0 (r.map PyData.int)) = true
    rw [canLay_ints r]
    rfl
theorem depth_ints : ∀ ns : List Int, PyData.depthAll (ns.map PyData.int) = 0
  | [] => rfl
  | n :: r => by
    show max (PyData.depth (.int n)) (PyData.depthAll (r.map PyData.int)) = 0
    rw [depth_ints r]
    rfl
theorem shaped_ints (ns : List Int) : SeqAt.shaped (.list (ns.map PyData.int)) = true := by
  unfold SeqAt.shaped
  rw [Bool.and_eq_true]
  refine ⟨canLay_ints ns, decide_eq_true ?_⟩
  show PyData.depthAll (ns.map PyData.int) + 1 ≤ 64
  rw [depth_ints]
  decide
theorem eqv_ints (ns : List Int) : PyData.eqv (.list (ns.map PyData.int)) (.list (ns.map PyData.int)) = true := SeqAt.eqv_refl _ (SeqAt.canLay_of_shaped (shaped_ints ns))
theorem dpAll_ints {K : PySem.W.Frag} {H : Hp} : ∀ ns : List Int, DpAll K H (ns.map V.int) (ns.map PyData.int)
  | [] => .nil
  | n :: r => .cons (.int n) (dpAll_ints r)
theorem dp_ints {K : PySem.W.Frag} {H : Hp} {p : Addr} {ns : List Int} (h : SqL K H p (ns.map V.int)) : Dp K H (.ref p) (.list (ns.map PyData.int)) := .lst h (dpAll_ints ns)
theorem cut_mem {xs : List V} {lo hi : Option Int} {x : V} (h : x ∈ cutV xs lo hi) : x ∈ xs := List.mem_of_mem_drop (List.mem_of_mem_take h)
end L2

namespace L2
open PySem PySem.Spec PyProof.Rows
/-! ### stable orders: the items of 0 .. n - 1, by a number each, then by themselves -/
def Lx (f : Nat → Int) (i j : Nat) : Prop := f i < f j ∨ (f i = f j ∧ i < j)
theorem Lx.irr {f : Nat → Int} {i : Nat} : ¬ Lx f i i := fun h => by unfold Lx at h; omega
theorem Lx.asymm {f : Nat → Int} {i j : Nat} (h : Lx f i j) : ¬ Lx f j i := fun h' => by unfold Lx at h h'; omega
theorem Lx.trans {f : Nat → Int} {i j k : Nat} (h : Lx f i j) (h' : Lx f j k) : Lx f i k := by unfold Lx at *; omega
theorem Lx.tri (f : Nat → Int) (i j : Nat) : Lx f i j ∨ i = j ∨ Lx f j i := by unfold Lx; omega
structure Stab (f : Nat → Int) (n : Nat) (os : List Nat) : Prop where
  perm : os.Perm (List.range n)
  sort : os.Pairwise (Lx f)
/-- two rows of the same items that are sorted strictly are one -/
theorem sorted_uniq {α : Type} {R : α → α → Prop} (as : ∀ a b, R a b → ¬ R b a) : ∀ {xs ys : List α}, xs.Perm ys → xs.Pairwise R → ys.Pairwise R → xs = ys
  | [], ys, p, _, _ => (List.Perm.nil_eq p)
  | x :: xs, [], p, _, _ => absurd p.length_eq (by simp)
  | x :: xs, y :: ys, p, hx, hy => by
    have e : x = y := by
      have m1 : x ∈ y :: ys := p.mem_iff.mp (List.mem_cons_self ..)
      have m2 : y ∈ x :: xs := p.mem_iff.mpr (List.mem_cons_self ..)
      rcases List.mem_cons.mp m1 with e | m1
      · exact e
      · rcases List.mem_cons.mp m2 with e | m2
        · exact e.symm
        · exact absurd ((List.pairwise_cons.mp hx).1 y m2) (as _ _ ((List.pairwise_cons.mp hy).1 x m1))
    subst e
    rw [sorted_uniq as p.cons_inv (List.pairwise_cons.mp hx).2 (List.pairwise_cons.mp hy).2]
theorem Stab.uniq {f : Nat → Int} {n : Nat} {as bs : List Nat} (a : Stab f n as) (b : Stab f n bs) : as = bs := sorted_uniq (fun _ _ => Lx.asymm) (a.perm.trans b.perm.symm) a.sort b.sort
theorem Stab.len {f : Nat → Int} {n : Nat} {os : List Nat} (a : Stab f n os) : os.length = n := by
  rw [a.perm.length_eq, List.length_range]
theorem Stab.nodup {f : Nat → Int} {n : Nat} {os : List Nat} (a : Stab f n os) : os.Nodup := a.perm.nodup_iff.mpr List.nodup_range
theorem Stab.lt {f : Nat → Int} {n : Nat} {os : List Nat} (a : Stab f n os) {i : Nat} (h : i ∈ os) : i < n := List.mem_range.mp (a.perm.mem_iff.mp h)
/-- the order hangs on how the numbers stand to one another alone -/
theorem Stab.like {f g : Nat → Int} {n : Nat} {os : List Nat} (a : Stab f n os) (h : ∀ i j, i < n → j < n → (f i < f j ↔ g i < g j)) : Stab g n os := by
  refine ⟨a.perm, ?_⟩
  refine List.Pairwise.imp_of_mem ?_ a.sort
  intro i j hi hj l
  have h1 := h i j (a.lt hi) (a.lt hj)
  have h2 := h j i (a.lt hj) (a.lt hi)
  unfold Lx at *
  omega
/-- what an item counts: its key, with reverse its negative -/
def keyf (ks : List Int) (rev : Bool) (i : Nat) : Int := if rev then -(ks.getD i 0) else ks.getD i 0
/-- the row of items as values -/
abbrev nV (os : List Nat) : List V := os.map fun (i : Nat) => V.int (i : Int)
/-- pairs of the keys' numbers and the items, sorted, give the order -/
theorem stab_of_pairs {f : Nat → Int} {n : Nat} {ps : List (Int × Int)} (p : ps.Perm ((List.range n).map fun (i : Nat) => (f i, (i : Int)))) (s : ps.Pairwise fun x y => ¬ (y.1 < x.1 ∨ (y.1 = x.1 ∧ y.2 < x.2))) :
    ∃ os, Stab f n os ∧ ps = os.map fun (i : Nat) => (f i, (i : Int)) := by
  have hm : ∀ q ∈ ps, q = (f q.2.toNat, (q.2.toNat : Int)) := fun q hq => by
    obtain ⟨i, _, e⟩ := List.mem_map.mp (p.mem_iff.mp hq)
    subst e
    simp
  have e1 : ps = (ps.map fun q => q.2.toNat).map fun (i : Nat) => (f i, (i : Int)) := by
    rw [List.map_map]
    calc ps = ps.map id := (List.map_id ps).symm
      _ = _ := List.map_congr_left fun q hq => hm q hq
  have pm : (ps.map fun q => q.2.toNat).Perm (List.range n) := by
    have q := p.map fun q => q.2.toNat
    rw [List.map_map] at q
    have e : (List.range n).map ((fun q : Int × Int => q.2.toNat) ∘ fun (i : Nat) => (f i, (i : Int))) = List.range n := by
      calc _ = (List.range n).map id := List.map_congr_left fun i _ => by simp
        _ = _ := List.map_id _
    rw [e] at q
    exact q
  refine ⟨ps.map fun q => q.2.toNat, ⟨pm, ?_⟩, e1⟩
  have nd : (ps.map fun q => q.2.toNat).Nodup := pm.nodup_iff.mpr List.nodup_range
  have s2 : (ps.map fun q => q.2.toNat).Pairwise fun i j => ¬ (f j < f i ∨ (f j = f i ∧ j < i)) := by
    rw [e1, List.pairwise_map] at s
    refine s.imp ?_
    intro i j h
    omega
  exact (List.pairwise_and_iff.mpr ⟨s2, nd⟩).imp fun {i j} h => by
    obtain ⟨h1, h2⟩ := h
    unfold Lx
    omega
end L2
namespace L2
open PySem PySem.Spec PyProof.Rows
theorem pe_callN0 {X : Cx} {CX : CXT} {k : Nat} {f : Addr} {fd : FuncData} {ps ks : List Str} {sp : Sp} {E : XK} {x : Str} {p pos : Pos} {kws : List Keyword} {tk : TA} {g : List Value → List Value → List Value} {gV : List V → List V → List V}
    (F : FnOk X.prog X.w X.K X.mg X.base CX k f fd ps sp) (hr : Room k X.A) (hg : Gl X x) (hm : X.mg x = some (.ref f)) (hk : PySem.W.keepIn X.K (.ref f) = true) (hb : KBn X.K fd ps 0 ks g gV) (hx : Passes CX X E)
    (hkw : PK X kws tk) (hall : (backToKw pos (keywordEach kws X.env)).all (·.1.isSome) = true := by rfl) (hks : (backToKw pos (keywordEach kws X.env)).filterMap (·.1) = ks := by rfl)
    (hdb : (x == ("__debug__" : Str)) = false := by decide)
    (hpl : ((backTo pos (starEach [] X.env)).any (·.1) || (backToKw pos (keywordEach kws X.env)).any (·.1.isNone)) = false := by rfl) :
    PE X (.Call (.Name x p) [] kws pos) (fun σ H Q => tk σ H fun zs H2 => zs.length = ks.length ∧ sp (gV [] zs) H2 Q E) := by
  refine ⟨fun pins s σ H Q I h => ?_⟩
  refine wpAny_Call_Name_kw (ld_glob I hg hm ?_ hdb)
  refine PySem.W.callWith_KW0 (h₀ := X.base) I.ok.mod.kin hk hall ?_ hpl
  refine thn (hkw.run pos pins s σ H _ I h) fun ws s2 ⟨zs, H2, I2, rz, l2, q2⟩ => ⟨I2.kIn, ?_⟩
  rw [hks]
  exact run_fnN F hr hb hx I2 .nil rz rfl l2 q2
theorem lc_iteL {K : PySem.W.Frag} {a : Addr} {xs : List V} {g : TG} {tt : TT} {te : TE} {vs : List Nat} {σ : L2.St} {H1 : Hp} {D : Addr} {Qd : Hp → Prop} (Pv : Nat → Hp → Prop) (h0 : Pv 0 (upd H1 D (.lst []))) (hl : ∀ i H, i ≤ xs.length → Pv i H → SqL K H a xs)
    (hs : ∀ i x H T, xs[i]? = some x → Pv i H → H T = none → g (.ref T) (wipe σ vs) (upd H T (.tup [.int (i : Nat), x])) fun σ2 H2 => wipe σ2 vs = wipe σ vs ∧ tt σ2 H2 fun b H3 =>
      if b = true then te σ2 H3 fun y H4 => ∃ acc, H4 D = some (.lst acc) ∧ acc.length < sizeLine ∧ Pv (i + 1) (upd H4 D (.lst (acc ++ [y]))) else Pv (i + 1) H3) (hd : ∀ H, Pv xs.length H → Qd H) :
    ∃ W : Nat → Nat → Hp → Prop, (∃ m, W 0 m (upd H1 D (.lst []))) ∧ ∀ i m H, W i m H →
      ((Ite K a).stop i H ∧ Qd H) ∨ ((Ite K a).go i H ∧ ∃ Nx : Hp → Prop, (∀ H', Nx H' → ∃ m', m' < m ∧ W (i + 1) m' H') ∧ ∀ x H', (Ite K a).yld i H x H' → g x (wipe σ vs) H' fun σ2 H2 => wipe σ2 vs = wipe σ vs ∧ tt σ2 H2 fun b H3 =>
        if b = true then te σ2 H3 fun y H4 => ∃ acc, H4 D = some (.lst acc) ∧ acc.length < sizeLine ∧ Nx (upd H4 D (.lst (acc ++ [y]))) else Nx H3) := by
  refine ⟨fun i m H => m = xs.length - i ∧ i ≤ xs.length ∧ Pv i H, ⟨xs.length, by simp, Nat.zero_le _, h0⟩, ?_⟩
  rintro i m H ⟨rfl, hi, p⟩
  have q := hl i H hi p
  by_cases hlt : i < xs.length
  · refine .inr ⟨⟨xs, xs[i], q, by simp [hlt]⟩, Pv (i + 1), fun H' p' => ⟨xs.length - (i + 1), by omega, rfl, hlt, p'⟩, fun x H' y => ?_⟩
    obtain ⟨T, z, e, nT, eH, f⟩ := y
    subst e eH
    exact hs i z _ T (f xs q) p nT
  · have e : i = xs.length := by omega
    subst e
    exact .inl ⟨⟨xs, q, Nat.le_refl _⟩, hd H p⟩
theorem lc_iteT {K : PySem.W.Frag} {a : Addr} {xs : List V} {g : TG} {tt : TT} {te : TE} {vs : List Nat} {σ : L2.St} {H1 : Hp} {D : Addr} {Qd : Hp → Prop} (Pv : Nat → Hp → Prop) (h0 : Pv 0 (upd H1 D (.lst []))) (hl : ∀ i H, i ≤ xs.length → Pv i H → SqT K H a xs)
    (hs : ∀ i x H T, xs[i]? = some x → Pv i H → H T = none → g (.ref T) (wipe σ vs) (upd H T (.tup [.int (i : Nat), x])) fun σ2 H2 => wipe σ2 vs = wipe σ vs ∧ tt σ2 H2 fun b H3 =>
      if b = true then te σ2 H3 fun y H4 => ∃ acc, H4 D = some (.lst acc) ∧ acc.length < sizeLine ∧ Pv (i + 1) (upd H4 D (.lst (acc ++ [y]))) else Pv (i + 1) H3) (hd : ∀ H, Pv xs.length H → Qd H) :
    ∃ W : Nat → Nat → Hp → Prop, (∃ m, W 0 m (upd H1 D (.lst []))) ∧ ∀ i m H, W i m H →
      ((IteT K a).stop i H ∧ Qd H) ∨ ((IteT K a).go i H ∧ ∃ Nx : Hp → Prop, (∀ H', Nx H' → ∃ m', m' < m ∧ W (i + 1) m' H') ∧ ∀ x H', (IteT K a).yld i H x H' → g x (wipe σ vs) H' fun σ2 H2 => wipe σ2 vs = wipe σ vs ∧ tt σ2 H2 fun b H3 =>
        if b = true then te σ2 H3 fun y H4 => ∃ acc, H4 D = some (.lst acc) ∧ acc.length < sizeLine ∧ Nx (upd H4 D (.lst (acc ++ [y]))) else Nx H3) := by
  refine ⟨fun i m H => m = xs.length - i ∧ i ≤ xs.length ∧ Pv i H, ⟨xs.length, by simp, Nat.zero_le _, h0⟩, ?_⟩
  rintro i m H ⟨rfl, hi, p⟩
  have q := hl i H hi p
  by_cases hlt : i < xs.length
  · refine .inr ⟨⟨xs, xs[i], q, by simp [hlt]⟩, Pv (i + 1), fun H' p' => ⟨xs.length - (i + 1), by omega, rfl, hlt, p'⟩, fun x H' y => ?_⟩
    obtain ⟨T, z, e, nT, eH, f⟩ := y
    subst e eH
    exact hs i z _ T (f xs q) p nT
  · have e : i = xs.length := by omega
    subst e
    exact .inl ⟨⟨xs, q, Nat.le_refl _⟩, hd H p⟩
/-- rows of ints compared -/
theorem eqvAll_ints : ∀ xs ys : List Int, PyData.eqvAll (xs.map PyData.int) (ys.map PyData.int) = decide (xs = ys)
  | [], [] => rfl
  | [], _ :: _ => rfl
  | _ :: _, [] => rfl
  | x :: xs, y :: ys => by
    show (PyData.eqv (.int x) (.int y) && PyData.eqvAll (xs.map PyData.int) (ys.map PyData.int)) = _
    rw [eqvAll_ints xs ys]
    show (x == y && decide (xs = ys)) = _
    by_cases h1 : x = y
    · subst h1
      by_cases h2 : xs = ys
      · subst h2
        simp
      · simp [h2]
    · simp [h1]
theorem eqv_lists (xs ys : List Int) : PyData.eqv (.list (xs.map PyData.int)) (.list (ys.map PyData.int)) = decide (xs = ys) := eqvAll_ints xs ys
theorem nV_map (os : List Nat) : nV os = (os.map fun (i : Nat) => (i : Int)).map V.int := by
  unfold nV
  rw [List.map_map]
  rfl
theorem cast_inj {xs ys : List Nat} : (xs.map fun (i : Nat) => (i : Int)) = (ys.map fun (i : Nat) => (i : Int)) ↔ xs = ys := by
  constructor
  · intro h
    have h2 := congrArg (List.map Int.toNat) h
    rw [List.map_map, List.map_map] at h2
    have e : ∀ l : List Nat, l.map (Int.toNat ∘ fun (i : Nat) => (i : Int)) = l := fun l => by
      calc _ = l.map id := List.map_congr_left fun i _ => by simp
        _ = l := List.map_id l
    rw [e, e] at h2
    exact h2
  · intro h
    rw [h]
end L2
namespace L2
open PySem PySem.Spec PyProof.Rows
theorem cut_take (xs : List V) (k : Nat) : cutV xs none (some (k : Int)) = xs.take k := by
  unfold cutV
  rw [HT.sIx_none, HT.sIx_nat, List.drop_zero, Nat.sub_zero]
  by_cases h : k ≤ xs.length
  · rw [Nat.min_eq_left h]
  · rw [Nat.min_eq_right (by omega), List.take_of_length_le (Nat.le_refl _), List.take_of_length_le (by omega)]
theorem cut_drop (xs : List V) (k : Nat) : cutV xs (some (k : Int)) none = xs.drop k := by
  unfold cutV
  rw [HT.sIx_none, HT.sIx_nat]
  by_cases h : k ≤ xs.length
  · rw [Nat.min_eq_left h]
    exact List.take_of_length_le (by rw [List.length_drop]; exact Nat.le_refl _)
  · rw [Nat.min_eq_right (by omega), List.drop_of_length_le (Nat.le_refl _), List.drop_of_length_le (by omega), List.take_nil]
/-- an item is put in where all ahead are ahead of it and all behind behind it -/
theorem put_stab {f : Nat → Int} {i pl : Nat} {os : List Nat} (s : Stab f i os) (h1 : ∀ x ∈ os.take pl, Lx f x i) (h2 : ∀ x ∈ os.drop pl, Lx f i x) : Stab f (i + 1) (os.take pl ++ [i] ++ os.drop pl) := by
  have e : os.take pl ++ os.drop pl = os := List.take_append_drop pl os
  constructor
  · have p1 : (os.take pl ++ [i] ++ os.drop pl).Perm ((os.take pl ++ os.drop pl) ++ [i]) := by
      rw [List.append_assoc, List.append_assoc]
      exact List.Perm.append_left _ List.perm_append_comm
    rw [e] at p1
    refine p1.trans ?_
    rw [List.range_succ]
    exact s.perm.append_right [i]
  · have so := s.sort
    rw [← e, List.pairwise_append] at so
    rw [List.append_assoc, List.pairwise_append]
    refine ⟨so.1, List.pairwise_cons.mpr ⟨h2, so.2.1⟩, fun x hx y hy => ?_⟩
    rcases List.mem_cons.mp hy with rfl | hy
    · exact h1 x hx
    · exact so.2.2 x hx y hy
end L2

namespace L2
open PySem PySem.Spec PyProof.Rows
/-! ### o[lo:hi] = another list -/
def gSlice (to : TE) (tl th : TO) : TG := fun v σ H Q => to σ H fun o H1 => tl σ H1 fun lo H2 => th σ H2 fun hi H3 =>
  ∃ (l b : Addr) (xs ys : List V) (a c : Int), o = .ref l ∧ v = .ref b ∧ lo = some a ∧ hi = some c ∧ H3 l = some (.lst xs) ∧ H3 b = some (.lst ys) ∧ l ≠ b ∧ 0 ≤ a ∧ a ≤ c ∧ c ≤ xs.length ∧ xs.length + ys.length ≤ sizeLine ∧
    Q σ (upd H3 l (.lst (xs.take a.toNat ++ ys ++ xs.drop c.toNat)))
theorem part_int {u : Value} {i : Int} (h : IsPart u (some i)) : RelV (.int i) u := by
  cases h
  exact ⟨_, rfl⟩
theorem pg_slice {X : Cx} {o : Expr} {lo hi : Option Expr} {to : TE} {tl th : TO} {p2 pos : Pos} (ho : PE X o to) (hl : PO X lo tl) (hu : PO X hi th)
    (ha : ∀ v, assign (.Subscript o (.Slice lo hi none p2) pos) X.env v = (do
      let ov ← holding [v] (eval o X.env)
      let iv ← holding [v, ov] (eval (.Slice lo hi none p2) X.env)
      standAt pos
      holding [v, ov, iv] (setItem ov iv v)
      release [iv, v, ov] []) := by intro _; rfl) : PG X (.Subscript o (.Slice lo hi none p2) pos) (gSlice to tl th) := by
  refine ⟨fun pins s σ H v u Q I r h => ?_⟩
  rw [ha]
  refine wpAny_bind (wpAny_holding (thn (ho.run pins s σ H _ I h) fun ov s1 ⟨x, H1, I1, r1, q1⟩ => ?_))
  refine wpAny_bind (wpAny_holding (wpAny_Slice (thn (hl.run pins s1 σ H1 _ I1 q1) fun vl s2 ⟨l, H2, I2, pl, q2⟩ => thn (hu.run pins s2 σ H2 _ I2 q2) fun vu s3 ⟨w', H3, I3, pu, q3⟩ => ?_)))
  rw [evalPart_none]
  refine wpAny_pure ?_
  have I4 : Inv X pins σ H3 { s3 with heap := s3.heap.push { cls := .type "slice", data := .fields #[vl, vu, .none] } } := I3.kept (t' := s3.toks) fun b ob q => Heap.get?_push_of_some _ q
  obtain ⟨li, b, xs, ys, a, c, rfl, rfl, rfl, rfl, hX, hB, ne, h0, hac, hc, hz, q⟩ := q3
  cases r1
  cases r
  refine wpAny_bind (wpAny_standAt (wpAny_bind (wpAny_holding ?_)))
  refine set_slice I4 hX hB ne (Heap.IsSliceOf.new ..) (part_int pl) (part_int pu) h0 hac hc hz fun s5 I5 => ?_
  exact wpAny_release ⟨σ, _, I5, q⟩
end L2
namespace L2
open PySem PySem.Spec PyProof.Rows
/-! ### how a run is found: the state, step by step -/
structure RF where
  row : List Nat
  pl : Nat
  eq : Nat
  st : Nat
  wt : Option (Nat × Nat)
  ln : Option Nat
namespace RF
def turned (row : List Nat) (lo hi : Nat) : List Nat := row.take lo ++ ((row.drop lo).take (hi - lo)).reverse ++ row.drop hi
def turn (f : RF) (lo : Nat) : RF := { f with row := turned f.row lo f.pl }
def finish (s : Nat) (f : RF) : RF := { f with ln := some (f.pl - s), wt := none }
def turnEq (f : RF) : RF := if 0 < f.eq then { f.turn (f.pl - f.eq - 1) with eq := 0 } else f
def askUp (s e : Nat) (f : RF) : RF := if f.pl < e then { f with wt := some (f.row.getD f.pl 0, f.row.getD (f.pl - 1) 0) } else finish s f
def rise (s e : Nat) (f : RF) : RF := askUp s e { (turnEq f).turn s with st := 5 }
def ask (s e : Nat) (f : RF) : RF := if f.pl < e then { f with wt := some (f.row.getD f.pl 0, f.row.getD (f.pl - 1) 0) } else if f.st = 3 then rise s e f else finish s f
def goOn (s e : Nat) (f : RF) : RF := ask s e { f with pl := f.pl + 1 }
def fall (s e : Nat) (f : RF) : RF := goOn s e { f with st := 3 }
def take1 (s e : Nat) (b : Bool) (f : RF) : RF := if b = false then goOn s e f else if f.pl = s + 1 then fall s e f else { f with st := 2, wt := some (f.row.getD s 0, f.row.getD (f.pl - 1) 0) }
def take2 (s e : Nat) (b : Bool) (f : RF) : RF := if b = true then finish s f else fall s e (f.turn s)
def take3 (s e : Nat) (b : Bool) (f : RF) : RF := if b = true then goOn s e (turnEq f) else { f with st := 4, wt := some (f.row.getD (f.pl - 1) 0, f.row.getD f.pl 0) }
def take4 (s e : Nat) (b : Bool) (f : RF) : RF := if b = true then rise s e f else goOn s e { f with eq := f.eq + 1, st := 3 }
def take5 (s e : Nat) (b : Bool) (f : RF) : RF := if b = true then finish s f else goOn s e f
def take (s e : Nat) (b : Bool) (f : RF) : RF := if f.st = 1 then take1 s e b f else if f.st = 2 then take2 s e b f else if f.st = 3 then take3 s e b f else if f.st = 4 then take4 s e b f else take5 s e b f
def init (row : List Nat) (s e : Nat) : RF := ask s e { row := row, pl := s + 1, eq := 0, st := 1, wt := none, ln := none }
/-- what holds between the steps -/
structure WF (s e : Nat) (f : RF) : Prop where
  sp : s < f.pl
  pe : f.pl ≤ e
  er : e ≤ f.row.length
  eq : f.eq + s < f.pl
  rl : f.row.length ≤ 2000
theorem turned_len {row : List Nat} {lo hi : Nat} (h : lo ≤ hi) (h2 : hi ≤ row.length) : (turned row lo hi).length = row.length := by
  unfold turned
  rw [List.length_append, List.length_append, List.length_take, List.length_reverse, List.length_take, List.length_drop, List.length_drop]
  omega
variable {s e : Nat} {f : RF}
theorem WF.turn (w : WF s e f) {lo : Nat} (h : lo ≤ f.pl) : WF s e (f.turn lo) := by
  obtain ⟨a, b, c, d, g⟩ := w
  have l : (f.turn lo).row.length = f.row.length := turned_len h (by omega)
  exact ⟨a, b, by rw [l]; exact c, d, by rw [l]; exact g⟩
theorem WF.turnEq (w : WF s e f) : WF s e f.turnEq := by
  unfold RF.turnEq
  split
  · have w2 := w.turn (lo := f.pl - f.eq - 1) (by omega)
    exact ⟨w2.sp, w2.pe, w2.er, by show 0 + s < f.pl; have := w.sp; omega, w2.rl⟩
  · exact w
theorem turnEq_pl (f : RF) : f.turnEq.pl = f.pl := by
  unfold RF.turnEq
  split <;> rfl
theorem turnEq_st (f : RF) : f.turnEq.st = f.st := by
  unfold RF.turnEq
  split <;> rfl
end RF
def lenV : Option Nat → V
  | none => .non
  | some n => .int (n : Int)
def flds (r : Addr) (s e : Nat) (f : RF) (wv : V) : List (Str × V) :=
  [("row", .ref r), ("start", .int (s : Int)), ("end", .int (e : Int)), ("place", .int (f.pl : Int)), ("equal", .int (f.eq : Int)), ("step", .int (f.st : Int)), ("waiting", wv), ("length", lenV f.ln)]
def WaitAt (H : Hp) (wv : V) : Option (Nat × Nat) → Prop
  | none => wv = .non
  | some (i, j) => ∃ t, wv = .ref t ∧ H t = some (.tup [.int (i : Int), .int (j : Int)])
theorem WaitAt.keep {H H' : Hp} {wv : V} {o : Option (Nat × Nat)} (h : WaitAt H wv o) (k : ∀ t i j, H t = some (.tup [.int i, .int j]) → H' t = some (.tup [.int i, .int j])) : WaitAt H' wv o := by
  cases o with
  | none => exact h
  | some p =>
    obtain ⟨t, e, ht⟩ := h
    exact ⟨t, e, k _ _ _ ht⟩
theorem WaitAt.upd {H : Hp} {wv : V} {o : Option (Nat × Nat)} {x : Addr} {u v : HO} (h : WaitAt H wv o) (hx : H x = some u) (hn : ∀ i j, u ≠ .tup [.int i, .int j]) : WaitAt (L2.upd H x v) wv o :=
  h.keep fun t i j ht => by
    rw [upd_ne (ne_of ht hx (fun e => hn i j e.symm))]
    exact ht
/-- the finder at x, its row at r -/
def FAt (C : Addr) (H : Hp) (x r : Addr) (s e : Nat) (f : RF) : Prop := x ≠ r ∧ ∃ dx wv, H x = some (.ins C dx (flds r s e f wv)) ∧ WaitAt H wv f.wt ∧ H r = some (.lst (nV f.row))
/-- all but x and r stands -/
def Fr2 (x r : Addr) (H H' : Hp) : Prop := ∀ b o, b ≠ x → b ≠ r → H b = some o → H' b = some o
theorem Fr2.refl (x r : Addr) (H : Hp) : Fr2 x r H H := fun _ _ _ _ h => h
theorem Fr2.trans {x r : Addr} {H H1 H2 : Hp} (a : Fr2 x r H H1) (b : Fr2 x r H1 H2) : Fr2 x r H H2 := fun c o n m h => b c o n m (a c o n m h)
theorem Fr2.of {x r : Addr} {H H' : Hp} (a : Same H H') : Fr2 x r H H' := fun c o _ _ h => a c o h
theorem Fr2.putx {x r : Addr} {H : Hp} {u : HO} : Fr2 x r H (L2.upd H x u) := fun c o n _ h => by rw [upd_ne n]; exact h
theorem Fr2.putr {x r : Addr} {H : Hp} {u : HO} : Fr2 x r H (L2.upd H r u) := fun c o _ m h => by rw [upd_ne m]; exact h
theorem FAt.same {C : Addr} {H H' : Hp} {x r : Addr} {s e : Nat} {f : RF} (h : FAt C H x r s e f) (k : Same H H') : FAt C H' x r s e f := by
  obtain ⟨n, dx, wv, hx, hw, hr⟩ := h
  exact ⟨n, dx, wv, k _ _ hx, hw.keep (fun _ _ _ => k _ _), k _ _ hr⟩
end L2

namespace L2
open PySem PySem.Spec PyProof.Rows
theorem cut_mid (xs : List V) (a b : Nat) (h : a ≤ b) (hb : b ≤ xs.length) : cutV xs (some (a : Int)) (some (b : Int)) = (xs.drop a).take (b - a) := by
  unfold cutV
  rw [HT.sIx_nat, HT.sIx_nat, Nat.min_eq_left hb, Nat.min_eq_left (Nat.le_trans h hb)]
theorem nV_turned (row : List Nat) (lo hi : Nat) : (nV row).take lo ++ (((nV row).drop lo).take (hi - lo)).reverse ++ (nV row).drop hi = nV (RF.turned row lo hi) := by
  unfold RF.turned
  simp only [List.map_append, List.map_take, List.map_drop, List.map_reverse]
theorem nV_get {row : List Nat} {i : Nat} (h : i < row.length) : atI (nV row) (i : Int) = some (.int ((row.getD i 0 : Nat) : Int)) := by
  refine atI_nat ?_
  rw [List.getElem?_map, List.getElem?_eq_getElem h]
  simp [List.getD_eq_getElem?_getD, List.getElem?_eq_getElem h]
theorem FAt.put {C x r : Addr} {H : Hp} {s e : Nat} {f f' : RF} {dx : Addr} {wv wv' : V} (h : FAt C H x r s e f) (hx : H x = some (.ins C dx (flds r s e f wv))) (er : f'.row = f.row) (hw : WaitAt H wv' f'.wt) {w : List (Str × V)} (ew : w = flds r s e f' wv') :
    FAt C (upd H x (.ins C dx w)) x r s e f' := by
  obtain ⟨n, _, _, _, _, hr⟩ := h
  subst ew
  refine ⟨n, dx, wv', upd_same, hw.upd hx (fun i j e => by cases e), ?_⟩
  rw [upd_ne n.symm, er]
  exact hr
/-- an attribute is set -/
theorem FAt.set {C x r : Addr} {H : Hp} {s e : Nat} {f : RF} {dx : Addr} {wv : V} (h : FAt C H x r s e f) (hx : H x = some (.ins C dx (flds r s e f wv))) (f' : RF) (wv' : V) (er : f'.row = f.row) (hw : WaitAt H wv' f'.wt) {w : List (Str × V)} (ew : w = flds r s e f' wv') :
    FAt C (upd H x (.ins C dx w)) x r s e f' ∧ upd H x (.ins C dx w) x = some (.ins C dx (flds r s e f' wv')) ∧ Fr2 x r H (upd H x (.ins C dx w)) := by
  subst ew
  exact ⟨h.put hx er hw rfl, upd_same, Fr2.putx⟩
theorem FAt.wait {C x r : Addr} {H : Hp} {s e : Nat} {f : RF} {dx : Addr} {wv : V} (h : FAt C H x r s e f) (hx : H x = some (.ins C dx (flds r s e f wv))) : WaitAt H wv f.wt := by
  obtain ⟨_, dx2, wv2, hx2, hw, _⟩ := h
  rw [hx] at hx2
  have e1 : flds r s e f wv = flds r s e f wv2 := (HO.ins.inj (Option.some.inj hx2)).2.2
  have e3 : some wv = some wv2 := congrArg (fun l : List (Str × V) => l.lookup ("waiting" : Str)) e1
  rw [Option.some.inj e3]
  exact hw
theorem FAt.putRow {C x r : Addr} {H : Hp} {s e : Nat} {f : RF} (h : FAt C H x r s e f) {row : List Nat} {w : List V} (ew : w = nV row) :
    FAt C (upd H r (.lst w)) x r s e { f with row := row } := by
  obtain ⟨n, dx, wv, hx, hw, hr⟩ := h
  subst ew
  refine ⟨n, dx, wv, ?_, hw.upd hr (fun i j e => by cases e), upd_same⟩
  rw [upd_ne n]
  exact hx
def spF0 (C : Addr) (pre : Nat → Nat → RF → Prop) (fn : Nat → Nat → RF → RF) : Sp := fun vs H Q _ => ∃ (x r : Addr) (s e : Nat) (f : RF), vs = [.ref x] ∧ FAt C H x r s e f ∧ RF.WF s e f ∧ pre s e f ∧ ∀ H', FAt C H' x r s e (fn s e f) → Fr2 x r H H' → Q .non H'
def spG (C : Addr) (fn : Nat → Nat → RF → RF) : Sp := fun vs H Q _ => ∃ (x r : Addr) (s e : Nat) (f : RF), vs = [.ref x] ∧ FAt C H x r s e f ∧ RF.WF s e { f with pl := f.pl + 1 } ∧ ∀ H', FAt C H' x r s e (fn s e f) → Fr2 x r H H' → Q .non H'
def spInit (C : Addr) : Sp := fun vs H Q _ => ∃ (x dx r : Addr) (s e : Nat) (row : List Nat), vs = [.ref x, .ref r, .int (s : Int), .int (e : Int)] ∧ H x = some (.ins C dx []) ∧ H r = some (.lst (nV row)) ∧ x ≠ r ∧ s < e ∧ e ≤ row.length ∧ row.length ≤ 2000 ∧ ∀ H', FAt C H' x r s e (RF.init row s e) → Fr2 x r H H' → Q .non H'
def spF1 (C : Addr) (pre : Nat → Nat → RF → Prop) (fn : Nat → Nat → Bool → RF → RF) : Sp := fun vs H Q _ => ∃ (x r : Addr) (s e : Nat) (f : RF) (b : Bool), vs = [.ref x, .bl b] ∧ FAt C H x r s e f ∧ RF.WF s e f ∧ pre s e f ∧ ∀ H', FAt C H' x r s e (fn s e b f) → Fr2 x r H H' → Q .non H'
def spTurn (C : Addr) : Sp := fun vs H Q _ => ∃ (x r : Addr) (s e lo : Nat) (f : RF), vs = [.ref x, .int (lo : Int)] ∧ FAt C H x r s e f ∧ RF.WF s e f ∧ lo ≤ f.pl ∧ ∀ H', FAt C H' x r s e (f.turn lo) → Fr2 x r H H' → Q .non H'
theorem dnF {n m : Nat} (h : n ≠ m) : V.bl (decide (V.int (n : Int) = V.int (m : Int))) = .bl false := by
  refine congrArg V.bl (decide_eq_false fun e => h ?_)
  have := V.int.inj e
  omega
theorem dnT {n m : Nat} (h : n = m) : V.bl (decide (V.int (n : Int) = V.int (m : Int))) = .bl true := congrArg V.bl (decide_eq_true (by rw [h]))
def noP (_ _ : Nat) (_ : RF) : Prop := True
namespace RF
variable {s e : Nat} {f : RF}
theorem WF.rowSame (w : WF s e f) {f' : RF} (h1 : f'.row = f.row) (h2 : f'.pl = f.pl) (h3 : f'.eq = f.eq) : WF s e f' := by
  obtain ⟨a, b, c, d, g⟩ := w
  exact ⟨by rw [h2]; exact a, by rw [h2]; exact b, by rw [h1]; exact c, by rw [h2, h3]; exact d, by rw [h1]; exact g⟩
theorem WF.finish (w : WF s e f) : WF s e (f.finish s) := w.rowSame rfl rfl rfl
theorem WF.askUp (w : WF s e f) : WF s e (f.askUp s e) := by
  unfold RF.askUp
  split
  · exact w.rowSame rfl rfl rfl
  · exact w.finish
theorem WF.pre5 (w : WF s e f) : WF s e { ((RF.turnEq f).turn s : RF) with st := 5 } := by
  have w1 := w.turnEq
  exact (w1.turn (Nat.le_of_lt w1.sp)).rowSame rfl rfl rfl
theorem WF.rise (w : WF s e f) : WF s e (f.rise s e) := w.pre5.askUp
theorem WF.ask (w : WF s e f) : WF s e (f.ask s e) := by
  unfold RF.ask
  split
  · exact w.rowSame rfl rfl rfl
  · split
    · exact w.rise
    · exact w.finish
theorem WF.next (w : WF s e f) (h : f.pl < e) : WF s e { f with pl := f.pl + 1 } := by
  obtain ⟨a, b, c, d, g⟩ := w
  exact ⟨by show s < f.pl + 1; omega, h, c, by show f.eq + s < f.pl + 1; omega, g⟩
theorem WF.goOn (w : WF s e f) (h : f.pl < e) : WF s e (f.goOn s e) := (w.next h).ask
theorem WF.st (w : WF s e f) (k : Nat) : WF s e { f with st := k } := w.rowSame rfl rfl rfl
theorem WF.fall (w : WF s e f) (h : f.pl < e) : WF s e (f.fall s e) := (w.st 3).goOn h
theorem WF.eq1 (w : WF s e f) (h : f.pl < e) : WF s e { f with eq := f.eq + 1, pl := f.pl + 1, st := 3 } := by
  obtain ⟨a, b, c, d, g⟩ := w
  exact ⟨by show s < f.pl + 1; omega, h, c, by show f.eq + 1 + s < f.pl + 1; omega, g⟩
theorem WF.take (w : WF s e f) (h : f.pl < e) (b : Bool) : WF s e (f.take s e b) := by
  unfold RF.take
  split
  · unfold RF.take1
    split
    · exact w.goOn h
    · split
      · exact w.fall h
      · exact w.rowSame rfl rfl rfl
  · split
    · unfold RF.take2
      split
      · exact w.finish
      · exact (w.turn (Nat.le_of_lt w.sp)).fall h
    · split
      · unfold RF.take3
        split
        · exact w.turnEq.goOn (by rw [turnEq_pl]; exact h)
        · exact w.rowSame rfl rfl rfl
      · split
        · unfold RF.take4
          split
          · exact w.rise
          · exact (w.eq1 h).ask
        · unfold RF.take5
          split
          · exact w.finish
          · exact w.goOn h
/-- what waits is asked ahead of the end -/
def Ahead (e : Nat) (f : RF) : Prop := f.wt ≠ none → f.pl < e
theorem ahead_fin : Ahead e (f.finish s) := fun h => absurd rfl h
theorem ahead_askUp : Ahead e (f.askUp s e) := by
  unfold RF.askUp
  split
  · rename_i h
    exact fun _ => h
  · exact ahead_fin
theorem ahead_ask : Ahead e (f.ask s e) := by
  unfold RF.ask
  split
  · rename_i h
    exact fun _ => h
  · split
    · exact ahead_askUp
    · exact ahead_fin
theorem ahead_take (h : f.pl < e) (b : Bool) : Ahead e (f.take s e b) := by
  unfold RF.take
  split
  · unfold RF.take1
    split
    · exact ahead_ask
    · split
      · exact ahead_ask
      · exact fun _ => h
  · split
    · unfold RF.take2
      split
      · exact ahead_fin
      · exact ahead_ask
    · split
      · unfold RF.take3
        split
        · exact ahead_ask
        · exact fun _ => h
      · split
        · unfold RF.take4
          split
          · exact ahead_askUp
          · exact ahead_ask
        · unfold RF.take5
          split
          · exact ahead_fin
          · exact ahead_ask
end RF
end L2

namespace L2
open PySem PySem.Spec PyProof.Rows
namespace RF
variable {s e : Nat} {f : RF}
/-! rows stay rows of the same items -/
theorem turned_perm {row : List Nat} {lo hi : Nat} (h : lo ≤ hi) : (turned row lo hi).Perm row := by
  unfold turned
  have e1 : row = row.take lo ++ (row.drop lo).take (hi - lo) ++ row.drop hi := by
    have a1 : row.drop hi = (row.drop lo).drop (hi - lo) := by
      rw [List.drop_drop]
      congr 1
      omega
    rw [a1, List.append_assoc, List.take_append_drop, List.take_append_drop]
  have e2 : (row.take lo ++ ((row.drop lo).take (hi - lo)).reverse ++ row.drop hi).Perm (row.take lo ++ (row.drop lo).take (hi - lo) ++ row.drop hi) :=
    List.Perm.append_right _ (List.Perm.append_left _ (List.reverse_perm _))
  exact e2.trans (by rw [← e1])
theorem turn_perm (lo : Nat) (h : lo ≤ f.pl) : (f.turn lo).row.Perm f.row := turned_perm h
theorem turnEq_perm : f.turnEq.row.Perm f.row := by
  unfold RF.turnEq
  split
  · exact turned_perm (by omega)
  · exact List.Perm.refl _
theorem askUp_row : (f.askUp s e).row = f.row := by
  unfold RF.askUp
  split <;> rfl
theorem rise_perm (w : WF s e f) : (f.rise s e).row.Perm f.row := by
  unfold RF.rise
  rw [askUp_row]
  have w1 := w.turnEq
  exact (turn_perm s (Nat.le_of_lt w1.sp)).trans turnEq_perm
theorem ask_perm (w : WF s e f) : (f.ask s e).row.Perm f.row := by
  unfold RF.ask
  split
  · exact List.Perm.refl _
  · split
    · exact rise_perm w
    · exact List.Perm.refl _
theorem take_perm (w : WF s e f) (h : f.pl < e) (b : Bool) : (f.take s e b).row.Perm f.row := by
  unfold RF.take
  split
  · unfold RF.take1
    split
    · exact ask_perm (w.next h)
    · split
      · exact ask_perm ((w.st 3).next h)
      · exact List.Perm.refl _
  · split
    · unfold RF.take2
      split
      · exact List.Perm.refl _
      · exact (ask_perm (((w.turn (Nat.le_of_lt w.sp)).st 3).next h)).trans (turn_perm s (Nat.le_of_lt w.sp))
    · split
      · unfold RF.take3
        split
        · exact (ask_perm (w.turnEq.next (by rw [turnEq_pl]; exact h))).trans turnEq_perm
        · exact List.Perm.refl _
      · split
        · unfold RF.take4
          split
          · exact rise_perm w
          · exact ask_perm (w.eq1 h)
        · unfold RF.take5
          split
          · exact List.Perm.refl _
          · exact ask_perm (w.next h)
/-! a measure: how many questions may still come -/
def stw (k : Nat) : Nat := if k = 1 then 1 else if k = 3 then 2 else if k = 4 then 1 else 0
theorem stw_le (k : Nat) : stw k ≤ 2 := by
  unfold stw
  split
  · omega
  · split
    · omega
    · split <;> omega
def mu (e : Nat) (f : RF) : Nat := if f.wt = none then 0 else 1 + 3 * (e - f.pl) + stw f.st
theorem mu_le (e : Nat) (f : RF) : mu e f ≤ 1 + 3 * (e - f.pl) + stw f.st := by
  unfold mu
  split <;> omega
theorem mu_fin : mu e (f.finish s) = 0 := rfl
theorem mu_askUp : mu e (f.askUp s e) ≤ 1 + 3 * (e - f.pl) + stw f.st := by
  unfold RF.askUp
  split
  · exact mu_le e _
  · rw [mu_fin]
    omega
theorem rise_pl : (f.turnEq.turn s).pl = f.pl := turnEq_pl f
theorem mu_rise : mu e (f.rise s e) ≤ 1 + 3 * (e - f.pl) := by
  unfold RF.rise
  refine Nat.le_trans mu_askUp ?_
  show 1 + 3 * (e - (f.turnEq.turn s).pl) + 0 ≤ _
  rw [rise_pl]
  omega
theorem mu_ask : mu e (f.ask s e) ≤ 1 + 3 * (e - f.pl) + stw f.st := by
  unfold RF.ask
  split
  · exact mu_le e _
  · split
    · have := mu_rise (s := s) (e := e) (f := f)
      omega
    · rw [mu_fin]
      omega
theorem mu_goOn : mu e (f.goOn s e) ≤ 1 + 3 * (e - (f.pl + 1)) + stw f.st := mu_ask
theorem mu_fall : mu e (f.fall s e) ≤ 1 + 3 * (e - (f.pl + 1)) + 2 := mu_ask
theorem mu_take (hw : f.wt ≠ none) (h : f.pl < e) (b : Bool) : mu e (f.take s e b) < mu e f := by
  have h0 : mu e f = 1 + 3 * (e - f.pl) + stw f.st := by
    unfold mu
    rw [if_neg hw]
  rw [h0]
  unfold RF.take
  split
  · rename_i h1
    rw [show stw f.st = 1 by rw [h1]; rfl]
    unfold RF.take1
    split
    · have := mu_goOn (s := s) (e := e) (f := f)
      rw [show stw f.st = 1 by rw [h1]; rfl] at this
      omega
    · split
      · have := mu_fall (s := s) (e := e) (f := f)
        omega
      · have := mu_le e { f with st := 2, wt := some (f.row.getD s 0, f.row.getD (f.pl - 1) 0) }
        have e2 : stw ({ f with st := 2, wt := some (f.row.getD s 0, f.row.getD (f.pl - 1) 0) } : RF).st = 0 := rfl
        rw [e2] at this
        have e3 : ({ f with st := 2, wt := some (f.row.getD s 0, f.row.getD (f.pl - 1) 0) } : RF).pl = f.pl := rfl
        rw [e3] at this
        omega
  · split
    · rename_i h1
      unfold RF.take2
      split
      · rw [mu_fin]
        omega
      · have := mu_fall (s := s) (e := e) (f := f.turn s)
        have e3 : (f.turn s).pl = f.pl := rfl
        rw [e3] at this
        omega
    · split
      · rename_i h1
        rw [show stw f.st = 2 by rw [h1]; rfl]
        unfold RF.take3
        split
        · have := mu_goOn (s := s) (e := e) (f := f.turnEq)
          rw [turnEq_pl, turnEq_st, show stw f.st = 2 by rw [h1]; rfl] at this
          omega
        · have := mu_le e { f with st := 4, wt := some (f.row.getD (f.pl - 1) 0, f.row.getD f.pl 0) }
          have e2 : stw ({ f with st := 4, wt := some (f.row.getD (f.pl - 1) 0, f.row.getD f.pl 0) } : RF).st = 1 := rfl
          rw [e2] at this
          have e3 : ({ f with st := 4, wt := some (f.row.getD (f.pl - 1) 0, f.row.getD f.pl 0) } : RF).pl = f.pl := rfl
          rw [e3] at this
          omega
      · split
        · rename_i h1
          rw [show stw f.st = 1 by rw [h1]; rfl]
          unfold RF.take4
          split
          · have := mu_rise (s := s) (e := e) (f := f)
            omega
          · have := mu_goOn (s := s) (e := e) (f := { f with eq := f.eq + 1, st := 3 })
            have e2 : stw ({ f with eq := f.eq + 1, st := 3 } : RF).st = 2 := rfl
            rw [e2] at this
            have e3 : ({ f with eq := f.eq + 1, st := 3 } : RF).pl = f.pl := rfl
            rw [e3] at this
            omega
        · unfold RF.take5
          split
          · rw [mu_fin]
            omega
          · have := mu_goOn (s := s) (e := e) (f := f)
            omega
/-! what waits are two items of the row -/
def Two (f : RF) : Prop := ∀ q, f.wt = some q → ∃ k l, q = (f.row.getD k 0, f.row.getD l 0) ∧ k < f.row.length ∧ l < f.row.length ∧ k ≠ l
theorem two_none (h : f.wt = none) : Two f := fun q e => by rw [h] at e; cases e
theorem two_mk {f : RF} {k l : Nat} (h : f.wt = some (f.row.getD k 0, f.row.getD l 0)) (h1 : k < f.row.length) (h2 : l < f.row.length) (h3 : k ≠ l) : Two f := fun q e => by
  rw [h] at e
  exact ⟨k, l, (Option.some.inj e).symm, h1, h2, h3⟩
theorem two_up {f' : RF} (a : 0 < f'.pl) (c : e ≤ f'.row.length) : Two (f'.askUp s e) := by
  unfold RF.askUp
  split
  · rename_i h
    exact two_mk (k := f'.pl) (l := f'.pl - 1) rfl (by show f'.pl < f'.row.length; omega) (by show f'.pl - 1 < f'.row.length; omega) (by omega)
  · exact two_none rfl
theorem two_rise (w : WF s e f) : Two (f.rise s e) := by
  have w2 := w.pre5
  exact two_up (Nat.lt_of_le_of_lt (Nat.zero_le _) w2.sp) w2.er
theorem two_ask (w : WF s e f) : Two (f.ask s e) := by
  have := w.sp; have := w.er
  unfold RF.ask
  split
  · rename_i h
    exact two_mk (k := f.pl) (l := f.pl - 1) rfl (by show f.pl < f.row.length; omega) (by show f.pl - 1 < f.row.length; omega) (by omega)
  · split
    · exact two_rise w
    · exact two_none rfl
theorem two_take (w : WF s e f) (h : f.pl < e) (b : Bool) : Two (f.take s e b) := by
  have b1 := w.sp; have b2 := w.er
  unfold RF.take
  split
  · unfold RF.take1
    split
    · exact two_ask (w.next h)
    · split
      · exact two_ask ((w.st 3).next h)
      · exact two_mk (k := s) (l := f.pl - 1) rfl (by show s < f.row.length; omega) (by show f.pl - 1 < f.row.length; omega) (by omega)
  · split
    · unfold RF.take2
      split
      · exact two_none rfl
      · exact two_ask (((w.turn (Nat.le_of_lt w.sp)).st 3).next h)
    · split
      · unfold RF.take3
        split
        · exact two_ask (w.turnEq.next (by rw [turnEq_pl]; exact h))
        · exact two_mk (k := f.pl - 1) (l := f.pl) rfl (by show f.pl - 1 < f.row.length; omega) (by show f.pl < f.row.length; omega) (by omega)
      · split
        · unfold RF.take4
          split
          · exact two_rise w
          · exact two_ask (w.eq1 h)
        · unfold RF.take5
          split
          · exact two_none rfl
          · exact two_ask (w.next h)
/-! the length is there when nothing waits -/
def Len (s : Nat) (f : RF) : Prop := (f.wt = none → f.ln = some (f.pl - s)) ∧ (f.wt ≠ none → f.ln = none)
theorem len_fin : Len s (f.finish s) := ⟨fun _ => rfl, fun h => absurd rfl h⟩
theorem len_some {f : RF} {q : Nat × Nat} (h : f.wt = some q) (h2 : f.ln = none) : Len s f := ⟨fun e => (by rw [h] at e; cases e), fun _ => h2⟩
theorem turnEq_ln (f : RF) : f.turnEq.ln = f.ln := by
  unfold RF.turnEq
  split <;> rfl
theorem len_up {f' : RF} (h : f'.ln = none) : Len s (f'.askUp s e) := by
  unfold RF.askUp
  split
  · exact len_some rfl h
  · exact len_fin
theorem len_rise (h : f.ln = none) : Len s (f.rise s e) := len_up (by show f.turnEq.ln = none; rw [turnEq_ln]; exact h)
theorem len_ask {f : RF} (h : f.ln = none) : Len s (f.ask s e) := by
  unfold RF.ask
  split
  · exact len_some rfl h
  · split
    · exact len_rise h
    · exact len_fin
theorem len_take (h : f.ln = none) (b : Bool) : Len s (f.take s e b) := by
  unfold RF.take
  split
  · unfold RF.take1
    split
    · exact len_ask h
    · split
      · exact len_ask h
      · exact len_some rfl h
  · split
    · unfold RF.take2
      split
      · exact len_fin
      · exact len_ask h
    · split
      · unfold RF.take3
        split
        · exact len_ask (by show f.turnEq.ln = none; rw [turnEq_ln]; exact h)
        · exact len_some rfl h
      · split
        · unfold RF.take4
          split
          · exact len_rise h
          · exact len_ask h
        · unfold RF.take5
          split
          · exact len_fin
          · exact len_ask h
/-! all that holds while a run is found -/
structure Good (s e : Nat) (row0 : List Nat) (f : RF) : Prop where
  wf : WF s e f
  ah : Ahead e f
  pm : f.row.Perm row0
  tw : Two f
  le : Len s f
/-- an item of a row of all n -/
theorem item_lt {row row0 : List Nat} {n k : Nat} (h : row.Perm row0) (h0 : row0.Perm (List.range n)) (hk : k < row.length) : row.getD k 0 < n := by
  refine List.mem_range.mp ((h.trans h0).mem_iff.mp ?_)
  rw [List.getD_eq_getElem?_getD, List.getElem?_eq_getElem hk]
  exact List.getElem_mem hk
theorem Good.items {row0 : List Nat} {n : Nat} (g : Good s e row0 f) (h0 : row0.Perm (List.range n)) {q : Nat × Nat} (h : f.wt = some q) : q.1 < n ∧ q.2 < n ∧ q.1 ≠ q.2 := by
  obtain ⟨k, l, rfl, h1, h2, h3⟩ := g.tw q h
  refine ⟨item_lt g.pm h0 h1, item_lt g.pm h0 h2, fun e => h3 ?_⟩
  have nd : f.row.Nodup := (g.pm.trans h0).nodup_iff.mpr List.nodup_range
  have e2 : f.row.getD k 0 = f.row.getD l 0 := e
  rw [List.getD_eq_getElem?_getD, List.getD_eq_getElem?_getD, List.getElem?_eq_getElem h1, List.getElem?_eq_getElem h2] at e2
  exact (List.getElem_inj nd).mp e2
theorem Good.take {row0 : List Nat} (g : Good s e row0 f) (h : f.wt ≠ none) (b : Bool) : Good s e row0 (f.take s e b) :=
  ⟨g.wf.take (g.ah h) b, ahead_take (g.ah h) b, (take_perm g.wf (g.ah h) b).trans g.pm, two_take g.wf (g.ah h) b, len_take (g.le.2 h) b⟩
theorem Good.init {row : List Nat} (h1 : s < e) (h2 : e ≤ row.length) (h3 : row.length ≤ 2000) : Good s e row (RF.init row s e) := by
  have w : WF s e { row := row, pl := s + 1, eq := 0, st := 1, wt := none, ln := none } := ⟨by show s < s + 1; omega, by show s + 1 ≤ e; omega, h2, by show 0 + s < s + 1; omega, h3⟩
  exact ⟨w.ask, ahead_ask, ask_perm w, two_ask w, len_ask rfl⟩
/-- one question more, answered as ls says -/
def stp (ls : Nat × Nat → Bool) (s e : Nat) (f : RF) : RF := match f.wt with
  | none => f
  | some q => f.take s e (ls q)
def stps (ls : Nat × Nat → Bool) (s e : Nat) (f : RF) : Nat → RF
  | 0 => f
  | n + 1 => stp ls s e (stps ls s e f n)
theorem Good.stp {row0 : List Nat} (ls : Nat × Nat → Bool) (g : Good s e row0 f) : Good s e row0 (f.stp ls s e) := by
  unfold RF.stp
  split
  · exact g
  · rename_i q h
    exact g.take (by rw [h]; exact Option.some_ne_none _) _
theorem Good.stps {row0 : List Nat} (ls : Nat × Nat → Bool) (g : Good s e row0 f) : ∀ n, Good s e row0 (f.stps ls s e n)
  | 0 => g
  | n + 1 => (Good.stps ls g n).stp ls
theorem stps_next {ls : Nat × Nat → Bool} {n : Nat} {q : Nat × Nat} (h : (f.stps ls s e n).wt = some q) : f.stps ls s e (n + 1) = (f.stps ls s e n).take s e (ls q) := by
  show RF.stp ls s e (f.stps ls s e n) = _
  unfold RF.stp
  rw [h]
theorem stps_end {ls : Nat × Nat → Bool} {n : Nat} (h : (f.stps ls s e n).wt = none) : f.stps ls s e (n + 1) = f.stps ls s e n := by
  show RF.stp ls s e (f.stps ls s e n) = _
  unfold RF.stp
  rw [h]
theorem stps_stay {ls : Nat × Nat → Bool} {n : Nat} (h : (f.stps ls s e n).wt = none) : ∀ k, f.stps ls s e (n + k) = f.stps ls s e n
  | 0 => rfl
  | k + 1 => by
    have ih := stps_stay h k
    show RF.stps ls s e f ((n + k) + 1) = _
    rw [stps_end (by rw [ih]; exact h), ih]
/-- the first n questions -/
def asks (ls : Nat × Nat → Bool) (s e : Nat) (f : RF) (n : Nat) : List (Nat × Nat) := (List.range n).map fun i => ((f.stps ls s e i).wt).getD (0, 0)
theorem asks_len (ls : Nat × Nat → Bool) (n : Nat) : (f.asks ls s e n).length = n := by
  unfold asks
  rw [List.length_map, List.length_range]
theorem asks_next {ls : Nat × Nat → Bool} {n : Nat} {q : Nat × Nat} (h : (f.stps ls s e n).wt = some q) : f.asks ls s e (n + 1) = f.asks ls s e n ++ [q] := by
  unfold asks
  rw [List.range_succ, List.map_append, List.map_singleton, h]
  rfl
theorem asks_at {ls : Nat × Nat → Bool} {n i : Nat} (h : i < n) : (f.asks ls s e n)[i]? = some (((f.stps ls s e i).wt).getD (0, 0)) := by
  unfold asks
  rw [List.getElem?_map, List.getElem?_range h]
  rfl
end RF
/-- by the keys -/
def less (ns : List Int) (q : Nat × Nat) : Bool := decide (ns.getD q.1 0 < ns.getD q.2 0)
/-- questions, tuples of two items each, in a list -/
def PairAt (H : Hp) (v : V) (q : Nat × Nat) : Prop := ∃ t, v = .ref t ∧ H t = some (.tup [.int (q.1 : Int), .int (q.2 : Int)])
def QAt (H : Hp) (l : Addr) (qs : List (Nat × Nat)) : Prop := ∃ ts : List V, H l = some (.lst ts) ∧ ts.length = qs.length ∧ ∀ (i : Nat) (v : V) (q : Nat × Nat), ts[i]? = some v → qs[i]? = some q → PairAt H v q
theorem PairAt.keep {H H' : Hp} {v : V} {q : Nat × Nat} (h : PairAt H v q) (k : ∀ t i j, H t = some (.tup [.int i, .int j]) → H' t = some (.tup [.int i, .int j])) : PairAt H' v q := by
  obtain ⟨t, e, g⟩ := h
  exact ⟨t, e, k _ _ _ g⟩
theorem QAt.keep {H H' : Hp} {l : Addr} {qs : List (Nat × Nat)} (h : QAt H l qs) (kl : ∀ x, H l = some x → H' l = some x) (k : ∀ t i j, H t = some (.tup [.int i, .int j]) → H' t = some (.tup [.int i, .int j])) : QAt H' l qs := by
  obtain ⟨ts, g, n, a⟩ := h
  exact ⟨ts, kl _ g, n, fun i v q h1 h2 => (a i v q h1 h2).keep k⟩
theorem QAt.same {H H' : Hp} {l : Addr} {qs : List (Nat × Nat)} (h : QAt H l qs) (k : Same H H') : QAt H' l qs := h.keep (fun _ => k _ _) (fun _ _ _ => k _ _)
theorem QAt.nil {H : Hp} {l : Addr} (h : H l = some (.lst [])) : QAt H l [] := ⟨[], h, rfl, fun i v q h1 => by simp at h1⟩
theorem QAt.push {H : Hp} {l : Addr} {qs : List (Nat × Nat)} {ts : List V} (h : H l = some (.lst ts)) (hq : QAt H l qs) {v : V} {q : Nat × Nat} (hv : PairAt H v q) : QAt (upd H l (.lst (ts ++ [v]))) l (qs ++ [q]) := by
  obtain ⟨ts', g, n, a⟩ := hq
  rw [h] at g
  cases g
  have k : ∀ t i j, H t = some (.tup [.int i, .int j]) → upd H l (.lst (ts ++ [v])) t = some (.tup [.int i, .int j]) := fun t i j ht => by
    rw [upd_ne (ne_of ht h (fun e => by cases e))]
    exact ht
  refine ⟨ts ++ [v], upd_same, by simp [n], fun i v' q' h1 h2 => ?_⟩
  by_cases hi : i < ts.length
  · rw [List.getElem?_append_left hi] at h1
    rw [List.getElem?_append_left (by omega)] at h2
    exact (a i v' q' h1 h2).keep k
  · rw [List.getElem?_append_right (by omega)] at h1
    rw [List.getElem?_append_right (by omega)] at h2
    have e0 : i - ts.length = 0 := by
      cases e1 : i - ts.length with
      | zero => rfl
      | succ m =>
        rw [e1] at h1
        simp at h1
    have e0' : i - qs.length = 0 := by omega
    rw [e0] at h1
    rw [e0'] at h2
    cases h1
    cases h2
    exact hv.keep k
end L2

namespace L2
open PySem PySem.Spec PyProof.Rows
/-! ### the law's own walk -/
structure WS where
  row : List Nat
  pl : Nat
  eq : Nat
  st : Nat
namespace WS
def fallRow (w : WS) : List Nat := RF.turned (if 0 < w.eq then RF.turned w.row (w.pl - w.eq - 1) w.pl else w.row) 0 w.pl
def fall (w : WS) : WS := { w with row := fallRow w }
def ans (b : Bool) (w : WS) : WS :=
  if w.st = 1 ∧ b = true then { w with st := if 1 < w.pl then 2 else 3, pl := w.pl + (if w.pl = 1 then 1 else 0) }
  else if w.st = 2 ∧ b = true then { w with st := 0 }
  else if w.st = 2 then { w with row := RF.turned w.row 0 w.pl, st := 3, pl := w.pl + 1 }
  else if w.st = 3 ∧ b = true then { w with row := if 0 < w.eq then RF.turned w.row (w.pl - w.eq - 1) w.pl else w.row, eq := 0, pl := w.pl + 1 }
  else if w.st = 3 then { w with st := 4 }
  else if w.st = 4 ∧ b = true then { w with row := fallRow w, st := 5 }
  else if w.st = 4 then { w with st := 3, eq := w.eq + 1, pl := w.pl + 1 }
  else if b = true then { w with st := 0 }
  else { w with pl := w.pl + 1 }
def lk (size : Nat) (w : WS) : Option (Nat × Nat) :=
  if w.st = 2 then some (w.row.getD 0 0, w.row.getD (w.pl - 1) 0)
  else if w.st = 4 then some (w.row.getD (w.pl - 1) 0, w.row.getD w.pl 0)
  else if w.pl < size then some (w.row.getD w.pl 0, w.row.getD (w.pl - 1) 0) else none
/-- the walk's state behind a look that finds no question -/
def past (size : Nat) (w : WS) : WS := if w.st = 3 then { w with row := fallRow w, st := 5 } else { w with st := 0 }
/-- how the walk stands to the finder: 3 a question waits, 2 and 1 and 0 the end is told in so many turns -/
def At (size : Nat) (w : WS) (f : RF) : Nat → Prop
  | 3 => ∃ q, f.wt = some q ∧ w.row = f.row ∧ w.pl = f.pl ∧ w.st = f.st ∧ 1 ≤ w.st ∧ w.st ≤ 5 ∧ (w.st ≠ 5 → w.eq = f.eq) ∧ lk size w = some q
  | 2 => f.wt = none ∧ w.st = 3 ∧ size ≤ w.pl ∧ w.pl = f.pl ∧ fallRow w = f.row
  | 1 => f.wt = none ∧ (w.st = 1 ∨ w.st = 5) ∧ size ≤ w.pl ∧ w.pl = f.pl ∧ w.row = f.row
  | 0 => f.wt = none ∧ w.st = 0 ∧ w.pl = f.pl ∧ w.row = f.row
  | _ => False
theorem at_ask {size : Nat} {w : WS} {f : RF} (h1 : w.row = f.row) (h2 : w.pl = f.pl) (h3 : w.st = f.st) (h4 : w.st = 1 ∨ w.st = 3 ∨ w.st = 5) (h5 : w.st ≠ 5 → w.eq = f.eq) : ∃ t, t ≤ 3 ∧ At size w (f.ask 0 size) t := by
  unfold RF.ask
  by_cases hp : f.pl < size
  · rw [if_pos hp]
    refine ⟨3, Nat.le_refl _, _, rfl, h1, h2, h3, by omega, by omega, h5, ?_⟩
    unfold lk
    rw [if_neg (by omega), if_neg (by omega), if_pos (by omega), h1, h2]
  · rw [if_neg hp]
    by_cases h : f.st = 3
    · rw [if_pos h]
      have e1 : f.rise 0 size = RF.finish 0 { (f.turnEq.turn 0 : RF) with st := 5 } := by
        unfold RF.rise RF.askUp
        rw [if_neg (by show ¬ f.turnEq.pl < size; rw [RF.turnEq_pl]; exact hp)]
      rw [e1]
      refine ⟨2, by omega, rfl, by omega, by omega, ?_, ?_⟩
      · show w.pl = f.turnEq.pl
        rw [RF.turnEq_pl, h2]
      · show fallRow w = RF.turned f.turnEq.row 0 f.turnEq.pl
        rw [RF.turnEq_pl]
        unfold fallRow RF.turnEq
        rw [h1, h2, h5 (by omega)]
        by_cases h0 : 0 < f.eq
        · rw [if_pos h0, if_pos h0]
          rfl
        · rw [if_neg h0, if_neg h0]
    · rw [if_neg h]
      exact ⟨1, by omega, rfl, by omega, by omega, h2, h1⟩
theorem at_ans {size : Nat} {w : WS} {f : RF} (hf : 0 < f.pl) (h : At size w f 3) (b : Bool) : ∃ t, t ≤ 3 ∧ At size (w.ans b) (f.take 0 size b) t := by
  obtain ⟨q, hq, h1, h2, h3, h4, h5, h6, h7⟩ := h
  unfold ans RF.take
  by_cases s1 : w.st = 1
  · rw [if_pos (show f.st = 1 by omega)]
    unfold RF.take1
    cases b with
    | false =>
      rw [if_neg (by simp), if_neg (by simp), if_neg (by omega), if_neg (by simp), if_neg (by omega), if_neg (by simp), if_neg (by omega), if_neg (by simp), if_pos rfl]
      exact at_ask (w := { w with pl := w.pl + 1 }) (f := { f with pl := f.pl + 1 }) h1 (by show w.pl + 1 = f.pl + 1; omega) h3 (.inl s1) h6
    | true =>
      rw [if_pos ⟨s1, rfl⟩, if_neg (show ¬ (true = false) by decide)]
      by_cases hp : f.pl = 0 + 1
      · rw [if_pos hp, if_neg (show ¬ 1 < w.pl by omega), if_pos (show w.pl = 1 by omega)]
        exact at_ask (w := { w with st := 3, pl := w.pl + 1 }) (f := { f with st := 3, pl := f.pl + 1 }) h1 (by show w.pl + 1 = f.pl + 1; omega) rfl (.inr (.inl rfl)) (fun _ => h6 (by omega))
      · rw [if_neg hp, if_pos (show 1 < w.pl by omega), if_neg (show ¬ w.pl = 1 by omega)]
        refine ⟨3, Nat.le_refl _, _, rfl, h1, h2, rfl, by show 1 ≤ 2; omega, by show 2 ≤ 5; omega, fun _ => h6 (by omega), ?_⟩
        unfold lk
        rw [if_pos rfl, h1, Nat.add_zero, h2]
  rw [if_neg (fun e => s1 e.1), if_neg (show ¬ f.st = 1 by omega)]
  by_cases s2 : w.st = 2
  · rw [if_pos (show f.st = 2 by omega)]
    unfold RF.take2
    cases b with
    | true =>
      rw [if_pos ⟨s2, rfl⟩, if_pos rfl]
      exact ⟨0, by omega, rfl, rfl, h2, h1⟩
    | false =>
      rw [if_neg (by simp), if_pos s2, if_neg (by simp)]
      exact at_ask (w := { w with row := RF.turned w.row 0 w.pl, st := 3, pl := w.pl + 1 }) (f := { (f.turn 0 : RF) with st := 3, pl := (f.turn 0).pl + 1 }) (by show RF.turned w.row 0 w.pl = RF.turned f.row 0 f.pl; rw [h1, h2]) (by show w.pl + 1 = f.pl + 1; omega) rfl (.inr (.inl rfl)) (fun _ => h6 (by omega))
  rw [if_neg (fun e => s2 e.1), if_neg s2, if_neg (show ¬ f.st = 2 by omega)]
  by_cases s3 : w.st = 3
  · rw [if_pos (show f.st = 3 by omega)]
    unfold RF.take3
    cases b with
    | true =>
      rw [if_pos ⟨s3, rfl⟩, if_pos rfl]
      refine at_ask (w := { w with row := if 0 < w.eq then RF.turned w.row (w.pl - w.eq - 1) w.pl else w.row, eq := 0, pl := w.pl + 1 }) (f := { (f.turnEq : RF) with pl := f.turnEq.pl + 1 }) ?_ (by show w.pl + 1 = f.turnEq.pl + 1; rw [RF.turnEq_pl, h2]) (by show w.st = f.turnEq.st; rw [RF.turnEq_st, h3]) (.inr (.inl s3)) (fun _ => ?_)
      · show (if 0 < w.eq then RF.turned w.row (w.pl - w.eq - 1) w.pl else w.row) = f.turnEq.row
        unfold RF.turnEq
        rw [h1, h2, h6 (by omega)]
        by_cases h0 : 0 < f.eq
        · rw [if_pos h0, if_pos h0]
          rfl
        · rw [if_neg h0, if_neg h0]
      · show 0 = f.turnEq.eq
        unfold RF.turnEq
        by_cases h0 : 0 < f.eq
        · rw [if_pos h0]
        · rw [if_neg h0]
          omega
    | false =>
      rw [if_neg (by simp), if_pos s3, if_neg (by simp)]
      refine ⟨3, Nat.le_refl _, _, rfl, h1, h2, rfl, by show 1 ≤ 4; omega, by show 4 ≤ 5; omega, fun _ => h6 (by omega), ?_⟩
      unfold lk
      rw [if_neg (by show ¬ 4 = 2; decide), if_pos rfl, h1, h2]
  rw [if_neg (fun e => s3 e.1), if_neg s3, if_neg (show ¬ f.st = 3 by omega)]
  by_cases s4 : w.st = 4
  · rw [if_pos (show f.st = 4 by omega)]
    unfold RF.take4
    cases b with
    | true =>
      rw [if_pos ⟨s4, rfl⟩, if_pos rfl]
      have e1 : f.rise 0 size = RF.ask 0 size { (f.turnEq.turn 0 : RF) with st := 5 } := by
        unfold RF.rise RF.askUp RF.ask
        rw [if_neg (show ¬ ({ (f.turnEq.turn 0 : RF) with st := 5 } : RF).st = 3 by show ¬ 5 = 3; decide)]
      rw [e1]
      refine at_ask (w := { w with row := fallRow w, st := 5 }) (f := { (f.turnEq.turn 0 : RF) with st := 5 }) ?_ (by show w.pl = f.turnEq.pl; rw [RF.turnEq_pl, h2]) rfl (.inr (.inr rfl)) (fun e => absurd rfl e)
      show fallRow w = RF.turned f.turnEq.row 0 f.turnEq.pl
      rw [RF.turnEq_pl]
      unfold fallRow RF.turnEq
      rw [h1, h2, h6 (by omega)]
      by_cases h0 : 0 < f.eq
      · rw [if_pos h0, if_pos h0]
        rfl
      · rw [if_neg h0, if_neg h0]
    | false =>
      rw [if_neg (by simp), if_pos s4, if_neg (by simp)]
      exact at_ask (w := { w with st := 3, eq := w.eq + 1, pl := w.pl + 1 }) (f := { f with eq := f.eq + 1, st := 3, pl := f.pl + 1 }) h1 (by show w.pl + 1 = f.pl + 1; omega) rfl (.inr (.inl rfl)) (fun _ => by show w.eq + 1 = f.eq + 1; rw [h6 (by omega)])
  rw [if_neg (fun e => s4 e.1), if_neg s4, if_neg (show ¬ f.st = 4 by omega)]
  unfold RF.take5
  cases b with
  | true =>
    rw [if_pos rfl, if_pos rfl]
    exact ⟨0, by omega, rfl, rfl, h2, h1⟩
  | false =>
    rw [if_neg (by simp), if_neg (by simp)]
    exact at_ask (w := { w with pl := w.pl + 1 }) (f := { f with pl := f.pl + 1 }) h1 (by show w.pl + 1 = f.pl + 1; omega) h3 (.inr (.inr (by show w.st = 5; omega))) h6
/-- what the walk keeps between its steps -/
structure Ok (w : WS) : Prop where
  p1 : 0 < w.pl
  pl : w.pl ≤ w.row.length
  eq : w.eq < w.pl
  rl : w.row.length ≤ 2000
theorem fallRow_len {w : WS} (o : Ok w) : (fallRow w).length = w.row.length := by
  have := o.pl; have := o.eq
  unfold fallRow
  by_cases h0 : 0 < w.eq
  · rw [if_pos h0]
    have l1 : (RF.turned w.row (w.pl - w.eq - 1) w.pl).length = w.row.length := RF.turned_len (by omega) o.pl
    rw [RF.turned_len (Nat.zero_le _) (by omega), l1]
  · rw [if_neg h0]
    exact RF.turned_len (Nat.zero_le _) o.pl
theorem Ok.past {w : WS} (o : Ok w) (size : Nat) : Ok (past size w) ∧ (WS.past size w).row.length = w.row.length := by
  obtain ⟨a, b, c, d⟩ := id o
  unfold WS.past
  split
  · have l := fallRow_len o
    exact ⟨⟨a, by show w.pl ≤ (fallRow w).length; omega, c, by show (fallRow w).length ≤ 2000; omega⟩, l⟩
  · exact ⟨⟨a, b, c, d⟩, rfl⟩
theorem Ok.ans {w : WS} (o : Ok w) (h : w.pl < w.row.length) (b : Bool) : Ok (w.ans b) ∧ (w.ans b).row.length = w.row.length := by
  obtain ⟨p1, p2, p3, p4⟩ := id o
  have lf := fallRow_len o
  have l0 : (RF.turned w.row 0 w.pl).length = w.row.length := RF.turned_len (Nat.zero_le _) p2
  have l1 : (if 0 < w.eq then RF.turned w.row (w.pl - w.eq - 1) w.pl else w.row).length = w.row.length := by
    split
    · exact RF.turned_len (by omega) p2
    · rfl
  unfold WS.ans
  split
  · refine ⟨⟨?_, ?_, ?_, p4⟩, rfl⟩
    · show 0 < w.pl + _
      omega
    · show w.pl + (if w.pl = 1 then 1 else 0) ≤ w.row.length
      split <;> omega
    · show w.eq < w.pl + _
      omega
  split
  · exact ⟨⟨p1, p2, p3, p4⟩, rfl⟩
  split
  · exact ⟨⟨by show 0 < w.pl + 1; omega, by show w.pl + 1 ≤ (RF.turned w.row 0 w.pl).length; omega, by show w.eq < w.pl + 1; omega, by show (RF.turned w.row 0 w.pl).length ≤ 2000; omega⟩, l0⟩
  split
  · exact ⟨⟨by show 0 < w.pl + 1; omega, by show w.pl + 1 ≤ (if 0 < w.eq then RF.turned w.row (w.pl - w.eq - 1) w.pl else w.row).length; omega, by show 0 < w.pl + 1; omega, by show (if 0 < w.eq then RF.turned w.row (w.pl - w.eq - 1) w.pl else w.row).length ≤ 2000; omega⟩, l1⟩
  split
  · exact ⟨⟨p1, p2, p3, p4⟩, rfl⟩
  split
  · exact ⟨⟨p1, by show w.pl ≤ (fallRow w).length; omega, p3, by show (fallRow w).length ≤ 2000; omega⟩, lf⟩
  split
  · exact ⟨⟨by show 0 < w.pl + 1; omega, by show w.pl + 1 ≤ w.row.length; omega, by show w.eq + 1 < w.pl + 1; omega, p4⟩, rfl⟩
  split
  · exact ⟨⟨p1, p2, p3, p4⟩, rfl⟩
  · exact ⟨⟨by show 0 < w.pl + 1; omega, by show w.pl + 1 ≤ w.row.length; omega, by show w.eq < w.pl + 1; omega, p4⟩, rfl⟩
end WS
namespace RF
/-- told the answers bs one after another -/
def fed (size : Nat) (bs : List Bool) : Nat → RF
  | 0 => RF.init (List.range size) 0 size
  | k + 1 => match (fed size bs k).wt with
    | none => fed size bs k
    | some _ => (fed size bs k).take 0 size (bs.getD k false)
theorem fed_next {size : Nat} {bs : List Bool} {k : Nat} {q : Nat × Nat} (h : (fed size bs k).wt = some q) : fed size bs (k + 1) = (fed size bs k).take 0 size (bs.getD k false) := by
  show (match (fed size bs k).wt with
    | none => fed size bs k
    | some _ => (fed size bs k).take 0 size (bs.getD k false)) = _
  rw [h]
theorem fed_end {size : Nat} {bs : List Bool} {k : Nat} (h : (fed size bs k).wt = none) : fed size bs (k + 1) = fed size bs k := by
  show (match (fed size bs k).wt with
    | none => fed size bs k
    | some _ => (fed size bs k).take 0 size (bs.getD k false)) = _
  rw [h]
theorem fed_stay {size : Nat} {bs : List Bool} {n : Nat} (h : (fed size bs n).wt = none) : ∀ k, fed size bs (n + k) = fed size bs n
  | 0 => rfl
  | k + 1 => by
    have ih := fed_stay h k
    show fed size bs ((n + k) + 1) = _
    rw [fed_end (by rw [ih]; exact h), ih]
theorem fed_good {size : Nat} (h1 : 0 < size) (h2 : size ≤ 2000) (bs : List Bool) : ∀ k, Good 0 size (List.range size) (fed size bs k)
  | 0 => Good.init h1 (by rw [List.length_range]; exact Nat.le_refl _) (by rw [List.length_range]; exact h2)
  | k + 1 => by
    have ih := fed_good h1 h2 bs k
    cases h : (fed size bs k).wt with
    | none => rw [fed_end h]; exact ih
    | some q => rw [fed_next h]; exact ih.take (by rw [h]; exact Option.some_ne_none _) _
def askB (size : Nat) (bs : List Bool) (n : Nat) : List (Nat × Nat) := (List.range n).map fun i => ((fed size bs i).wt).getD (0, 0)
theorem askB_len (size : Nat) (bs : List Bool) (n : Nat) : (askB size bs n).length = n := by
  unfold askB
  rw [List.length_map, List.length_range]
theorem askB_next {size : Nat} {bs : List Bool} {n : Nat} {q : Nat × Nat} (h : (fed size bs n).wt = some q) : askB size bs (n + 1) = askB size bs n ++ [q] := by
  unfold askB
  rw [List.range_succ, List.map_append, List.map_singleton, h]
  rfl
end RF
theorem QAt.ne {H : Hp} {l r : Addr} {qs : List (Nat × Nat)} {row : List Nat} (h : QAt H l qs) (hr : H r = some (.lst (nV row))) (n : row ≠ []) : r ≠ l := by
  intro e
  obtain ⟨ts, h1, h2, h3⟩ := h
  rw [← e, hr] at h1
  cases row with
  | nil => exact n rfl
  | cons x rest =>
    have e2 : ts = nV (x :: rest) := (HO.lst.inj (Option.some.inj h1)).symm
    cases qs with
    | nil => rw [e2] at h2; cases h2
    | cons q qs =>
      obtain ⟨t, e3, _⟩ := h3 0 (.int (x : Int)) q (by rw [e2]; rfl) rfl
      cases e3
end L2

namespace L2
open PySem PySem.Spec PyProof.Rows
namespace RF
/-! ### a run at s is a run at 0, moved by s -/
def shRow (s : Nat) (row : List Nat) : List Nat := List.range s ++ row.map (fun i => s + i)
def sh (s : Nat) (g : RF) : RF := { row := shRow s g.row, pl := s + g.pl, eq := g.eq, st := g.st, wt := g.wt.map (fun q => (s + q.1, s + q.2)), ln := g.ln }
variable {s size : Nat} {g : RF}
theorem shRow_len (s : Nat) (row : List Nat) : (shRow s row).length = s + row.length := by
  unfold shRow
  rw [List.length_append, List.length_range, List.length_map]
theorem shRow_range (s n : Nat) : shRow s (List.range n) = List.range (s + n) := by
  unfold shRow
  rw [List.range_add]
theorem turned_sh (s lo hi : Nat) (row : List Nat) : turned (shRow s row) (s + lo) (s + hi) = shRow s (turned row lo hi) := by
  unfold turned shRow
  have l : (List.range s).length = s := List.length_range
  have e1 : (List.range s ++ row.map (fun i => s + i)).take (s + lo) = List.range s ++ (row.take lo).map (fun i => s + i) := by
    rw [List.take_append, List.take_of_length_le (by omega), l, Nat.add_sub_cancel_left, List.map_take]
  have e2 : ∀ k, (List.range s ++ row.map (fun i => s + i)).drop (s + k) = (row.drop k).map (fun i => s + i) := fun k => by
    rw [List.drop_append, List.drop_of_length_le (by omega), l, Nat.add_sub_cancel_left, List.map_drop]
    rfl
  rw [e1, e2, e2, show s + hi - (s + lo) = hi - lo by omega]
  simp only [List.map_append, List.map_reverse, List.map_take, List.append_assoc]
theorem getD_sh {row : List Nat} {k : Nat} (h : k < row.length) : (shRow s row).getD (s + k) 0 = s + row.getD k 0 := by
  unfold shRow
  rw [List.getD_eq_getElem?_getD, List.getD_eq_getElem?_getD, List.getElem?_append_right (by rw [List.length_range]; omega), List.length_range, Nat.add_sub_cancel_left, List.getElem?_map, List.getElem?_eq_getElem h]
  rfl
theorem ext {f g : RF} (h1 : f.row = g.row) (h2 : f.pl = g.pl) (h3 : f.eq = g.eq) (h4 : f.st = g.st) (h5 : f.wt = g.wt) (h6 : f.ln = g.ln) : f = g := by
  cases f
  cases g
  cases h1
  cases h2
  cases h3
  cases h4
  cases h5
  cases h6
  rfl
theorem sh_turn (lo : Nat) : (sh s g).turn (s + lo) = sh s (g.turn lo) := ext (turned_sh s lo g.pl g.row) rfl rfl rfl rfl rfl
theorem sh_turnEq (w : WF 0 size g) : (sh s g).turnEq = sh s g.turnEq := by
  unfold RF.turnEq
  by_cases h : 0 < g.eq
  · have := w.eq
    rw [if_pos h, if_pos (show 0 < (sh s g).eq from h)]
    have e : (sh s g).pl - (sh s g).eq - 1 = s + (g.pl - g.eq - 1) := by show s + g.pl - g.eq - 1 = _; omega
    rw [e, sh_turn]
    rfl
  · rw [if_neg h, if_neg (show ¬ 0 < (sh s g).eq from h)]
theorem sh_fin : (sh s g).finish s = sh s (g.finish 0) := ext rfl rfl rfl rfl rfl (by show some (s + g.pl - s) = some (g.pl - 0); rw [Nat.add_sub_cancel_left]; rfl)
theorem sh_w {g' : RF} {k l : Nat} (h1 : k < g'.row.length) (h2 : l < g'.row.length) : ({ sh s g' with wt := some ((sh s g').row.getD (s + k) 0, (sh s g').row.getD (s + l) 0) } : RF) = sh s { g' with wt := some (g'.row.getD k 0, g'.row.getD l 0) } := by
  refine ext rfl rfl rfl rfl ?_ rfl
  show some ((shRow s g'.row).getD (s + k) 0, (shRow s g'.row).getD (s + l) 0) = some (s + g'.row.getD k 0, s + g'.row.getD l 0)
  rw [getD_sh h1, getD_sh h2]
theorem sh_up {g' : RF} (a : 0 < g'.pl) (c : size ≤ g'.row.length) : (sh s g').askUp s (s + size) = sh s (g'.askUp 0 size) := by
  unfold RF.askUp
  by_cases h : g'.pl < size
  · rw [if_pos h, if_pos (show (sh s g').pl < s + size by show s + g'.pl < s + size; omega)]
    have e : (sh s g').pl - 1 = s + (g'.pl - 1) := by show s + g'.pl - 1 = _; omega
    rw [e]
    exact sh_w (by omega) (by omega)
  · rw [if_neg h, if_neg (show ¬ (sh s g').pl < s + size by show ¬ s + g'.pl < s + size; omega)]
    exact sh_fin
theorem sh_rise (w : WF 0 size g) : (sh s g).rise s (s + size) = sh s (g.rise 0 size) := by
  unfold RF.rise
  have w2 := w.pre5
  have e : ({ ((sh s g).turnEq.turn s : RF) with st := 5 } : RF) = sh s { (g.turnEq.turn 0 : RF) with st := 5 } := by
    have e1 : (sh s g).turnEq.turn s = sh s (g.turnEq.turn 0) := by
      rw [sh_turnEq w]
      exact sh_turn 0
    rw [e1]
    rfl
  rw [e]
  exact sh_up (Nat.lt_of_le_of_lt (Nat.zero_le _) w2.sp) w2.er
theorem sh_ask (w : WF 0 size g) : (sh s g).ask s (s + size) = sh s (g.ask 0 size) := by
  have b1 := w.sp; have b2 := w.er
  unfold RF.ask
  by_cases h : g.pl < size
  · rw [if_pos h, if_pos (show (sh s g).pl < s + size by show s + g.pl < s + size; omega)]
    have e : (sh s g).pl - 1 = s + (g.pl - 1) := by show s + g.pl - 1 = _; omega
    rw [e]
    exact sh_w (by omega) (by omega)
  · rw [if_neg h, if_neg (show ¬ (sh s g).pl < s + size by show ¬ s + g.pl < s + size; omega)]
    by_cases h3 : g.st = 3
    · rw [if_pos h3, if_pos (show (sh s g).st = 3 from h3)]
      exact sh_rise w
    · rw [if_neg h3, if_neg (show ¬ (sh s g).st = 3 from h3)]
      exact sh_fin
theorem sh_goOn (w : WF 0 size { g with pl := g.pl + 1 }) : (sh s g).goOn s (s + size) = sh s (g.goOn 0 size) := by
  unfold RF.goOn
  rw [← sh_ask w]
  rfl
theorem sh_take (w : WF 0 size g) (h : g.pl < size) (b : Bool) : (sh s g).take s (s + size) b = sh s (g.take 0 size b) := by
  have b1 := w.sp; have b2 := w.er
  unfold RF.take
  show (if g.st = 1 then _ else if g.st = 2 then _ else if g.st = 3 then _ else if g.st = 4 then _ else _) = sh s (if g.st = 1 then _ else if g.st = 2 then _ else if g.st = 3 then _ else if g.st = 4 then _ else _)
  by_cases s1 : g.st = 1
  · rw [if_pos s1, if_pos s1]
    unfold RF.take1
    cases b with
    | false =>
      rw [if_pos rfl, if_pos rfl]
      exact sh_goOn (w.next h)
    | true =>
      rw [if_neg (show ¬ (true = false) by decide), if_neg (show ¬ (true = false) by decide)]
      by_cases hp : g.pl = 0 + 1
      · rw [if_pos hp, if_pos (show (sh s g).pl = s + 1 by show s + g.pl = s + 1; omega)]
        exact sh_goOn (g := { g with st := 3 }) ((w.st 3).next h)
      · rw [if_neg hp, if_neg (show ¬ (sh s g).pl = s + 1 by show ¬ s + g.pl = s + 1; omega)]
        have e : (sh s g).pl - 1 = s + (g.pl - 1) := by show s + g.pl - 1 = _; omega
        rw [e]
        exact sh_w (g' := { g with st := 2 }) (k := 0) (l := g.pl - 1) (by show 0 < g.row.length; omega) (by show g.pl - 1 < g.row.length; omega)
  rw [if_neg s1, if_neg s1]
  by_cases s2 : g.st = 2
  · rw [if_pos s2, if_pos s2]
    unfold RF.take2
    cases b with
    | true =>
      rw [if_pos rfl, if_pos rfl]
      exact sh_fin
    | false =>
      rw [if_neg (show ¬ (false = true) by decide), if_neg (show ¬ (false = true) by decide)]
      have e : (sh s g).turn s = sh s (g.turn 0) := sh_turn 0
      rw [e]
      exact sh_goOn (g := { (g.turn 0 : RF) with st := 3 }) (((w.turn (Nat.le_of_lt w.sp)).st 3).next h)
  rw [if_neg s2, if_neg s2]
  by_cases s3 : g.st = 3
  · rw [if_pos s3, if_pos s3]
    unfold RF.take3
    cases b with
    | true =>
      rw [if_pos rfl, if_pos rfl, sh_turnEq w]
      exact sh_goOn (w.turnEq.next (by rw [turnEq_pl]; exact h))
    | false =>
      rw [if_neg (show ¬ (false = true) by decide), if_neg (show ¬ (false = true) by decide)]
      have e : (sh s g).pl - 1 = s + (g.pl - 1) := by show s + g.pl - 1 = _; omega
      rw [e]
      exact sh_w (g' := { g with st := 4 }) (k := g.pl - 1) (l := g.pl) (by show g.pl - 1 < g.row.length; omega) (by show g.pl < g.row.length; omega)
  rw [if_neg s3, if_neg s3]
  by_cases s4 : g.st = 4
  · rw [if_pos s4, if_pos s4]
    unfold RF.take4
    cases b with
    | true =>
      rw [if_pos rfl, if_pos rfl]
      exact sh_rise w
    | false =>
      rw [if_neg (show ¬ (false = true) by decide), if_neg (show ¬ (false = true) by decide)]
      exact sh_goOn (g := { g with eq := g.eq + 1, st := 3 }) (w.eq1 h)
  rw [if_neg s4, if_neg s4]
  unfold RF.take5
  cases b with
  | true =>
    rw [if_pos rfl, if_pos rfl]
    exact sh_fin
  | false =>
    rw [if_neg (show ¬ (false = true) by decide), if_neg (show ¬ (false = true) by decide)]
    exact sh_goOn (w.next h)
theorem sh_init (h : 0 < size) (h2 : size ≤ 2000) : RF.init (List.range (s + size)) s (s + size) = sh s (RF.init (List.range size) 0 size) := by
  unfold RF.init
  have w : WF 0 size { row := List.range size, pl := 0 + 1, eq := 0, st := 1, wt := none, ln := none } := ⟨by show 0 < 0 + 1; omega, by show 0 + 1 ≤ size; omega, by show size ≤ (List.range size).length; rw [List.length_range]; exact Nat.le_refl _, by show 0 + 0 < 0 + 1; omega, by show (List.range size).length ≤ 2000; rw [List.length_range]; exact h2⟩
  rw [← sh_ask w]
  congr 1
  exact ext (shRow_range s size).symm rfl rfl rfl rfl rfl
/-! behind the place nothing has moved -/
def Tail (n : Nat) (f : RF) : Prop := ∀ k, f.pl ≤ k → f.row.drop k = (List.range n).drop k
theorem turned_tail {row : List Nat} {lo hi k : Nat} (h : lo ≤ hi) (h2 : hi ≤ row.length) (hk : hi ≤ k) : (turned row lo hi).drop k = row.drop k := by
  unfold turned
  have l : (row.take lo ++ ((row.drop lo).take (hi - lo)).reverse).length = hi := by
    rw [List.length_append, List.length_take, List.length_reverse, List.length_take, List.length_drop]
    omega
  rw [List.drop_append, List.drop_of_length_le (by omega), l, List.drop_drop, List.nil_append]
  congr 1
  omega
section
variable {n : Nat} {f : RF} {e : Nat}
theorem tail_turn {lo : Nat} (t : Tail n f) (h : lo ≤ f.pl) (h2 : f.pl ≤ f.row.length) : Tail n (f.turn lo) := fun k hk => (turned_tail h h2 hk).trans (t k hk)
theorem tail_turnEq (t : Tail n f) (h2 : f.pl ≤ f.row.length) : Tail n f.turnEq := by
  unfold RF.turnEq
  split
  · exact fun k hk => tail_turn t (by omega) h2 k hk
  · exact t
theorem tail_up (t : Tail n f) : Tail n (f.askUp s e) := by
  unfold RF.askUp
  split
  · exact t
  · exact t
theorem tail_rise (w : WF s e f) (t : Tail n f) : Tail n (f.rise s e) := by
  have w1 := w.turnEq
  have h2 : f.pl ≤ f.row.length := Nat.le_trans w.pe w.er
  have t1 : Tail n f.turnEq := tail_turnEq t h2
  exact tail_up (f := { (f.turnEq.turn s : RF) with st := 5 }) (tail_turn t1 (Nat.le_of_lt w1.sp) (Nat.le_trans w1.pe w1.er))
theorem tail_ask (w : WF s e f) (t : Tail n f) : Tail n (f.ask s e) := by
  unfold RF.ask
  split
  · exact t
  · split
    · exact tail_rise w t
    · exact t
theorem tail_next (t : Tail n f) : Tail n { f with pl := f.pl + 1 } := fun k hk => t k (Nat.le_of_succ_le hk)
theorem tail_take (w : WF s e f) (h : f.pl < e) (t : Tail n f) (b : Bool) : Tail n (f.take s e b) := by
  have h2 : f.pl ≤ f.row.length := Nat.le_trans w.pe w.er
  unfold RF.take
  split
  · unfold RF.take1
    split
    · exact tail_ask (w.next h) (tail_next t)
    · split
      · exact tail_ask ((w.st 3).next h) (tail_next t)
      · exact t
  · split
    · unfold RF.take2
      split
      · exact t
      · exact tail_ask (((w.turn (Nat.le_of_lt w.sp)).st 3).next h) (tail_next (tail_turn t (Nat.le_of_lt w.sp) h2))
    · split
      · unfold RF.take3
        split
        · exact tail_ask (w.turnEq.next (by rw [turnEq_pl]; exact h)) (tail_next (tail_turnEq t h2))
        · exact t
      · split
        · unfold RF.take4
          split
          · exact tail_rise w t
          · exact tail_ask (w.eq1 h) (tail_next t)
        · unfold RF.take5
          split
          · exact t
          · exact tail_ask (w.next h) (tail_next t)
end
theorem fed_tail {size : Nat} (h1 : 0 < size) (h2 : size ≤ 2000) (bs : List Bool) : ∀ k, Tail size (fed size bs k)
  | 0 => by
    have w : WF 0 size { row := List.range size, pl := 0 + 1, eq := 0, st := 1, wt := none, ln := none } := ⟨by show 0 < 0 + 1; omega, by show 0 + 1 ≤ size; omega, by show size ≤ (List.range size).length; rw [List.length_range]; exact Nat.le_refl _, by show 0 + 0 < 0 + 1; omega, by show (List.range size).length ≤ 2000; rw [List.length_range]; exact h2⟩
    exact tail_ask w (fun k _ => rfl)
  | k + 1 => by
    have ih := fed_tail h1 h2 bs k
    have g := fed_good h1 h2 bs k
    cases h : (fed size bs k).wt with
    | none => rw [fed_end h]; exact ih
    | some q => rw [fed_next h]; exact tail_take g.wf (g.ah (by rw [h]; exact Option.some_ne_none _)) ih _
theorem fed_congr {size : Nat} {bs cs : List Bool} : ∀ {k : Nat}, (∀ i, i < k → bs.getD i false = cs.getD i false) → fed size bs k = fed size cs k
  | 0, _ => rfl
  | k + 1, h => by
    have ih := fed_congr (size := size) (k := k) (fun i hi => h i (by omega))
    cases e : (fed size bs k).wt with
    | none => rw [fed_end e, fed_end (by rw [← ih]; exact e), ih]
    | some q => rw [fed_next e, fed_next (q := q) (by rw [← ih]; exact e), ih, h k (by omega)]
/-- the steps by the keys are the steps by their answers, moved -/
theorem stps_fed {ls : Nat × Nat → Bool} {s size N : Nat} (h1 : 0 < size) (h2 : size ≤ 2000) (hw : ∀ i, i < N → ((RF.init (List.range (s + size)) s (s + size)).stps ls s (s + size) i).wt ≠ none) :
    ∀ k, k ≤ N → (RF.init (List.range (s + size)) s (s + size)).stps ls s (s + size) k = sh s (fed size (((RF.init (List.range (s + size)) s (s + size)).asks ls s (s + size) N).map ls) k)
  | 0, _ => sh_init h1 h2
  | k + 1, hk => by
    have ih := stps_fed h1 h2 hw k (by omega)
    cases e : ((RF.init (List.range (s + size)) s (s + size)).stps ls s (s + size) k).wt with
    | none => exact absurd e (hw k (by omega))
    | some q =>
      rw [stps_next e]
      rw [ih] at e
      have e0 : ∃ q0, (fed size (((RF.init (List.range (s + size)) s (s + size)).asks ls s (s + size) N).map ls) k).wt = some q0 := by
        cases e1 : (fed size (((RF.init (List.range (s + size)) s (s + size)).asks ls s (s + size) N).map ls) k).wt with
        | none =>
          exfalso
          have e2 : (sh s (fed size (((RF.init (List.range (s + size)) s (s + size)).asks ls s (s + size) N).map ls) k)).wt = none := by
            show Option.map _ _ = none
            rw [e1]
            rfl
          rw [e2] at e
          cases e
        | some q0 => exact ⟨q0, rfl⟩
      obtain ⟨q0, e0⟩ := e0
      have g := fed_good h1 h2 (((RF.init (List.range (s + size)) s (s + size)).asks ls s (s + size) N).map ls) k
      rw [fed_next e0, ih, ← sh_take g.wf (g.ah (by rw [e0]; exact Option.some_ne_none _))]
      congr 1
      rw [List.getD_eq_getElem?_getD, List.getElem?_map, asks_at (by omega), ih, e]
      rfl
theorem range_drop (k n : Nat) (h : k ≤ n) : (List.range n).drop k = (List.range (n - k)).map (fun i => k + i) := by
  have e : List.range n = List.range k ++ (List.range (n - k)).map (fun i => k + i) := by
    rw [← List.range_add]
    congr 1
    omega
  rw [e, List.drop_append, List.drop_of_length_le (by rw [List.length_range]; exact Nat.le_refl _), List.length_range, Nat.sub_self]
  rfl
/-- the whole row, told by what lies ahead, the run and the rest -/
theorem row_split {s size : Nat} {g : RF} (w : WF 0 size g) (t : Tail size g) : (sh s g).row = List.range s ++ ((sh s g).row.drop s).take g.pl ++ (List.range (size - g.pl)).map (fun i => s + g.pl + i) := by
  have l : (List.range s).length = s := List.length_range
  have e1 : (sh s g).row.drop s = g.row.map (fun i => s + i) := by
    show (List.range s ++ g.row.map (fun i => s + i)).drop s = _
    rw [List.drop_append, List.drop_of_length_le (by omega), l, Nat.sub_self]
    rfl
  rw [e1, List.append_assoc]
  show List.range s ++ g.row.map (fun i => s + i) = _
  congr 1
  have e2 : g.row = g.row.take g.pl ++ (List.range (size - g.pl)).map (fun i => g.pl + i) := by
    rw [← range_drop _ _ w.pe, ← t _ (Nat.le_refl _), List.take_append_drop]
  rw [← List.map_take]
  conv => lhs; rw [e2]
  rw [List.map_append, List.map_map]
  congr 1
  exact List.map_congr_left fun i _ => by show s + (g.pl + i) = s + g.pl + i; omega
end RF
end L2

namespace L2
open PySem PySem.Spec PyProof.Rows
/-! ### for over a list or a tuple -/
section
variable {X : Cx} {tg : Expr} {pins : List (Addr × Obj)} {σ : L2.St} {H : Hp} {s : Shared} {a : Addr} {xs : List V} {R : It → Hp → Prop}
theorem lone_fresh (I : Inv X pins σ H s) : ∀ b ∈ [s.heap.objs.size], FpOk X pins H b := fun b hb => by
  rw [List.mem_singleton.mp hb]
  exact I.fpOk (Nat.le_refl _) (I.hok.fresh (Nat.le_refl _))
theorem walk_list (I : Inv X pins σ H s) (h : SqL X.K H a xs) (q : R (Itl X.K a) H) : wpAny (model X.prog X.w) X.A (pyIter (.ref a)) (PIE X pins σ tg R) X.xe s := by
  obtain ⟨items, _, isl, _⟩ := I.list h
  exact wpAny_pyIter_list isl.isList ⟨_, [_], _, _, H, rfl, I.kept (t' := s.toks) (fun _ _ e => Heap.get?_push_of_some _ e), turn_list a _, ⟨_, Heap.get?_push_size _ rfl, rfl, rfl⟩, lone_fresh I, q⟩
theorem walk_tup (I : Inv X pins σ H s) (h : SqT X.K H a xs) (q : R (Itt X.K a) H) : wpAny (model X.prog X.w) X.A (pyIter (.ref a)) (PIE X pins σ tg R) X.xe s := by
  obtain ⟨items, _, ist, _⟩ := I.tuple h
  have ist' : s.heap.IsTuple a items.toArray := ist
  exact wpAny_pyIter_tuple ist' ⟨_, [_], _, _, H, rfl, I.kept (t' := s.toks) (fun _ _ e => Heap.get?_push_of_some _ e), turn_tuple a _, ⟨_, Heap.get?_push_size _ rfl, rfl, rfl⟩, lone_fresh I, q⟩
def iLT (K : PySem.W.Frag) (tl : TE) : TI := fun σ H R => tl σ H fun x H1 => ∃ (a : Addr) (xs : List V), x = .ref a ∧ ((SqL K H1 a xs ∧ R (Itl K a) H1) ∨ (SqT K H1 a xs ∧ R (Itt K a) H1))
theorem pi_lt {l : Expr} {tl : TE} (hl : PE X l tl) : PI X tg l (iLT X.K tl) :=
  ⟨fun pins s σ H R I h => thn (hl.run pins s σ H _ I h) fun v s1 ⟨x, H1, I1, r1, a, xs, e, q⟩ => by
    subst e
    cases r1
    rcases q with ⟨hs, q⟩ | ⟨hs, q⟩
    · exact walk_list I1 hs q
    · exact walk_tup I1 hs q⟩
end
/-- for over the entries, whichever of the two it is -/
theorem for_lt {K : PySem.W.Frag} {a : Addr} {xs : List V} {g : TG} {tb : TS} {D : Ends} {σ : L2.St} {H : Hp} (Pv : Nat → L2.St → Hp → Prop) (h0 : Pv 0 σ H) (h : (∀ i σ' H', Pv i σ' H' → SqL K H' a xs) ∨ (∀ i σ' H', Pv i σ' H' → SqT K H' a xs))
    (hs : ∀ i x σ H, xs[i]? = some x → Pv i σ H → g x σ H fun σ2 H2 => tb { D with nx := Pv (i + 1), ct := Pv (i + 1), bk := D.nx } σ2 H2) (hd : ∀ σ H, Pv xs.length σ H → D.nx σ H) :
    (SqL K H a xs ∧ ∃ W : Nat → Nat → L2.St → Hp → Prop, (∃ m, W 0 m σ H) ∧ ∀ i m σ H, W i m σ H →
      ((Itl K a).stop i H ∧ D.nx σ H) ∨ ((Itl K a).go i H ∧ ∃ N : L2.St → Hp → Prop, (∀ σ' H', N σ' H' → ∃ m', m' < m ∧ W (i + 1) m' σ' H') ∧ ∀ x H', (Itl K a).yld i H x H' → g x σ H' fun σ2 H2 => tb { D with nx := N, ct := N, bk := D.nx } σ2 H2)) ∨
    (SqT K H a xs ∧ ∃ W : Nat → Nat → L2.St → Hp → Prop, (∃ m, W 0 m σ H) ∧ ∀ i m σ H, W i m σ H →
      ((Itt K a).stop i H ∧ D.nx σ H) ∨ ((Itt K a).go i H ∧ ∃ N : L2.St → Hp → Prop, (∀ σ' H', N σ' H' → ∃ m', m' < m ∧ W (i + 1) m' σ' H') ∧ ∀ x H', (Itt K a).yld i H x H' → g x σ H' fun σ2 H2 => tb { D with nx := N, ct := N, bk := D.nx } σ2 H2)) := by
  rcases h with h | h
  · exact .inl ⟨h _ _ _ h0, for_list Pv h0 (fun i σ' H' _ p => h i σ' H' p) hs hd⟩
  · exact .inr ⟨h _ _ _ h0, for_tup Pv h0 (fun i σ' H' _ p => h i σ' H' p) hs hd⟩
theorem rg_nat (n : Nat) : rgV 0 (n : Int) = nV (List.range n) := by
  unfold rgV
  rw [show ((n : Int) - 0).toNat = n by omega]
  exact List.map_congr_left fun i _ => congrArg V.int (by omega)
theorem rgOk_nat {n : Nat} (h : n ≤ 2000) : RgOk 0 (n : Int) := ⟨by omega, by omega, by omega, by omega, by omega⟩
end L2

namespace L2
open PySem PySem.Spec PyProof.Rows
/-! ### Base.__init__(self, ..) where Base is a class of the program that has no own one -/
section
variable {X : Cx} {e : Expr} {es : List Expr} {ta : TA} {x : Str} {B : Addr} {p1 p2 pos : Pos}
theorem pe_baseinit {pl : Sem Bool} (hg : Gl X x) (hm : X.mg x = some (.ref B)) (rd1 : PySem.W.readsIn X.K B (.type "type") = true) (rd2 : PySem.W.specialIn X.K (.ref B) "__getattribute__" = some (some (.builtin "type.__getattribute__"))) (vV : PySem.W.findCls X.K (.ref B) (.type "type") "__init__" = some (.val (.builtin "ValueError.__init__"))) (ha : PA X (e :: es) ta)
    (hc : eval (.Call (.Attribute (.Name x p1) "__init__" p2) (e :: es) [] pos) X.env = (do
      let base ← eval (.Name x p1) X.env
      standAt p2.atName
      let (f, first) ← holding [base] (getMethod base "__init__" pl)
      callWith pos f first (backTo pos (starEach (e :: es) X.env)) (backToKw pos (keywordEach [] X.env))) := by rfl)
    (hdb : (x == ("__debug__" : Str)) = false := by decide) (he : starEach (e :: es) X.env = (false, eval e X.env) :: starEach es X.env := by rfl) (hpl : (backTo pos (starEach es X.env)).any (·.1) = false := by rfl) :
    PE X (.Call (.Attribute (.Name x p1) "__init__" p2) (e :: es) [] pos) (tVeI X.K ta) := by
  refine ⟨fun pins s σ H Q I h => PySem.W.methodCall_KW (ld_glob I hg hm ?_ hdb) hc⟩
  refine PySem.W.method_cls I.kIn rd2 (PySem.W.cls_value I.kIn rd1 vV (by decide +kernel) ?_)
  show wpAny _ _ (callWith pos (Value.builtin "ValueError.__init__") [] (backTo pos (starEach (e :: es) X.env)) []) _ _ _
  refine PyProof.Rows.callWith_method1 (thn (ha.run pos pins _ σ H _ (I.tok _) h) fun us s1 ⟨vs, H1, I1, rel, a, C, ws, ev, hl, T, ea, q⟩ => ?_) he hpl
  subst ev
  cases rel with
  | @cons _ w0 _ wr r0 rs =>
    have ew : w0 = Value.ref a := r0
    subst ew
    have short : wr.length ≤ sizeLine := by
      have := Paired.length rs
      rw [sizeLine_eq]
      omega
    exact oinit_ok T I1 ea short fun s' J => ⟨.non, H1, J, rfl, q⟩
end
/-! ### what the text says of an error's class, and of the class above -/
structure ExC (K : PySem.W.Frag) (mg : Str → Option Value) (C fI : Addr) (x f : Str) : Prop where
  g : mg x = some (.ref C)
  ox : OexC K C
  ii : PySem.W.findIn K (.ref C) "__init__" = some (some (.ref fI))
  ti : PySem.W.typeIn K (.ref fI) = some (.type "function")
  no : PySem.W.findIn K (.ref C) f = some none
  xf : XfC K C
  te : PySem.W.exmOne K (.ref C) (.ref C) = some true
structure ExB (K : PySem.W.Frag) (mg : Str → Option Value) (B : Addr) (x : Str) : Prop where
  g : mg x = some (.ref B)
  r1 : PySem.W.readsIn K B (.type "type") = true
  r2 : PySem.W.specialIn K (.ref B) "__getattribute__" = some (some (.builtin "type.__getattribute__"))
  vi : PySem.W.findCls K (.ref B) (.type "type") "__init__" = some (.val (.builtin "ValueError.__init__"))
theorem exm_own {K : PySem.W.Frag} {S : Addr} (h1 : PySem.W.subIn K (.ref S) (.type "BaseException") = some true) (h2 : PySem.W.isClsIn K S = true) (h3 : PySem.W.typeIn K (.ref S) = some (.type "type")) (h4 : PySem.W.subIn K (.ref S) (.ref S) = some true) :
    PySem.W.exmOne K (.ref S) (.ref S) = some true := by
  have h2' : (PySem.W.clsIn K S).isSome = true := h2
  unfold PySem.W.exmOne
  simp [PySem.W.kitCls, h1, h2', h3, h4]
theorem exC_mk {K : PySem.W.Frag} {h : Heap} {mg : Str → Option Value} {C B fI : Addr} {x f : Str} (X : K.In h) (G : h.Ns mainGlobals mg)
    {nm q : Str} {N : Addr} {bs : List Value} {sn : List Str} {sub : List Value} {ab : Bool} {col : Option Bool} {dd : Option Addr} {m0 m1 m2 m3 m5 : Option Value}
    (aC : PySem.W.nsIn K mainGlobals x = some (some (.ref C)))
    (xL : K.lookup C = some (excClassObj nm q C N bs [.ref B, .type "ValueError", .type "Exception", .type "BaseException", .type "object"] true sn sub ab col dd m0 m1 m2 m3 m5 "ValueError.__new__"))
    (sa : PySem.W.findIn K (.ref C) "__setattr__" = some (some (.builtin "object.__setattr__"))) (ga : PySem.W.findIn K (.ref C) "__getattribute__" = some (some (.builtin "BaseException.__getattribute__"))) (gg : PySem.W.findIn K (.ref C) "__getattr__" = some none)
    (nb : PySem.W.findIn K (.ref C) f = some none) (ii : PySem.W.findIn K (.ref C) "__init__" = some (some (.ref fI))) (ti : PySem.W.typeIn K (.ref fI) = some (.type "function")) (kC : PySem.W.keepIn K (.ref C) = true)
    (eC : PySem.W.subIn K (.ref C) (.type "BaseException") = some true) (tC : PySem.W.typeIn K (.ref C) = some (.type "type")) (hC : PySem.W.hasDictIn K C = true) (iC : PySem.W.isClsIn K C = true) (sC : PySem.W.subIn K (.ref C) (.ref C) = some true) :
    ExC K mg C fI x f :=
  ⟨PySem.W.mg_of X G aC, ⟨⟨_, _, _, _, _, _, _, _, _, _, _, _, _, _, _, xL, rfl⟩, sa, eC, tC, kC⟩, ii, ti, nb, ⟨ga, gg, eC, hC⟩, exm_own eC iC tC sC⟩
/-- what __init__ of such an error does: the value is kept under f -/
def spErr (C : Addr) (f : Str) : Sp := fun vs H Q _ => ∃ (e : Addr) (v : V), vs = [.ref e, v] ∧ H e = some (exo e C none) ∧ ∀ dx, H dx = none → dx ≠ e → Q .non (upd (upd H dx (exd dx [(f, v)])) e (exo e C (some dx)))
end L2

namespace L2
open PySem PySem.Spec PyProof.Rows
/-! ### several except clauses, with a name or without -/
/-- behind a clause with a name the slot is empty -/
def endsAs (D : Ends) : Option Nat → Ends
  | none => D
  | some i => { nx := fun σ' H' => D.nx (σ'.set i none) H', rt := D.rt, bk := fun σ' H' => D.bk (σ'.set i none) H', ct := fun σ' H' => D.ct (σ'.set i none) H' }
def slotAs (σ : L2.St) (a : Addr) : Option Nat → L2.St
  | none => σ
  | some i => σ.set i (some (.ref a))
/-- what a row of clauses wishes of an exception -/
def wRow (K : PySem.W.Frag) (Wo : WX) (D : Ends) : List (Value × Option Nat × (Addr → Value → Option Addr → TS)) → WX
  | [] => Wo
  | (c, i, ts) :: r => fun cls d σ H => ∃ y, PySem.W.exmOne K cls c = some y ∧ (y = true → ∀ a, H a = none → ts a cls d (endsAs D i) (slotAs σ a i) H) ∧ (y = false → wRow K Wo D r cls d σ H)
inductive Clauses (X : Cx) : List ExceptHandler → List (Value × Option Nat × (Addr → Value → Option Addr → TS)) → Prop
  | nil : Clauses X [] []
  | plain {x : Str} {c : Value} {ts : Addr → Value → Option Addr → TS} {z : Stmt} {zs : List Stmt} {p q : Pos} {hs : List ExceptHandler} {l : List (Value × Option Nat × (Addr → Value → Option Addr → TS))} (hc : Names X x c)
      (su : ∀ (a : Addr) (oe : Obj) (cls : Value) (d : Option Addr) (pn : List (Addr × Obj)), Zc cls d oe → (∃ vs, oe.data = .fields vs) → PSs (X.suite a ((a, oe) :: pn)) (z :: zs) (ts a cls d)) (r : Clauses X hs l) :
      Clauses X (.ExceptHandler (some (.Name x p)) none (z :: zs) q :: hs) ((c, none, ts) :: l)
  | named {x n : Str} {i : Nat} {c : Value} {ts : Addr → Value → Option Addr → TS} {z : Stmt} {zs : List Stmt} {p q : Pos} {hs : List ExceptHandler} {l : List (Value × Option Nat × (Addr → Value → Option Addr → TS))} (hN : X.N.Nodup) (hi : X.N[i]? = some n) (hk : X.env.kindOf n = some .local) (hc : Names X x c)
      (su : ∀ (a : Addr) (oe : Obj) (cls : Value) (d : Option Addr) (pn : List (Addr × Obj)), Zc cls d oe → (∃ vs, oe.data = .fields vs) → PSs (X.suite a ((a, oe) :: pn)) (z :: zs) (ts a cls d)) (r : Clauses X hs l) :
      Clauses X (.ExceptHandler (some (.Name x p)) (some n) (z :: zs) q :: hs) ((c, some i, ts) :: l)
section
variable {X : Cx} {body : List Stmt} {h0 : ExceptHandler} {hds : List ExceptHandler} {l : List (Value × Option Nat × (Addr → Value → Option Addr → TS))} {pos : Pos} {tb : WX → TS} {Wo : WX}
theorem ps_try_row (hst : X.stack = X.env :: X.outer) (hfm : X.env.frame = some X.env.locals) (tk : Takes X Wo)
    (hb : ∀ (W : WX) (pn : List (Addr × Obj)) (xe : Value → Shared → Prop), Takes (X.tr pn xe) W → PassesOwn (model X.prog X.w) X.A X.env xe → PSs (X.tr pn xe) body (tb W))
    (hh : Clauses X (h0 :: hds) l) : PS X (.Try body (h0 :: hds) [] [] pos) (fun D σ H => tb (wRow X.K Wo D l) D σ H) := by
  constructor
  intro pins s σ H D I h
  have hok := I.ok
  have hfrm : X.A.frames = some (X.env :: X.outer) := by rw [hok.frames, hst]
  refine wpAny_Try_except ?_
  have run := (hb (wRow X.K Wo D l) (X.pn ++ pins) (fun e t1 => wpAny (model X.prog X.w) X.A (noteFrame e X.env) (fun _ t2 => wpAny (model X.prog X.w) X.A (setFlight e none)
    (fun _ t3 => wpAny (model X.prog X.w) X.A (handleBy e X.env (h0 :: hds)) (SP X pins D) X.xe t3) X.xe t2) X.xe t1) (fun u s' xx => ?_) PassesOwn.looking).run [] s σ H D (I.toTry _) h
  · refine wpAny_mono run (fun f s1 hsp => ?_) (fun e s1 he => he)
    cases f with
    | ret u => obtain ⟨v, σ1, H1, J, r, q⟩ := hsp; exact ⟨v, σ1, H1, J.ofTry hok, r, q⟩
    | next => obtain ⟨σ1, H1, J, q⟩ := hsp; exact wpAny_execs_nil ⟨σ1, H1, J.ofTry hok, q⟩
    | cont => obtain ⟨σ1, H1, J, q⟩ := hsp; exact ⟨σ1, H1, J.ofTry hok, q⟩
    | brk => obtain ⟨σ1, H1, J, q⟩ := hsp; exact ⟨σ1, H1, J.ofTry hok, q⟩
  -- an exception has come out
  obtain ⟨a, B, sI, pins1, σ1, H1, cls, d, rfl, J0, nb, up, sky, na, os, ag, wi⟩ := xx
  have J : Inv X pins σ1 H1 sI := J0.ofTry hok
  have sky1 : Sky B (X.env :: X.outer) a (Zc cls d) X.env.locals s'.heap := by rw [← hst]; exact sky
  show wpAny (model X.prog X.w) X.A (noteFrame (.ref a) X.env) _ _ _
  refine Sky.land Zc.steady hfrm hfm sky1 fun h3 fl3 up3 => ?_
  have J3 : Inv X pins σ1 H1 { s' with heap := h3 } := J.landed nb fl3.1 (up.trans up3) os ag
  obtain ⟨oe3, vs3, he3, hz3, hd3⟩ := fl3.there
  have far : a ∉ frs (X.env :: X.outer) := fun hm => by
    obtain ⟨_, o1, e1, hnf⟩ := fl3.2.2.1.mem hm
    rw [he3] at e1
    cases e1
    exact hnf _ hd3
  have nL : a ≠ X.env.locals := fun z => far (List.mem_filterMap.mpr ⟨X.env, List.mem_cons_self, by rw [hfm, z]⟩)
  have nF : a ∉ X.fs := fun hm => by
    obtain ⟨e, he, q⟩ := List.mem_filterMap.mp hm
    exact far (List.mem_filterMap.mpr ⟨e, List.mem_cons_of_mem _ he, q⟩)
  have S3 := J3.suite he3 hd3 na nL nF
  have LT : PySem.W.Looks (model X.prog X.w) h3 (typeOf (.ref a)) cls := fun A Q E s k q => wpAny_typeOf_ref (k _ _ he3) (by rw [hz3.1]; exact q)
  have look : ∀ {x : Str} {c : Value} {p : Pos}, Names X x c → ∀ {Q E : Value → Shared → Prop}, Q c { s' with heap := h3 } → wpAny (model X.prog X.w) (X.A.mark (some (.ref a))) (eval (.Name x p) X.env) Q E { s' with heap := h3 } := by
    intro x c p hc Q E q
    obtain ⟨hg, hdbg, hm | ⟨hm, hv, hnn⟩⟩ := hc
    · exact ld_glob (X := X.suite a ((a, oe3) :: (X.pn ++ pins))) S3 hg hm q hdbg
    · exact ld_blt (X := X.suite a ((a, oe3) :: (X.pn ++ pins))) S3 hg hm hv q hnn hdbg
  have go : ∀ {hs1 : List ExceptHandler} {l1 : List (Value × Option Nat × (Addr → Value → Option Addr → TS))}, Clauses X hs1 l1 → wRow X.K Wo D l1 cls d σ1 H1 →
      wpAny (model X.prog X.w) X.A (handleBy (.ref a) X.env hs1) (SP X pins D) X.xe { s' with heap := h3 } := by
    intro hs1 l1 hk
    induction hk with
    | nil =>
      intro wi
      refine wpAny_handleBy_nil ?_
      obtain ⟨_, _, _, oe, vs, T, oT, ts1, he, hz, hd, h1, hr⟩ := id fl3
      unfold PySem.passOn
      refine wpAny_bind (wpAny_field he hd h1 ?_)
      rw [if_neg (show ¬ ((Value.ref T == Value.none) = true) from by simp)]
      have out : wpAny (model X.prog X.w) X.A (setFlight (.ref a) X.env.frame) (fun _ t4 => wpAny (model X.prog X.w) X.A (throw (.ref a) : Sem Flow) (SP X pins D) X.xe t4) X.xe { s' with heap := h3 } := by
        rw [hfm]
        exact HandSPX.setFlight_upZ fl3 fun h4 hh4 up4 => wpAny_throw (tk _ _ ⟨a, B, sI, pins, σ1, H1, cls, d, rfl, J, nb, (up.trans up3).trans up4, .inr (.inr (by rw [hst]; exact hh4)), na, os, ag, wi⟩)
      first
        | exact wpAny_bind (wpAny_pure (wpAny_bind out))
        | exact wpAny_bind out
    | plain hc su r ih =>
      rintro ⟨y, hy, yes, no⟩
      refine wpAny_handleBy_cons (codeAny_handlers_test ?_) (by intro q; cases q)
      refine look hc ((PySem.W.exm_one (M := model X.prog X.w) J3.kIn LT hy).here ?_)
      cases y with
      | false => exact ih (no rfl)
      | true =>
        refine codeAny_handlers_suite (HandSPX.lands_againZ fl3 fun h4 fl4 up4 => ?_)
        obtain ⟨oe4, vs4, he4, hz4, hd4⟩ := fl4.there
        have J4 : Inv X pins σ1 H1 { s' with heap := h4 } := J.landed nb fl4.1 ((up.trans up3).trans up4) os ag
        refine wpAny_mono ((su a oe4 cls d (X.pn ++ pins) hz4 ⟨_, hd4⟩).run [] _ _ H1 _ (J4.suite he4 hd4 na nL nF) (yes rfl a na)) (fun f s6 hsp => ?_) (fun _ _ z => False.elim z)
        cases f with
        | ret u => obtain ⟨v6, σ6, H6, S6, r6, q6⟩ := hsp; exact ⟨_, _, _, S6.unsuite hok, r6, q6⟩
        | next => obtain ⟨σ6, H6, S6, q6⟩ := hsp; exact ⟨_, _, S6.unsuite hok, q6⟩
        | cont => obtain ⟨σ6, H6, S6, q6⟩ := hsp; exact ⟨_, _, S6.unsuite hok, q6⟩
        | brk => obtain ⟨σ6, H6, S6, q6⟩ := hsp; exact ⟨_, _, S6.unsuite hok, q6⟩
    | @named x n i c ts z zs p q hs2 l2 hN hi hkk hc su r ih =>
      rintro ⟨y, hy, yes, no⟩
      refine wpAny_handleBy_cons (codeAny_handlers_test ?_) (by intro q; cases q)
      refine look hc ((PySem.W.exm_one (M := model X.prog X.w) J3.kIn LT hy).here ?_)
      cases y with
      | false => exact ih (no rfl)
      | true =>
        refine codeAny_handlers_suite_as (HandSPX.lands_againZ fl3 fun h4 fl4 up4 => ?_)
        obtain ⟨oe4, vs4, he4, hz4, hd4⟩ := fl4.there
        have J4 : Inv X pins σ1 H1 { s' with heap := h4 } := J.landed nb fl4.1 ((up.trans up3).trans up4) os ag
        refine store_ok (X := X.suite a ((a, oe4) :: (X.pn ++ pins))) (v := .ref a) (J4.suite he4 hd4 na nL nF) hN hi (.inl hkk) rfl (fun s5 S5 => ?_) (.inr hkk)
        refine wpAny_mono ((su a oe4 cls d (X.pn ++ pins) hz4 ⟨_, hd4⟩).run [] s5 _ H1 _ S5 (yes rfl a na)) (fun f s6 hsp => ?_) (fun _ _ z => False.elim z)
        have fin : ∀ {σ6 : L2.St} {H6 : Hp} {Q : Shared → Prop}, Inv (X.suite a ((a, oe4) :: (X.pn ++ pins))) [] σ6 H6 s6 → (∀ s7, Inv X pins (σ6.set i none) H6 s7 → Q s7) →
            wpAny (model X.prog X.w) X.A (do bindName X.env n .none; unbindBehindTheSuite X.env n q) (fun _ s7 => Q s7) X.xe s6 := fun S6 hq => gone_ok (S6.unsuite hok) hN hi hkk hq
        cases f with
        | ret u => obtain ⟨v6, σ6, H6, S6, r6, q6⟩ := hsp; exact fin S6 fun s7 J7 => ⟨_, _, _, J7, r6, q6⟩
        | next => obtain ⟨σ6, H6, S6, q6⟩ := hsp; exact fin S6 fun s7 J7 => ⟨_, _, J7, q6⟩
        | cont => obtain ⟨σ6, H6, S6, q6⟩ := hsp; exact fin S6 fun s7 J7 => ⟨_, _, J7, q6⟩
        | brk => obtain ⟨σ6, H6, S6, q6⟩ := hsp; exact fin S6 fun s7 J7 => ⟨_, _, J7, q6⟩
  exact go hh wi
end
end L2

namespace L2
open PySem PySem.Spec PyProof.Rows
/-! ### least lengths -/
/-- how often a number is halved until it is below 64 -/
def lk (n : Nat) : Nat := n.log2 - 5
/-- whether one of the i lowest figures is 1 -/
def ro (n i : Nat) : Nat := if n % 2 ^ i = 0 then 0 else 1
def lenD (n : Nat) : Nat := n / 2 ^ lk n + ro n (lk n)
theorem lk_small {n : Nat} (h : n < 64) : lk n = 0 := by
  unfold lk
  by_cases e : n = 0
  · rw [e]; decide
  · have : n.log2 < 6 := (Nat.log2_lt e).mpr (by omega)
    omega
theorem lk_end (n : Nat) : n / 2 ^ lk n < 64 := by
  by_cases h : n < 64
  · rw [lk_small h]
    omega
  · have e : n ≠ 0 := by omega
    have h1 : n < 2 ^ (n.log2 + 1) := (Nat.log2_lt e).mp (Nat.lt_succ_self _)
    have h2 : 6 ≤ n.log2 := (Nat.le_log2 e).mpr (by omega)
    rw [Nat.div_lt_iff_lt_mul (Nat.two_pow_pos _)]
    have e2 : n.log2 + 1 = 6 + lk n := by unfold lk; omega
    rw [e2, Nat.pow_add] at h1
    exact h1
theorem lk_before {n i : Nat} (h : i < lk n) : 64 ≤ n / 2 ^ i := by
  have e : n ≠ 0 := fun e => by
    rw [e] at h
    have z : lk 0 = 0 := by decide
    omega
  rw [Nat.le_div_iff_mul_le (Nat.two_pow_pos _)]
  have h1 : 2 ^ n.log2 ≤ n := Nat.log2_self_le e
  have h2 : 6 + i ≤ n.log2 := by unfold lk at h; omega
  calc 64 * 2 ^ i = 2 ^ (6 + i) := by rw [Nat.pow_add]
    _ ≤ 2 ^ n.log2 := Nat.pow_le_pow_right (by decide) h2
    _ ≤ n := h1
theorem lk_low {n : Nat} (h : 64 ≤ n) : 32 ≤ n / 2 ^ lk n := by
  have e : n ≠ 0 := by omega
  rw [Nat.le_div_iff_mul_le (Nat.two_pow_pos _)]
  have h1 : 2 ^ n.log2 ≤ n := Nat.log2_self_le e
  have h2 : 6 ≤ n.log2 := (Nat.le_log2 e).mpr (by omega)
  calc 32 * 2 ^ lk n = 2 ^ (5 + lk n) := by rw [Nat.pow_add]
    _ ≤ 2 ^ n.log2 := Nat.pow_le_pow_right (by decide) (by unfold lk; omega)
    _ ≤ n := h1
theorem ro_le (n i : Nat) : ro n i ≤ 1 := by unfold ro; split <;> decide
theorem ro_zero (n : Nat) : ro n 0 = 0 := by unfold ro; rw [Nat.pow_zero, Nat.mod_one]; rfl
theorem ro_step (n i : Nat) : ro n (i + 1) = if n / 2 ^ i % 2 = 1 then 1 else ro n i := by
  unfold ro
  have h := Nat.mod_pow_succ (b := 2) (k := i) (x := n)
  have h2 : n / 2 ^ i % 2 < 2 := Nat.mod_lt _ (by decide)
  have hp : 0 < 2 ^ i := Nat.two_pow_pos _
  rw [h]
  by_cases e : n / 2 ^ i % 2 = 1
  · rw [if_pos e, e, if_neg (by omega)]
  · rw [if_neg e, show n / 2 ^ i % 2 = 0 by omega, Nat.mul_zero, Nat.add_zero]
theorem lenD_small {n : Nat} (h : n < 64) : lenD n = n := by
  unfold lenD
  rw [lk_small h, ro_zero, Nat.pow_zero, Nat.div_one, Nat.add_zero]
theorem lenD_mid {n : Nat} (h : 64 ≤ n) : 32 ≤ lenD n ∧ lenD n ≤ 64 := by
  have h1 := lk_low h
  have h2 := lk_end n
  have h3 := ro_le n (lk n)
  unfold lenD
  omega
theorem lenD_dbl {n : Nat} (h : 64 ≤ n) : lenD (2 * n) = lenD n := by
  have e : n ≠ 0 := by omega
  have hl : (2 * n).log2 = n.log2 + 1 := by
    have a1 : n < 2 ^ (n.log2 + 1) := (Nat.log2_lt e).mp (Nat.lt_succ_self _)
    have a2 : 2 ^ n.log2 ≤ n := Nat.log2_self_le e
    have b1 : (2 * n).log2 < n.log2 + 2 := (Nat.log2_lt (by omega)).mpr (by rw [Nat.pow_succ]; omega)
    have b2 : n.log2 + 1 ≤ (2 * n).log2 := (Nat.le_log2 (by omega)).mpr (by rw [Nat.pow_succ]; omega)
    omega
  have h2 : 6 ≤ n.log2 := (Nat.le_log2 e).mpr (by omega)
  have hk : lk (2 * n) = lk n + 1 := by unfold lk; omega
  unfold lenD ro
  rw [hk, Nat.pow_succ, Nat.mul_comm (2 ^ lk n) 2, Nat.mul_div_mul_left _ _ (by decide : 0 < 2), Nat.mul_mod_mul_left]
  congr 1
  by_cases z : n % 2 ^ lk n = 0
  · rw [if_pos z, if_pos (by omega)]
  · rw [if_neg z, if_neg (by omega)]
theorem ro_due (n i : Nat) : (if (n : Int) = (n : Int) / 2 ^ i * 2 ^ i then (0 : Int) else 1) = (ro n i : Int) := by
  unfold ro
  have hp : 0 < 2 ^ i := Nat.two_pow_pos _
  have e : ((n : Int) / 2 ^ i * 2 ^ i) = ((n / 2 ^ i * 2 ^ i : Nat) : Int) := by
    rw [Int.natCast_mul, Int.natCast_ediv, Int.natCast_pow]
    rfl
  rw [e]
  have h := Nat.div_add_mod n (2 ^ i)
  rw [Nat.mul_comm] at h
  by_cases z : n % 2 ^ i = 0
  · rw [if_pos z, if_pos (by omega)]
    rfl
  · rw [if_neg z, if_neg (by omega)]
    rfl
/-- whether a value is an int and no bool -/
def IntQ (K : PySem.W.Frag) (H : Hp) (v : V) (b : Bool) : Prop := ∃ t b1 b2, TyX K H v t ∧ PySem.W.kitOne K t (.type "int") = some b1 ∧ PySem.W.kitOne K t (.type "bool") = some b2 ∧ b = (b1 && !b2)
theorem IntQ.int {K : PySem.W.Frag} {H : Hp} (i : Int) : IntQ K H (.int i) true := ⟨_, true, false, .base (.int i), kit_ty (by decide +kernel), kit_ty (by decide +kernel), rfl⟩
theorem IntQ.bl {K : PySem.W.Frag} {H : Hp} (i : Bool) : IntQ K H (.bl i) false := ⟨_, true, true, .base (.bl i), kit_ty (by decide +kernel), kit_ty (by decide +kernel), rfl⟩
theorem IntQ.non {K : PySem.W.Frag} {H : Hp} : IntQ K H .non false := ⟨_, false, false, .base .non, kit_ty (by decide +kernel), kit_ty (by decide +kernel), rfl⟩
theorem IntQ.str {K : PySem.W.Frag} {H : Hp} (x : Str) : IntQ K H (.str x) false := ⟨_, false, false, .base (.str x), kit_ty (by decide +kernel), kit_ty (by decide +kernel), rfl⟩
theorem IntQ.lst {K : PySem.W.Frag} {H : Hp} {a : Addr} {xs : List V} (h : H a = some (.lst xs)) : IntQ K H (.ref a) false := ⟨_, false, false, .base (.lst h), kit_ty (by decide +kernel), kit_ty (by decide +kernel), rfl⟩
theorem IntQ.tup {K : PySem.W.Frag} {H : Hp} {a : Addr} {xs : List V} (h : H a = some (.tup xs)) : IntQ K H (.ref a) false := ⟨_, false, false, .base (.tup h), kit_ty (by decide +kernel), kit_ty (by decide +kernel), rfl⟩
theorem IntQ.dK {K : PySem.W.Frag} {H : Hp} {a : Addr} {xs : List (Key × V)} (h : H a = some (.dK xs)) : IntQ K H (.ref a) false := ⟨_, false, false, .base (.dK h), kit_ty (by decide +kernel), kit_ty (by decide +kernel), rfl⟩
/-- whether a value is an int within bounds -/
def InB (K : PySem.W.Frag) (H : Hp) (v : V) (lo : Int) (m : V) (ok : Bool) : Prop := (IntQ K H v false ∧ ok = false) ∨ (∃ i, v = .int i ∧ ((m = .non ∧ ok = decide (lo ≤ i)) ∨ ∃ hi, m = .int hi ∧ ok = (decide (lo ≤ i) && decide (i ≤ hi))))
theorem InB.yes {K : PySem.W.Frag} {H : Hp} {i lo hi : Int} (h1 : lo ≤ i) (h2 : i ≤ hi) : InB K H (.int i) lo (.int hi) true := .inr ⟨i, rfl, .inr ⟨hi, rfl, by rw [decide_eq_true h1, decide_eq_true h2]; rfl⟩⟩
theorem InB.odd {K : PySem.W.Frag} {H : Hp} {v m : V} {lo : Int} (h : IntQ K H v false) : InB K H v lo m false := .inl ⟨h, rfl⟩
theorem InB.low {K : PySem.W.Frag} {H : Hp} {i lo hi : Int} (h1 : i < lo) : InB K H (.int i) lo (.int hi) false := .inr ⟨i, rfl, .inr ⟨hi, rfl, by rw [decide_eq_false (by omega)]; rfl⟩⟩
theorem InB.high {K : PySem.W.Frag} {H : Hp} {i lo hi : Int} (h1 : hi < i) : InB K H (.int i) lo (.int hi) false := .inr ⟨i, rfl, .inr ⟨hi, rfl, by rw [decide_eq_false (show ¬ i ≤ hi by omega), Bool.and_false]⟩⟩
end L2

namespace K13
open PySem PySem.Spec PyProof.Rows L2
def topS (i : Nat) : Stmt := PySem.Challenge.pw_askedorder_k13_least_lengths.main.body.getD i (.Pass ⟨0, 0, 0, 0⟩)
abbrev s_InvalidNumber___init__ : Stmt := inClass (topS 2) 0
abbrev N_InvalidNumber___init__ : List Str := ["self", "name"]
abbrev P_InvalidNumber___init__ : List Str := ["self", "name"]
theorem sc_InvalidNumber___init__ : FnScope N_InvalidNumber___init__ P_InvalidNumber___init__ (defScope s_InvalidNumber___init__) := ⟨rfl, rfl, rfl, by decide +kernel, rfl, by decide +kernel, by decide +kernel⟩
abbrev s_is_integer : Stmt := topS 5
abbrev N_is_integer : List Str := ["value"]
abbrev P_is_integer : List Str := ["value"]
theorem sc_is_integer : FnScope N_is_integer P_is_integer (defScope s_is_integer) := ⟨rfl, rfl, rfl, by decide +kernel, rfl, by decide +kernel, by decide +kernel⟩
abbrev s_is_within : Stmt := topS 6
abbrev N_is_within : List Str := ["value", "least", "most"]
abbrev P_is_within : List Str := ["value", "least", "most"]
theorem sc_is_within : FnScope N_is_within P_is_within (defScope s_is_within) := ⟨rfl, rfl, rfl, by decide +kernel, rfl, by decide +kernel, by decide +kernel⟩
abbrev s_check_number : Stmt := topS 7
abbrev N_check_number : List Str := ["name", "value", "least", "most"]
abbrev P_check_number : List Str := ["name", "value", "least", "most"]
theorem sc_check_number : FnScope N_check_number P_check_number (defScope s_check_number) := ⟨rfl, rfl, rfl, by decide +kernel, rfl, by decide +kernel, by decide +kernel⟩
abbrev s_least_length : Stmt := topS 10
abbrev N_least_length : List Str := ["many", "rounded_off"]
abbrev P_least_length : List Str := ["many"]
theorem sc_least_length : FnScope N_least_length P_least_length (defScope s_least_length) := ⟨rfl, rfl, rfl, by decide +kernel, rfl, by decide +kernel, by decide +kernel⟩
abbrev s_source : Stmt := topS 12
abbrev N_source : List Str := ["cell"]
abbrev P_source : List Str := ["cell"]
theorem sc_source : FnScope N_source P_source (defScope s_source) := ⟨rfl, rfl, rfl, by decide +kernel, rfl, by decide +kernel, by decide +kernel⟩
abbrev s_draw : Stmt := topS 13
abbrev N_draw : List Str := ["source", "size", "digit", "mixed"]
abbrev P_draw : List Str := ["source", "size"]
theorem sc_draw : FnScope N_draw P_draw (defScope s_draw) := ⟨rfl, rfl, rfl, by decide +kernel, rfl, by decide +kernel, by decide +kernel⟩
abbrev s_pick : Stmt := topS 14
abbrev N_pick : List Str := ["source", "items"]
abbrev P_pick : List Str := ["source", "items"]
theorem sc_pick : FnScope N_pick P_pick (defScope s_pick) := ⟨rfl, rfl, rfl, by decide +kernel, rfl, by decide +kernel, by decide +kernel⟩
abbrev s_due : Stmt := topS 15
abbrev N_due : List Str := ["number", "low"]
abbrev P_due : List Str := ["number"]
theorem sc_due : FnScope N_due P_due (defScope s_due) := ⟨rfl, rfl, rfl, by decide +kernel, rfl, by decide +kernel, by decide +kernel⟩
abbrev s_is_right : Stmt := topS 16
abbrev N_is_right : List Str := ["number", "due"]
abbrev P_is_right : List Str := ["number"]
theorem sc_is_right : FnScope N_is_right P_is_right (defScope s_is_right) := ⟨rfl, rfl, rfl, by decide +kernel, rfl, by decide +kernel, by decide +kernel⟩
abbrev s_error : Stmt := topS 17
abbrev N_error : List Str := ["number", "e"]
abbrev P_error : List Str := ["number"]
theorem sc_error : FnScope N_error P_error (defScope s_error) := ⟨rfl, rfl, rfl, by decide +kernel, rfl, by decide +kernel, by decide +kernel⟩
abbrev s_law : Stmt := topS 18
abbrev N_law : List Str := ["script", "number", "cell", "source", "some", "high", "low", "odd"]
abbrev P_law : List Str := ["script"]
theorem sc_law : FnScope N_law P_law (defScope s_law) := ⟨rfl, rfl, rfl, by decide +kernel, rfl, by decide +kernel, by decide +kernel⟩
def kg_least_length_0_many {α : Type} : List α → List α → List α
  | [], [a] => [a]
  | _, _ => []
theorem kg_vals_least_length_0_many : ∀ {vs zs : List V} {us ws : List Value}, Vals vs us → Vals zs ws → Vals (kg_least_length_0_many vs zs) (kg_least_length_0_many us ws)
  | _, _, _, _, .nil, .cons r_a .nil => .cons r_a .nil
  | _, _, _, _, .cons _ _, _ => .nil
  | _, _, _, _, .nil, .nil => .nil
  | _, _, _, _, .nil, .cons _ (.cons _ _) => .nil
structure Ad where
  (InvalidNumber___init__ : Addr) (is_integer : Addr) (is_within : Addr) (check_number : Addr) (least_length : Addr) (source : Addr) (draw : Addr) (pick : Addr) (due : Addr) (is_right : Addr) (error : Addr) (law : Addr) (t_GREATEST_ROW : Tok) (t_LEAST_HALVED : Tok) (c_InvalidNumber : Addr) (c_SortError : Addr)
structure Fd where
  (InvalidNumber___init__ : FuncData) (is_integer : FuncData) (is_within : FuncData) (check_number : FuncData) (least_length : FuncData) (source : FuncData) (draw : FuncData) (pick : FuncData) (due : FuncData) (is_right : FuncData) (error : FuncData) (law : FuncData)
/-- what the top has written -/
structure Txt (K : PySem.W.Frag) (mg : Str → Option Value) (a : Ad) (d : Fd) : Prop where
  f_InvalidNumber___init__ : Fun K "__init__" "InvalidNumber.__init__" s_InvalidNumber___init__ a.InvalidNumber___init__ d.InvalidNumber___init__
  b_InvalidNumber___init__ : Binds K d.InvalidNumber___init__ P_InvalidNumber___init__ []
  g_is_integer : mg "is_integer" = some (.ref a.is_integer)
  k_is_integer : PySem.W.keepIn K (.ref a.is_integer) = true
  f_is_integer : Fun K "is_integer" "is_integer" s_is_integer a.is_integer d.is_integer
  b_is_integer : Binds K d.is_integer P_is_integer []
  g_is_within : mg "is_within" = some (.ref a.is_within)
  k_is_within : PySem.W.keepIn K (.ref a.is_within) = true
  f_is_within : Fun K "is_within" "is_within" s_is_within a.is_within d.is_within
  b_is_within : Binds K d.is_within P_is_within []
  g_check_number : mg "check_number" = some (.ref a.check_number)
  k_check_number : PySem.W.keepIn K (.ref a.check_number) = true
  f_check_number : FunV K "check_number" "check_number" s_check_number a.check_number d.check_number
  b_check_number : Binds K d.check_number P_check_number []
  g_least_length : mg "least_length" = some (.ref a.least_length)
  k_least_length : PySem.W.keepIn K (.ref a.least_length) = true
  f_least_length : Fun K "least_length" "least_length" s_least_length a.least_length d.least_length
  b_least_length : Binds K d.least_length P_least_length []
  kn_least_length_0_many : KBn K d.least_length P_least_length 0 ["many"] (fun us ws => kg_least_length_0_many us ws) (fun us ws => kg_least_length_0_many us ws)
  g_source : mg "_law_source" = some (.ref a.source)
  k_source : PySem.W.keepIn K (.ref a.source) = true
  f_source : Fun K "_law_source" "_law_source" s_source a.source d.source
  b_source : Binds K d.source P_source []
  g_draw : mg "_law_draw" = some (.ref a.draw)
  k_draw : PySem.W.keepIn K (.ref a.draw) = true
  f_draw : Fun K "_law_draw" "_law_draw" s_draw a.draw d.draw
  b_draw : Binds K d.draw P_draw []
  g_pick : mg "_law_pick" = some (.ref a.pick)
  k_pick : PySem.W.keepIn K (.ref a.pick) = true
  f_pick : Fun K "_law_pick" "_law_pick" s_pick a.pick d.pick
  b_pick : Binds K d.pick P_pick []
  g_due : mg "_law_due" = some (.ref a.due)
  k_due : PySem.W.keepIn K (.ref a.due) = true
  f_due : Fun K "_law_due" "_law_due" s_due a.due d.due
  b_due : Binds K d.due P_due []
  g_is_right : mg "_law_is_right" = some (.ref a.is_right)
  k_is_right : PySem.W.keepIn K (.ref a.is_right) = true
  f_is_right : Fun K "_law_is_right" "_law_is_right" s_is_right a.is_right d.is_right
  b_is_right : Binds K d.is_right P_is_right []
  g_error : mg "_law_error" = some (.ref a.error)
  k_error : PySem.W.keepIn K (.ref a.error) = true
  f_error : Fun K "_law_error" "_law_error" s_error a.error d.error
  b_error : Binds K d.error P_error []
  g_law : mg "law" = some (.ref a.law)
  k_law : PySem.W.keepIn K (.ref a.law) = true
  f_law : Fun K "law" "law" s_law a.law d.law
  b_law : Binds K d.law P_law []
  g_GREATEST_ROW : mg "GREATEST_ROW" = some (.int 1000000000000000000000000000000 a.t_GREATEST_ROW)
  g_LEAST_HALVED : mg "LEAST_HALVED" = some (.int 64 a.t_LEAST_HALVED)
  z_abs : mg "abs" = none
  z_bool : mg "bool" = none
  z_int : mg "int" = none
  z_isinstance : mg "isinstance" = none
  z_len : mg "len" = none
  z_range : mg "range" = none
  x_InvalidNumber : ExC K mg a.c_InvalidNumber a.InvalidNumber___init__ "InvalidNumber" "name"
  xb : ExB K mg a.c_SortError "SortError"
/-! keywords -/
theorem kbn_least_length_0_many {K : PySem.W.Frag} {f : Addr} {fd : FuncData} (F : Fun K "least_length" "least_length" s_least_length f fd) : KBn K fd P_least_length 0 ["many"] (fun us ws => kg_least_length_0_many us ws) (fun us ws => kg_least_length_0_many us ws) := by
  obtain ⟨oc, od, kV, doc, pm, an, cdv, ct, osl, rfl, lk, hcd⟩ := F.ex
  refine ⟨fun s us ws _ h1 h2 => ?_, fun {vs us zs ws} r1 r2 => ?_⟩
  · match us, ws, h1, h2 with
    | [], [_], _, _ => exact .of_eq rfl
  · exact kg_vals_least_length_0_many r1 r2
end K13

namespace K13
open PySem PySem.Spec PyProof.Rows L2
def spIsIntX (K : PySem.W.Frag) : Sp := fun vs H Q _ => ∃ v b, vs = [v] ∧ IntQ K H v b ∧ Q (.bl b) H
def spWithinX (K : PySem.W.Frag) : Sp := fun vs H Q _ => ∃ v lo m ok, vs = [v, .int lo, m] ∧ InB K H v lo m ok ∧ Q (.bl ok) H
section
variable {P : Program} {w : World} {K : PySem.W.Frag} {mg : Str → Option Value} {base : Heap} {a : Ad} {d : Fd}
theorem ok_is_integer (T : Txt K mg a d) : FnOk P w K mg base CX0 1 a.is_integer d.is_integer P_is_integer (spIsIntX K) := by
  refine T.f_is_integer.ok sc_is_integer (fun vs H Q E h => ?_) (fun cdv A outer s H vs Q E hr h => ?_)
  · obtain ⟨v, b, rfl, _⟩ := h
    rfl
  · obtain ⟨v, b, rfl, ⟨t, b1, b2, ty, k1, k2, rfl⟩, q⟩ := h
    refine ⟨_, (pss_one (ps_ret (pe_and (pe_callB call_isi (by rfl) T.z_isinstance (by decide +kernel) (pa_cons (pv 0) (pa_cons (pe_bltn (v := .ty "int") (u := .type "int") (by rfl) T.z_int (by decide +kernel) rfl) pa_nil))) (pe_one (pe_not (pe_callB call_isi (by rfl) T.z_isinstance (by decide +kernel) (pa_cons (pv 0) (pa_cons (pe_bltn (v := .ty "bool") (u := .type "bool") (by rfl) T.z_bool (by decide +kernel) rfl) pa_nil)))))))), ?_⟩
    refine ⟨_, rfl, v, .ty "int", t, .type "int", b1, rfl, .ty _, ty, k1, b1, rfl, ?_⟩
    cases b1 with
    | false => exact iteF q
    | true => exact iteT ⟨_, rfl, v, .ty "bool", t, .type "bool", b2, rfl, .ty _, ty, k2, b2, rfl, q⟩
theorem ok_is_within (T : Txt K mg a d) : FnOk P w K mg base CX0 2 a.is_within d.is_within P_is_within (spWithinX K) := by
  have G_is_integer : FnOk P w K mg base CX0 1 a.is_integer d.is_integer P_is_integer (spIsIntX K) := ok_is_integer T
  refine T.f_is_within.ok sc_is_within (fun vs H Q E h => ?_) (fun cdv A outer s H vs Q E hr h => ?_)
  · obtain ⟨v, lo, m, ok, rfl, _⟩ := h
    rfl
  · obtain ⟨v, lo, m, ok, rfl, hb, q⟩ := h
    refine ⟨_, (pss_one (ps_ret (pe_and (pe_call G_is_integer (hr.mono (by decide)) (by rfl) T.g_is_integer T.k_is_integer T.b_is_integer .nil pass0 (pa_cons (pv 0) pa_nil)) (pe_and (pe_cmpR op_ge (pv 0) (pv 1) (nomark _)) (pe_one (pe_or (pe_cmpR op_isN (pv 2) pe_non (nomark _)) (pe_one (pe_cmpR op_le (pv 0) (pv 2) (nomark _))))))))), ?_⟩
    rcases hb with ⟨hq, rfl⟩ | ⟨i, rfl, hb⟩
    · exact ⟨_, rfl, v, false, rfl, hq, false, rfl, iteF q⟩
    · refine ⟨_, rfl, _, true, rfl, IntQ.int i, true, rfl, iteT ?_⟩
      refine ⟨_, rfl, _, rfl, i, lo, rfl, rfl, decide (lo ≤ i), rfl, ?_⟩
      rcases hb with ⟨rfl, rfl⟩ | ⟨hi, rfl, rfl⟩
      · cases e : decide (lo ≤ i) with
        | false => rw [e] at q; exact iteF q
        | true => rw [e] at q; exact iteT ⟨_, rfl, rfl, true, rfl, iteT q⟩
      · cases e : decide (lo ≤ i) with
        | false => rw [e] at q; exact iteF q
        | true =>
          rw [e] at q
          exact iteT ⟨_, rfl, rfl, false, rfl, iteF ⟨_, rfl, _, rfl, i, hi, rfl, rfl, q⟩⟩
end

/-- a number that is checked: none is refused without its name -/
def spCheckNumberX (K : PySem.W.Frag) (C : Addr) : Sp := fun vs H Q E => ∃ (nm : Str) (v : V) (lo : Int) (m : V) (ok : Bool), vs = [.str nm, v, .int lo, m] ∧ InB K H v lo m ok ∧ (ok = true → Q .non H) ∧
  (ok = false → ∀ (dx : Addr) (H' : Hp), Same H H' → H dx = none → H' dx = some (.xd [("name", .str nm)]) → E (.ref C) (some dx) H')
section
variable {P : Program} {w : World} {K : PySem.W.Frag} {mg : Str → Option Value} {base : Heap} {a : Ad} {d : Fd}
theorem ok_err_number (T : Txt K mg a d) : FnOk P w K mg base CX0 1 a.InvalidNumber___init__ d.InvalidNumber___init__ P_InvalidNumber___init__ (spErr a.c_InvalidNumber "name") := by
  refine T.f_InvalidNumber___init__.ok sc_InvalidNumber___init__ (fun vs H Q E h => ?_) (fun cdv A outer s H vs Q E hr h => ?_)
  · obtain ⟨e, v, rfl, _⟩ := h
    rfl
  · obtain ⟨e, v, rfl, he, q⟩ := h
    refine ⟨_, (pss_cons (ps_expr (pe_baseinit (by rfl) T.xb.g T.xb.r1 T.xb.r2 T.xb.vi (pa_cons (pv 0) (pa_cons pe_str pa_nil))))
    (pss_one (ps_ost (pv 0) (pv 1)))), ?_⟩
    refine ⟨_, rfl, e, a.c_InvalidNumber, _, rfl, by show 1 ≤ 1000; decide, T.x_InvalidNumber.ox, he, ?_⟩
    exact ⟨_, rfl, _, rfl, e, a.c_InvalidNumber, rfl, T.x_InvalidNumber.ox, T.x_InvalidNumber.no, .inl ⟨he, fun dx hd ne => q dx hd ne⟩⟩
theorem ok_check_number (T : Txt K mg a d) : FnOk P w K mg base (L2.CX P w) 3 a.check_number d.check_number P_check_number (spCheckNumberX K a.c_InvalidNumber) := by
  have G_InvalidNumber___init__ : FnOk P w K mg base CX0 1 a.InvalidNumber___init__ d.InvalidNumber___init__ P_InvalidNumber___init__ (spErr a.c_InvalidNumber "name") := ok_err_number T
  have G_is_within : FnOk P w K mg base CX0 2 a.is_within d.is_within P_is_within (spWithinX K) := ok_is_within T
  refine T.f_check_number.okX sc_check_number (fun vs H Q E h => ?_) (fun cdv A outer s H vs Q E hr h => ?_)
  · obtain ⟨nm, v, lo, m, ok, rfl, _⟩ := h
    rfl
  · obtain ⟨nm, v, lo, m, ok, rfl, hb, q, qx⟩ := h
    refine ⟨_, (pss_one (ps_if (pt_not (pt_val (pe_call G_is_within (hr.mono (by decide)) (by rfl) T.g_is_within T.k_is_within T.b_is_within .nil pass0 (pa_cons (pv 1) (pa_cons (pv 2) (pa_cons (pv 3) pa_nil)))))) (pss_one (ps_raise rfl (takes_of rfl rfl rfl rfl) (pmk_oex T.x_InvalidNumber.ox T.x_InvalidNumber.ii T.x_InvalidNumber.ti G_InvalidNumber___init__ (hr.mono (by decide)) T.b_InvalidNumber___init__ .nil pass0 (by rfl) T.x_InvalidNumber.g (pa_cons (pv 0) pa_nil)))) pss_nil)), ?_⟩
    refine ⟨_, rfl, _, rfl, _, rfl, v, lo, m, ok, rfl, hb, ok, rfl, ?_⟩
    cases ok with
    | true => exact iteF (q rfl)
    | false =>
      refine iteT ⟨_, rfl, by show 1 ≤ 1000; decide, fun e heN => ⟨e, _, rfl, upd_same, fun dx hdx ne => ⟨rfl, dx, [("name", .str nm)], upd_same, ?_, ?_, ?_⟩⟩⟩
      · rw [upd_ne ne, upd_same]
      · rw [upd_ne ne] at hdx
        exact hdx
      · rw [upd_ne ne] at hdx
        refine qx rfl dx _ (fun b o h => ?_) hdx upd_same
        have nbd : b ≠ dx := ne_of_none h hdx
        have nbe : b ≠ e := ne_of_none h heN
        rw [upd_ne nbd, del_ne nbe, upd_ne nbe, upd_ne nbd, upd_ne nbe]
        exact h
end

end K13

namespace K13
open PySem PySem.Spec PyProof.Rows L2
def spLeast (K : PySem.W.Frag) (C : Addr) : Sp := fun vs H Q E => ∃ (v : V) (ok : Bool), vs = [v] ∧ InB K H v 0 (.int (10 ^ 30)) ok ∧ (ok = true → ∀ n : Nat, v = .int (n : Int) → Q (.int (lenD n : Nat)) H) ∧
  (ok = false → ∀ (dx : Addr) (H' : Hp), Same H H' → H dx = none → H' dx = some (.xd [("name", .str "many")]) → E (.ref C) (some dx) H')
section
variable {P : Program} {w : World} {K : PySem.W.Frag} {mg : Str → Option Value} {base : Heap} {a : Ad} {d : Fd}
theorem ok_least (T : Txt K mg a d) : FnOk P w K mg base (L2.CX P w) 4 a.least_length d.least_length P_least_length (spLeast K a.c_InvalidNumber) := by
  have G_check_number : FnOk P w K mg base (L2.CX P w) 3 a.check_number d.check_number P_check_number (spCheckNumberX K a.c_InvalidNumber) := ok_check_number T
  refine T.f_least_length.okX sc_least_length (fun vs H Q E h => ?_) (fun cdv A outer s H vs Q E hr h => ?_)
  · obtain ⟨v, ok, rfl, _⟩ := h
    rfl
  · obtain ⟨v, ok, rfl, hb, q, qx⟩ := h
    refine ⟨_, (pss_cons (ps_expr (pe_callS G_check_number (hr.mono (by decide)) (by rfl) T.g_check_number T.k_check_number T.b_check_number (fun σ => passAt (takes_of rfl rfl rfl rfl) σ) (pa_cons pe_str (pa_cons (pv 0) (pa_cons pe_int (pa_cons (pe_glob (v := .int 1000000000000000000000000000000) rfl T.g_GREATEST_ROW ⟨_, rfl⟩) pa_nil))))))
    (pss_cons (ps_set (i := 1) sc_least_length.nd rfl (Or.inl rfl) pe_int)
    (pss_cons (ps_while (passes_of rfl) (pt_cmpR op_ge (pv 0) (pe_glob (v := .int 64) rfl T.g_LEAST_HALVED ⟨_, rfl⟩) (nomark _))
      (pss_cons (ps_if (pt_cmpR op_eq (pe_op op_mod (pv 0) pe_int) pe_int (nomark _)) (pss_one (ps_set (i := 1) sc_least_length.nd rfl (Or.inl rfl) pe_int)) pss_nil)
        (pss_one (ps_aug (i := 0) sc_least_length.nd rfl (Or.inl rfl) pe_int iop_fdivW))))
    (pss_one (ps_ret (pe_op op_add (pv 0) (pv 1))))))), ?_⟩
    refine ⟨_, rfl, "many", v, 0, .int (10 ^ 30), ok, rfl, hb, fun e => ?_, qx⟩
    subst e
    obtain ⟨n, rfl⟩ : ∃ n : Nat, v = .int (n : Int) := by
      rcases hb with ⟨_, e⟩ | ⟨i, rfl, ⟨e, _⟩ | ⟨hi, e, e2⟩⟩
      · cases e
      · cases e
      · have h0 : 0 ≤ i := by
          by_cases h : 0 ≤ i
          · exact h
          · rw [decide_eq_false h] at e2; cases e2
        exact ⟨i.toNat, by rw [Int.toNat_of_nonneg h0]⟩
    have qn := q rfl n rfl
    refine while_by (fun σ H' => H' = H ∧ ∃ i, i ≤ lk n ∧ σ = [some (.int ((n / 2 ^ i : Nat) : Int)), some (.int (ro n i : Nat))]) (fun σ _ => match σ with
      | some (.int z) :: _ => z.toNat
      | _ => 0) ⟨rfl, 0, Nat.zero_le _, by rw [ro_zero, Nat.pow_zero, Nat.div_one]; rfl⟩ ?_ ?_
    · rintro σ _ ⟨rfl, i, hi, rfl⟩
      refine ⟨_, rfl, _, _, rfl, rfl, decide (i < lk n), ?_, ?_⟩
      · refine congrArg V.bl (decide_eq_decide.mpr ⟨fun h => ?_, fun h => ?_⟩)
        · rcases Nat.lt_or_ge i (lk n) with h2 | h2
          · exact h2
          · have e : i = lk n := by omega
            have := lk_end n
            rw [e] at h
            omega
        · have := lk_before h
          omega
      · by_cases h : i < lk n
        · rw [decide_eq_true h]
          refine iteT ?_
          have big := lk_before h
          have e2 : ((n / 2 ^ i : Nat) : Int) % 2 = ((n / 2 ^ i % 2 : Nat) : Int) := by omega
          have e3 : ((n / 2 ^ i : Nat) : Int) / 2 = ((n / 2 ^ (i + 1) : Nat) : Int) := by
            rw [Nat.pow_succ, ← Nat.div_div_eq_div_mul]
            omega
          have step : ∀ (z : Int), z = (ro n (i + 1) : Nat) → (V.int (((n / 2 ^ i : Nat) : Int) / 2) = V.int ((n / 2 ^ (i + 1) : Nat) : Int) ∧ V.int z = V.int (ro n (i + 1) : Nat)) := fun z hz => ⟨by rw [e3], by rw [hz]⟩
          have lt : ((n / 2 ^ (i + 1) : Nat) : Int).toNat < ((n / 2 ^ i : Nat) : Int).toNat := by
            rw [Nat.pow_succ, ← Nat.div_div_eq_div_mul]
            omega
          refine ⟨_, rfl, _, _, rfl, rfl, by show (0 : Int) < 2; decide, rfl, _, rfl, ?_⟩
          refine ite2 (fun hodd => ?_) (fun heven => ?_)
          · have o : n / 2 ^ i % 2 = 1 := by
              have := V.int.inj (of_decide_eq_true hodd)
              rw [e2] at this
              omega
            have er : ro n (i + 1) = 1 := by rw [ro_step, if_pos o]
            refine ⟨_, rfl, _, _, rfl, rfl, wide_div (b := 64) (by decide) (by decide) (by decide) (by decide), ⟨rfl, i + 1, h, ?_⟩, ?_⟩
            · show [some (V.int (((n / 2 ^ i : Nat) : Int) / 2)), some (V.int 1)] = _
              rw [e3, er]
              rfl
            · show (((n / 2 ^ i : Nat) : Int) / 2).toNat < _
              rw [e3]
              exact lt
          · have o : ¬ n / 2 ^ i % 2 = 1 := fun o => by
              refine absurd (decide_eq_true ?_) heven
              show V.int (((n / 2 ^ i : Nat) : Int) % 2) = V.int 1
              rw [e2, o]
              rfl
            have er : ro n (i + 1) = ro n i := by rw [ro_step, if_neg o]
            refine ⟨_, rfl, _, _, rfl, rfl, wide_div (b := 64) (by decide) (by decide) (by decide) (by decide), ⟨rfl, i + 1, h, ?_⟩, ?_⟩
            · show [some (V.int (((n / 2 ^ i : Nat) : Int) / 2)), some (V.int (ro n i : Nat))] = _
              rw [e3, er]
            · show (((n / 2 ^ i : Nat) : Int) / 2).toNat < _
              rw [e3]
              exact lt
        · have e : i = lk n := by omega
          rw [decide_eq_false h]
          refine iteF ⟨_, rfl, _, rfl, _, _, rfl, rfl, ?_⟩
          rw [e]
          show Q (.int (((n / 2 ^ lk n : Nat) : Int) + (ro n (lk n) : Nat))) _
          rw [← Int.natCast_add]
          exact qn
    · rintro σ H' Q1 Q2 hq ⟨v, h1, x, y, h2, h3, b, h4, h5⟩
      exact ⟨v, h1, x, y, h2, h3, b, h4, hq _ _ h5⟩
end

end K13

namespace K13
open PySem PySem.Spec PyProof.Rows L2
def spDue : Sp := fun vs H Q _ => ∃ n : Nat, vs = [.int (n : Int)] ∧ n < 2 ^ 200 ∧ Q (.int (lenD n : Nat)) H
def spIsRight : Sp := fun vs H Q _ => ∃ n : Nat, vs = [.int (n : Int)] ∧ n ≤ 10 ^ 30 ∧ Q (.bl true) H
def spError (K : PySem.W.Frag) : Sp := fun vs H Q _ => ∃ v : V, vs = [v] ∧ InB K H v 0 (.int (10 ^ 30)) false ∧ ∀ H', Same H H' → Q (.str "many") H'
theorem bits_nat (n : Nat) : (Builtin.Int.intBits (n : Int) : Int) - 6 ≤ 0 ↔ lk n = 0 := by
  unfold Builtin.Int.intBits lk
  by_cases e : n = 0
  · subst e
    exact ⟨fun _ => by decide, fun _ => by decide⟩
  · rw [if_neg (by simpa using e), Int.natAbs_natCast]
    omega
theorem bits_lk {n : Nat} (h : lk n ≠ 0) : (Builtin.Int.intBits (n : Int) : Int) - 6 = (lk n : Int) := by
  have e : n ≠ 0 := fun e => h (by rw [e]; decide)
  unfold lk at h ⊢
  unfold Builtin.Int.intBits
  rw [if_neg (by simpa using e), Int.natAbs_natCast]
  omega
theorem shl_ok {i : Int} {a k : Nat} (h : i.natAbs < 2 ^ a) (h2 : a + k ≤ 1000000) : CShl i (k : Int) := by
  refine ⟨Int.natCast_nonneg _, ?_⟩
  have b : Builtin.Int.intBits i ≤ a + 1 := by
    unfold Builtin.Int.intBits
    split
    · omega
    · rename_i e
      have : i.natAbs ≠ 0 := fun z => e (by simpa using Int.natAbs_eq_zero.mp z)
      have := (Nat.log2_lt this).mpr h
      omega
  omega
section
variable {P : Program} {w : World} {K : PySem.W.Frag} {mg : Str → Option Value} {base : Heap} {a : Ad} {d : Fd}
theorem ok_due (T : Txt K mg a d) : FnOk P w K mg base CX0 1 a.due d.due P_due spDue := by
  refine T.f_due.ok sc_due (fun vs H Q E h => ?_) (fun cdv A outer s H vs Q E hr h => ?_)
  · obtain ⟨n, rfl, _⟩ := h
    rfl
  · obtain ⟨n, rfl, nb, q⟩ := h
    refine ⟨_, (pss_cons (ps_set (i := 1) sc_due.nd rfl (Or.inl rfl) (pe_op op_sub (pe_bits (pv 0)) pe_int))
    (pss_cons (ps_if (pt_cmpR op_le (pv 1) pe_int (nomark _)) (pss_one (ps_ret (pv 0))) pss_nil)
    (pss_one (ps_ret (pe_op op_add (pe_op op_shrN (pv 0) (pv 1)) (pe_callTy call_int1 (by rfl) T.z_int (by decide +kernel) (pa_cons (pe_cmpR op_ne (pv 0) (pe_op op_shlN (pe_op op_shrN (pv 0) (pv 1)) (pv 1)) (nomark _)) pa_nil))))))), ?_⟩
    refine ⟨_, rfl, _, rfl, _, _, rfl, rfl, ?_⟩
    refine ⟨_, rfl, _, _, rfl, rfl, _, rfl, ite2 (fun h1 => ?_) (fun h1 => ?_)⟩
    · have e := (bits_nat n).mp (of_decide_eq_true h1)
      refine ⟨_, rfl, ?_⟩
      have e2 : lenD n = n := by
        unfold lenD
        rw [e, ro_zero, Nat.pow_zero, Nat.div_one, Nat.add_zero]
      rw [e2] at q
      exact q
    · have e : lk n ≠ 0 := fun e => by
        have := decide_eq_true ((bits_nat n).mpr e)
        rw [this] at h1
        exact h1 rfl
      have eb := bits_lk e
      have sm : ((n : Int) / 2 ^ lk n).natAbs < 2 ^ 200 := by
        have e3 : ((n : Int) / 2 ^ lk n) = ((n / 2 ^ lk n : Nat) : Int) := by
          rw [Int.natCast_ediv, Int.natCast_pow]
          rfl
        rw [e3, Int.natAbs_natCast]
        exact Nat.lt_of_le_of_lt (Nat.div_le_self _ _) nb
      have lkb : lk n ≤ 200 := by
        unfold lk
        by_cases z : n = 0
        · rw [z]; decide
        · have := (Nat.log2_lt z).mpr nb
          omega
      refine ⟨_, rfl, _, rfl, n, lk n, rfl, congrArg V.int eb, _, rfl, _, rfl, _, rfl, n, lk n, rfl, congrArg V.int eb, _, rfl, _, lk n, rfl, congrArg V.int eb, shl_ok sm (by omega), rfl, .inr ⟨_, rfl, _, _, rfl, rfl, ?_⟩⟩
      have e4 := ro_due n (lk n)
      have e5 : ((n : Int) / 2 ^ lk n) = ((n / 2 ^ lk n : Nat) : Int) := by
        rw [Int.natCast_ediv, Int.natCast_pow]
        rfl
      have e6 : (if (!decide (V.int (n : Int) = V.int ((n : Int) / 2 ^ lk n * 2 ^ lk n))) = true then (1 : Int) else 0) = (ro n (lk n) : Int) := by
        rw [← e4]
        by_cases z : (n : Int) = (n : Int) / 2 ^ lk n * 2 ^ lk n
        · rw [if_pos z, if_neg]
          rw [decide_eq_true (congrArg V.int z)]
          decide
        · rw [if_neg z, if_pos]
          rw [decide_eq_false (fun y => z (V.int.inj y))]
          rfl
      show Q (.int ((n : Int) / 2 ^ lk n + (if (!decide (V.int (n : Int) = V.int ((n : Int) / 2 ^ lk n * 2 ^ lk n))) = true then (1 : Int) else 0))) H
      rw [e6, e5, ← Int.natCast_add]
      exact q
theorem ok_is_right (T : Txt K mg a d) : FnOk P w K mg base CX0 5 a.is_right d.is_right P_is_right spIsRight := by
  have G_due : FnOk P w K mg base CX0 1 a.due d.due P_due spDue := ok_due T
  have G_least_length : FnOk P w K mg base (L2.CX P w) 4 a.least_length d.least_length P_least_length (spLeast K a.c_InvalidNumber) := ok_least T
  refine T.f_is_right.ok sc_is_right (fun vs H Q E h => ?_) (fun cdv A outer s H vs Q E hr h => ?_)
  · obtain ⟨n, rfl, _⟩ := h
    rfl
  · obtain ⟨n, rfl, nb, q⟩ := h
    refine ⟨_, (pss_cons (ps_set (i := 1) sc_is_right.nd rfl (Or.inl rfl) (pe_call G_due (hr.mono (by decide)) (by rfl) T.g_due T.k_due T.b_due .nil pass0 (pa_cons (pv 0) pa_nil)))
    (pss_cons (ps_if (PW.pt (pw_or (pt_cmpR op_ne (pe_call G_least_length (hr.mono (by decide)) (by rfl) T.g_least_length T.k_least_length T.b_least_length .nil passL (pa_cons (pv 0) pa_nil)) (pv 1) (nomark _)) (pw_or1 (pt_cmpR op_ne (pe_callN0 G_least_length (hr.mono (by decide)) (by rfl) T.g_least_length T.k_least_length T.kn_least_length_0_many passL (pk_cons (pv 0) pk_nil)) (pv 1) (nomark _))))) (pss_one (ps_ret pe_bl)) pss_nil)
    (pss_cons (ps_if (pt_cmpR op_lt (pv 0) pe_int (nomark _)) (pss_one (ps_ret (pe_cmpR op_eq (pv 1) (pv 0) (nomark _)))) pss_nil)
    (pss_one (ps_ret (pe_and (pe_chain op_le op_le pe_int (pv 1) pe_int) (pe_one (pe_or (pe_cmpR op_gt (pe_op op_mul pe_int (pv 0)) (pe_op op_powW pe_int pe_int) (nomark _)) (pe_one (pe_cmpR op_eq (pe_call G_least_length (hr.mono (by decide)) (by rfl) T.g_least_length T.k_least_length T.b_least_length .nil passL (pa_cons (pe_op op_mul pe_int (pv 0)) pa_nil)) (pv 1) (nomark _))))))))))), ?_⟩
    have nb2 : n < 2 ^ 200 := Nat.lt_of_le_of_lt nb (by decide)
    have inb : ∀ {m : Nat}, m ≤ 10 ^ 30 → InB K H (.int (m : Int)) 0 (.int (10 ^ 30)) true := fun {m} hm => .yes (Int.natCast_nonneg _) (by have : (m : Int) ≤ ((10 ^ 30 : Nat) : Int) := Int.ofNat_le.mpr hm; exact this)
    refine ⟨_, rfl, n, rfl, nb2, ?_⟩
    have same : ∀ z : Int, (!decide (V.int z = V.int z)) = false := fun z => by rw [decide_eq_true rfl]; rfl
    refine ⟨_, rfl, _, true, rfl, inb nb, fun _ k1 e1 => ?_, fun e => Bool.noConfusion e⟩
    obtain rfl : n = k1 := Int.ofNat.inj (V.int.inj e1)
    refine ⟨_, rfl, rfl, false, congrArg V.bl (same _), iteF ?_⟩
    refine ⟨_, rfl, rfl, _, true, rfl, inb nb, fun _ k1 e1 => ?_, fun e => Bool.noConfusion e⟩
    obtain rfl : n = k1 := Int.ofNat.inj (V.int.inj e1)
    refine ⟨_, rfl, rfl, false, congrArg V.bl (same _), iteF ?_⟩
    refine ⟨_, rfl, _, _, rfl, rfl, _, rfl, ite2 (fun h1 => ?_) (fun h1 => ?_)⟩
    · have h2 : n < 64 := by have := of_decide_eq_true h1; omega
      refine ⟨_, rfl, _, rfl, rfl, ?_⟩
      rw [lenD_small h2, decide_eq_true rfl]
      exact q
    · have h2 : 64 ≤ n := by
        rcases Nat.lt_or_ge n 64 with h | h
        · rw [decide_eq_true (by omega)] at h1
          exact absurd rfl h1
        · exact h
      obtain ⟨m1, m2⟩ := lenD_mid h2
      refine ⟨_, rfl, _, _, rfl, rfl, true, congrArg V.bl (decide_eq_true (by omega)), iteT ⟨_, _, rfl, rfl, true, congrArg V.bl (decide_eq_true (by omega)), iteT ?_⟩⟩
      refine ⟨_, rfl, _, _, rfl, rfl, .inl ⟨by decide, by decide⟩, _, _, rfl, rfl, ⟨by decide, by decide⟩, _, _, rfl, rfl, decide ((10 : Int) ^ 30 < 2 * (n : Int)), rfl, ?_⟩
      by_cases hb : (10 : Int) ^ 30 < 2 * (n : Int)
      · rw [decide_eq_true hb]
        exact iteT q
      · rw [decide_eq_false hb]
        have e2 : 2 * (n : Int) = ((2 * n : Nat) : Int) := by omega
        have hm : 2 * n ≤ 10 ^ 30 := by
          have : ((2 * n : Nat) : Int) ≤ ((10 ^ 30 : Nat) : Int) := by
            rw [← e2]
            exact Int.not_lt.mp hb
          exact Int.ofNat_le.mp this
        refine iteF ⟨_, rfl, _, _, rfl, rfl, .inl ⟨by decide, by decide⟩, _, true, rfl, by show InB K H (V.int (2 * (n : Int))) 0 (.int (10 ^ 30)) true; rw [e2]; exact inb hm, fun _ k1 e1 => ?_, fun e => Bool.noConfusion e⟩
        have ek : 2 * n = k1 := Int.ofNat.inj ((Int.natCast_mul 2 n).trans (V.int.inj e1))
        subst ek
        refine ⟨_, rfl, rfl, ?_⟩
        rw [lenD_dbl h2, decide_eq_true rfl]
        exact q
theorem ok_error (T : Txt K mg a d) : FnOk P w K mg base CX0 5 a.error d.error P_error (spError K) := by
  have G_least_length : FnOk P w K mg base (L2.CX P w) 4 a.least_length d.least_length P_least_length (spLeast K a.c_InvalidNumber) := ok_least T
  refine T.f_error.ok sc_error (fun vs H Q E h => ?_) (fun cdv A outer s H vs Q E hr h => ?_)
  · obtain ⟨v, rfl, _⟩ := h
    rfl
  · obtain ⟨v, rfl, hb, q⟩ := h
    refine ⟨_, (pss_cons (ps_try_row rfl rfl takes0 (fun W pn xe tk _ => (pss_one (ps_expr (pe_callS G_least_length (hr.mono (by decide)) (by rfl) T.g_least_length T.k_least_length T.b_least_length (fun σ => passAt tk σ) (pa_cons (pv 0) pa_nil))))) (.named (i := 1) sc_error.nd rfl rfl ⟨rfl, by decide, Or.inl T.x_InvalidNumber.g⟩ (fun a oe cls d pn hz hf => (pss_one (ps_ret (pe_xf T.x_InvalidNumber.xf T.x_InvalidNumber.no hz hf (pv 1))))) (.plain ⟨rfl, by decide, Or.inl T.xb.g⟩ (fun a oe cls d pn hz hf => (pss_one (ps_ret pe_str))) .nil)))
    (pss_one (ps_ret pe_non))), ?_⟩
    refine ⟨_, rfl, v, false, rfl, hb, fun e => Bool.noConfusion e, fun _ dx H' sm dN hd => ?_⟩
    refine ⟨true, T.x_InvalidNumber.te, fun _ a0 ha0 => ?_, fun z => Bool.noConfusion z⟩
    exact ⟨_, rfl, rfl, rfl, dx, _, _, rfl, hd, rfl, q H' sm⟩
end
end K13

namespace K13
open PySem PySem.Spec PyProof.Rows L2
def spSource : Sp := fun vs H Q _ => ∃ c, vs = [.int c] ∧ ∀ p x y z, 0 ≤ x → H p = none → Q (.ref p) (upd H p (.lst [.int x, .int y, .int z]))
def spDraw : Sp := fun vs H Q _ => ∃ p b, vs = [.ref p, .int b] ∧ Src H p ∧ 0 < b ∧ b.natAbs < 2 ^ 100 ∧ ∀ v x y z : Int, 0 ≤ v → v < b → 0 ≤ x → Q (.int v) (upd H p (.lst [.int x, .int y, .int z]))
def spPick (K : PySem.W.Frag) : Sp := fun vs H Q _ => ∃ p r xs, vs = [.ref p, .ref r] ∧ Src H p ∧ r ≠ p ∧ SqL K H r xs ∧ 0 < xs.length ∧ xs.length < 2 ^ 60 ∧ ∀ (v : V) (H' : Hp), v ∈ xs → Dn p H H' → Q v H'
section
variable {P : Program} {w : World} {K : PySem.W.Frag} {mg : Str → Option Value} {base : Heap} {a : Ad} {d : Fd}
theorem ok_source (T : Txt K mg a d) : FnOk P w K mg base CX0 1 a.source d.source P_source spSource := by
  refine T.f_source.ok sc_source (fun vs H Q E h => ?_) (fun cdv A outer s H vs Q E hr h => ?_)
  · obtain ⟨c, rfl, _⟩ := h
    rfl
  · obtain ⟨c, rfl, q⟩ := h
    refine ⟨_, (pss_one (ps_ret (pe_lst (pa_cons (pe_op op_mul (pe_callB call_abs (by rfl) T.z_abs (by decide +kernel) (pa_cons (pv 0) pa_nil)) (pe_callTy call_int1 (by rfl) T.z_int (by decide +kernel) (pa_cons (pe_cmpR op_ge (pe_callB call_abs (by rfl) T.z_abs (by decide +kernel) (pa_cons (pv 0) pa_nil)) (pe_op op_powW pe_int pe_int) (nomark _)) pa_nil))) (pa_cons (pe_op op_mod (pe_callTy call_int1 (by rfl) T.z_int (by decide +kernel) (pa_cons (pv 0) pa_nil)) pe_int) (pa_cons pe_int pa_nil)))))), ?_⟩
    have nn : 0 ≤ (if c < 0 then -c else c) := by split <;> omega
    refine ⟨_, rfl, _, rfl, _, rfl, _, rfl, _, _, rfl, rfl, ⟨by decide, by decide⟩, _, _, rfl, rfl, .inr ⟨_, rfl, ?_⟩⟩
    have hb : ∀ k : Bool, (-(2 ^ 64) < (if k = true then (1 : Int) else 0) ∧ (if k = true then (1 : Int) else 0) < 2 ^ 64) ∧ 0 ≤ (if k = true then (1 : Int) else 0) := fun k => by cases k <;> decide
    exact ⟨_, _, rfl, rfl, .inr (hb _).1, _, rfl, .inl ⟨_, rfl, _, _, rfl, rfl, (by show (0 : Int) < 2147483587; decide), by show 3 ≤ sizeLine; decide, fun p hp => q p _ _ _ (Int.mul_nonneg nn (hb _).2) hp⟩⟩
theorem ok_draw (T : Txt K mg a d) : FnOk P w K mg base CX0 1 a.draw d.draw P_draw spDraw := by
  refine T.f_draw.ok sc_draw (fun vs H Q E h => ?_) (fun cdv A outer s H vs Q E hr h => ?_)
  · obtain ⟨p, b, rfl, _⟩ := h
    rfl
  · obtain ⟨p, b, rfl, ⟨x, y, z, x0, hp⟩, b0, b64, q⟩ := h
    refine ⟨_, (pss_cons (ps_if (pt_cmpR op_gt (pe_ix ix_list (pv 0) pe_int (fun _ _ => rfl)) pe_int (nomark _)) (pss_cons (ps_set (i := 2) sc_draw.nd rfl (Or.inl rfl) (pe_op op_mod (pe_callTy call_int1 (by rfl) T.z_int (by decide +kernel) (pa_cons (pe_ix ix_list (pv 0) pe_int (fun _ _ => rfl)) pa_nil)) (pv 1)))
      (pss_cons (ps_asg (pe_op op_fdivW (pe_ix ix_list (pv 0) pe_int (fun _ _ => rfl)) (pv 1)) (pg_sub (pv 0) pe_int set_list))
      (pss_one (ps_ret (pv 2))))) pss_nil)
    (pss_cons (ps_asg (pe_op op_add (pe_ix ix_list (pv 0) pe_int (fun _ _ => rfl)) pe_int) (pg_sub (pv 0) pe_int set_list))
    (pss_cons (ps_set (i := 3) sc_draw.nd rfl (Or.inl rfl) (pe_op op_mod (pe_callTy call_int1 (by rfl) T.z_int (by decide +kernel) (pa_cons (pe_op op_mul (pe_op op_add (pe_op op_add (pe_ix ix_list (pv 0) pe_int (fun _ _ => rfl)) (pe_op op_mul pe_int (pe_ix ix_list (pv 0) pe_int (fun _ _ => rfl)))) pe_int) pe_int) pa_nil)) pe_int))
    (pss_cons (ps_set (i := 3) sc_draw.nd rfl (Or.inl rfl) (pe_op op_mod (pe_callTy call_int1 (by rfl) T.z_int (by decide +kernel) (pa_cons (pe_op op_mul (pv 3) (pe_op op_add (pe_op op_add (pe_op op_fdivW (pv 3) pe_int) pe_int) (pe_ix ix_list (pv 0) pe_int (fun _ _ => rfl)))) pa_nil)) pe_int))
    (pss_one (ps_ret (pe_op op_mod (pe_callTy call_int1 (by rfl) T.z_int (by decide +kernel) (pa_cons (pe_op op_fdivW (pe_op op_mod (pe_callTy call_int1 (by rfl) T.z_int (by decide +kernel) (pa_cons (pe_op op_mul (pv 3) (pe_op op_add (pe_op op_fdivW (pv 3) pe_int) pe_int)) pa_nil)) pe_int) pe_int) pa_nil)) (pv 1)))))))), ?_⟩
    have hS := L2.sq_of (K := K) hp
    have g0 : atI [V.int x, V.int y, V.int z] 0 = some (.int x) := atI_nat (j := 0) rfl
    have g1 : atI [V.int x, V.int y, V.int z] 1 = some (.int y) := atI_nat (j := 1) rfl
    have g2 : atI [V.int x, V.int y, V.int z] 2 = some (.int z) := atI_nat (j := 2) rfl
    refine ⟨_, rfl, p, _, _, _, rfl, rfl, hS, g0, _, _, rfl, rfl, _, rfl, ite2 (fun _ => ?_) (fun _ => ?_)⟩
    · refine ⟨_, rfl, p, _, _, _, rfl, rfl, hS, g0, .inl ⟨_, rfl, _, rfl, _, _, rfl, rfl, b0, ?_⟩⟩
      refine ⟨_, rfl, p, _, _, _, rfl, rfl, hS, g0, _, rfl, _, _, rfl, rfl, wide_div b0 b64 (by decide) (by decide), ?_⟩
      refine ⟨_, rfl, p, _, _, 0, rfl, rfl, hp, rfl, ?_⟩
      exact ⟨_, rfl, q _ _ _ _ (mb x b0).1 (mb x b0).2 (Int.ediv_nonneg x0 (by omega))⟩
    · refine ⟨_, rfl, p, _, _, _, rfl, rfl, hS, g2, _, _, rfl, rfl, ?_⟩
      refine ⟨_, rfl, p, _, _, 2, rfl, rfl, hp, rfl, ?_⟩
      have hp' : upd H p (.lst ([V.int x, V.int y, V.int z].set 2 (.int (z + 1)))) p = some (.lst [V.int x, V.int y, V.int (z + 1)]) := upd_same
      have hS' := L2.sq_of (K := K) hp'
      have g1' : atI [V.int x, V.int y, V.int (z + 1)] 1 = some (.int y) := atI_nat (j := 1) rfl
      have g2' : atI [V.int x, V.int y, V.int (z + 1)] 2 = some (.int (z + 1)) := atI_nat (j := 2) rfl
      refine ⟨_, rfl, p, _, _, _, rfl, rfl, hS', g1', _, rfl, p, _, _, _, rfl, rfl, hS', g2', 52711, z + 1, rfl, rfl, .inl ⟨by decide, by decide⟩, _, _, rfl, rfl, _, _, rfl, rfl, _, _, rfl, rfl, .inr ⟨by decide, by decide⟩, .inl ⟨_, rfl, _, _, rfl, rfl, (by show (0 : Int) < 2147483629; decide), ?_⟩⟩
      have w1 : ∀ i : Int, CDivW i 1021 := fun i => wide_div (b := 64) (by decide) (by decide) (by decide) (by decide)
      have w2 : ∀ i : Int, CDivW i 2011 := fun i => wide_div (b := 64) (by decide) (by decide) (by decide) (by decide)
      have w3 : ∀ i : Int, CDivW i 3 := fun i => wide_div (b := 64) (by decide) (by decide) (by decide) (by decide)
      refine ⟨_, rfl, _, rfl, _, _, rfl, rfl, w1 _, _, _, rfl, rfl, _, rfl, p, _, _, _, rfl, rfl, hS', g2', _, _, rfl, rfl, _, _, rfl, rfl, .inl (mbw _ (c := 2147483629) (by decide) (by decide)), .inl ⟨_, rfl, _, _, rfl, rfl, (by show (0 : Int) < 2147483579; decide), ?_⟩⟩
      refine ⟨_, rfl, _, rfl, _, _, rfl, rfl, w2 _, _, _, rfl, rfl, _, _, rfl, rfl, .inl (mbw _ (c := 2147483579) (by decide) (by decide)), .inl ⟨_, rfl, _, _, rfl, rfl, (by show (0 : Int) < 2147483549; decide), _, _, rfl, rfl, w3 _, .inl ⟨_, rfl, _, rfl, _, _, rfl, rfl, b0, q _ _ _ _ (mb _ b0).1 (mb _ b0).2 x0⟩⟩⟩
theorem ok_pick (T : Txt K mg a d) : FnOk P w K mg base CX0 2 a.pick d.pick P_pick (spPick K) := by
  have G_draw : FnOk P w K mg base CX0 1 a.draw d.draw P_draw spDraw := ok_draw T
  refine T.f_pick.ok sc_pick (fun vs H Q E h => ?_) (fun cdv A outer s H vs Q E hr h => ?_)
  · obtain ⟨p, r, xs, rfl, _⟩ := h
    rfl
  · obtain ⟨p, r, xs, rfl, hs, ne, hx, l0, l1, q⟩ := h
    refine ⟨_, (pss_one (ps_ret (pe_ix ix_list (pv 1) (pe_call G_draw (hr.mono (by decide)) (by rfl) T.g_draw T.k_draw T.b_draw .nil pass0 (pa_cons (pv 0) (pa_cons (pe_callB call_len_seq (by rfl) T.z_len PySem.boot_len (pa_cons (pv 1) pa_nil)) pa_nil))) (fun _ _ => rfl)))), ?_⟩
    refine ⟨_, rfl, _, rfl, _, rfl, r, xs, rfl, .inl hx, p, _, rfl, hs, by omega, ?_, fun v x y z v0 v1 x0 => ?_⟩
    · have e : ((xs.length : Nat) : Int).natAbs = xs.length := Int.natAbs_natCast _
      rw [e]
      exact Nat.lt_trans l1 (by decide)
    · obtain ⟨i, rfl⟩ : ∃ i : Nat, v = (i : Int) := ⟨v.toNat, (Int.toNat_of_nonneg v0).symm⟩
      have hi : i < xs.length := by omega
      have gi : xs[i]? = some xs[i] := List.getElem?_eq_getElem hi
      exact ⟨r, xs, _, xs[i], rfl, rfl, SB.seq SB.put ne hx, atI_nat gi, q _ _ (List.getElem_mem hi) (.put x0)⟩
end

def spLaw (K : PySem.W.Frag) : Sp := fun vs H Q _ => ∃ (a : Addr) (ns : List Int), vs = [.ref a] ∧ SqL K H a (ns.map V.int) ∧ ns.length ≤ 63 ∧ ∀ H', Q (.bl true) H'
theorem cells_int {ns : List Int} {lo hi : Option Int} {x : V} (h : x ∈ cutV (ns.map V.int ++ [V.int 0]) lo hi) : ∃ c, x = .int c := by
  have h := cut_mem h
  rw [List.mem_append] at h
  rcases h with h | h
  · obtain ⟨c, _, e⟩ := List.mem_map.mp h
    exact ⟨c, e.symm⟩
  · exact ⟨0, List.mem_singleton.mp h⟩
/-- a number that can be asked about -/
def NB (v : V) : Prop := ∃ n : Nat, v = .int (n : Int) ∧ n ≤ 10 ^ 30
theorem NB.of {z : Int} (h0 : 0 ≤ z) (h1 : z ≤ 10 ^ 30) : NB (.int z) := ⟨z.toNat, by rw [Int.toNat_of_nonneg h0], by
  have : (z.toNat : Int) ≤ ((10 ^ 30 : Nat) : Int) := by rw [Int.toNat_of_nonneg h0]; exact h1
  exact Int.ofNat_le.mp this⟩
theorem shifts {h v : Int} {k : Nat} (h0 : 32 ≤ h) (h1 : h < 64) (hk : k ≤ 92) : 32 ≤ h * 2 ^ k ∧ h * 2 ^ k ≤ 63 * 2 ^ 92 ∧ (1 : Int) ≤ 2 ^ k ∧ (2 : Int) ^ k ≤ 2 ^ 92 := by
  have p1 : (1 : Int) ≤ 2 ^ k := by
    have : 1 ≤ 2 ^ k := Nat.one_le_two_pow
    have h2 : ((1 : Nat) : Int) ≤ ((2 ^ k : Nat) : Int) := Int.ofNat_le.mpr this
    rw [Int.natCast_pow] at h2
    exact h2
  have p2 : (2 : Int) ^ k ≤ 2 ^ 92 := by
    have : 2 ^ k ≤ 2 ^ 92 := Nat.pow_le_pow_right (by decide) hk
    have h2 : ((2 ^ k : Nat) : Int) ≤ ((2 ^ 92 : Nat) : Int) := Int.ofNat_le.mpr this
    rw [Int.natCast_pow, Int.natCast_pow] at h2
    exact h2
  refine ⟨?_, Int.mul_le_mul (by omega) p2 (by omega) (by decide), p1, p2⟩
  calc (32 : Int) = 32 * 1 := rfl
    _ ≤ h * 2 ^ k := Int.mul_le_mul h0 p1 (by decide) (by omega)
section
variable {P : Program} {w : World} {K : PySem.W.Frag} {mg : Str → Option Value} {base : Heap} {a : Ad} {d : Fd}
theorem ok_law (T : Txt K mg a d) : FnOk P w K mg base CX0 6 a.law d.law P_law (spLaw K) := by
  have G_source : FnOk P w K mg base CX0 1 a.source d.source P_source spSource := ok_source T
  have G_draw : FnOk P w K mg base CX0 1 a.draw d.draw P_draw spDraw := ok_draw T
  have G_pick : FnOk P w K mg base CX0 2 a.pick d.pick P_pick (spPick K) := ok_pick T
  have G_is_right : FnOk P w K mg base CX0 5 a.is_right d.is_right P_is_right spIsRight := ok_is_right T
  have G_error : FnOk P w K mg base CX0 5 a.error d.error P_error (spError K) := ok_error T
  refine T.f_law.ok sc_law (fun vs H Q E h => ?_) (fun cdv A outer s H vs Q E hr h => ?_)
  · obtain ⟨p, n, rfl, _⟩ := h
    rfl
  · obtain ⟨sp, ns, rfl, hS, hlen, q⟩ := h
    refine ⟨_, (pss_cons (ps_if (pt_cmpR (op_neD hr.units) (pe_lc (own := [("number", 1)]) (g := gName 1)  rfl sc_law.nd (pi_range1 (by rfl) T.z_range (pa_cons pe_int pa_nil)) (blkOk_by (N := N_law) (sc := defScope s_law) (by decide +kernel)) (fun _ _ _ _ _ => pg_name (i := 1) sc_law.nd rfl (Or.inl rfl)) (fun _ _ _ _ _ => (pts_one (pt_not (pt_val (pe_call G_is_right (hr.mono (by decide)) (by rfl) T.g_is_right T.k_is_right T.b_is_right .nil pass0 (pa_cons (pv 1) pa_nil)))))) (fun _ _ _ _ _ => (pv 1))) (pe_lst pa_nil) (nomark _)) (pss_one (ps_ret pe_bl)) pss_nil)
    (pss_cons (ps_for PassesOwn.never rfl (pi_list (pe_slice sl_list (pe_op op_catS (pv 0) (pe_lst (pa_cons pe_int pa_nil))) po_none (po_some pe_int))) (pg_name (i := 2) sc_law.nd rfl (Or.inl rfl))
      (pss_cons (ps_set (i := 3) sc_law.nd rfl (Or.inl rfl) (pe_call G_source (hr.mono (by decide)) (by rfl) T.g_source T.k_source T.b_source .nil pass0 (pa_cons (pv 2) pa_nil)))
        (pss_cons (ps_set (i := 4) sc_law.nd rfl (Or.inl rfl) (pe_lst (pa_cons (pe_call G_draw (hr.mono (by decide)) (by rfl) T.g_draw T.k_draw T.b_draw .nil pass0 (pa_cons (pv 3) (pa_cons (pe_call G_pick (hr.mono (by decide)) (by rfl) T.g_pick T.k_pick T.b_pick .nil pass0 (pa_cons (pv 3) (pa_cons (pe_lst (pa_cons (pe_op op_powW pe_int pe_int) (pa_cons (pe_op op_powW pe_int pe_int) (pa_cons (pe_op op_powW pe_int pe_int) (pa_cons (pe_op op_powW pe_int pe_int) pa_nil))))) pa_nil))) pa_nil))) (pa_cons (pe_op op_mod (pe_callTy call_int1 (by rfl) T.z_int (by decide +kernel) (pa_cons (pv 2) pa_nil)) (pe_op op_powW pe_int pe_int)) pa_nil))))
        (pss_cons (ps_par (i := 5) (j := 6) rfl sc_law.nd rfl rfl (by decide) rfl rfl (pa_cons (pe_op op_add pe_int (pe_call G_draw (hr.mono (by decide)) (by rfl) T.g_draw T.k_draw T.b_draw .nil pass0 (pa_cons (pv 3) (pa_cons pe_int pa_nil)))) (pa_cons (pe_call G_draw (hr.mono (by decide)) (by rfl) T.g_draw T.k_draw T.b_draw .nil pass0 (pa_cons (pv 3) (pa_cons pe_int pa_nil))) pa_nil)) (by rfl))
        (pss_cons (ps_set (i := 4) sc_law.nd rfl (Or.inl rfl) (pe_op op_catS (pv 4) (pe_lst (pa_cons (pe_op op_shlN (pv 5) (pv 6)) (pa_cons (pe_op op_add (pe_op op_shlN (pv 5) (pv 6)) pe_int) (pa_cons (pe_op op_sub (pe_op op_shlN (pv 5) (pv 6)) pe_int) (pa_cons (pe_op op_add (pe_op op_shlN (pv 5) (pv 6)) (pe_op op_shrN (pe_op op_shlN pe_int (pv 6)) pe_int)) pa_nil)))))))
        (pss_cons (ps_set (i := 4) sc_law.nd rfl (Or.inl rfl) (pe_op op_catS (pv 4) (pe_lst (pa_cons (pe_call G_draw (hr.mono (by decide)) (by rfl) T.g_draw T.k_draw T.b_draw .nil pass0 (pa_cons (pv 3) (pa_cons (pe_op op_powW pe_int pe_int) pa_nil))) (pa_cons (pe_op op_shlN pe_int (pe_call G_draw (hr.mono (by decide)) (by rfl) T.g_draw T.k_draw T.b_draw .nil pass0 (pa_cons (pv 3) (pa_cons pe_int pa_nil)))) pa_nil)))))
        (pss_one (ps_if (pt_cmpR (op_neD hr.units) (pe_lc (own := [("number", 1)]) (g := gName 1)  rfl sc_law.nd (pi_list (pv 4)) (blkOk_by (N := N_law) (sc := defScope s_law) (by decide +kernel)) (fun _ _ _ _ _ => pg_name (i := 1) sc_law.nd rfl (Or.inl rfl)) (fun _ _ _ _ _ => (pts_one (pt_not (pt_val (pe_call G_is_right (hr.mono (by decide)) (by rfl) T.g_is_right T.k_is_right T.b_is_right .nil pass0 (pa_cons (pv 1) pa_nil)))))) (fun _ _ _ _ _ => (pv 1))) (pe_lst pa_nil) (nomark _)) (pss_one (ps_ret pe_bl)) pss_nil))))))))
    (pss_cons (ps_for PassesOwn.never rfl (pi_tup (pe_tup (pa_cons (pe_un un_neg pe_int) (pa_cons (pe_op op_add (pe_op op_powW pe_int pe_int) pe_int) (pa_cons pe_bl (pa_cons pe_bl (pa_cons pe_non (pa_cons pe_str (pa_cons (pe_lst (pa_cons pe_int pa_nil)) (pa_cons (pe_tup pa_nil) (pa_cons pe_dnewK pa_nil))))))))))) (pg_name (i := 7) sc_law.nd rfl (Or.inl rfl))
      (pss_one (ps_if (pt_cmpR op_ne (pe_call G_error (hr.mono (by decide)) (by rfl) T.g_error T.k_error T.b_error .nil pass0 (pa_cons (pv 7) pa_nil)) pe_str (nomark _)) (pss_one (ps_ret pe_bl)) pss_nil)))
    (pss_one (ps_ret (pe_call G_is_right (hr.mono (by decide)) (by rfl) T.g_is_right T.k_is_right T.b_is_right .nil pass0 (pa_cons (pe_op op_powW pe_int pe_int) pa_nil))))))), ?_⟩
    have sz : (ns.map V.int).length + 1 ≤ sizeLine := by
      rw [List.length_map]
      exact Nat.le_trans (by omega) (by decide : 64 ≤ sizeLine)
    -- the first three hundred
    refine ⟨300, rfl, by decide, by decide, fun D hD => ?_⟩
    refine lc_range (lo := 0) (n := 300) (fun i H' => Same H H' ∧ H' D = some (.lst [])) ⟨same_upd hD, upd_same⟩ ?_ ?_
    · rintro i H1 hi ⟨s1, h1⟩
      exact ⟨rfl, _, rfl, i, by rw [Int.zero_add]; rfl, Nat.le_trans (by omega : i ≤ 300) (by decide), true, rfl, iteF (A := True) ⟨s1, h1⟩⟩
    rintro H1 ⟨s1, h1⟩
    refine ⟨Nat.zero_le _, fun e9 he9 => ?_⟩
    have hE9 : upd H1 e9 (.lst []) e9 = some (.lst []) := upd_same
    have hD9 := same_upd (o := .lst []) he9 _ _ h1
    have s9 := s1.trans (same_upd (o := .lst []) he9)
    generalize upd H1 e9 (.lst []) = H2 at s9 hE9 hD9 ⊢
    refine ⟨.list [], .list [], .lst (L2.sq_of hD9) .nil, .lst (L2.sq_of hE9) .nil, by decide, by decide, false, rfl, iteF ?_⟩
    have hS2 := s9.seq hS
    -- the cells
    refine ⟨_, rfl, by show 1 ≤ sizeLine; decide, fun b2 hb2 => ⟨sp, b2, _, _, rfl, rfl, (same_upd hb2).seq hS2, L2.sq_of upd_same, sz, fun c2 hc2 => ?_⟩⟩
    refine ⟨6, rfl, c2, _, rfl, L2.sq_of upd_same, fun e he => ⟨e, rfl, ⟨_, L2.sq_of upd_same⟩, ?_⟩⟩
    generalize hHe : upd (upd (upd H2 b2 (.lst [.int 0])) c2 (.lst (ns.map V.int ++ [V.int 0]))) e (.lst (cutV (ns.map V.int ++ [V.int 0]) none (some 6))) = He
    have hE : He e = some (.lst (cutV (ns.map V.int ++ [V.int 0]) none (some 6))) := by
      rw [← hHe]
      exact upd_same
    refine for_list (K := K) (a := e) (xs := cutV (ns.map V.int ++ [V.int 0]) none (some 6)) (fun i σ H' => (∃ (u2 u3 u4 u5 u6 : Option V), σ = [some (.ref sp), none, u2, u3, u4, u5, u6, none]) ∧ Same He H')
      ⟨⟨_, _, _, _, _, rfl⟩, Same.refl _⟩ (fun i σ H' _ h => L2.sq_of (h.2 _ _ hE)) ?_ ?_
    · rintro i y σ H3 hy ⟨⟨u2, u3, u4, u5, u6, rfl⟩, sm⟩
      obtain ⟨cell, rfl⟩ := cells_int (List.mem_of_getElem? hy)
      refine ⟨_, rfl, cell, rfl, fun p x y z x0 hp => ?_⟩
      have sm1 : Same He (upd H3 p (.lst [.int x, .int y, .int z])) := sm.trans (same_upd hp)
      have sr1 : Src (upd H3 p (.lst [.int x, .int y, .int z])) p := .put x0
      have fp : He p = none := sm.free hp
      try dsimp only
      generalize upd H3 p (.lst [.int x, .int y, .int z]) = H4 at sm1 sr1 ⊢
      have sDn : ∀ {H5 : Hp}, Dn p H4 H5 → Same He H5 := fun d b o e => d.1 b o (ne_of_none e fp) (sm1 _ _ e)
      -- some = [.., ..]
      refine ⟨_, rfl, _, rfl, _, _, rfl, rfl, ⟨by decide, by decide⟩, _, _, rfl, rfl, ⟨by decide, by decide⟩, _, _, rfl, rfl, ⟨by decide, by decide⟩, _, _, rfl, rfl, ⟨by decide, by decide⟩, by show 4 ≤ sizeLine; decide, fun l hl => ?_⟩
      refine ⟨p, l, _, rfl, (Dn.refl sr1).new hl |>.2, (sr1.ne hl), L2.sq_of upd_same, by show 0 < 4; decide, by show 4 < 2 ^ 60; decide, fun v H5 hv dv => ?_⟩
      have d5 := ((Dn.refl sr1).new hl).trans dv
      obtain ⟨b, rfl, b0, b1⟩ : ∃ b : Int, v = .int b ∧ 0 < b ∧ b ≤ 10 ^ 30 := by
        simp only [List.mem_cons, List.not_mem_nil, or_false] at hv
        rcases hv with rfl | rfl | rfl | rfl
        · exact ⟨_, rfl, by decide +kernel, by decide +kernel⟩
        · exact ⟨_, rfl, by decide +kernel, by decide +kernel⟩
        · exact ⟨_, rfl, by decide +kernel, by decide +kernel⟩
        · exact ⟨_, rfl, by decide +kernel, by decide +kernel⟩
      have bn : b.natAbs < 2 ^ 100 := by
        have e : (10 : Int) ^ 30 < 2 ^ 100 := by decide +kernel
        have e2 : (b.natAbs : Int) < ((2 ^ 100 : Nat) : Int) := by
          rw [Int.natAbs_of_nonneg (Int.le_of_lt b0)]
          exact Int.lt_of_le_of_lt b1 e
        exact Int.ofNat_lt.mp e2
      refine ⟨p, b, rfl, d5.2, b0, bn, fun v1 x y z v10 v11 x0 => ?_⟩
      have d6 := d5.trans (Dn.put (p := p) (H := H5) (x := x) (y := y) (z := z) x0)
      try dsimp only
      generalize upd H5 p (.lst [.int x, .int y, .int z]) = H6 at d6 ⊢
      refine ⟨_, rfl, .inl ⟨_, rfl, _, _, rfl, rfl, ⟨by decide, by decide⟩, _, _, rfl, rfl, (by show (0 : Int) < 10 ^ 30; decide +kernel), ?_⟩⟩
      have n1 : NB (.int v1) := .of v10 (Int.le_of_lt (Int.lt_of_lt_of_le v11 b1))
      have n2 : NB (.int (cell % 10 ^ Int.toNat 30)) := .of (z := cell % 10 ^ 30) (Int.emod_nonneg _ (by decide +kernel)) (Int.le_of_lt (Int.emod_lt_of_pos _ (by decide +kernel)))
      refine ⟨by show 2 ≤ sizeLine; decide, fun s1 hs1 => ?_⟩
      try dsimp only
      have d7 := d6.new (o := .lst [.int v1, .int (cell % 10 ^ Int.toNat 30)]) hs1
      have h7 : upd H6 s1 (.lst [.int v1, .int (cell % 10 ^ Int.toNat 30)]) s1 = some (.lst [.int v1, .int (cell % 10 ^ Int.toNat 30)]) := upd_same
      have ns1 : s1 ≠ p := d6.2.ne hs1
      -- high, low
      refine ⟨_, rfl, p, 32, rfl, d7.2, by decide, by decide, fun v2 x y z v20 v21 x0 => ?_⟩
      have d8 := d7.trans (Dn.put (p := p) (x := x) (y := y) (z := z) x0)
      have h8 := (Dn.put (p := p) (x := x) (y := y) (z := z) x0).1 _ _ ns1 h7
      try dsimp only
      generalize upd (upd H6 s1 (.lst [.int v1, .int (cell % 10 ^ Int.toNat 30)])) p (.lst [.int x, .int y, .int z]) = H8 at d8 h8 ⊢
      refine ⟨_, _, rfl, rfl, _, rfl, p, 93, rfl, d8.2, by decide, by decide, fun v3 x y z v30 v31 x0 => ?_⟩
      have d9 := d8.trans (Dn.put (p := p) (x := x) (y := y) (z := z) x0)
      have h9 := (Dn.put (p := p) (x := x) (y := y) (z := z) x0).1 _ _ ns1 h8
      try dsimp only
      generalize upd H8 p (.lst [.int x, .int y, .int z]) = H9 at d9 h9 ⊢
      obtain ⟨k, rfl⟩ : ∃ k : Nat, v3 = (k : Int) := ⟨v3.toNat, (Int.toNat_of_nonneg v30).symm⟩
      have cs : CShl (32 + v2) (k : Int) := shl_ok (a := 6) (by omega) (by omega)
      have c1 : CShl 1 (k : Int) := shl_ok (a := 6) (by decide) (by omega)
      obtain ⟨b1', b2', b3', b4'⟩ := shifts (h := 32 + v2) (v := 0) (k := k) (by omega) (by omega) (by omega)
      refine ⟨_, _, rfl, _, rfl, _, rfl, _, rfl, _, k, rfl, rfl, cs, _, rfl, _, rfl, _, k, rfl, rfl, cs, _, _, rfl, rfl, _, rfl, _, rfl, _, k, rfl, rfl, cs, _, _, rfl, rfl, _, rfl, _, rfl, _, k, rfl, rfl, cs, _, rfl, _, k, rfl, rfl, c1, _, 1, rfl, rfl, _, _, rfl, rfl, by show 4 ≤ sizeLine; decide, fun s2 hs2 => ?_⟩
      have d10 := d9.new (o := .lst [.int ((32 + v2) * 2 ^ k), .int ((32 + v2) * 2 ^ k + 1), .int ((32 + v2) * 2 ^ k - 1), .int ((32 + v2) * 2 ^ k + 1 * 2 ^ k / 2 ^ 1)]) hs2
      have h10 := same_upd (o := .lst [.int ((32 + v2) * 2 ^ k), .int ((32 + v2) * 2 ^ k + 1), .int ((32 + v2) * 2 ^ k - 1), .int ((32 + v2) * 2 ^ k + 1 * 2 ^ k / 2 ^ 1)]) hs2 _ _ h9
      refine ⟨s1, s2, _, _, rfl, rfl, L2.sq_of h10, L2.sq_of upd_same, by show 2 + 4 ≤ sizeLine; decide, fun s3 hs3 => ?_⟩
      try dsimp only
      generalize upd H9 s2 (.lst [.int ((32 + v2) * 2 ^ k), .int ((32 + v2) * 2 ^ k + 1), .int ((32 + v2) * 2 ^ k - 1), .int ((32 + v2) * 2 ^ k + 1 * 2 ^ k / 2 ^ 1)]) = H10 at d10 hs3 ⊢
      obtain ⟨L6, hL6, nb6⟩ : ∃ L6 : List V, [V.int v1, .int (cell % 10 ^ Int.toNat 30)] ++ [.int ((32 + v2) * 2 ^ k), .int ((32 + v2) * 2 ^ k + 1), .int ((32 + v2) * 2 ^ k - 1), .int ((32 + v2) * 2 ^ k + 1 * 2 ^ k / 2 ^ 1)] = L6 ∧ (L6.length = 6 ∧ ∀ v ∈ L6, NB v) := by
        refine ⟨_, rfl, rfl, fun v hv => ?_⟩
        have big : (63 : Int) * 2 ^ 92 + 2 ^ 92 ≤ 10 ^ 30 := by decide +kernel
        have pos : (0 : Int) < 2 ^ 92 := by decide +kernel
        simp only [List.cons_append, List.nil_append, List.mem_cons, List.not_mem_nil, or_false] at hv
        rcases hv with rfl | rfl | rfl | rfl | rfl | rfl
        · exact n1
        · exact n2
        · exact .of (by omega) (by omega)
        · exact .of (by omega) (by omega)
        · exact .of (by omega) (by omega)
        · exact .of (by omega) (by omega)
      have ns3 : s3 ≠ p := d10.2.ne hs3
      have d11 := d10.new (o := .lst L6) hs3
      have h11 : upd H10 s3 (.lst L6) s3 = some (.lst L6) := upd_same
      rw [hL6]
      try dsimp only
      generalize upd H10 s3 (.lst L6) = H11 at d11 h11 ⊢
      refine ⟨_, rfl, _, rfl, _, _, rfl, rfl, ⟨by decide, by decide⟩, p, _, rfl, d11.2, (by show (0 : Int) < 10 ^ 6; decide), (by show ((10 : Int) ^ 6).natAbs < 2 ^ 100; decide +kernel), fun v4 x y z v40 v41 x0 => ?_⟩
      have d12 := d11.trans (Dn.put (p := p) (x := x) (y := y) (z := z) x0)
      have h12 := (Dn.put (p := p) (x := x) (y := y) (z := z) x0).1 _ _ ns3 h11
      try dsimp only
      generalize upd H11 p (.lst [.int x, .int y, .int z]) = H12 at d12 h12 ⊢
      refine ⟨_, rfl, p, 90, rfl, d12.2, by decide, by decide, fun v5 x y z v50 v51 x0 => ?_⟩
      have d13 := d12.trans (Dn.put (p := p) (x := x) (y := y) (z := z) x0)
      have h13 := (Dn.put (p := p) (x := x) (y := y) (z := z) x0).1 _ _ ns3 h12
      try dsimp only
      generalize upd H12 p (.lst [.int x, .int y, .int z]) = H13 at d13 h13 ⊢
      obtain ⟨k5, rfl⟩ : ∃ k : Nat, v5 = (k : Int) := ⟨v5.toNat, (Int.toNat_of_nonneg v50).symm⟩
      obtain ⟨c1', c2', c3', c4'⟩ := shifts (h := 63) (v := 0) (k := k5) (by omega) (by omega) (by omega)
      refine ⟨64, k5, rfl, rfl, shl_ok (a := 7) (by decide) (by omega), by show 2 ≤ sizeLine; decide, fun s4 hs4 => ?_⟩
      have d14 := d13.new (o := .lst [.int v4, .int (64 * 2 ^ k5)]) hs4
      have h14 := same_upd (o := .lst [.int v4, .int (64 * 2 ^ k5)]) hs4 _ _ h13
      refine ⟨s3, s4, _, _, rfl, rfl, L2.sq_of h14, L2.sq_of upd_same, by rw [nb6.1]; show 6 + 2 ≤ sizeLine; decide, fun s5 hs5 => ?_⟩
      try dsimp only
      generalize upd H13 s4 (.lst [.int v4, .int (64 * 2 ^ k5)]) = H14 at d14 hs5 ⊢
      have nb8 : ∀ v ∈ L6 ++ [V.int v4, .int (64 * 2 ^ k5)], NB v := fun v hv => by
        have big : (63 : Int) * 2 ^ 92 + 2 ^ 92 ≤ 10 ^ 30 := by decide +kernel
        rw [List.mem_append] at hv
        rcases hv with hv | hv
        · exact nb6.2 v hv
        · simp only [List.mem_cons, List.not_mem_nil, or_false] at hv
          rcases hv with rfl | rfl
          · refine .of v40 (Int.le_of_lt (Int.lt_trans v41 ?_))
            show (10 : Int) ^ 6 < 10 ^ 30
            decide +kernel
          · exact .of (by omega) (by omega)
      have d15 := d14.new (o := .lst (L6 ++ [V.int v4, .int (64 * 2 ^ k5)])) hs5
      have h15 : upd H14 s5 (.lst (L6 ++ [V.int v4, .int (64 * 2 ^ k5)])) s5 = some (.lst (L6 ++ [V.int v4, .int (64 * 2 ^ k5)])) := upd_same
      try dsimp only
      generalize upd H14 s5 (.lst (L6 ++ [V.int v4, .int (64 * 2 ^ k5)])) = H15 at d15 h15 ⊢
      refine ⟨_, rfl, s5, rfl, ⟨_, L2.sq_of h15⟩, fun D2 hD2 => ?_⟩
      refine lc_list (K := K) (a := s5) (xs := L6 ++ [V.int v4, .int (64 * 2 ^ k5)]) (fun i H' => Same H15 H' ∧ H' D2 = some (.lst [])) ⟨same_upd hD2, upd_same⟩ (fun i H' _ h => L2.sq_of (h.1 _ _ h15)) ?_ ?_
      · rintro i x H16 hx ⟨s16, h16⟩
        obtain ⟨n, rfl, nb⟩ := nb8 x (List.mem_of_getElem? hx)
        exact ⟨rfl, _, rfl, n, rfl, nb, true, rfl, iteF (A := True) ⟨s16, h16⟩⟩
      rintro H16 ⟨s16, h16⟩
      refine ⟨Nat.zero_le _, fun e8 he8 => ?_⟩
      have hE8 : upd H16 e8 (.lst []) e8 = some (.lst []) := upd_same
      have hD8 := same_upd (o := .lst []) he8 _ _ h16
      have d17 := d15.same (s16.trans (same_upd (o := .lst []) he8))
      try dsimp only
      generalize upd H16 e8 (.lst []) = H17 at d17 hE8 hD8 ⊢
      exact ⟨.list [], .list [], .lst (L2.sq_of hD8) .nil, .lst (L2.sq_of hE8) .nil, by decide, by decide, false, rfl, iteF ⟨⟨_, _, _, _, _, rfl⟩, sDn d17⟩⟩
    · rintro σ H3 ⟨⟨u2, u3, u4, u5, u6, rfl⟩, sm⟩
      refine ⟨_, rfl, _, _, rfl, rfl, ⟨by decide, by decide⟩, _, _, rfl, rfl, by show 1 ≤ sizeLine; decide, fun g1 hg1 => ?_⟩
      have k1 : upd H3 g1 (.lst [.int 64]) g1 = some (.lst [.int 64]) := upd_same
      generalize upd H3 g1 (.lst [.int 64]) = H4 at k1 ⊢
      refine ⟨Nat.zero_le _, fun g2 hg2 => ?_⟩
      have k1 := same_upd (o := .tup []) hg2 _ _ k1
      have k2 : upd H4 g2 (.tup []) g2 = some (.tup []) := upd_same
      generalize upd H4 g2 (.tup []) = H5 at k1 k2 ⊢
      intro g3 hg3
      have k1 := same_upd (o := .dK []) hg3 _ _ k1
      have k2 := same_upd (o := .dK []) hg3 _ _ k2
      have k3 : upd H5 g3 (.dK []) g3 = some (.dK []) := upd_same
      generalize upd H5 g3 (.dK []) = H6 at k1 k2 k3 ⊢
      refine ⟨by show 9 ≤ sizeLine; decide, fun t ht => ?_⟩
      refine ⟨t, rfl, ⟨_, L2.st_of upd_same⟩, ?_⟩
      have odd : ∀ v ∈ [V.int (-1), .int (10 ^ Int.toNat 30 + 1), .bl true, .bl false, .non, .str "64", .ref g1, .ref g2, .ref g3], ∀ H', Same H6 H' → InB K H' v 0 (.int (10 ^ 30)) false := fun v hv H' s6 => by
        simp only [List.mem_cons, List.not_mem_nil, or_false] at hv
        rcases hv with rfl | rfl | rfl | rfl | rfl | rfl | rfl | rfl | rfl
        · exact .low (by decide)
        · exact .high (show (10 : Int) ^ 30 < 10 ^ 30 + 1 by omega)
        · exact .odd (.bl _)
        · exact .odd (.bl _)
        · exact .odd .non
        · exact .odd (.str _)
        · exact .odd (.lst (s6 _ _ k1))
        · exact .odd (.tup (s6 _ _ k2))
        · exact .odd (.dK (s6 _ _ k3))
      have st := same_upd (o := .tup [V.int (-1), .int (10 ^ Int.toNat 30 + 1), .bl true, .bl false, .non, .str "64", .ref g1, .ref g2, .ref g3]) ht
      have ht' : upd H6 t (.tup [V.int (-1), .int (10 ^ Int.toNat 30 + 1), .bl true, .bl false, .non, .str "64", .ref g1, .ref g2, .ref g3]) t = some (.tup [V.int (-1), .int (10 ^ Int.toNat 30 + 1), .bl true, .bl false, .non, .str "64", .ref g1, .ref g2, .ref g3]) := upd_same
      refine for_tup (K := K) (a := t) (xs := [V.int (-1), .int (10 ^ Int.toNat 30 + 1), .bl true, .bl false, .non, .str "64", .ref g1, .ref g2, .ref g3]) (fun i σ H' => (∃ (w1 w2 w3 w4 w5 w6 w7 : Option V), σ = [some (.ref sp), w1, w2, w3, w4, w5, w6, w7]) ∧ Same (upd H6 t (.tup [V.int (-1), .int (10 ^ Int.toNat 30 + 1), .bl true, .bl false, .non, .str "64", .ref g1, .ref g2, .ref g3])) H')
        ⟨⟨_, _, _, _, _, _, _, rfl⟩, Same.refl _⟩ (fun i σ H' _ h => L2.st_of (h.2 _ _ ht')) ?_ ?_
      · rintro i v σ H7 hv ⟨⟨w1, w2, w3, w4, w5, w6, w7, rfl⟩, s7⟩
        refine ⟨_, rfl, v, rfl, odd v (List.mem_of_getElem? hv) H7 (st.trans s7), fun H8 s8 => ⟨rfl, false, ?_, iteF ⟨⟨_, _, _, _, _, _, _, rfl⟩, s7.trans s8⟩⟩⟩
        rw [decide_eq_true rfl]
        rfl
      · rintro σ H7 ⟨⟨w1, w2, w3, w4, w5, w6, w7, rfl⟩, s7⟩
        refine ⟨_, _, rfl, rfl, ⟨by decide, by decide⟩, 10 ^ 30, ?_, Nat.le_refl _, q _⟩
        show [V.int ((10 : Int) ^ 30)] = [V.int ((10 ^ 30 : Nat) : Int)]
        exact congrArg (fun z => [V.int z]) (by decide +kernel)
end
end K13

namespace K13
open PySem PySem.Spec PyProof.Rows L2
theorem all_mk {l : PySem.W.OpenLaw} {w : World} {K : PySem.W.Frag} {h : Heap} {mg : Str → Option Value} {fa f0 f1 f2 f3 f4 f5 f6 f7 f8 f9 f10 f11 C_InvalidNumber C_SortError : Addr} {t_GREATEST_ROW t_LEAST_HALVED : Tok} (X : K.In h) (G : h.Ns mainGlobals mg) (hfa : mg "law" = some (.ref fa))
    {nm_InvalidNumber q_InvalidNumber : Str} {N_InvalidNumber : Addr} {bs_InvalidNumber : List Value} {sn_InvalidNumber : List Str} {sub_InvalidNumber : List Value} {ab_InvalidNumber : Bool} {col_InvalidNumber : Option Bool} {dd_InvalidNumber : Option Addr} {m0_InvalidNumber m1_InvalidNumber m2_InvalidNumber m3_InvalidNumber m5_InvalidNumber : Option Value}
    {od0 an0 od1 an1 od2 an2 od3 an3 od4 an4 od5 an5 od6 an6 od7 an7 od8 an8 od9 an9 od10 an10 od11 an11 : Option Addr} {sl0 sl1 sl2 sl3 sl4 sl5 sl6 sl7 sl8 sl9 sl10 sl11 : Array (Option Value)} {oc0 kV0 dc0 pm0 cd0 ct0 oc1 kV1 dc1 pm1 cd1 ct1 oc2 kV2 dc2 pm2 cd2 ct2 oc3 kV3 dc3 pm3 cd3 ct3 oc4 kV4 dc4 pm4 cd4 ct4 oc5 kV5 dc5 pm5 cd5 ct5 oc6 kV6 dc6 pm6 cd6 ct6 oc7 kV7 dc7 pm7 cd7 ct7 oc8 kV8 dc8 pm8 cd8 ct8 oc9 kV9 dc9 pm9 cd9 ct9 oc10 kV10 dc10 pm10 cd10 ct10 oc11 kV11 dc11 pm11 cd11 ct11 : Value}
    {T3 : Addr} {odT3 : Option Addr} {oT3 : Value} {nT3 : Nat} {slT3 : Array (Option Value)} 
    (l0 : K.lookup f0 = some ⟨oc0, od0, .func (PySem.W.fnOf "__init__" "InvalidNumber.__init__" (defArgs s_InvalidNumber___init__) (defBody s_InvalidNumber___init__) (defScope s_InvalidNumber___init__) .none kV0 dc0 pm0 an0 cd0 ct0), sl0⟩) (c0 : PySem.W.codeIn K cd0 "InvalidNumber.__init__" = true) (k0 : PySem.W.keepIn K (.ref f0) = true)
    (a1 : PySem.W.nsIn K mainGlobals "is_integer" = some (some (.ref f1))) (l1 : K.lookup f1 = some ⟨oc1, od1, .func (PySem.W.fnOf "is_integer" "is_integer" (defArgs s_is_integer) (defBody s_is_integer) (defScope s_is_integer) .none kV1 dc1 pm1 an1 cd1 ct1), sl1⟩) (c1 : PySem.W.codeIn K cd1 "is_integer" = true) (k1 : PySem.W.keepIn K (.ref f1) = true)
    (a2 : PySem.W.nsIn K mainGlobals "is_within" = some (some (.ref f2))) (l2 : K.lookup f2 = some ⟨oc2, od2, .func (PySem.W.fnOf "is_within" "is_within" (defArgs s_is_within) (defBody s_is_within) (defScope s_is_within) .none kV2 dc2 pm2 an2 cd2 ct2), sl2⟩) (c2 : PySem.W.codeIn K cd2 "is_within" = true) (k2 : PySem.W.keepIn K (.ref f2) = true)
    (a3 : PySem.W.nsIn K mainGlobals "check_number" = some (some (.ref f3))) (l3 : K.lookup f3 = some ⟨oc3, od3, .func (PySem.W.fnOf "check_number" "check_number" (defArgs s_check_number) (defBody s_check_number) (defScope s_check_number) (.ref T3) kV3 dc3 pm3 an3 cd3 ct3), sl3⟩) (c3 : PySem.W.codeIn K cd3 "check_number" = true) (k3 : PySem.W.keepIn K (.ref f3) = true)
    (t3 : K.lookup T3 = some ⟨oT3, odT3, .seq #[.none] nT3, slT3⟩)
    (a4 : PySem.W.nsIn K mainGlobals "least_length" = some (some (.ref f4))) (l4 : K.lookup f4 = some ⟨oc4, od4, .func (PySem.W.fnOf "least_length" "least_length" (defArgs s_least_length) (defBody s_least_length) (defScope s_least_length) .none kV4 dc4 pm4 an4 cd4 ct4), sl4⟩) (c4 : PySem.W.codeIn K cd4 "least_length" = true) (k4 : PySem.W.keepIn K (.ref f4) = true)
    (a5 : PySem.W.nsIn K mainGlobals "_law_source" = some (some (.ref f5))) (l5 : K.lookup f5 = some ⟨oc5, od5, .func (PySem.W.fnOf "_law_source" "_law_source" (defArgs s_source) (defBody s_source) (defScope s_source) .none kV5 dc5 pm5 an5 cd5 ct5), sl5⟩) (c5 : PySem.W.codeIn K cd5 "_law_source" = true) (k5 : PySem.W.keepIn K (.ref f5) = true)
    (a6 : PySem.W.nsIn K mainGlobals "_law_draw" = some (some (.ref f6))) (l6 : K.lookup f6 = some ⟨oc6, od6, .func (PySem.W.fnOf "_law_draw" "_law_draw" (defArgs s_draw) (defBody s_draw) (defScope s_draw) .none kV6 dc6 pm6 an6 cd6 ct6), sl6⟩) (c6 : PySem.W.codeIn K cd6 "_law_draw" = true) (k6 : PySem.W.keepIn K (.ref f6) = true)
    (a7 : PySem.W.nsIn K mainGlobals "_law_pick" = some (some (.ref f7))) (l7 : K.lookup f7 = some ⟨oc7, od7, .func (PySem.W.fnOf "_law_pick" "_law_pick" (defArgs s_pick) (defBody s_pick) (defScope s_pick) .none kV7 dc7 pm7 an7 cd7 ct7), sl7⟩) (c7 : PySem.W.codeIn K cd7 "_law_pick" = true) (k7 : PySem.W.keepIn K (.ref f7) = true)
    (a8 : PySem.W.nsIn K mainGlobals "_law_due" = some (some (.ref f8))) (l8 : K.lookup f8 = some ⟨oc8, od8, .func (PySem.W.fnOf "_law_due" "_law_due" (defArgs s_due) (defBody s_due) (defScope s_due) .none kV8 dc8 pm8 an8 cd8 ct8), sl8⟩) (c8 : PySem.W.codeIn K cd8 "_law_due" = true) (k8 : PySem.W.keepIn K (.ref f8) = true)
    (a9 : PySem.W.nsIn K mainGlobals "_law_is_right" = some (some (.ref f9))) (l9 : K.lookup f9 = some ⟨oc9, od9, .func (PySem.W.fnOf "_law_is_right" "_law_is_right" (defArgs s_is_right) (defBody s_is_right) (defScope s_is_right) .none kV9 dc9 pm9 an9 cd9 ct9), sl9⟩) (c9 : PySem.W.codeIn K cd9 "_law_is_right" = true) (k9 : PySem.W.keepIn K (.ref f9) = true)
    (a10 : PySem.W.nsIn K mainGlobals "_law_error" = some (some (.ref f10))) (l10 : K.lookup f10 = some ⟨oc10, od10, .func (PySem.W.fnOf "_law_error" "_law_error" (defArgs s_error) (defBody s_error) (defScope s_error) .none kV10 dc10 pm10 an10 cd10 ct10), sl10⟩) (c10 : PySem.W.codeIn K cd10 "_law_error" = true) (k10 : PySem.W.keepIn K (.ref f10) = true)
    (a11 : PySem.W.nsIn K mainGlobals "law" = some (some (.ref f11))) (l11 : K.lookup f11 = some ⟨oc11, od11, .func (PySem.W.fnOf "law" "law" (defArgs s_law) (defBody s_law) (defScope s_law) .none kV11 dc11 pm11 an11 cd11 ct11), sl11⟩) (c11 : PySem.W.codeIn K cd11 "law" = true) (k11 : PySem.W.keepIn K (.ref f11) = true)
    (v_GREATEST_ROW : PySem.W.nsIn K mainGlobals "GREATEST_ROW" = some (some (.int 1000000000000000000000000000000 t_GREATEST_ROW)))
    (v_LEAST_HALVED : PySem.W.nsIn K mainGlobals "LEAST_HALVED" = some (some (.int 64 t_LEAST_HALVED)))
    (z_abs : PySem.W.nsIn K mainGlobals "abs" = some none)
    (z_bool : PySem.W.nsIn K mainGlobals "bool" = some none)
    (z_int : PySem.W.nsIn K mainGlobals "int" = some none)
    (z_isinstance : PySem.W.nsIn K mainGlobals "isinstance" = some none)
    (z_len : PySem.W.nsIn K mainGlobals "len" = some none)
    (z_range : PySem.W.nsIn K mainGlobals "range" = some none)
    (aX_InvalidNumber : PySem.W.nsIn K mainGlobals "InvalidNumber" = some (some (.ref C_InvalidNumber)))
    (ii_InvalidNumber : PySem.W.findIn K (.ref C_InvalidNumber) "__init__" = some (some (.ref f0)))
    (xL_InvalidNumber : K.lookup C_InvalidNumber = some (excClassObj nm_InvalidNumber q_InvalidNumber C_InvalidNumber N_InvalidNumber bs_InvalidNumber [.ref C_SortError, .type "ValueError", .type "Exception", .type "BaseException", .type "object"] true sn_InvalidNumber sub_InvalidNumber ab_InvalidNumber col_InvalidNumber dd_InvalidNumber m0_InvalidNumber m1_InvalidNumber m2_InvalidNumber m3_InvalidNumber m5_InvalidNumber "ValueError.__new__"))
    (sx_InvalidNumber : PySem.W.findIn K (.ref C_InvalidNumber) "__setattr__" = some (some (.builtin "object.__setattr__")))
    (gx_InvalidNumber : PySem.W.findIn K (.ref C_InvalidNumber) "__getattribute__" = some (some (.builtin "BaseException.__getattribute__")))
    (ggx_InvalidNumber : PySem.W.findIn K (.ref C_InvalidNumber) "__getattr__" = some none)
    (nx_InvalidNumber : PySem.W.findIn K (.ref C_InvalidNumber) "name" = some none)
    (tx_InvalidNumber : PySem.W.typeIn K (.ref f0) = some (.type "function"))
    (kx_InvalidNumber : PySem.W.keepIn K (.ref C_InvalidNumber) = true)
    (ex_InvalidNumber : PySem.W.subIn K (.ref C_InvalidNumber) (.type "BaseException") = some true)
    (tyx_InvalidNumber : PySem.W.typeIn K (.ref C_InvalidNumber) = some (.type "type"))
    (hx_InvalidNumber : PySem.W.hasDictIn K C_InvalidNumber = true)
    (icx_InvalidNumber : PySem.W.isClsIn K C_InvalidNumber = true)
    (scx_InvalidNumber : PySem.W.subIn K (.ref C_InvalidNumber) (.ref C_InvalidNumber) = some true)
    (aX_SortError : PySem.W.nsIn K mainGlobals "SortError" = some (some (.ref C_SortError)))
    (r1x_SortError : PySem.W.readsIn K C_SortError (.type "type") = true)
    (r2x_SortError : PySem.W.specialIn K (.ref C_SortError) "__getattribute__" = some (some (.builtin "type.__getattribute__")))
    (vix_SortError : PySem.W.findCls K (.ref C_SortError) (.type "type") "__init__" = some (.val (.builtin "ValueError.__init__")))
    : ∃ fd : FuncData, (∀ (s : Shared) (v : Value), BindsTo s fd ⟨[v], []⟩ [("script", v)]) ∧ ∀ base : Heap, K.In base → base.Ns mainGlobals mg → FnOk l.prog w K mg base CX0 6 fa fd ["script"] (spLaw K) := by
  have e : fa = f11 := by
    have e := hfa.symm.trans (PySem.W.mg_of X G a11)
    cases e
    rfl
  have F0 := fun_mk (st := s_InvalidNumber___init__) l0 c0 k0
  have B0 := F0.binds (ps := P_InvalidNumber___init__) fun _ _ _ _ _ _ us hl => match us, hl with | [_, _], _ => rfl
  have F1 := fun_mk (st := s_is_integer) l1 c1 k1
  have B1 := F1.binds (ps := P_is_integer) fun _ _ _ _ _ _ us hl => match us, hl with | [_], _ => rfl
  have F2 := fun_mk (st := s_is_within) l2 c2 k2
  have B2 := F2.binds (ps := P_is_within) fun _ _ _ _ _ _ us hl => match us, hl with | [_, _, _], _ => rfl
  have F3 := funV_mk (st := s_check_number) l3 c3
  have B3_0 := bindsV (st := s_check_number) (dvs := [.non]) (its := [.none]) (ps := P_check_number) l3 c3 k3 t3 (.cons rfl .nil) 4 1 (List.cons_ne_nil _ _) rfl fun _ _ _ _ _ _ _ us its h1 h2 => match us, its, h1, h2 with | [_, _, _, _], [_], _, _ => ⟨_, rfl, rfl⟩
  obtain ⟨ds3, rds3, bds3⟩ := B3_0
  have F4 := fun_mk (st := s_least_length) l4 c4 k4
  have B4 := F4.binds (ps := P_least_length) fun _ _ _ _ _ _ us hl => match us, hl with | [_], _ => rfl
  have F5 := fun_mk (st := s_source) l5 c5 k5
  have B5 := F5.binds (ps := P_source) fun _ _ _ _ _ _ us hl => match us, hl with | [_], _ => rfl
  have F6 := fun_mk (st := s_draw) l6 c6 k6
  have B6 := F6.binds (ps := P_draw) fun _ _ _ _ _ _ us hl => match us, hl with | [_, _], _ => rfl
  have F7 := fun_mk (st := s_pick) l7 c7 k7
  have B7 := F7.binds (ps := P_pick) fun _ _ _ _ _ _ us hl => match us, hl with | [_, _], _ => rfl
  have F8 := fun_mk (st := s_due) l8 c8 k8
  have B8 := F8.binds (ps := P_due) fun _ _ _ _ _ _ us hl => match us, hl with | [_], _ => rfl
  have F9 := fun_mk (st := s_is_right) l9 c9 k9
  have B9 := F9.binds (ps := P_is_right) fun _ _ _ _ _ _ us hl => match us, hl with | [_], _ => rfl
  have F10 := fun_mk (st := s_error) l10 c10 k10
  have B10 := F10.binds (ps := P_error) fun _ _ _ _ _ _ us hl => match us, hl with | [_], _ => rfl
  have F11 := fun_mk (st := s_law) l11 c11 k11
  have B11 := F11.binds (ps := P_law) fun _ _ _ _ _ _ us hl => match us, hl with | [_], _ => rfl
  have T : Txt K mg ⟨f0, f1, f2, f3, f4, f5, f6, f7, f8, f9, f10, f11, t_GREATEST_ROW, t_LEAST_HALVED, C_InvalidNumber, C_SortError⟩ ⟨_, _, _, _, _, _, _, _, _, _, _, _⟩ := ⟨F0, B0, PySem.W.mg_of X G a1, k1, F1, B1, PySem.W.mg_of X G a2, k2, F2, B2, PySem.W.mg_of X G a3, k3, F3, Binds.none rds3 bds3, PySem.W.mg_of X G a4, k4, F4, B4, kbn_least_length_0_many F4, PySem.W.mg_of X G a5, k5, F5, B5, PySem.W.mg_of X G a6, k6, F6, B6, PySem.W.mg_of X G a7, k7, F7, B7, PySem.W.mg_of X G a8, k8, F8, B8, PySem.W.mg_of X G a9, k9, F9, B9, PySem.W.mg_of X G a10, k10, F10, B10, PySem.W.mg_of X G a11, k11, F11, B11, PySem.W.mg_of X G v_GREATEST_ROW, PySem.W.mg_of X G v_LEAST_HALVED, PySem.W.mg_none_of X G z_abs, PySem.W.mg_none_of X G z_bool, PySem.W.mg_none_of X G z_int, PySem.W.mg_none_of X G z_isinstance, PySem.W.mg_none_of X G z_len, PySem.W.mg_none_of X G z_range, exC_mk X G aX_InvalidNumber xL_InvalidNumber sx_InvalidNumber gx_InvalidNumber ggx_InvalidNumber nx_InvalidNumber ii_InvalidNumber tx_InvalidNumber kx_InvalidNumber ex_InvalidNumber tyx_InvalidNumber hx_InvalidNumber icx_InvalidNumber scx_InvalidNumber, ⟨PySem.W.mg_of X G aX_SortError, r1x_SortError, r2x_SortError, vix_SortError⟩⟩
  exact ⟨_, fun s v => .of_eq rfl, fun base _ _ => by rw [e]; exact ok_law T⟩
end K13
open PySem PySem.W PyProof.Rows
set_option maxHeartbeats 0 in
theorem PySem.Challenge.cw_askedorder_k13_least_lengths_holds : PySem.Challenge.rw_askedorder_k13_least_lengths.Holds := by
  w_on; o_law; k_head; (case hw => w_witness2)
  k_fill
  refine L2.walk_of (l := PySem.Challenge.rw_askedorder_k13_least_lengths) (n := 63) (k := 6) (x := "script") (CX := fun _ => L2.CX0) (sp := fun w => K13.spLaw _) rfl (by decide) rfl ⟨rfl, by decide, by decide⟩ (fun w h Y => PySem.W.kIn_of Y) ?F (fun _ _ a ns hl _ hS => ⟨a, ns, rfl, hS, hl, fun _ => rfl⟩) (fun _ _ _ _ _ h => h)
  case F =>
    intro w mg fa h KX G hmg
    refine' K13.all_mk KX G hmg ?l0 ?c0 ?k0 ?a1 ?l1 ?c1 ?k1 ?a2 ?l2 ?c2 ?k2 ?a3 ?l3 ?c3 ?k3 ?t3 ?a4 ?l4 ?c4 ?k4 ?a5 ?l5 ?c5 ?k5 ?a6 ?l6 ?c6 ?k6 ?a7 ?l7 ?c7 ?k7 ?a8 ?l8 ?c8 ?k8 ?a9 ?l9 ?c9 ?k9 ?a10 ?l10 ?c10 ?k10 ?a11 ?l11 ?c11 ?k11 ?v_GREATEST_ROW ?v_LEAST_HALVED ?z_abs ?z_bool ?z_int ?z_isinstance ?z_len ?z_range ?aX_InvalidNumber ?ii_InvalidNumber ?xL_InvalidNumber ?sx_InvalidNumber ?gx_InvalidNumber ?ggx_InvalidNumber ?nx_InvalidNumber ?tx_InvalidNumber ?kx_InvalidNumber ?ex_InvalidNumber ?tyx_InvalidNumber ?hx_InvalidNumber ?icx_InvalidNumber ?scx_InvalidNumber ?aX_SortError ?r1x_SortError ?r2x_SortError ?vix_SortError
    (case aX_InvalidNumber => k_is); (case aX_SortError => k_is); (case ii_InvalidNumber => k_is); (case l0 => k_is); (case c0 => k_is); (case k0 => k_is)
    (case a1 => k_is); (case l1 => k_is); (case c1 => k_is); (case k1 => k_is); (case a2 => k_is); (case l2 => k_is)
    (case c2 => k_is); (case k2 => k_is); (case a3 => k_is); (case l3 => k_is); (case c3 => k_is); (case k3 => k_is)
    (case t3 => k_is); (case a4 => k_is); (case l4 => k_is); (case c4 => k_is); (case k4 => k_is); (case a5 => k_is)
    (case l5 => k_is); (case c5 => k_is); (case k5 => k_is); (case a6 => k_is); (case l6 => k_is); (case c6 => k_is)
    (case k6 => k_is); (case a7 => k_is); (case l7 => k_is); (case c7 => k_is); (case k7 => k_is); (case a8 => k_is)
    (case l8 => k_is); (case c8 => k_is); (case k8 => k_is); (case a9 => k_is); (case l9 => k_is); (case c9 => k_is)
    (case k9 => k_is); (case a10 => k_is); (case l10 => k_is); (case c10 => k_is); (case k10 => k_is); (case a11 => k_is)
    (case l11 => k_is); (case c11 => k_is); (case k11 => k_is); (case v_GREATEST_ROW => k_is); (case v_LEAST_HALVED => k_is); (case z_abs => k_is)
    (case z_bool => k_is); (case z_int => k_is); (case z_isinstance => k_is); (case z_len => k_is); (case z_range => k_is); (case xL_InvalidNumber => k_is)
    (case sx_InvalidNumber => k_is); (case gx_InvalidNumber => k_is); (case ggx_InvalidNumber => k_is); (case nx_InvalidNumber => k_is); (case tx_InvalidNumber => k_is); (case kx_InvalidNumber => k_is)
    (case ex_InvalidNumber => k_is); (case tyx_InvalidNumber => k_is); (case hx_InvalidNumber => k_is); (case icx_InvalidNumber => k_is); (case scx_InvalidNumber => k_is); (case r1x_SortError => k_is)
    (case r2x_SortError => k_is); (case vix_SortError => k_is)


