import PyProof.Rows.All
import Wide.All
import OpenK.AllK
import Wide.FinOn
import HandS.ForMost
import HandS.EndBits
import HandS.Wide
import HandS.Exc
import HandS.ExcOwn
import KE.KIsAll
import HandS.ExcInit
import HandS.ExcIs
import HandS.ExcField
import HandS.ExcValue
import HandS.IsInst
import HandS.Defaults
import HandS.MakeKwOnly
import HandS.More
import HandS.Walk
import HandS.Gcd
import PySem.Challenge.RW_screwsums_k01_plain_values_told
import PyProof.ReprLen
import PyProof.FitsInt
import HandS.WordsExc
import HandS.TryOnly
import HandS.EndTab
import HandS.Style
import KE.KNestM
import KE.KLam
import KE.RegKIsAll
set_option Elab.async false
set_option linter.all false
set_option maxRecDepth 100000
set_option maxHeartbeats 4000000
/-! A def whose promise may lean on this: no builtin that guards itself (a repr of a list, say) is at work around it. -/
namespace SG
open PySem PySem.Spec PyProof.Rows L2

/-- as L2's FnOk, where nothing guarded runs around -/
structure FnG (P : Program) (w : World) (K : PySem.W.Frag) (mg : Str → Option Value) (base : Heap)
    (CX : CXT) (k : Nat) (f : Addr) (fd : FuncData) (ps : List Str) (sp : Sp) : Prop where
  len : ∀ vs H Q E, sp vs H Q E → vs.length = ps.length
  run : ∀ (A : Around) (outer : List Env) (s : Shared) (H : Hp) (args : Args) (us : List Value) (vs : List V) (Q : VK) (E : XK),
    A.guards = some [] → Room k A → Env0 P w K mg base A outer s H → BindsTo s fd args (ps.zip us) → Vals vs us →
    sp vs H Q E → codeAny (model P w) A (.call (.ref f) args) (CR CX outer P w H s Q E) s

section
variable {P : Program} {w : World} {K : PySem.W.Frag} {mg : Str → Option Value} {base : Heap}
  {CX : CXT} {k : Nat} {f : Addr} {fd : FuncData} {ps : List Str} {sp : Sp}
theorem FnG.of (F : FnOk P w K mg base CX k f fd ps sp) : FnG P w K mg base CX k f fd ps sp :=
  ⟨F.len, fun A o s H a us vs Q E _ hr => F.run A o s H a us vs Q E hr⟩
theorem FnG.mono {j : Nat} (F : FnG P w K mg base CX j f fd ps sp) (h : j ≤ k) : FnG P w K mg base CX k f fd ps sp :=
  ⟨F.len, fun A o s H a us vs Q E hg hr => F.run A o s H a us vs Q E hg (hr.mono h)⟩

/-- from a def's text to its promise, the guards handed to the body -/
theorem fnG_of {x qual : Str} {st : Stmt} {N : List Str} (F : Fun K x qual st f fd) (S : FnScope N ps (defScope st))
    (len : ∀ vs H Q E, sp vs H Q E → vs.length = ps.length)
    (hbody : ∀ (cdv : Value) (A : Around) (outer : List Env) (s : Shared) (H : Hp) (vs : List V) (Q : VK) (E : XK),
      A.guards = some [] → Room k (A.deeper (envOfC qual (defScope st) s.heap.objs.size f cdv)) → sp vs H Q E →
      ∃ t, PSs (cxOf CX P w K mg base N qual (defScope st) f cdv A outer s H E) (defBody st) t ∧
        t { nx := fun _ H' => Q .non H', rt := Q } (start N vs) H) :
    FnG P w K mg base CX (k + 1) f fd ps sp := by
  obtain ⟨oc, od, kV, doc, pm, an, cdv, ct, osl, rfl, lk, hcd⟩ := F.ex
  refine ⟨len, ?_⟩
  intro A outer s H args us vs Q E hgd hr e0 hb r hsp
  have hlen := len _ _ _ _ hsp
  have old : ∀ b o, base.get? b = some o → s.heap.get? b = some o := fun b o e => (e0.bs b o e).1
  have KX : K.In s.heap := e0.mod.kin.keeps old
  have lim : s.heap.NoLimit := e0.mod.nolimit.keeps old
  refine codeAny_call_function hr.depth (KX _ _ lk) rfl S.co S.gen rfl (PySem.W.codeRec_of KX hcd) (hb _ _ _ _ ?_)
  refine wpAny_newFunctionEnv_cells S.kind ?_ ?_
  · rintro ⟨n, v⟩ hy
    rcases S.par n (List.of_mem_zip hy).1 with q | q
    · exact .inl q
    · exact .inr ⟨q, PySem.W.cellsFrom_some _ _ _ (.inl q)⟩
  · intro env he s1 x
    subst he
    refine ⟨lim.keeps x.toInCall.keep, codeAny_func ?_⟩
    obtain ⟨t, ht, hq⟩ := hbody cdv A outer s H vs Q E hgd (hr.deeper _) hsp
    have I := inv_start (CX := CX) (E := E) S hr.hd e0 hlen r x
    refine wpAny_mono (ht.run [] s1 (start N vs) H _ I hq) ?_ (fun e s' hs => hs)
    intro fl s' hs
    cases fl with
    | ret u =>
      obtain ⟨v, σ', H', J, rv, q⟩ := hs
      exact ⟨v, H', J.os, J.bare, J.base, J.hok, rv, q⟩
    | next =>
      obtain ⟨σ', H', J, q⟩ := hs
      exact ⟨V.non, H', J.os, J.bare, J.base, J.hok, rfl, q⟩
    | brk =>
      obtain ⟨_, _, _, q⟩ := hs
      exact q.elim
    | cont =>
      obtain ⟨_, _, _, q⟩ := hs
      exact q.elim
end

section
variable {X : Cx} {CX : CXT} {k : Nat} {f : Addr} {fd : FuncData} {ps : List Str} {sp : Sp} {dvs : List V} {ds : List Value} {E : XK}
  {x : Str} {p pos : Pos} {e : Expr} {es : List Expr} {t : TA}
theorem run_g {pins : List (Addr × Obj)} {σ : L2.St} {H : Hp} {s : Shared} {Q : VK} {us : List Value} {vs : List V}
    (F : FnG X.prog X.w X.K X.mg X.base CX k f fd ps sp) (hg : X.A.guards = some []) (hr : Room k X.A) (hb : Binds X.K fd ps ds)
    (hd : Vals dvs ds) (hx : Passes CX X E) (I : Inv X pins σ H s) (r : Vals vs us) (h : sp (vs ++ dvs) H Q E) :
    wpAny (model X.prog X.w) X.A (call (.ref f) us) (EP X pins σ Q) X.xe s := by
  have r2 : Vals (vs ++ dvs) (us ++ ds) := r.append hd
  have hl : (us ++ ds).length = ps.length := r2.length.symm.trans (F.len _ _ _ _ h)
  refine wpAny_call (codeAny_mono (F.run X.A X.stack s H ⟨us, []⟩ _ _ Q E hg hr I.env0 (hb s us I.kIn hl) r2 h) ?_)
  intro r s' hq
  cases r with
  | error e => exact hx pins σ H s e s' I hq
  | ok fl => cases fl with
    | ret u => exact I.after hq
    | next => exact hq.elim
    | brk => exact hq.elim
    | cont => exact hq.elim
/-- f(e, ..), f's promise leaning on the guards -/
theorem pe_callG (F : FnG X.prog X.w X.K X.mg X.base CX k f fd ps sp) (hgd : X.A.guards = some []) (hr : Room k X.A) (hg : Gl X x)
    (hm : X.mg x = some (.ref f)) (hk : PySem.W.keepIn X.K (.ref f) = true) (hb : Binds X.K fd ps ds) (hd : Vals dvs ds) (hx : Passes CX X E)
    (ha : PA X (e :: es) t) (hdb : (x == ("__debug__" : Str)) = false := by decide)
    (he : starEach (e :: es) X.env = (false, eval e X.env) :: starEach es X.env := by rfl)
    (hpl : (backTo pos (starEach es X.env)).any (·.1) = false := by rfl) :
    PE X (.Call (.Name x p) (e :: es) [] pos) (tCall sp dvs E t) := by
  refine ⟨fun pins s σ H Q I h => wpAny_Call_Name_kw (ld_glob I hg hm ?_ hdb)⟩
  refine PySem.W.callWith_K (h₀ := X.base) I.ok.mod.kin hk ?_ he hpl
  refine thn (ha.run pos pins s σ H _ I h) ?_
  rintro us s1 ⟨vs, H1, I1, r, q⟩
  exact ⟨I1.kIn, run_g F hgd hr hb hd hx I1 r q⟩
end

/-! ### repr of data: None, bools, ints, texts, lists, tuples, dicts of these -/
mutual
/-- what stands at a value, as data -/
inductive Dv (K : PySem.W.Frag) (H : Hp) : V → PyData → Prop
  | non : Dv K H .non .none
  | bl (b : Bool) : Dv K H (.bl b) (.bool b)
  | int (i : Int) : Dv K H (.int i) (.int i)
  | str (x : Str) : Dv K H (.str x) (.str x)
  | lst {a : Addr} {xs : List V} {ds : List PyData} : 1 < a → SqL K H a xs → DvAll K H xs ds → Dv K H (.ref a) (.list ds)
  | tup {a : Addr} {xs : List V} {ds : List PyData} : SqT K H a xs → DvAll K H xs ds → Dv K H (.ref a) (.tuple ds)
  | dic {a : Addr} {k : Int} {v : V} {d : PyData} : H a = some (.dK [(.inl k, v)]) → Dv K H v d → Dv K H (.ref a) (.dict [(.int k, d)])
inductive DvAll (K : PySem.W.Frag) (H : Hp) : List V → List PyData → Prop
  | nil : DvAll K H [] []
  | cons {v : V} {vs : List V} {d : PyData} {ds : List PyData} : Dv K H v d → DvAll K H vs ds → DvAll K H (v :: vs) (d :: ds)
end

section
variable {X : Cx} {pins : List (Addr × Obj)} {σ : L2.St} {H : Hp} {s : Shared}
mutual
theorem Dv.reads (I : Inv X pins σ H s) : ∀ (d : PyData) (v : V) (u : Value), Dv X.K H v d → RelV v u → ∃ as, Reads s.heap u d as ∧ sysModules ∉ as
  | .none, _, _, h, r => by
    cases h; cases r
    exact ⟨_, .none, List.not_mem_nil⟩
  | .bool b, _, _, h, r => by
    cases h; cases r
    exact ⟨_, .bool b, List.not_mem_nil⟩
  | .int i, _, _, h, r => by
    cases h
    obtain ⟨t, rfl⟩ := r
    exact ⟨_, .int i t, List.not_mem_nil⟩
  | .str x, _, _, h, r => by
    cases h
    obtain ⟨t, rfl⟩ := r
    exact ⟨_, .str x t, List.not_mem_nil⟩
  | .list ds, _, _, h, r => by
    cases h with
    | lst hn hs ha =>
      cases r
      obtain ⟨its, rv, ⟨o, n, ho, hc, _, hd⟩, _⟩ := I.list hs
      obtain ⟨as, hr, hm⟩ := Dv.readsAll I ds _ its ha rv
      refine ⟨_, .list ho hc hd hr, fun z => ?_⟩
      rcases List.mem_cons.mp z with e | z
      · rw [← e] at hn; exact absurd hn (by decide)
      · exact hm z
  | .tuple ds, _, _, h, r => by
    cases h with
    | tup hs ha =>
      cases r
      obtain ⟨its, rv, ⟨o, ho, hc, n, hd⟩, _⟩ := I.tuple hs
      obtain ⟨as, hr, hm⟩ := Dv.readsAll I ds _ its ha rv
      exact ⟨_, .tuple ho hc hd hr, hm⟩
  | .dict [], _, _, h, _ => by cases h
  | .dict [(.int n, d)], _, _, h, r => by
    cases h with
    | dic hs hv =>
      cases r
      obtain ⟨_, hsm, vs, kv, o, es, ep, ho, hx, hd, _, hp, hnd⟩ := dk_of I.hok hs
      clear hnd
      match vs, kv with
      | [(q1, q2)], .cons qq .nil =>
        obtain ⟨e1, rv⟩ := qq
        obtain ⟨l⟩ := es
        have hp' : Pairs (mixKind X.prog X.w) l [(q1, q2)] := hp
        cases hp' with
        | @cons e0 _ _ _ k1 k2 k3 =>
          cases k3
          have e1' : Sum.inl _ = q1 := e1
          subst e1'
          have hk : keyIs (.inl _) e0.key = true := k1
          obtain ⟨i, t, z1, z2⟩ | ⟨x, t, z1, z2⟩ := keyIs_shape hk
          · cases z1
            have k2' : e0.val = q2 := k2
            obtain ⟨as, hr, hm⟩ := Dv.reads I d _ _ hv rv
            have f1 : Reads s.heap e0.key (PyData.int n) [] := by
              rw [z2]; exact .int n t
            have f2 : Reads s.heap e0.val d as := k2'.symm ▸ hr
            refine ⟨_, .dict ho hx.1 hd (.cons f1 .nil) (.cons f2 .nil), fun z => ?_⟩
            rw [List.append_nil, List.append_nil] at z
            rcases List.mem_cons.mp z with e | z'
            · rw [← e] at hsm; exact absurd hsm (by decide)
            · exact hm z'
          · cases z1
  | .dict [(.none, _)], _, _, h, _ => by cases h
  | .dict [(.bool _, _)], _, _, h, _ => by cases h
  | .dict [(.str _, _)], _, _, h, _ => by cases h
  | .dict [(.list _, _)], _, _, h, _ => by cases h
  | .dict [(.tuple _, _)], _, _, h, _ => by cases h
  | .dict [(.dict _, _)], _, _, h, _ => by cases h
  | .dict (_ :: _ :: _), _, _, h, _ => by cases h
theorem Dv.readsAll (I : Inv X pins σ H s) : ∀ (ds : List PyData) (vs : List V) (us : List Value), DvAll X.K H vs ds → Vals vs us → ∃ as, ReadsAll s.heap us ds as ∧ sysModules ∉ as
  | [], _, _, h, r => by
    cases h; cases r
    exact ⟨_, .nil, List.not_mem_nil⟩
  | d :: ds, _, _, h, r => by
    cases h with
    | cons h1 h2 =>
      cases r with
      | cons r1 r2 =>
        obtain ⟨as, q1, m1⟩ := Dv.reads I d _ _ h1 r1
        obtain ⟨bs, q2, m2⟩ := Dv.readsAll I ds _ _ h2 r2
        exact ⟨_, .cons q1 q2, fun z => (List.mem_append.mp z).elim m1 m2⟩
end
end
/-- repr(v), v data -/
def rRepr (K : PySem.W.Frag) : List V → Hp → VK → Prop := fun xs H Q =>
  ∃ v d, xs = [v] ∧ Dv K H v d ∧ d.showable = true ∧ d.shown.length ≤ sizeLine ∧ d.depth ≤ 60 ∧ Q (.str d.shown) H
theorem call_repr {X : Cx} (hg : X.A.guards = some []) (hu : X.A.units + 64 < cLine) : CallR X (.builtin "repr") (rRepr X.K) := by
  intro pins s σ H xs us Q I r h
  obtain ⟨v, d, rfl, hv, h1, h2, h3, q⟩ := h
  obtain ⟨u, rfl, ru⟩ := vals1 r
  obtain ⟨as, hr, hm⟩ := Dv.reads I d v u hv ru
  have big : ∀ {a : Addr}, u = .ref a → wpAny (model X.prog X.w) X.A (call (.builtin "repr") [u]) (EP X pins σ Q) X.xe s := by
    intro a e
    subst e
    exact repr_of_reads' hr h1 (fun _ => hm) hg (by omega) (fun _ _ e => e) (fun h' t tk k => ⟨.str d.shown, H, I.kept k, ⟨_, rfl⟩, q⟩) h2
  cases hr with
  | none => exact PySem.P.repr_of_none ⟨.str _, H, I.tok _, ⟨_, rfl⟩, by simpa only [PyData.shown] using q⟩
  | bool b => exact PySem.P.repr_of_bool ⟨.str _, H, I.tok _, ⟨_, rfl⟩, by simpa only [PyData.shown] using q⟩
  | int i t => exact PySem.P.repr_of_int (by simpa [PyData.showable] using h1) ⟨.str _, H, I.tok _, ⟨_, rfl⟩, by simpa only [PyData.shown] using q⟩
  | str x t => exact PySem.P.repr_of_str ⟨.str _, H, I.tok _, ⟨_, rfl⟩, by simpa only [PyData.shown] using q⟩ (by simpa only [PyData.shown] using h2)
  | list _ _ _ _ => exact big rfl
  | tuple _ _ _ _ => exact big rfl
  | dict _ _ _ _ _ => exact big rfl

/-- a list of written items, its place told to lie behind sys.modules -/
def tLstB (t : TA) : TE := fun σ H Q => t σ H fun xs H1 => xs.length ≤ sizeLine ∧ ∀ p, H1 p = none → 1 < p → Q (.ref p) (upd H1 p (.lst xs))
theorem pe_lstB {X : Cx} {es : List Expr} {t : TA} {pos : Pos} (h : PA X es t) : PE X (.List es pos) (tLstB t) := by
  refine ⟨fun pins s σ H Q I hq => wpAny_List_spliced (thn (h.run pos pins s σ H _ I hq) ?_)⟩
  rintro us s1 ⟨xs, H1, I1, r, z, q⟩
  refine ⟨r.length ▸ z, ?_⟩
  have hf := I1.hok.fresh (Nat.le_refl s1.heap.objs.size)
  have big : 1 < s1.heap.objs.size := I1.big
  refine ⟨.ref s1.heap.objs.size, upd H1 s1.heap.objs.size (.lst xs), I1.laid (t' := s1.toks) (fun b u e => Heap.get?_push_of_some _ e) (Nat.le_refl _) ?_, rfl, q _ hf big⟩
  exact ⟨z, us, 0, r, Heap.get?_push_size _ rfl⟩
end SG

set_option Elab.async false
set_option linter.all false
set_option maxRecDepth 100000
set_option maxHeartbeats 4000000
/-! Errors of the program's own classes as values: made by a call, kept behind an except suite, asked for their class and their fields. -/
namespace SG
open PySem PySem.Spec PyProof.Rows L2

/-! ### an error object, whatever its record holds -/
def exv (e : Addr) (cls : Value) (d : Option Addr) : HO := .ext fun h => ∃ (o : Obj) (vs : Array Value), h.get? e = some o ∧ Zc cls d o ∧ o.data = .fields vs
theorem exv_ok {P : Program} {w : World} {H : Hp} {h : Heap} {e : Addr} {cls : Value} {d : Option Addr} {o : Obj} {vs : Array Value}
    (he : h.get? e = some o) (hz : Zc cls d o) (hd : o.data = .fields vs) : ObjOk P w H h e (exv e cls d) := by
  refine ⟨⟨o, vs, he, hz, hd⟩, ⟨o, he⟩, ?_⟩
  rintro h1 h2 ⟨o', v', q, r⟩ k
  exact ⟨o', v', k _ q, r⟩
theorem exv_at {P : Program} {w : World} {H : Hp} {h : Heap} {e : Addr} {cls : Value} {d : Option Addr} (ok : HOk P w H h) (q : H e = some (exv e cls d)) :
    ∃ (o : Obj) (vs : Array Value), h.get? e = some o ∧ Zc cls d o ∧ o.data = .fields vs := by
  have x : ObjOk P w H h e (.ext fun h => ∃ (o : Obj) (vs : Array Value), h.get? e = some o ∧ Zc cls d o ∧ o.data = .fields vs) := ok e _ q
  exact x.1
/-- an error of the class at C stands at e, its dict at d: as it was made, or behind a try -/
def ExAt (H : Hp) (e C : Addr) (d : Option Addr) : Prop := H e = some (exo e C d) ∨ H e = some (exv e (.ref C) d)
theorem ExAt.get {P : Program} {w : World} {H : Hp} {h : Heap} {e C : Addr} {d : Option Addr} (x : ExAt H e C d) (ok : HOk P w H h) :
    ∃ (o : Obj) (vs : Array Value), h.get? e = some o ∧ Zc (.ref C) d o ∧ o.data = .fields vs := by
  rcases x with x | x
  · obtain ⟨t, q⟩ := exo_at ok x
    exact ⟨_, _, q, ⟨rfl, rfl⟩, rfl⟩
  · exact exv_at ok x
theorem ExAt.there {H : Hp} {e C : Addr} {d : Option Addr} (x : ExAt H e C d) : ∃ o, H e = some o := x.elim (fun q => ⟨_, q⟩) fun q => ⟨_, q⟩
theorem ExAt.same {H H' : Hp} {e C : Addr} {d : Option Addr} (s : ∀ o, H e = some o → H' e = some o) (x : ExAt H e C d) : ExAt H' e C d := x.imp (s _) (s _)
/-- its fields stand at d -/
def ExD (H : Hp) (d : Addr) (fs : List (Str × V)) : Prop := H d = some (exd d fs) ∨ H d = some (.xd fs)
theorem ExD.get {P : Program} {w : World} {H : Hp} {h : Heap} {d : Addr} {fs : List (Str × V)} (x : ExD H d fs) (ok : HOk P w H h) :
    ∃ mA, h.Ns1 d mA ∧ ∀ f, RelO (fs.lookup f) (mA f) := by
  rcases x with x | x
  · exact exd_at ok x
  · exact ok d _ x
theorem ExD.same {H H' : Hp} {d : Addr} {fs : List (Str × V)} (s : ∀ o, H d = some o → H' d = some o) (x : ExD H d fs) : ExD H' d fs := x.imp (s _) (s _)

/-! ### isinstance -/
section
variable {prog : Program} {w : World} {A : Around} {E : Value → Shared → Prop} {s : Shared} {K : PySem.W.Frag} {x D : Addr} {ox : Obj} {od : Option Obj}
open PySem.W PySem.Calls in
theorem found_class {attr g : Value} {name : Str} (hc : (clsIn K D).isSome = true) (ha : findIn K (.ref D) name = some (some attr))
    (hg : specialIn K attr "__get__" = some (some g)) (ht : takesIn K attr = some true) : findObj K D od name = some (.bind g attr) := by
  cases hcd : clsIn K D with
  | none =>
    rw [hcd] at hc
    cases hc
  | some cd =>
    unfold findObj
    rw [hcd, Option.bind_some, ha, Option.bind_some]
    simp [hg, ht]
open PySem.W PySem.Calls in
theorem ask_class {Q : Option Value → Shared → Prop} (C : ExcC K D) (X : K.In s.heap) (I : PySem.W.InstAt s.heap x ox D od)
    (h : Q (some (.ref D)) { s with toks := s.toks + 1 }) : wpAny (model prog w) A (getAttr? (.ref x) "__class__") Q E s := by
  have some_cls : (clsIn K D).isSome = true := by
    obtain ⟨cd, hc, _⟩ := any_some C.hd
    rw [hc]; rfl
  have hf := found_class (od := od) some_cls C.ha C.hn C.ht
  obtain ⟨hp, g, d, t, os⟩ := s
  have aT := I.type (M := model prog w)
  have aG := looks_findIn (M := model prog w) X C.hg
  have aA := looks_findIn (M := model prog w) X C.hk
  have aF := looks_find (M := model prog w) X I hf
  have base : Looks (model prog w) hp (isInstance (.ref x) (.type "BaseException")) true := aT.andThen (looks_subIn X C.hs)
  have notObj : (Value.builtin "BaseException.__getattribute__" == Value.builtin "object.__getattribute__") = false := by decide +kernel
  have notObj' : (onTheHeap (Value.ref D) && Value.builtin "BaseException.__getattribute__" == Value.builtin "object.__getattribute__") = false := by
    rw [notObj]; rfl
  unfold getAttr? getAttrBy? getAttrBy
  refine wpAny_bind (wpAny_mkText (wpAny_bind (wpAny_attempt (wpAny_holding (wpAny_bind (aT.at (wpAny_bind (aG.at ?_))))))))
  show wpAny _ _ (if (onTheHeap (Value.ref D) && Value.builtin "BaseException.__getattribute__" == Value.builtin "object.__getattribute__") = true then _ else _) _ _ _
  rw [notObj', if_neg Bool.false_ne_true]
  unfold getAttrByItsOwn hookBefore
  refine wpAny_bind ?_
  rw [if_pos (show onTheHeap (Value.ref D) = true from rfl)]
  refine aA.at (wpAny_bind (wpAny_attempt (wpAny_holding ?_)))
  unfold callGetattribute
  rw [show (false && onTheHeap (Value.builtin "BaseException.__getattribute__")) = false from rfl, if_neg Bool.false_ne_true]
  unfold boundAndCalled
  rw [PySem.F.excAttr_ValueError.ga.bind (.ref x)]
  refine wpAny_bind (wpAny_pure ?_)
  show wpAny _ _ (call (.builtin "BaseException.__getattribute__") [.ref x, .str "__class__" t]) _ _ _
  refine wpAny_call (codeAny_call_builtin PySem.F.excAttr_ValueError.ga.plain PySem.F.entry_bexc_ga ?_)
  refine @check_slot (model prog w) _ _ ⟨hp, g, d, t + 1, os⟩ "BaseException.__getattribute__" "BaseException" "__getattribute__" (.ref x) [.str "__class__" t] [] _ (by decide +kernel) (by decide +kernel) base (PySem.F.args_bexc_ga (.ref x) (.str "__class__" t)) ?_
  unfold Builtin.«object.__getattribute__»
  refine wpAny_bind (wpAny_of_eq (a := ((Value.ref x : Value), [Value.str "__class__" t])) (by first | rfl | (simp only [slotArgs]; rfl)) ?_)
  refine wpAny_bind (wpAny_pure (wpAny_bind (aT.at (wpAny_bind (aF.at ?_)))))
  show wpAny _ _ (holding [Value.builtin "object.__class__"] (call (.builtin "getset_descriptor.__get__") [.builtin "object.__class__", .ref x, .ref D]) >>= ret) _ _ _
  refine wpAny_bind (wpAny_holding (wpAny_call (class_get (s := ⟨hp, g, d, t + 1, os⟩) (ox := ox) (od := od) X I C.hm ?_)))
  refine wpAny_pure ?_
  show wpAny _ _ (handedOut (.ref D)) _ _ _
  rw [handedOut_of (v := .ref D) rfl]
  first
    | exact wpAny_pure (wpAny_pure h)
    | exact wpAny_pure h
    | exact wpAny_pure (wpAny_bind (wpAny_pure (wpAny_pure h)))
open PySem.W PySem.Calls in
theorem kit_err (C : ExcC K D) : KitX K (.ref x) (.ref D) (fun h => PySem.W.InstAt h x ox D od) where
  ty := fun _ _ _ I => I.type
  it := by
    intro M h X _
    obtain ⟨cd, hc, _⟩ := any_some C.hd
    unfold clsIn at hc
    split at hc
    · rename_i c' d' cd' sl' ho
      intro A' Q' E' s' k q
      unfold isType loadHead
      exact wpAny_bind (wpAny_loadPart (k _ _ (X _ _ ho)) (wpAny_pure q))
    · cases hc
  ne := by
    intro h tp dd its n sl X htp
    obtain ⟨cd, hc, _⟩ := any_some C.hd
    cases e : (Value.ref D == Value.ref tp) with
    | false => rfl
    | true =>
      have e' : D = tp := Value.ref.inj (beq_iff_eq.mp e)
      subst e'
      unfold clsIn at hc
      split at hc
      · rename_i c' d' cd' sl' ho
        cases (X _ _ ho).symm.trans htp
      · cases hc
  ca := fun X I k => ask_class C X I k
end
section
variable {X : Cx}
theorem inst_of {pins : List (Addr × Obj)} {σ : L2.St} {H : Hp} {s : Shared} {a C : Addr} {d : Option Addr} (I : Inv X pins σ H s) (x : ExAt H a C d)
    (hd : ∀ dd, d = some dd → ∃ fs, ExD H dd fs) : ∃ (o : Obj) (od : Option Obj), PySem.W.InstAt s.heap a o C od := by
  obtain ⟨o, vs, he, ⟨z1, z2⟩, hv⟩ := x.get I.hok
  have no : PySem.W.notCls o = true := by
    unfold PySem.W.notCls
    rw [hv] <;> rfl
  cases d with
  | none => exact ⟨o, none, he, z1, no, by rw [z2]; trivial⟩
  | some dd =>
    obtain ⟨fs, q⟩ := hd dd rfl
    obtain ⟨mA, ⟨od, es, ep, h1, _⟩, _⟩ := q.get I.hok
    exact ⟨o, some od, he, z1, no, by rw [z2]; exact h1⟩
/-- isinstance(e, c) of an error e, c a class -/
def rIsx (K : PySem.W.Frag) : List V → Hp → VK → Prop := fun xs H Q => ∃ (a C : Addr) (d : Option Addr) (c : V) (u : Value) (b : Bool),
  xs = [.ref a, c] ∧ ExAt H a C d ∧ (∀ dd, d = some dd → ∃ fs, ExD H dd fs) ∧ ExcC K C ∧ ClsV c u ∧ PySem.W.kitOne K (.ref C) u = some b ∧ Q (.bl b) H
theorem call_isx : CallR X (.builtin "isinstance") (rIsx X.K) := by
  intro pins s σ H xs us Q I r h
  obtain ⟨a, C, d, c, u, b, rfl, hx, hd, T, k, e, q⟩ := h
  obtain ⟨u1, u2, rfl, r1, r2⟩ := vals2 r
  cases (show u1 = Value.ref a from r1)
  cases k.eq r2
  obtain ⟨o, od, J⟩ := inst_of I hx hd
  exact PySem.W.kia_one (kit_err T) I.kIn J e (fun z => nomatch z) fun tk => ⟨.bl b, H, I.tok tk, rfl, q⟩
/-- isinstance(e, (c, ..)) of an error e, the tuple tracked -/
def rIsxT (K : PySem.W.Frag) : List V → Hp → VK → Prop := fun xs H Q => ∃ (a C : Addr) (d : Option Addr) (tp : Addr) (cs : List V) (us : List Value) (b : Bool),
  xs = [.ref a, .ref tp] ∧ ExAt H a C d ∧ (∀ dd, d = some dd → ∃ fs, ExD H dd fs) ∧ ExcC K C ∧ H tp = some (.tup cs) ∧ Paired ClsV cs us ∧ PySem.W.kitAny K (.ref C) us = some b ∧ Q (.bl b) H
theorem call_isxT : CallR X (.builtin "isinstance") (rIsxT X.K) := by
  intro pins s σ H xs us Q I r h
  obtain ⟨a, C, d, tp, cs, ws, b, rfl, hx, hd, T, ht, k, e, q⟩ := h
  obtain ⟨u1, u2, rfl, r1, r2⟩ := vals2 r
  cases (show u1 = Value.ref a from r1)
  cases (show u2 = Value.ref tp from r2)
  obtain ⟨o, od, J⟩ := inst_of I hx hd
  obtain ⟨_, its, rv, ot, h1, h2, n, h3⟩ := (show ObjOk X.prog X.w H s.heap tp (.tup cs) from I.hok tp _ ht)
  cases ClsV.all k rv
  obtain ⟨oc, od', dt, sl⟩ := ot
  dsimp only at h2 h3
  subst h2 h3
  exact PySem.W.kia_tup (kit_err T) I.kIn J h1 e (fun z => nomatch z) fun tk => ⟨.bl b, H, I.tok tk, rfl, q⟩
/-- e.f of an error e -/
def tExf (K : PySem.W.Frag) (f : Str) (te : TE) : TE := fun σ H Q => te σ H fun x H1 => ∃ (a C d : Addr) (fs : List (Str × V)) (v : V),
  x = .ref a ∧ ExAt H1 a C (some d) ∧ ExD H1 d fs ∧ XfC K C ∧ PySem.W.findIn K (.ref C) f = some none ∧ fs.lookup f = some v ∧ Q v H1
theorem pe_exf {e : Expr} {te : TE} {pos : Pos} {f : Str} (he : PE X e te) (hb : attributeBase e f X.env (eval e X.env) = eval e X.env := by rfl) :
    PE X (.Attribute e f pos) (tExf X.K f te) := by
  refine ⟨fun pins s σ H Q I h => attr_of hb (thn (he.run pins s σ H _ I h) ?_)⟩
  rintro u s1 ⟨x, H1, I1, rx, a, C, d, fs, v, rfl, ha, hd, T, hno, l, q⟩
  obtain rfl : u = Value.ref a := rx
  obtain ⟨o, vs, hg, ⟨z1, z2⟩, hv⟩ := ha.get I1.hok
  obtain ⟨mA, hns, hr⟩ := hd.get I1.hok
  obtain ⟨od, ho, hl⟩ := lookIn_ns hns
  obtain ⟨u, hu, ru⟩ := RelO.some_of (v := v) (o := mA f) (by rw [← l]; exact hr f)
  have J : PySem.W.InstAt s1.heap a o C (some od) := ⟨hg, z1, by unfold PySem.W.notCls; rw [hv] <;> rfl, by rw [z2]; exact ho⟩
  exact HandSPX.exc_get I1.kIn J T.ga T.gg T.exC (PySem.W.findObj_own T.hdC hno rfl (by rw [hl, hu])) (handed_of ru) ⟨v, H1, I1.tok _, ru, q⟩
end
end SG

set_option Elab.async false
set_option linter.all false
set_option maxRecDepth 100000
set_option maxHeartbeats 4000000
/-! An own error class called, with keywords or without: what is made is a value. -/
namespace PySem
namespace SGE
open Builtin Builtin.ObjectAttr HandSPX
section
variable {M : Model} {prog : Program} {w : World} {A : Around} {E : Value → Shared → Prop} {R : Result → Shared → Prop}
  {h : Heap} {g : Array GenState} {d : Drawn} {t : Nat} {os : OsState} {nm q : Str} {C N : Addr} {bs bm bmB : List Value} {hdct : Bool}
  {sn : List Str} {sub : List Value} {ab : Bool} {col : Option Bool} {dd : Option Addr} {k0 k1 k2 k3 k5 : Option Value} {B newId initId : String}
  {rest : List Value} {kw : List (Str × Value)}
theorem new_checked {Q : Unit → Shared → Prop} (F : ExcBaseFacts B newId initId bmB) (hT : ∀ X : String, bm.contains (.type X) = bmB.contains (.type X))
    (hC : h.get? C = some (excClassObj nm q C N bs bm hdct sn sub ab col dd k0 k1 k2 k3 k5 newId)) (hq : Q () ⟨h, g, d, t, os⟩) :
    wpAny M A (checkBuiltinCall newId ⟨.ref C :: rest, kw⟩) Q E ⟨h, g, d, t, os⟩ := by
  have below : (Value.ref C :: bm).contains (.type B) = true := by rw [List.contains_cons, hT, F.hasB, Bool.or_true]
  have lone := F.noStar
  simp only [checkBuiltinCall, F.newKind, F.newSplit, F.newRow]
  repeat (first | refine wpAny_loadPart_at hC ?_ | (refine wpAny_isSubtype_exc hC ?_; rw [below]) | refine wpAny_staticBase_exc hC ?_ | refine wpAny_madeBy_exc hC ?_ | simp only [bne_self_eq_false, Bool.false_eq_true, if_false] | wp_step)
  exact hq
theorem new_run (F : ExcBaseFacts B newId initId bmB) (hT : ∀ X : String, bm.contains (.type X) = bmB.contains (.type X))
    (hC : h.get? C = some (excClassObj nm q C N bs bm hdct sn sub ab col dd k0 k1 k2 k3 k5 newId)) (hrest : rest.length ≤ sizeLine)
    (hq : R (.ok (.ret (.ref (h.objs.size + 1)))) ⟨(h.push (PySem.W.kdv_tup rest)).push (excO C h.objs.size), g, d, t, os⟩) :
    codeAny (model prog w) A (.builtin newId ⟨.ref C :: rest, kw⟩) R ⟨h, g, d, t, os⟩ := by
  have ends := F.ends
  have cB : (Value.ref C :: bm).contains (.type B) = true := by rw [List.contains_cons, hT, F.hasB, Bool.or_true]
  have cA : (Value.ref C :: bm).contains (.type "AttributeError") = false := by rw [List.contains_cons, hT, F.noAttr]; rfl
  have cN : (Value.ref C :: bm).contains (.type "NameError") = false := by rw [List.contains_cons, hT, F.noName]; rfl
  refine codeAny_builtinAt F.entry ?_
  unfold Builtin.«BaseException.__new__»
  refine wpAt_bind ?_
  show wpAt _ _ _ (stack >>= _) _ _ _
  refine wpAt_bind (wpAt_stack fun p below => wpAt_of_wpAny ?_)
  wp_walk
  refine wpAt_of_wpAny ?_
  rw [F.owner]
  repeat (first | with_reducible refine wpAny_madeHere_exc F.canon hC ?_ | with_reducible refine wpAny_loadPart_at hC ?_ | (with_reducible refine wpAny_isSubtype_exc hC ?_; first | rw [cB] | rw [cA] | rw [cN]) | wp_step)
  show R _ _
  rw [Heap.size_push]
  exact hq
theorem type_call_run {fI : Addr} {Q : Fin → Shared → Prop} (F : ExcBaseFacts B newId initId bmB) (hT : ∀ X : String, bm.contains (.type X) = bmB.contains (.type X))
    (hC : h.get? C = some (excClassObj nm q C N bs bm hdct sn sub ab col dd k0 k1 k2 k3 k5 newId)) (hrest : rest.length ≤ sizeLine)
    (hi : W.Looks (model prog w) h (typeLookup (.ref C) "__init__") (some (.ref fI))) (hb : ∀ self, W.Looks (model prog w) h (bindSpecial (.ref fI) self) (.ref fI, [self]))
    (hq : codeAny (model prog w) A (.call (.ref fI) ⟨.ref (h.objs.size + 1) :: rest, kw⟩)
      (fun r s' => match r with | .ok (.ret v) => v = .none ∧ Q (.done (.ret (.ref (h.objs.size + 1)))) s' | .ok _ => False | .error e => E e s')
      ⟨(h.push (PySem.W.kdv_tup rest)).push (excO C h.objs.size), g, d, t, os⟩) :
    wpAny (model prog w) A (Builtin.«type.__call__» ⟨.ref C :: rest, kw⟩) Q E ⟨h, g, d, t, os⟩ := by
  repeat (first | with_reducible refine wpAny_loadPart_at hC ?_ | with_reducible refine wpAny_madeBy_exc hC ?_ | wp_step)
  refine codeAny_call_builtin_code (Code.quiet_builtin _ F.quiet) (new_checked F hT hC ?_)
  refine new_run F hT hC hrest ?_
  show wpAny _ _ _ _ _ _
  have k : ∀ b o, h.get? b = some o → ((h.push (PySem.W.kdv_tup rest)).push (excO C h.objs.size)).get? b = some o :=
    fun b o e => Heap.get?_push_of_some _ (Heap.get?_push_of_some _ e)
  have hC2 := k _ _ hC
  have got : ((h.push (PySem.W.kdv_tup rest)).push (excO C h.objs.size)).get? (h.objs.size + 1) = some (excO C h.objs.size) := by heap_get
  have selfIn : (Value.ref C :: bm).contains (.ref C) = true := by simp
  have i2 := hi.keeps k
  have b2 := (hb (.ref (h.objs.size + 1))).keeps k
  unfold isInstance
  repeat (first | with_reducible refine wpAny_loadPart_at got ?_ | (with_reducible refine wpAny_isSubtype_exc hC2 ?_; rw [selfIn]) | wp_step)
  show wpAny _ _ (typeLookup (.ref C) _) _ _ _
  refine i2.at (wpAny_holding (wpAny_bind (b2.at ?_)))
  refine wpAny_bind (wpAny_call (codeAny_mono hq ?_))
  intro r s' z
  rcases r with e | (v | _ | _ | _) <;> first | exact z | exact z.elim | skip
  obtain ⟨rfl, z⟩ := z
  first
    | exact wpAny_pure (wpAny_pure z)
    | (wp_walk; exact z)
theorem tc_checked {M : Model} {Q : Unit → Shared → Prop} (hC : h.get? C = some (excClassObj nm q C N bs bm hdct sn sub ab col dd k0 k1 k2 k3 k5 newId))
    (hq : Q () ⟨h, g, d, t, os⟩) : wpAny M A (checkBuiltinCall "type.__call__" ⟨.ref C :: rest, kw⟩) Q E ⟨h, g, d, t, os⟩ := by
  have f3 := tc_sub
  have hT : (⟨h, g, d, t, os⟩ : Shared).TypeIs (.ref C) "type" := ⟨_, hC, rfl⟩
  simp only [checkBuiltinCall, tc_kind, tc_split]
  repeat (any_goals (first | assumption | with_reducible refine wpAny_loadPart_at hC ?_ | with_reducible refine wpAny_onRaise ?_ | with_reducible refine wpAny_map ?_ | wp_step))
theorem call_run {fI : Addr} (F : ExcBaseFacts B newId initId bmB) (hT : ∀ X : String, bm.contains (.type X) = bmB.contains (.type X))
    (hC : h.get? C = some (excClassObj nm q C N bs bm hdct sn sub ab col dd k0 k1 k2 k3 k5 newId)) (hrest : rest.length ≤ sizeLine)
    (hi : W.Looks (model prog w) h (typeLookup (.ref C) "__init__") (some (.ref fI))) (hb : ∀ self, W.Looks (model prog w) h (bindSpecial (.ref fI) self) (.ref fI, [self]))
    (hq : codeAny (model prog w) (A.under (.builtin "type.__call__" ⟨.ref C :: rest, kw⟩)) (.call (.ref fI) ⟨.ref (h.objs.size + 1) :: rest, kw⟩) (W.InitBack (h.objs.size + 1) R)
      ⟨(h.push (PySem.W.kdv_tup rest)).push (excO C h.objs.size), g, d, t, os⟩) :
    codeAny (model prog w) A (.call (.ref C) ⟨rest, kw⟩) R ⟨h, g, d, t, os⟩ := by
  have f1 := tc_lookup
  have f2 := tc_bind (.ref C)
  have hTy : (⟨h, g, d, t, os⟩ : Shared).TypeIs (.ref C) "type" := ⟨_, hC, rfl⟩
  refine codeAny_of_tree ?_
  show wpAny _ _ (callAny (.ref C) _) _ _ _
  repeat (any_goals (first | assumption | with_reducible refine wpAny_loadPart_at hC ?_ | wp_step))
  refine ⟨rfl, ?_⟩
  refine codeAny_call_builtin_at (Code.quiet_builtin _ (by decide +kernel)) entry_typeCall (tc_checked hC (type_call_run F hT hC hrest hi hb ?_))
  refine codeAny_mono hq fun r s' z => ?_
  rcases r with e | (v | _ | _ | _) <;> exact z
end
end SGE
end PySem

namespace SG
open PySem PySem.Spec PyProof.Rows L2
/-- C(e, ..): the values given, then __init__ over the new error -/
def tMkE (C : Addr) (n m : Nat) (sp : Sp) (gV : List V → List V → List V) (t tk : TA) : TE := fun σ H Q => t σ H fun vs H1 => tk σ H1 fun zs H2 =>
  vs.length = n ∧ zs.length = m ∧ vs.length ≤ 1000 ∧ ∀ a, H2 a = none →
  sp (gV (.ref a :: vs) zs) (upd H2 a (exo a C none)) (fun v H3 => v = .non ∧ Q (.ref a) H3) E0
section
variable {X : Cx} {k n : Nat} {f C : Addr} {fd : FuncData} {ps ks : List Str} {sp : Sp} {x : Str} {p pos : Pos} {e : Expr} {es : List Expr} {kws : List Keyword} {t tk : TA}
  {gg : List Value → List Value → List Value} {gV : List V → List V → List V}
theorem run_err {pins : List (Addr × Obj)} {σ : L2.St} {H : Hp} {s : Shared} {Q : VK} {us ws : List Value} {vs zs : List V} (T : OexC X.K C)
    (iC : PySem.W.findIn X.K (.ref C) "__init__" = some (some (.ref f))) (tI : PySem.W.typeIn X.K (.ref f) = some (.type "function"))
    (F : FnOk X.prog X.w X.K X.mg X.base CX0 k f fd ps sp) (hr : Room (k + 1) X.A) (hb : KBn X.K fd ps n ks gg gV)
    (I : Inv X pins σ H s) (r : Vals vs us) (rz : Vals zs ws) (l1 : vs.length + 1 = n) (l2 : zs.length = ks.length) (hz : vs.length ≤ 1000)
    (h : ∀ a, H a = none → sp (gV (.ref a :: vs) zs) (upd H a (exo a C none)) (fun v H3 => v = .non ∧ Q (.ref a) H3) E0) :
    wpAny (model X.prog X.w) X.A (call (.ref C) us (ks.zip ws)) (EP X pins σ Q) X.xe s := by
  obtain ⟨nm, q, N, bs, bm, sn, sub, ab, col, dd, k0, k1, k2, k3, k5, hC, hbm⟩ := T.cls
  obtain ⟨hp, g, dr, tk, os⟩ := s
  have hsz : hp.objs.size ≤ hp.objs.size + 1 := Nat.le_succ _
  have hq := h (hp.objs.size + 1) (I.hok.fresh hsz)
  have keeps : ∀ b o, hp.get? b = some o → ((hp.push (PySem.W.kdv_tup us)).push (PySem.HandSPX.excO C hp.objs.size)).get? b = some o :=
    fun b o e => Heap.get?_push_of_some _ (Heap.get?_push_of_some _ e)
  have got : ((hp.push (PySem.W.kdv_tup us)).push (PySem.HandSPX.excO C hp.objs.size)).get? (hp.objs.size + 1) = some (PySem.HandSPX.excO C hp.objs.size) := by heap_get
  have I2 : Inv X pins σ (upd H (hp.objs.size + 1) (exo (hp.objs.size + 1) C none)) ⟨(hp.push (PySem.W.kdv_tup us)).push (PySem.HandSPX.excO C hp.objs.size), g, dr, tk, os⟩ :=
    I.laid (t' := tk) (a := hp.objs.size + 1) (h' := (hp.push (PySem.W.kdv_tup us)).push (PySem.HandSPX.excO C hp.objs.size)) keeps hsz (exo_ok got)
  have r1 : Vals (V.ref (hp.objs.size + 1) :: vs) (Value.ref (hp.objs.size + 1) :: us) := .cons rfl r
  have r2 := hb.rel r1 rz
  have hus : us.length ≤ sizeLine := by
    rw [← Paired.length r, sizeLine_eq]
    omega
  have n1 : (Value.ref (hp.objs.size + 1) :: us).length = n := r1.length.symm.trans l1
  refine wpAny_call (PySem.SGE.call_run PySem.F.excBase_ValueError (fun Y => PySem.HandSPX.refsVE_contains Y bm hbm) (I.kIn _ _ hC) hus (PySem.W.looks_findIn I.kIn iC) (fun self => PySem.W.bind_fn I.kIn self tI)
    (codeAny_mono (F.run _ X.stack _ _ ⟨Value.ref (hp.objs.size + 1) :: us, ks.zip ws⟩ (gg (Value.ref (hp.objs.size + 1) :: us) ws) _ _ E0 (hr.make C us (ks.zip ws)) (I2.env0.make C us (ks.zip ws))
      (hb.to _ (Value.ref (hp.objs.size + 1) :: us) ws I2.kIn n1 (rz.length.symm.trans l2)) r2 hq) ?_))
  intro r s' hq'
  cases r with
  | error e => exact hq'.elim
  | ok fl => cases fl with
    | ret u =>
      obtain ⟨v, H', I3, rv, ev, q3⟩ := I2.after hq'
      subst ev
      exact ⟨rv, V.ref (hp.objs.size + 1), H', I3, rfl, q3⟩
    | next => exact hq'.elim
    | brk => exact hq'.elim
    | cont => exact hq'.elim
/-- C(e, ..) -/
theorem pe_err (T : OexC X.K C) (iC : PySem.W.findIn X.K (.ref C) "__init__" = some (some (.ref f))) (tI : PySem.W.typeIn X.K (.ref f) = some (.type "function"))
    (F : FnOk X.prog X.w X.K X.mg X.base CX0 k f fd ps sp) (hr : Room (k + 1) X.A) (hb : KBn X.K fd ps (n + 1) [] gg gV)
    (hg : Gl X x) (hm : X.mg x = some (.ref C)) (ha : PA X (e :: es) t) (hdb : (x == ("__debug__" : Str)) = false := by decide)
    (he : starEach (e :: es) X.env = (false, eval e X.env) :: starEach es X.env := by rfl) (hpl : (backTo pos (starEach es X.env)).any (·.1) = false := by rfl) :
    PE X (.Call (.Name x p) (e :: es) [] pos) (tMkE C n 0 sp gV t tNil) := by
  refine ⟨fun pins s σ H Q I h => wpAny_Call_Name_kw (ld_glob I hg hm ?_ hdb)⟩
  refine PySem.W.callWith_K (h₀ := X.base) I.ok.mod.kin T.kC (thn (ha.run pos pins s σ H _ I h) ?_) he hpl
  rintro us s1 ⟨vs, H1, I1, r, l1, l2, hz, q⟩
  exact ⟨I1.kIn, run_err (ws := []) (ks := []) T iC tI F hr hb I1 r .nil (congrArg Nat.succ l1) rfl hz q⟩
/-- C(k = v, ..) -/
theorem pe_errK (T : OexC X.K C) (iC : PySem.W.findIn X.K (.ref C) "__init__" = some (some (.ref f))) (tI : PySem.W.typeIn X.K (.ref f) = some (.type "function"))
    (F : FnOk X.prog X.w X.K X.mg X.base CX0 k f fd ps sp) (hr : Room (k + 1) X.A) (hb : KBn X.K fd ps 1 ks gg gV)
    (hg : Gl X x) (hm : X.mg x = some (.ref C)) (hkw : PK X kws tk)
    (hall : (backToKw pos (keywordEach kws X.env)).all (·.1.isSome) = true := by rfl) (hks : (backToKw pos (keywordEach kws X.env)).filterMap (·.1) = ks := by rfl) (hdb : (x == ("__debug__" : Str)) = false := by decide)
    (hpl : ((backTo pos (starEach [] X.env)).any (·.1) || (backToKw pos (keywordEach kws X.env)).any (·.1.isNone)) = false := by rfl) :
    PE X (.Call (.Name x p) [] kws pos) (tMkE C 0 ks.length sp gV tNil tk) := by
  refine ⟨fun pins s σ H Q I h => wpAny_Call_Name_kw (ld_glob I hg hm ?_ hdb)⟩
  refine PySem.W.callWith_KW0 (h₀ := X.base) I.ok.mod.kin T.kC hall ?_ hpl
  refine thn (hkw.run pos pins s σ H _ I h) ?_
  rintro ws s2 ⟨zs, H2, I2, rz, _, l2, hz, q2⟩
  refine ⟨I2.kIn, ?_⟩
  rw [hks]
  exact run_err (us := []) (vs := []) T iC tI F hr hb I2 .nil rz rfl l2 hz q2
end
end SG

set_option Elab.async false
set_option linter.all false
set_option maxRecDepth 100000
set_option maxHeartbeats 4000000
/-! try: body / except X as n: suite, where what was caught is kept as a value behind the suite. -/
namespace SG
open PySem PySem.Spec PyProof.Rows L2
section
variable {X : Cx} {pins : List (Addr × Obj)} {σ : L2.St} {H : Hp} {s : Shared} {a : Addr} {o : Obj} {vs : Array Value}
/-- an error that the heap holds and that nothing tracks is tracked from now on -/
theorem Inv.keepErr {cls : Value} {d : Option Addr} (I : Inv X pins σ H s) (he : s.heap.get? a = some o) (hz : Zc cls d o) (hd : o.data = .fields vs) (hn : H a = none)
    (hL : a ≠ X.env.locals) (h0 : X.s_0.heap.get? a = none) (hp : ∀ p ∈ X.pn ++ pins, p.1 ≠ a) : Inv X pins σ (upd H a (exv a cls d)) s := by
  have other : ∀ {b : Addr} {u : HO}, H b = some u → upd H a (exv a cls d) b = some u := fun {b u} q => (upd_ne (ne_of_none q hn)).trans q
  have old : ∀ {b : Addr} {u : Obj}, X.s_0.heap.get? b = some u → b ≠ a := fun {b u} q e => by
    rw [e, h0] at q
    cases q
  refine ⟨I.ok, I.os, I.bare, ⟨I.base.keep, I.base.slot, ?_, I.base.there, ?_, ?_, ?_⟩, I.loc, I.cell, ?_, ?_, ?_, ?_, I.len⟩
  · intro b u q n hx
    rw [upd_ne (old q)]
    exact I.base.free b u q n hx
  · exact fun b xs q => other (I.base.tups b xs q)
  · exact fun b u w q => other (I.base.frzs b u w q)
  · intro b ps q
    obtain ⟨m, z⟩ := I.base.tbls b ps q
    exact ⟨m, other z⟩
  · rw [upd_ne (Ne.symm hL)]
    exact I.free
  · intro x c e
    have nc : c ≠ a := fun z => by
      obtain ⟨v, oc, q1, q2⟩ := I.cell x c e
      rw [z, he] at q1
      cases q1
      rw [hd] at q2
      cases q2
    rw [upd_ne nc]
    exact I.freeC x c e
  · intro p hm
    obtain ⟨e, n, ne, nf, nd⟩ := I.pin p hm
    exact ⟨e, by rw [upd_ne (hp p hm)]; exact n, ne, nf, nd⟩
  · intro b u q
    by_cases hb : b = a
    · subst hb
      rw [upd_same] at q
      cases q
      exact exv_ok he hz hd
    · rw [upd_ne hb] at q
      exact (I.hok b u q).stay (fun c w' _ z => z) (fun c z => other z) fun c xs z => other z
end
/-- the wish of 'except x as n': slot i is n's; what was caught is kept behind the suite -/
def wKeep (K : PySem.W.Frag) (c : Value) (i : Nat) (ts : Addr → Value → Option Addr → TS) (Wout : WX) (D : Ends) : WX := fun cls d σ H =>
  ∃ b, PySem.W.exmOne K cls c = some b ∧ (b = true → ∀ a, H a = none → ts a cls d
    { nx := fun σ' H' => D.nx (σ'.set i none) (upd H' a (exv a cls d)), rt := fun v H' => D.rt v (upd H' a (exv a cls d)), bk := fun σ' H' => D.bk (σ'.set i none) (upd H' a (exv a cls d)),
      ct := fun σ' H' => D.ct (σ'.set i none) (upd H' a (exv a cls d)) } (σ.set i (some (.ref a))) H) ∧ (b = false → Wout cls d σ H)
section
variable {X : Cx} {x n : Str} {c : Value} {i : Nat} {body suite : List Stmt} {b₀ : Stmt} {np pos pos' : Pos} {tb : WX → TS} {ts : Addr → Value → Option Addr → TS} {Wout : WX}
theorem ps_try_keep (hs : X.stack = X.env :: X.outer) (hf : X.env.frame = some X.env.locals) (hN : X.N.Nodup) (hi : X.N[i]? = some n) (hln : X.env.kindOf n = some .local) (hex : X.ex = []) (hc : Names X x c) (tk : Takes X Wout)
    (hb : ∀ (W : WX) (pn : List (Addr × Obj)) (xe : Value → Shared → Prop), Takes (X.tr pn xe) W → PassesOwn (model X.prog X.w) X.A X.env xe → PSs (X.tr pn xe) body (tb W))
    (hsu : ∀ (a : Addr) (oe : Obj) (cls : Value) (d : Option Addr) (pn : List (Addr × Obj)), Zc cls d oe → (∃ vs, oe.data = .fields vs) → PSs (X.suite a ((a, oe) :: pn)) (b₀ :: suite) (ts a cls d)) :
    PS X (.Try body [.ExceptHandler (some (.Name x np)) (some n) (b₀ :: suite) pos'] [] [] pos) (fun D σ H => tb (wKeep X.K c i ts Wout D) D σ H) := by
  refine ⟨fun pins s σ H D I h => wpAny_Try_except ?_⟩
  have ok := I.ok
  have hfr : X.A.frames = some (X.env :: X.outer) := by rw [ok.frames, hs]
  have hloc : Loc X.env.scope n := .inl hln
  refine wpAny_mono ((hb (wKeep X.K c i ts Wout D) (X.pn ++ pins) (fun e s1 => wpAny (model X.prog X.w) X.A (noteFrame e X.env) (fun _ s2 => wpAny (model X.prog X.w) X.A (setFlight e none) (fun _ s3 =>
    wpAny (model X.prog X.w) X.A (handleBy e X.env [.ExceptHandler (some (.Name x np)) (some n) (b₀ :: suite) pos']) (SP X pins D) X.xe s3) X.xe s2) X.xe s1) ?caught PassesOwn.looking).run [] s σ H D (I.toTry _) h) ?thru (fun e s1 he => he)
  case thru =>
    intro f s1 hsp
    cases f with
    | next =>
      obtain ⟨σ', H', J', q⟩ := hsp
      exact wpAny_execs_nil ⟨σ', H', J'.ofTry ok, q⟩
    | brk =>
      obtain ⟨σ', H', J', q⟩ := hsp
      exact ⟨σ', H', J'.ofTry ok, q⟩
    | cont =>
      obtain ⟨σ', H', J', q⟩ := hsp
      exact ⟨σ', H', J'.ofTry ok, q⟩
    | ret u =>
      obtain ⟨v, σ', H', J', r, q⟩ := hsp
      exact ⟨v, σ', H', J'.ofTry ok, r, q⟩
  case caught =>
    rintro u s' ⟨a, B, sI, pins', σ', H', cls, d, rfl, J', nb, up, sky, na, os, ag, b, hb1, hyes, hno⟩
    have J : Inv X pins σ' H' sI := J'.ofTry ok
    have sky' : Sky B (X.env :: X.outer) a (Zc cls d) X.env.locals s'.heap := hs ▸ sky
    show wpAny (model X.prog X.w) X.A (noteFrame (.ref a) X.env) _ _ _
    refine Sky.land Zc.steady hfr hf sky' ?_
    intro h3 fl3 up3
    have J3 : Inv X pins σ' H' { s' with heap := h3 } := J.landed nb fl3.1 (up.trans up3) os ag
    obtain ⟨oe3, vs3, he3, hz3, hd3⟩ := fl3.there
    have apart : ∀ {h : Heap} {o : Obj} {vs : Array Value}, h.FunFrames B (X.env :: X.outer) → h.get? a = some o → o.data = .fields vs → a ∉ frs (X.env :: X.outer) := by
      intro h o vs ff e dd hm
      obtain ⟨_, o', e', hnf⟩ := ff.mem hm
      rw [e] at e'
      cases e'
      exact hnf _ dd
    have nfr := apart fl3.2.2.1 he3 hd3
    have nL : a ≠ X.env.locals := fun z => nfr (List.mem_filterMap.mpr ⟨X.env, List.mem_cons_self, by rw [hf, z]⟩)
    have nF : a ∉ X.fs := by
      intro hm
      obtain ⟨e, he, q⟩ := List.mem_filterMap.mp hm
      exact nfr (List.mem_filterMap.mpr ⟨e, List.mem_cons_of_mem _ he, q⟩)
    -- it stood nowhere ahead of the body
    have nI : sI.heap.get? a = none := by
      cases e : sI.heap.get? a with
      | none => rfl
      | some u =>
        have z := nb a u e (by rw [hs]; exact nfr)
        rw [fl3.2.1] at z
        cases z
    have n0 : X.s_0.heap.get? a = none := by
      cases e : X.s_0.heap.get? a with
      | none => rfl
      | some u =>
        obtain ⟨u', z⟩ := J.base.there a u e (by rw [hex]; exact fun z => nomatch z)
        rw [nI] at z
        cases z
    have np' : ∀ p ∈ X.pn ++ pins, p.1 ≠ a := by
      intro p hm z
      have q := (J.pin p hm).1
      rw [z, nI] at q
      cases q
    have S3 := J3.suite he3 hd3 na nL nF
    refine wpAny_handleBy_cons (codeAny_handlers_test ?_) (by intro q; cases q)
    have LT : PySem.W.Looks (model X.prog X.w) h3 (typeOf (.ref a)) cls := fun A Q E s k q => wpAny_typeOf_ref (k _ _ he3) (by rw [hz3.1]; exact q)
    have LM := PySem.W.exm_one (M := model X.prog X.w) J3.kIn LT hb1
    have test : ∀ {Q : Value → Shared → Prop} {E : Value → Shared → Prop}, Q c { s' with heap := h3 } → wpAny (model X.prog X.w) (X.A.mark (some (.ref a))) (eval (.Name x np) X.env) Q E { s' with heap := h3 } := by
      intro Q E q
      obtain ⟨hg, hdbg, hm | ⟨hm, hv, hnn⟩⟩ := hc
      · exact ld_glob (X := X.suite a ((a, oe3) :: (X.pn ++ pins))) S3 hg hm q hdbg
      · exact ld_blt (X := X.suite a ((a, oe3) :: (X.pn ++ pins))) S3 hg hm hv q hnn hdbg
    refine test (LM.here ?_)
    cases b with
    | true =>
      refine codeAny_handlers_suite_as (HandSPX.lands_againZ fl3 ?_)
      intro h4 fl4 up4
      have J4 : Inv X pins σ' H' { s' with heap := h4 } := J.landed nb fl4.1 ((up.trans up3).trans up4) os ag
      obtain ⟨oe4, vs4, he4, hz4, hd4⟩ := fl4.there
      have S4 := J4.suite he4 hd4 na nL nF
      refine store_ok (X := X.suite a ((a, oe4) :: (X.pn ++ pins))) (v := .ref a) S4 hN hi hloc rfl (fun s5 S5 => ?_) (.inr hln)
      refine wpAny_mono ((hsu a oe4 cls d (X.pn ++ pins) hz4 ⟨_, hd4⟩).run [] s5 _ H' _ S5 (hyes rfl a na)) ?_ (fun _ _ z => z.elim)
      intro f s6 hsp
      have leave : ∀ {σ6 : L2.St} {H6 : Hp} {Q : Shared → Prop}, Inv (X.suite a ((a, oe4) :: (X.pn ++ pins))) [] σ6 H6 s6 → (∀ s7, Inv X pins (σ6.set i none) (upd H6 a (exv a cls d)) s7 → Q s7) →
          wpAny (model X.prog X.w) X.A (do bindName X.env n .none; unbindBehindTheSuite X.env n pos') (fun _ s7 => Q s7) X.xe s6 := by
        intro σ6 H6 Q S6 hq
        obtain ⟨q1, q2, _⟩ := S6.pin (a, oe4) (List.mem_append_left _ List.mem_cons_self)
        exact gone_ok (Inv.keepErr (S6.unsuite ok) q1 hz4 hd4 q2 nL n0 np') hN hi hln hq
      cases f with
      | next =>
        obtain ⟨σ6, H6, S6, q6⟩ := hsp
        exact leave S6 fun s7 J7 => ⟨_, _, J7, q6⟩
      | brk =>
        obtain ⟨σ6, H6, S6, q6⟩ := hsp
        exact leave S6 fun s7 J7 => ⟨_, _, J7, q6⟩
      | cont =>
        obtain ⟨σ6, H6, S6, q6⟩ := hsp
        exact leave S6 fun s7 J7 => ⟨_, _, J7, q6⟩
      | ret u =>
        obtain ⟨v6, σ6, H6, S6, r6, q6⟩ := hsp
        exact leave S6 fun s7 J7 => ⟨_, _, _, J7, r6, q6⟩
    | false =>
      show wpAny _ X.A (handleBy (.ref a) X.env []) _ _ _
      refine wpAny_handleBy_nil ?_
      obtain ⟨k1, k2, k3, oe, vs, T, oT, ts', he, hz, hd, h1, hr⟩ := id fl3
      unfold PySem.passOn
      refine wpAny_bind (wpAny_field he hd h1 ?_)
      rw [if_neg (show ¬ ((Value.ref T == Value.none) = true) from by simp)]
      have fin : wpAny (model X.prog X.w) X.A (setFlight (.ref a) X.env.frame) (fun _ s4 => wpAny (model X.prog X.w) X.A (throw (.ref a) : Sem Flow) (SP X pins D) X.xe s4) X.xe { s' with heap := h3 } := by
        rw [hf]
        refine HandSPX.setFlight_upZ fl3 fun h4 hh4 up4 => wpAny_throw (tk _ _ ?_)
        exact ⟨a, B, sI, pins, σ', H', cls, d, rfl, J, nb, (up.trans up3).trans up4, .inr (.inr (by rw [hs]; exact hh4)), na, os, ag, hno rfl⟩
      first
        | exact wpAny_bind (wpAny_pure (wpAny_bind fin))
        | exact wpAny_bind fin
end
end SG

set_option Elab.async false
set_option linter.all false
set_option maxRecDepth 100000
set_option maxHeartbeats 4000000
/-! Two lists of the very same things. -/
namespace SG
open PySem PySem.Spec PyProof.Rows L2
/-- equal to itself without a look within -/
def selfV : V → Bool
  | .ref _ => true
  | v => flatB v
theorem eqAt_self {A : Around} {s : Shared} {v : V} {u u' : Value} (r : RelV v u) (r' : RelV v u') (f : selfV v = true) : SeqAt.EqAt A s u u' true := by
  cases v with
  | ref a =>
    cases (show u = Value.ref a from r)
    cases (show u' = Value.ref a from r')
    exact SeqAt.EqAt.same _
  | non => exact eqAt_same r r' rfl
  | bl b => exact eqAt_same r r' rfl
  | int i => exact eqAt_same r r' rfl
  | str x => exact eqAt_same r r' rfl
  | byt x => exact eqAt_same r r' rfl
  | flt x => cases f
  | ty x => cases f
theorem items_self {A : Around} {s : Shared} : ∀ {xs : List V} {us ws : List Value}, xs.all selfV = true → Vals xs us → Vals xs ws → ∀ j (h1 : j < us.length) (h2 : j < ws.length), SeqAt.EqAt A s us[j] ws[j] true
  | [], _, _, _, .nil, .nil, j, h1, _ => absurd h1 (Nat.not_lt_zero j)
  | x :: xs, _, _, hx, .cons a1 b1, .cons a2 b2, 0, _, _ => eqAt_self a1 a2 (by rw [List.all_cons, Bool.and_eq_true] at hx; exact hx.1)
  | x :: xs, _, _, hx, .cons a1 b1, .cons a2 b2, j + 1, h1, h2 =>
    items_self (by rw [List.all_cons, Bool.and_eq_true] at hx; exact hx.2) b1 b2 j (Nat.lt_of_succ_lt_succ h1) (Nat.lt_of_succ_lt_succ h2)
/-- a != b, both lists of the same things -/
def rNeSame (K : PySem.W.Frag) : R2 := fun x y H Q => ∃ p q xs, x = .ref p ∧ y = .ref q ∧ SqL K H p xs ∧ SqL K H q xs ∧ xs.all selfV = true ∧ Q (.bl false) H
theorem op_neSame {X : Cx} (hu : X.A.units < cLine) : OpR X (compareOp .NotEq) (rNeSame X.K) := by
  intro pins s σ H x y v u Q I rx ry h
  obtain ⟨p, q, xs, rfl, rfl, hp, hq, hs, k⟩ := h
  cases (show v = Value.ref p from rx)
  cases (show u = Value.ref q from ry)
  obtain ⟨us, r1, p1, _⟩ := I.list hp
  obtain ⟨ws, r2, p2, _⟩ := I.list hq
  have hsz : us.toArray.size = ws.toArray.size := by rw [List.size_toArray, List.size_toArray, ← r1.length, ← r2.length]
  have z := SeqAt.RcNeAt.lists (A := X.A) (e := fun _ => true) p1.isList p2.isList hsz hu (fun j h1 h2 => by
    have w := items_self (A := X.A.in1) (s := s) hs r1 r2 j (by simpa using h1) (by simpa using h2)
    simpa using w)
  rw [show ((List.range us.toArray.size).all fun _ => true) = true from List.all_eq_true.mpr fun _ _ => rfl] at z
  exact z X.prog X.w _ _ ⟨.bl false, H, I, rfl, k⟩
end SG

set_option Elab.async false
set_option linter.all false
set_option maxRecDepth 100000
set_option maxHeartbeats 4000000
/-! Small words: a walk over a list or a tuple; is True; == []; repr of what is no container; data with dicts within. -/
namespace SG
open PySem PySem.Spec PyProof.Rows L2
section
variable {X : Cx}
/-- over a list or a tuple -/
def iSeq (K : PySem.W.Frag) (tl : TE) : TI := fun σ H R => iList K tl σ H R ∨ iTup K tl σ H R
theorem pi_seq {tg l : Expr} {tl : TE} (hl : PE X l tl) : PI X tg l (iSeq X.K tl) :=
  ⟨fun pins s σ H R I h => h.elim ((pi_list hl).run pins s σ H R I) ((pi_tup hl).run pins s σ H R I)⟩
/-- x is c, x is not c, c True or False -/
def rIsB : R2 := fun x y H Q => ∃ c, y = .bl c ∧ Q (.bl (decide (x = .bl c))) H
def rNotB : R2 := fun x y H Q => ∃ c, y = .bl c ∧ Q (.bl (!decide (x = .bl c))) H
theorem plain_bl {x : V} {v : Value} {c : Bool} (r : RelV x v) : plainIs v (.bool c) = true ∧ (v == Value.bool c) = decide (x = .bl c) := by
  cases x with
  | non => cases r; exact ⟨rfl, rfl⟩
  | bl b =>
    cases r
    refine ⟨rfl, ?_⟩
    cases b <;> cases c <;> rfl
  | int _ => obtain ⟨t, rfl⟩ := r; exact ⟨rfl, rfl⟩
  | str _ => obtain ⟨t, rfl⟩ := r; exact ⟨rfl, rfl⟩
  | byt _ => obtain ⟨t, rfl⟩ := r; exact ⟨rfl, rfl⟩
  | flt _ => obtain ⟨t, rfl⟩ := r; exact ⟨rfl, rfl⟩
  | ref _ => cases r; exact ⟨rfl, rfl⟩
  | ty _ => cases r; exact ⟨rfl, rfl⟩
theorem op_isB : OpR X (compareOp .Is) rIsB := by
  intro pins s σ H x y v u Q I rx ry h
  obtain ⟨c, rfl, q⟩ := h
  cases ry
  obtain ⟨p1, p2⟩ := plain_bl (c := c) rx
  exact wpAny_is_plain p1 ⟨.bl _, H, I, by rw [p2]; rfl, q⟩
theorem op_notB : OpR X (compareOp .IsNot) rNotB := by
  intro pins s σ H x y v u Q I rx ry h
  obtain ⟨c, rfl, q⟩ := h
  cases ry
  obtain ⟨p1, p2⟩ := plain_bl (c := c) rx
  exact wpAny_isNot_plain p1 ⟨.bl _, H, I, by rw [p2]; rfl, q⟩
/-- xs == [], xs != [] -/
def rEqNil (K : PySem.W.Frag) : R2 := fun x y H Q => ∃ p q xs, x = .ref p ∧ y = .ref q ∧ SqL K H p xs ∧ SqL K H q [] ∧ Q (.bl xs.isEmpty) H
def rNeNil (K : PySem.W.Frag) : R2 := fun x y H Q => ∃ p q xs, x = .ref p ∧ y = .ref q ∧ SqL K H p xs ∧ SqL K H q [] ∧ Q (.bl (!xs.isEmpty)) H
theorem op_eqNil (hu : X.A.units < cLine) : OpR X (compareOp .Eq) (rEqNil X.K) := by
  intro pins s σ H x y v u Q I rx ry h
  obtain ⟨p, q, xs, rfl, rfl, hp, hq, k⟩ := h
  cases (show v = Value.ref p from rx)
  cases (show u = Value.ref q from ry)
  obtain ⟨us, r1, p1, _⟩ := I.list hp
  obtain ⟨ws, r2, p2, _⟩ := I.list hq
  cases r2
  cases r1 with
  | nil => exact SeqAt.RcAt.lists (A := X.A) (e := fun _ => true) p1.isList p2.isList rfl hu (fun j h1 => absurd h1 (Nat.not_lt_zero j)) X.prog X.w _ _ ⟨.bl true, H, I, rfl, k⟩
  | cons a b => exact SeqAt.RcAt.lists_lengths p1.isList p2.isList (by simp) hu X.prog X.w _ _ ⟨.bl false, H, I, rfl, k⟩
theorem op_neNil (hu : X.A.units < cLine) : OpR X (compareOp .NotEq) (rNeNil X.K) := by
  intro pins s σ H x y v u Q I rx ry h
  obtain ⟨p, q, xs, rfl, rfl, hp, hq, k⟩ := h
  cases (show v = Value.ref p from rx)
  cases (show u = Value.ref q from ry)
  obtain ⟨us, r1, p1, _⟩ := I.list hp
  obtain ⟨ws, r2, p2, _⟩ := I.list hq
  cases r2
  cases r1 with
  | nil => exact SeqAt.RcNeAt.lists (A := X.A) (e := fun _ => true) p1.isList p2.isList rfl hu (fun j h1 => absurd h1 (Nat.not_lt_zero j)) X.prog X.w _ _ ⟨.bl false, H, I, rfl, k⟩
  | cons a b => exact SeqAt.RcNeAt.lists_lengths p1.isList p2.isList (by simp) hu X.prog X.w _ _ ⟨.bl true, H, I, rfl, k⟩
/-- repr of None, a bool, an int -/
def rRepr0 : List V → Hp → VK → Prop := fun xs H Q => (xs = [.non] ∧ Q (.str (PyData.shown .none)) H) ∨ (∃ b, xs = [.bl b] ∧ Q (.str (PyData.shown (.bool b))) H) ∨ ∃ i, xs = [.int i] ∧ i.natAbs.log2 < 1920 ∧ Q (.str (PyData.shown (.int i))) H
theorem call_repr0 : CallR X (.builtin "repr") rRepr0 := by
  intro pins s σ H xs us Q I r h
  rcases h with ⟨rfl, q⟩ | ⟨b, rfl, q⟩ | ⟨i, rfl, hi, q⟩
  · obtain ⟨u, rfl, ru⟩ := vals1 r
    cases ru
    exact PySem.P.repr_of_none ⟨.str _, H, I.tok _, ⟨_, rfl⟩, by simpa only [PyData.shown] using q⟩
  · obtain ⟨u, rfl, ru⟩ := vals1 r
    cases ru
    exact PySem.P.repr_of_bool ⟨.str _, H, I.tok _, ⟨_, rfl⟩, by simpa only [PyData.shown] using q⟩
  · obtain ⟨u, rfl, t, rfl⟩ := vals1 r
    exact PySem.P.repr_of_int (by simpa using hi) ⟨.str _, H, I.tok _, ⟨_, rfl⟩, by simpa only [PyData.shown] using q⟩
end
/-! ### data, dicts within -/
mutual
inductive Dw (K : PySem.W.Frag) (H : Hp) : V → PyData → Prop
  | non : Dw K H .non .none
  | bl (b : Bool) : Dw K H (.bl b) (.bool b)
  | int (i : Int) : Dw K H (.int i) (.int i)
  | str (x : Str) : Dw K H (.str x) (.str x)
  | lst {a : Addr} {xs : List V} {ds : List PyData} : SqL K H a xs → xs.length ≤ 1000 → DwAll K H xs ds → Dw K H (.ref a) (.list ds)
  | tup {a : Addr} {xs : List V} {ds : List PyData} : SqT K H a xs → xs.length ≤ 1000 → DwAll K H xs ds → Dw K H (.ref a) (.tuple ds)
  | dic {a : Addr} {kvs : List (Key × V)} {es : List (PyData × PyData)} : H a = some (.dK kvs) → Dw K H (.ref a) (.dict es)
inductive DwAll (K : PySem.W.Frag) (H : Hp) : List V → List PyData → Prop
  | nil : DwAll K H [] []
  | cons {v : V} {vs : List V} {d : PyData} {ds : List PyData} : Dw K H v d → DwAll K H vs ds → DwAll K H (v :: vs) (d :: ds)
end
theorem Same.tup {K : PySem.W.Frag} {H H' : Hp} {a : Addr} {xs : List V} (s : Same H H') (h : SqT K H a xs) : SqT K H' a xs := by
  rcases h with (q | ⟨o, q⟩) | q
  · exact .inl (.inl (s _ _ q))
  · exact .inl (.inr ⟨o, s _ _ q⟩)
  · exact .inr q
mutual
theorem Dw.same {K : PySem.W.Frag} {H H' : Hp} (s : Same H H') : ∀ (d : PyData) (v : V), Dw K H v d → Dw K H' v d
  | .none, _, h => by cases h; exact .non
  | .bool _, _, h => by cases h; exact .bl _
  | .int _, _, h => by cases h; exact .int _
  | .str _, _, h => by cases h; exact .str _
  | .list ds, _, h => by
    cases h with
    | lst hs hl ha => exact .lst (s.seq hs) hl (DwAll.same s ds _ ha)
  | .tuple ds, _, h => by
    cases h with
    | tup hs hl ha => exact .tup (Same.tup s hs) hl (DwAll.same s ds _ ha)
  | .dict _, _, h => by
    cases h with
    | dic hs => exact .dic (s _ _ hs)
theorem DwAll.same {K : PySem.W.Frag} {H H' : Hp} (s : Same H H') : ∀ (ds : List PyData) (vs : List V), DwAll K H vs ds → DwAll K H' vs ds
  | [], _, h => by cases h; exact .nil
  | d :: ds, _, h => by
    cases h with
    | cons h1 h2 => exact .cons (Dw.same s d _ h1) (DwAll.same s ds _ h2)
end
theorem DwAll.length {K : PySem.W.Frag} {H : Hp} : ∀ {vs : List V} {ds : List PyData}, DwAll K H vs ds → vs.length = ds.length
  | _, _, .nil => rfl
  | _, _, .cons _ h => by rw [List.length_cons, List.length_cons, DwAll.length h]
theorem DwAll.get {K : PySem.W.Frag} {H : Hp} : ∀ {vs : List V} {ds : List PyData} {i : Nat} {v : V}, DwAll K H vs ds → vs[i]? = some v → ∃ d, ds[i]? = some d ∧ Dw K H v d
  | _, _, _, _, .nil, e => by cases e
  | _, _, 0, _, .cons h _, e => by cases e; exact ⟨_, rfl, h⟩
  | _, _, i + 1, _, .cons _ h, e => by
    rw [List.getElem?_cons_succ] at e
    obtain ⟨d, e1, h1⟩ := DwAll.get h e
    exact ⟨d, by rw [List.getElem?_cons_succ]; exact e1, h1⟩
/-- a value's type -/
def tyOf : PyData → Value
  | .none => .type "NoneType" | .bool _ => .type "bool" | .int _ => .type "int" | .str _ => .type "str" | .list _ => .type "list" | .tuple _ => .type "tuple" | .dict _ => .type "dict"
theorem Dw.ty {K : PySem.W.Frag} {H : Hp} {v : V} {d : PyData} (h : Dw K H v d) : TyX K H v (tyOf d) := by
  cases h with
  | non => exact .base .non
  | bl b => exact .base (.bl b)
  | int i => exact .base (.int i)
  | str x => exact .base (.str x)
  | lst hs _ _ =>
    rcases hs with (q | ⟨o, q⟩) | ⟨o, _, _, e, c, _⟩
    · exact .base (.lst q)
    · exact .base (.frz q)
    · exact .kList e c
  | tup hs _ _ =>
    rcases hs with (q | ⟨o, q⟩) | ⟨o, _, _, e, c, _⟩
    · exact .base (.tup q)
    · exact .fTuple q
    · exact .kTuple e c
  | dic q => exact .base (.dK q)
def isIb : PyData → Bool | .int _ => true | .bool _ => true | _ => false
def isBb : PyData → Bool | .bool _ => true | _ => false
def isI : PyData → Bool | .int _ => true | _ => false
def parts : PyData → Option (List PyData) | .list ds => some ds | .tuple ds => some ds | _ => none
theorem kit_int {K : PySem.W.Frag} (d : PyData) : PySem.W.kitOne K (tyOf d) (.type "int") = some (isIb d) := by
  cases d with
  | int _ => exact kit_ty (r := true) (by decide +kernel)
  | bool _ => exact kit_ty (r := true) (by decide +kernel)
  | _ => exact kit_ty (r := false) (by decide +kernel)
theorem kit_bool {K : PySem.W.Frag} (d : PyData) : PySem.W.kitOne K (tyOf d) (.type "bool") = some (isBb d) := by
  cases d with
  | bool _ => exact kit_ty (r := true) (by decide +kernel)
  | _ => exact kit_ty (r := false) (by decide +kernel)
theorem kit_seq {K : PySem.W.Frag} (d : PyData) : PySem.W.kitAny K (tyOf d) [.type "list", .type "tuple"] = some (parts d).isSome := by
  cases d with
  | list ds => exact kitAny_cons (kit_ty (r := true) (by decide +kernel)) (fun z => nomatch z) fun _ => rfl
  | tuple ds => exact kitAny_cons (kit_ty (r := false) (by decide +kernel)) (fun _ => kitAny_cons (kit_ty (r := true) (by decide +kernel)) (fun z => nomatch z) fun _ => rfl) fun z => nomatch z
  | _ => exact kitAny_cons (kit_ty (r := false) (by decide +kernel)) (fun _ => kitAny_cons (kit_ty (r := false) (by decide +kernel)) (fun _ => kitAny_nil) fun z => nomatch z) fun z => nomatch z
theorem Dw.seq {K : PySem.W.Frag} {H : Hp} {v : V} {d : PyData} {ds : List PyData} (h : Dw K H v d) (e : parts d = some ds) : ∃ a xs, v = .ref a ∧ (SqL K H a xs ∨ SqT K H a xs) ∧ xs.length ≤ 1000 ∧ DwAll K H xs ds := by
  cases h with
  | lst hs hl ha => cases e; exact ⟨_, _, rfl, .inl hs, hl, ha⟩
  | tup hs hl ha => cases e; exact ⟨_, _, rfl, .inr hs, hl, ha⟩
  | _ => cases e
end SG

set_option Elab.async false
set_option linter.all false
set_option maxRecDepth 100000
set_option maxHeartbeats 4000000
/-! Comprehensions over data. -/
namespace SG
open PySem PySem.Spec PyProof.Rows L2
theorem set_new {H H' : Hp} {L : Addr} {o : HO} (hL : H L = none) (s : Same H H') : Same H (upd H' L o) := fun b u q => by
  rw [upd_ne (ne_of_none q hL)]; exact s b u q
theorem newO {H : Hp} {L : Addr} {o : HO} (hL : H L = none) : Same H (upd H L o) := fun b u q => by
  rw [upd_ne (ne_of_none q hL)]; exact q
/-- [e for x in data], e's heap only grows -/
theorem lc_data {K : PySem.W.Frag} {tl te : TE} {i : Nat} {vs : List Nat} {σ : L2.St} {H : Hp} {Q : VK} {v : V} {d : PyData} {ds : List PyData} (p : PyData → V) (e : parts d = some ds) (D : Dw K H v d)
    (hl : ∀ R : VK, R v H → tl σ H R) (hw : ∀ x, wipe ((wipe σ vs).set i (some x)) vs = wipe σ vs)
    (he : ∀ (x : V) (e : PyData) (H' : Hp) (R : VK), Same H H' → Dw K H' x e → e ∈ ds → (∀ H'', Same H' H'' → R (p e) H'') → te ((wipe σ vs).set i (some x)) H' R)
    (k : ∀ (L : Addr) (H' : Hp), Same H H' → H L = none → H' L = some (.lst (ds.map p)) → Q (.ref L) H') : tLc (iSeq K tl) (gName i) tYes te vs σ H Q := by
  obtain ⟨a, xs, rfl, hs, hlen, ha⟩ := D.seq e
  have hn := ha.length
  have turn : ∀ (L : Addr) (hL : H L = none) (j : Nat) (x : V) (H' : Hp), xs[j]? = some x → (Same H H' ∧ H' L = some (.lst ((ds.take j).map p))) →
      gName i x (wipe σ vs) H' fun σ2 H2 => wipe σ2 vs = wipe σ vs ∧ tYes σ2 H2 fun b H3 =>
        if b = true then te σ2 H3 fun y H4 => ∃ acc, H4 L = some (.lst acc) ∧ acc.length < sizeLine ∧ (Same H (upd H4 L (.lst (acc ++ [y]))) ∧ (upd H4 L (.lst (acc ++ [y]))) L = some (.lst ((ds.take (j + 1)).map p))) else (Same H H3 ∧ H3 L = some (.lst ((ds.take (j + 1)).map p))) := by
    intro L hL j x H' hx ⟨s, q⟩
    obtain ⟨e1, h1, h2⟩ := ha.get hx
    refine ⟨hw x, ?_⟩
    refine he x e1 H' _ s (Dw.same s _ _ h2) (List.mem_of_getElem? h1) fun H'' s' => ?_
    refine ⟨_, s' _ _ q, ?_, set_new hL (s.trans s'), ?_⟩
    · have hj : j < xs.length := (List.getElem?_eq_some_iff.mp hx).1
      rw [List.length_map, List.length_take]
      have : sizeLine = 16777216 := by decide
      omega
    · rw [upd_same, List.take_add_one, h1]
      simp
  have fin : ∀ (L : Addr) (hL : H L = none) (H' : Hp), (Same H H' ∧ H' L = some (.lst ((ds.take xs.length).map p))) → Q (.ref L) H' := by
    intro L hL H' ⟨s, q⟩
    rw [hn, List.take_length] at q
    exact k L H' s hL q
  rcases hs with hs | hs
  · refine .inl (hl _ ⟨a, rfl, ⟨_, hs⟩, fun L hL => ?_⟩)
    exact lc_list (K := K) (a := a) (xs := xs) (fun j H' => Same H H' ∧ H' L = some (.lst ((ds.take j).map p))) ⟨newO hL, upd_same⟩ (fun j H' _ z => z.1.seq hs) (turn L hL) (fin L hL)
  · refine .inr (hl _ ⟨a, rfl, ⟨_, hs⟩, fun L hL => ?_⟩)
    exact lc_tup (K := K) (a := a) (xs := xs) (fun j H' => Same H H' ∧ H' L = some (.lst ((ds.take j).map p))) ⟨newO hL, upd_same⟩ (fun j H' _ z => Same.tup z.1 hs) (turn L hL) (fin L hL)
/-- [x for x in data if t]: whether any is kept -/
theorem lc_keep {K : PySem.W.Frag} {tl : TE} {tt : TT} {i : Nat} {vs : List Nat} {σ : L2.St} {H : Hp} {Q : VK} {v : V} {d : PyData} {ds : List PyData} (q : PyData → Bool) (e : parts d = some ds) (D : Dw K H v d)
    (hl : ∀ R : VK, R v H → tl σ H R) (hw : ∀ x, wipe ((wipe σ vs).set i (some x)) vs = wipe σ vs) (hg : ∀ x : V, ((wipe σ vs).set i (some x))[i]? = some (some x))
    (ht : ∀ (x : V) (e : PyData) (H' : Hp) (R : Bool → Hp → Prop), Same H H' → Dw K H' x e → e ∈ ds → (∀ H'', Same H' H'' → R (q e) H'') → tt ((wipe σ vs).set i (some x)) H' R)
    (k : ∀ (L : Addr) (H' : Hp) (ys : List V), Same H H' → H L = none → H' L = some (.lst ys) → ys.isEmpty = !ds.any q → Q (.ref L) H') : tLc (iSeq K tl) (gName i) tt (tVar i) vs σ H Q := by
  obtain ⟨a, xs, rfl, hs, hlen, ha⟩ := D.seq e
  have hn := ha.length
  let Pv : Addr → Nat → Hp → Prop := fun L j H' => Same H H' ∧ ∃ ys, H' L = some (.lst ys) ∧ ys.length ≤ j ∧ ys.isEmpty = !(ds.take j).any q
  have start : ∀ (L : Addr) (hL : H L = none), Pv L 0 (upd H L (.lst [])) := fun L hL => ⟨newO hL, [], upd_same, Nat.le_refl _, by simp⟩
  have turn : ∀ (L : Addr) (hL : H L = none) (j : Nat) (x : V) (H' : Hp), xs[j]? = some x → Pv L j H' →
      gName i x (wipe σ vs) H' fun σ2 H2 => wipe σ2 vs = wipe σ vs ∧ tt σ2 H2 fun b H3 =>
        if b = true then tVar i σ2 H3 fun y H4 => ∃ acc, H4 L = some (.lst acc) ∧ acc.length < sizeLine ∧ Pv L (j + 1) (upd H4 L (.lst (acc ++ [y]))) else Pv L (j + 1) H3 := by
    intro L hL j x H' hx ⟨s, ys, hy, ly, ey⟩
    have hj : j < xs.length := (List.getElem?_eq_some_iff.mp hx).1
    obtain ⟨e1, h1, h2⟩ := ha.get hx
    have tk : (ds.take (j + 1)).any q = ((ds.take j).any q || q e1) := by rw [List.take_add_one, h1]; simp
    refine ⟨hw x, ?_⟩
    refine ht x e1 H' _ s (Dw.same s _ _ h2) (List.mem_of_getElem? h1) fun H'' s' => ?_
    refine ite2 (fun c => ?_) (fun c => ?_)
    · refine ⟨x, hg x, ys, s' _ _ hy, ?_, set_new hL (s.trans s'), ys ++ [x], upd_same, ?_, ?_⟩
      · have : sizeLine = 16777216 := by decide
        omega
      · rw [List.length_append, List.length_singleton]; omega
      · rw [tk, c]; simp
    · have c' : q e1 = false := by cases z : q e1 with | false => rfl | true => exact absurd z c
      refine ⟨s.trans s', ys, s' _ _ hy, by omega, ?_⟩
      rw [tk, c', ey]; simp
  have fin : ∀ (L : Addr) (hL : H L = none) (H' : Hp), Pv L xs.length H' → Q (.ref L) H' := by
    intro L hL H' ⟨s, ys, hy, _, ey⟩
    rw [hn, List.take_length] at ey
    exact k L H' ys s hL hy ey
  rcases hs with hs | hs
  · refine .inl (hl _ ⟨a, rfl, ⟨_, hs⟩, fun L hL => ?_⟩)
    exact lc_list (K := K) (a := a) (xs := xs) (Pv L) (start L hL) (fun j H' _ z => z.1.seq hs) (turn L hL) (fin L hL)
  · refine .inr (hl _ ⟨a, rfl, ⟨_, hs⟩, fun L hL => ?_⟩)
    exact lc_tup (K := K) (a := a) (xs := xs) (Pv L) (start L hL) (fun j H' _ z => Same.tup z.1 hs) (turn L hL) (fin L hL)
/-- for x in data: the body keeps what stood -/
theorem for_data {K : PySem.W.Frag} {tl : TE} {g : TG} {tb : TS} {D : Ends} {σ : L2.St} {H : Hp} {v : V} {d : PyData} {ds : List PyData} (e : parts d = some ds) (Dv : Dw K H v d) (Pv : Nat → L2.St → Hp → Prop)
    (hl : ∀ R : VK, R v H → tl σ H R) (h0 : Pv 0 σ H) (hs : ∀ j σ' H', Pv j σ' H' → Same H H')
    (turn : ∀ (j : Nat) (x : V) (e1 : PyData) (σ' : L2.St) (H' : Hp), ds[j]? = some e1 → Dw K H' x e1 → Pv j σ' H' → g x σ' H' fun σ2 H2 => tb { D with nx := Pv (j + 1), ct := Pv (j + 1), bk := D.nx } σ2 H2)
    (hd : ∀ σ' H', Pv ds.length σ' H' → D.nx σ' H') : tFor (iSeq K tl) g tb D σ H := by
  obtain ⟨a, xs, rfl, hs1, hlen, ha⟩ := Dv.seq e
  have hn := ha.length
  have one : ∀ (j : Nat) (x : V) (σ' : L2.St) (H' : Hp), xs[j]? = some x → Pv j σ' H' → g x σ' H' fun σ2 H2 => tb { D with nx := Pv (j + 1), ct := Pv (j + 1), bk := D.nx } σ2 H2 := by
    intro j x σ' H' hx p
    obtain ⟨e1, h1, h2⟩ := ha.get hx
    exact turn j x e1 σ' H' h1 (Dw.same (hs j σ' H' p) _ _ h2) p
  rcases hs1 with q | q
  · exact .inl (hl _ ⟨a, rfl, ⟨_, q⟩, for_list (K := K) (a := a) (xs := xs) Pv h0 (fun j σ' H' _ z => (hs j σ' H' z).seq q) one (fun σ' H' z => hd σ' H' (hn ▸ z))⟩)
  · exact .inr (hl _ ⟨a, rfl, ⟨_, q⟩, for_tup (K := K) (a := a) (xs := xs) Pv h0 (fun j σ' H' _ z => Same.tup (hs j σ' H' z) q) one (fun σ' H' z => hd σ' H' (hn ▸ z))⟩)
end SG

set_option Elab.async false
set_option linter.all false
set_option maxRecDepth 100000
set_option maxHeartbeats 4000000
/-! A def called by keywords alone. -/
namespace SG
open PySem PySem.Spec PyProof.Rows L2
section
variable {X : Cx} {CX : CXT} {k : Nat} {f : Addr} {fd : FuncData} {ps ks : List Str} {sp : Sp} {E : XK} {x : Str} {p pos : Pos} {kws : List Keyword} {tk : TA} {g : List Value → List Value → List Value} {gV : List V → List V → List V}
theorem pe_callK0 (F : FnOk X.prog X.w X.K X.mg X.base CX k f fd ps sp) (hr : Room k X.A) (hg : Gl X x) (hm : X.mg x = some (.ref f)) (hk : PySem.W.keepIn X.K (.ref f) = true) (hb : KBn X.K fd ps 0 ks g gV) (hx : Passes CX X E) (hkw : PK X kws tk)
    (hall : (backToKw pos (keywordEach kws X.env)).all (·.1.isSome) = true := by rfl) (hks : (backToKw pos (keywordEach kws X.env)).filterMap (·.1) = ks := by rfl) (hdb : (x == ("__debug__" : Str)) = false := by decide)
    (hpl : ((backTo pos (starEach [] X.env)).any (·.1) || (backToKw pos (keywordEach kws X.env)).any (·.1.isNone)) = false := by rfl) : PE X (.Call (.Name x p) [] kws pos) (tCallN 0 ks.length sp gV E tNil tk) := by
  refine ⟨fun pins s σ H Q I h => wpAny_Call_Name_kw (ld_glob I hg hm ?_ hdb)⟩
  refine PySem.W.callWith_KW0 (h₀ := X.base) I.ok.mod.kin hk hall ?_ hpl
  refine thn (hkw.run pos pins s σ H _ I h) ?_
  rintro ws s2 ⟨zs, H2, I2, rz, l1, l2, q2⟩
  refine ⟨I2.kIn, ?_⟩
  rw [hks]
  exact run_fnN F hr hb hx I2 .nil rz l1 l2 q2
end
/-- keywords in any order bind: o puts them into the parameters' order -/
theorem kb_keys {K : PySem.W.Frag} {x qual : Str} {st : Stmt} {f : Addr} {fd : FuncData} (F : Fun K x qual st f fd) {ps ks : List Str} (o : {α : Type} → List α → List α) (ho : ∀ {vs : List V} {us : List Value}, Vals vs us → Vals (o vs) (o us))
    (h : ∀ (kV doc pm : Value) (an : Option Addr) (cdv ct : Value) (ws : List Value), ws.length = ks.length → bindArgs (PySem.W.fnOf x qual (defArgs st) (defBody st) (defScope st) .none kV doc pm an cdv ct) ⟨[], ks.zip ws⟩ = pure (ps.zip (o ws))) :
    KBn K fd ps 0 ks (fun _ ws => o ws) (fun _ zs => o zs) := by
  obtain ⟨oc, od, kV, doc, pm, an, cdv, ct, osl, e, lk, hcd⟩ := F.ex
  refine ⟨fun s us ws _ l1 l2 => ?_, fun _ r2 => ho r2⟩
  obtain rfl := List.length_eq_zero_iff.mp l1
  rw [e]
  exact .of_eq (h kV doc pm an cdv ct ws l2)
/-- three, the second one ahead -/
def o213 {α : Type} : List α → List α | [b, a, c] => [a, b, c] | l => l
def o21 {α : Type} : List α → List α | [b, a] => [a, b] | l => l
/-- .. the last one ahead -/
def o312 {α : Type} : List α → List α | [c, a, b] => [a, b, c] | l => l
theorem vals213 {vs : List V} {us : List Value} (r : Vals vs us) : Vals (o213 vs) (o213 us) := by
  match vs, us, r with
  | _, _, .nil => exact .nil
  | _, _, .cons a .nil => exact .cons a .nil
  | _, _, .cons a (.cons b .nil) => exact .cons a (.cons b .nil)
  | _, _, .cons a (.cons b (.cons c .nil)) => exact .cons b (.cons a (.cons c .nil))
  | _, _, .cons a (.cons b (.cons c (.cons d e))) => exact .cons a (.cons b (.cons c (.cons d e)))
theorem vals21 {vs : List V} {us : List Value} (r : Vals vs us) : Vals (o21 vs) (o21 us) := by
  match vs, us, r with
  | _, _, .nil => exact .nil
  | _, _, .cons a .nil => exact .cons a .nil
  | _, _, .cons a (.cons b .nil) => exact .cons b (.cons a .nil)
  | _, _, .cons a (.cons b (.cons c d)) => exact .cons a (.cons b (.cons c d))
theorem vals312 {vs : List V} {us : List Value} (r : Vals vs us) : Vals (o312 vs) (o312 us) := by
  match vs, us, r with
  | _, _, .nil => exact .nil
  | _, _, .cons a .nil => exact .cons a .nil
  | _, _, .cons a (.cons b .nil) => exact .cons a (.cons b .nil)
  | _, _, .cons a (.cons b (.cons c .nil)) => exact .cons b (.cons c (.cons a .nil))
  | _, _, .cons a (.cons b (.cons c (.cons d e))) => exact .cons a (.cons b (.cons c (.cons d e)))
end SG

set_option Elab.async false
set_option linter.all false
set_option maxRecDepth 100000
set_option maxHeartbeats 4000000
/-! Several except clauses, some of which name what they caught. -/
namespace SG
open PySem PySem.Spec PyProof.Rows L2
/-- one clause: its class, the slot of its name, its suite's reading -/
structure Way where
  c : Value
  i : Option Nat
  ts : Addr → Value → Option Addr → TS
def wWays (K : PySem.W.Frag) (Wout : WX) (D : Ends) : List Way → WX
  | [] => Wout
  | y :: r => fun cls d σ H => ∃ b, PySem.W.exmOne K cls y.c = some b ∧
      (b = true → ∀ a, H a = none → match y.i with
        | none => y.ts a cls d D σ H
        | some i => y.ts a cls d { nx := fun σ' H' => D.nx (σ'.set i none) H', rt := D.rt, bk := fun σ' H' => D.bk (σ'.set i none) H', ct := fun σ' H' => D.ct (σ'.set i none) H' } (σ.set i (some (.ref a))) H) ∧
      (b = false → wWays K Wout D r cls d σ H)
inductive WaysOk (X : Cx) : List ExceptHandler → List Way → Prop
  | nil : WaysOk X [] []
  | plain {x : Str} {c : Value} {ts : Addr → Value → Option Addr → TS} {b₀ : Stmt} {suite : List Stmt} {np pos' : Pos} {hds : List ExceptHandler} {l : List Way} (hc : Names X x c)
      (hsu : ∀ (a : Addr) (oe : Obj) (cls : Value) (d : Option Addr) (pn : List (Addr × Obj)), Zc cls d oe → (∃ vs, oe.data = .fields vs) → PSs (X.suite a ((a, oe) :: pn)) (b₀ :: suite) (ts a cls d)) (r : WaysOk X hds l) :
      WaysOk X (.ExceptHandler (some (.Name x np)) none (b₀ :: suite) pos' :: hds) (⟨c, none, ts⟩ :: l)
  | named {x n : Str} {i : Nat} {c : Value} {ts : Addr → Value → Option Addr → TS} {b₀ : Stmt} {suite : List Stmt} {np pos' : Pos} {hds : List ExceptHandler} {l : List Way} (hc : Names X x c) (hi : X.N[i]? = some n) (hln : X.env.kindOf n = some .local)
      (hsu : ∀ (a : Addr) (oe : Obj) (cls : Value) (d : Option Addr) (pn : List (Addr × Obj)), Zc cls d oe → (∃ vs, oe.data = .fields vs) → PSs (X.suite a ((a, oe) :: pn)) (b₀ :: suite) (ts a cls d)) (r : WaysOk X hds l) :
      WaysOk X (.ExceptHandler (some (.Name x np)) (some n) (b₀ :: suite) pos' :: hds) (⟨c, some i, ts⟩ :: l)
section
variable {X : Cx} {body : List Stmt} {h₀ : ExceptHandler} {hds : List ExceptHandler} {l : List Way} {pos : Pos} {tb : WX → TS} {Wout : WX}
theorem ps_try_ways (hs : X.stack = X.env :: X.outer) (hf : X.env.frame = some X.env.locals) (hN : X.N.Nodup) (tk : Takes X Wout)
    (hb : ∀ (W : WX) (pn : List (Addr × Obj)) (xe : Value → Shared → Prop), Takes (X.tr pn xe) W → PassesOwn (model X.prog X.w) X.A X.env xe → PSs (X.tr pn xe) body (tb W))
    (hh : WaysOk X (h₀ :: hds) l) : PS X (.Try body (h₀ :: hds) [] [] pos) (fun D σ H => tb (fun cls d σ' H' => σ'.length = X.N.length → wWays X.K Wout D l cls d σ' H') D σ H) := by
  refine ⟨fun pins s σ H D I h => wpAny_Try_except ?_⟩
  have ok := I.ok
  have hfr : X.A.frames = some (X.env :: X.outer) := by rw [ok.frames, hs]
  refine wpAny_mono ((hb (fun cls d σ H => σ.length = X.N.length → wWays X.K Wout D l cls d σ H) (X.pn ++ pins) (fun e s1 => wpAny (model X.prog X.w) X.A (noteFrame e X.env) (fun _ s2 => wpAny (model X.prog X.w) X.A (setFlight e none) (fun _ s3 =>
    wpAny (model X.prog X.w) X.A (handleBy e X.env (h₀ :: hds)) (SP X pins D) X.xe s3) X.xe s2) X.xe s1) ?caught PassesOwn.looking).run [] s σ H D (I.toTry _) h) ?thru (fun e s1 he => he)
  case thru =>
    intro f s1 hsp
    cases f with
    | next =>
      obtain ⟨σ', H', J', q⟩ := hsp
      exact wpAny_execs_nil ⟨σ', H', J'.ofTry ok, q⟩
    | brk =>
      obtain ⟨σ', H', J', q⟩ := hsp
      exact ⟨σ', H', J'.ofTry ok, q⟩
    | cont =>
      obtain ⟨σ', H', J', q⟩ := hsp
      exact ⟨σ', H', J'.ofTry ok, q⟩
    | ret u =>
      obtain ⟨v, σ', H', J', r, q⟩ := hsp
      exact ⟨v, σ', H', J'.ofTry ok, r, q⟩
  case caught =>
    rintro u s' ⟨a, B, sI, pins', σ', H', cls, d, rfl, J', nb, up, sky, na, os, ag, wish⟩
    have J : Inv X pins σ' H' sI := J'.ofTry ok
    have sky' : Sky B (X.env :: X.outer) a (Zc cls d) X.env.locals s'.heap := hs ▸ sky
    show wpAny (model X.prog X.w) X.A (noteFrame (.ref a) X.env) _ _ _
    refine Sky.land Zc.steady hfr hf sky' ?_
    intro h3 fl3 up3
    have J3 : Inv X pins σ' H' { s' with heap := h3 } := J.landed nb fl3.1 (up.trans up3) os ag
    obtain ⟨oe3, vs3, he3, hz3, hd3⟩ := fl3.there
    have apart : ∀ {h : Heap} {o : Obj} {vs : Array Value}, h.FunFrames B (X.env :: X.outer) → h.get? a = some o → o.data = .fields vs → a ∉ frs (X.env :: X.outer) := by
      intro h o vs ff e dd hm
      obtain ⟨_, o', e', hnf⟩ := ff.mem hm
      rw [e] at e'
      cases e'
      exact hnf _ dd
    have nfr := apart fl3.2.2.1 he3 hd3
    have nL : a ≠ X.env.locals := fun z => nfr (List.mem_filterMap.mpr ⟨X.env, List.mem_cons_self, by rw [hf, z]⟩)
    have nF : a ∉ X.fs := by
      intro hm
      obtain ⟨e, he, q⟩ := List.mem_filterMap.mp hm
      exact nfr (List.mem_filterMap.mpr ⟨e, List.mem_cons_of_mem _ he, q⟩)
    have S3 := J3.suite he3 hd3 na nL nF
    have go : ∀ {hds' : List ExceptHandler} {l' : List Way}, WaysOk X hds' l' → wWays X.K Wout D l' cls d σ' H' →
        wpAny (model X.prog X.w) X.A (handleBy (.ref a) X.env hds') (SP X pins D) X.xe { s' with heap := h3 } := by
      intro hds' l' hk
      induction hk with
      | nil =>
        intro wish
        refine wpAny_handleBy_nil ?_
        obtain ⟨k1, k2, k3, oe, vs, T, oT, ts', he, hz, hd, h1, hr⟩ := id fl3
        unfold PySem.passOn
        refine wpAny_bind (wpAny_field he hd h1 ?_)
        rw [if_neg (show ¬ ((Value.ref T == Value.none) = true) from by simp)]
        have fin : wpAny (model X.prog X.w) X.A (setFlight (.ref a) X.env.frame) (fun _ s4 => wpAny (model X.prog X.w) X.A (throw (.ref a) : Sem Flow) (SP X pins D) X.xe s4) X.xe { s' with heap := h3 } := by
          rw [hf]
          refine HandSPX.setFlight_upZ fl3 fun h4 hh4 up4 => wpAny_throw (tk _ _ ?_)
          exact ⟨a, B, sI, pins, σ', H', cls, d, rfl, J, nb, (up.trans up3).trans up4, .inr (.inr (by rw [hs]; exact hh4)), na, os, ag, wish⟩
        first
          | exact wpAny_bind (wpAny_pure (wpAny_bind fin))
          | exact wpAny_bind fin
      | @plain x c ts b₀ suite np pos' hds2 l2 hc hsu r ih =>
        intro wish
        obtain ⟨b, hb1, hyes, hno⟩ := wish
        refine wpAny_handleBy_cons (codeAny_handlers_test ?_) (by intro q; cases q)
        have LT : PySem.W.Looks (model X.prog X.w) h3 (typeOf (.ref a)) cls := fun A Q E s k q => wpAny_typeOf_ref (k _ _ he3) (by rw [hz3.1]; exact q)
        have LM := PySem.W.exm_one (M := model X.prog X.w) J3.kIn LT hb1
        have test : ∀ {Q : Value → Shared → Prop} {E : Value → Shared → Prop}, Q c { s' with heap := h3 } → wpAny (model X.prog X.w) (X.A.mark (some (.ref a))) (eval (.Name x np) X.env) Q E { s' with heap := h3 } := by
          intro Q E q
          obtain ⟨hg, hdbg, hm | ⟨hm, hv, hnn⟩⟩ := hc
          · exact ld_glob (X := X.suite a ((a, oe3) :: (X.pn ++ pins))) S3 hg hm q hdbg
          · exact ld_blt (X := X.suite a ((a, oe3) :: (X.pn ++ pins))) S3 hg hm hv q hnn hdbg
        refine test (LM.here ?_)
        cases b with
        | true =>
          refine codeAny_handlers_suite (HandSPX.lands_againZ fl3 ?_)
          intro h4 fl4 up4
          have J4 : Inv X pins σ' H' { s' with heap := h4 } := J.landed nb fl4.1 ((up.trans up3).trans up4) os ag
          obtain ⟨oe4, vs4, he4, hz4, hd4⟩ := fl4.there
          have S4 := J4.suite he4 hd4 na nL nF
          refine wpAny_mono ((hsu a oe4 cls d (X.pn ++ pins) hz4 ⟨_, hd4⟩).run [] _ _ H' _ S4 (hyes rfl a na)) ?_ (fun _ _ z => z.elim)
          intro f s6 hsp
          cases f with
          | next =>
            obtain ⟨σ6, H6, S6, q6⟩ := hsp
            exact ⟨_, _, S6.unsuite ok, q6⟩
          | brk =>
            obtain ⟨σ6, H6, S6, q6⟩ := hsp
            exact ⟨_, _, S6.unsuite ok, q6⟩
          | cont =>
            obtain ⟨σ6, H6, S6, q6⟩ := hsp
            exact ⟨_, _, S6.unsuite ok, q6⟩
          | ret u =>
            obtain ⟨v6, σ6, H6, S6, r6, q6⟩ := hsp
            exact ⟨_, _, _, S6.unsuite ok, r6, q6⟩
        | false =>
          show wpAny _ X.A (handleBy (.ref a) X.env hds2) _ _ _
          exact ih (hno rfl)
      | @named x n i c ts b₀ suite np pos' hds2 l2 hc hi hln hsu r ih =>
        intro wish
        have hloc : Loc X.env.scope n := .inl hln
        obtain ⟨b, hb1, hyes, hno⟩ := wish
        refine wpAny_handleBy_cons (codeAny_handlers_test ?_) (by intro q; cases q)
        have LT : PySem.W.Looks (model X.prog X.w) h3 (typeOf (.ref a)) cls := fun A Q E s k q => wpAny_typeOf_ref (k _ _ he3) (by rw [hz3.1]; exact q)
        have LM := PySem.W.exm_one (M := model X.prog X.w) J3.kIn LT hb1
        have test : ∀ {Q : Value → Shared → Prop} {E : Value → Shared → Prop}, Q c { s' with heap := h3 } → wpAny (model X.prog X.w) (X.A.mark (some (.ref a))) (eval (.Name x np) X.env) Q E { s' with heap := h3 } := by
          intro Q E q
          obtain ⟨hg, hdbg, hm | ⟨hm, hv, hnn⟩⟩ := hc
          · exact ld_glob (X := X.suite a ((a, oe3) :: (X.pn ++ pins))) S3 hg hm q hdbg
          · exact ld_blt (X := X.suite a ((a, oe3) :: (X.pn ++ pins))) S3 hg hm hv q hnn hdbg
        refine test (LM.here ?_)
        cases b with
        | true =>
          refine codeAny_handlers_suite_as (HandSPX.lands_againZ fl3 ?_)
          intro h4 fl4 up4
          have J4 : Inv X pins σ' H' { s' with heap := h4 } := J.landed nb fl4.1 ((up.trans up3).trans up4) os ag
          obtain ⟨oe4, vs4, he4, hz4, hd4⟩ := fl4.there
          have S4 := J4.suite he4 hd4 na nL nF
          refine store_ok (X := X.suite a ((a, oe4) :: (X.pn ++ pins))) (v := .ref a) S4 hN hi hloc rfl (fun s5 S5 => ?_) (.inr hln)
          refine wpAny_mono ((hsu a oe4 cls d (X.pn ++ pins) hz4 ⟨_, hd4⟩).run [] s5 _ H' _ S5 (hyes rfl a na)) ?_ (fun _ _ z => z.elim)
          intro f s6 hsp
          have leave : ∀ {σ6 : L2.St} {H6 : Hp} {Q : Shared → Prop}, Inv (X.suite a ((a, oe4) :: (X.pn ++ pins))) [] σ6 H6 s6 → (∀ s7, Inv X pins (σ6.set i none) H6 s7 → Q s7) →
              wpAny (model X.prog X.w) X.A (do bindName X.env n .none; unbindBehindTheSuite X.env n pos') (fun _ s7 => Q s7) X.xe s6 := by
            intro σ6 H6 Q S6 hq
            exact gone_ok (S6.unsuite ok) hN hi hln hq
          cases f with
          | next =>
            obtain ⟨σ6, H6, S6, q6⟩ := hsp
            exact leave S6 fun s7 J7 => ⟨_, _, J7, q6⟩
          | brk =>
            obtain ⟨σ6, H6, S6, q6⟩ := hsp
            exact leave S6 fun s7 J7 => ⟨_, _, J7, q6⟩
          | cont =>
            obtain ⟨σ6, H6, S6, q6⟩ := hsp
            exact leave S6 fun s7 J7 => ⟨_, _, J7, q6⟩
          | ret u =>
            obtain ⟨v6, σ6, H6, S6, r6, q6⟩ := hsp
            exact leave S6 fun s7 J7 => ⟨_, _, _, J7, r6, q6⟩
        | false =>
          show wpAny _ X.A (handleBy (.ref a) X.env hds2) _ _ _
          exact ih (hno rfl)
    exact go hh (wish J.len)
end
end SG

set_option Elab.async false
set_option linter.all false
set_option maxRecDepth 100000
set_option maxHeartbeats 4000000
namespace K01
open PySem L2 SG
def top (i : Nat) : Stmt := PySem.Challenge.pw_screwsums_k01_plain_values_told.main.body.getD i (.Pass ⟨0, 0, 0, 0⟩)
/-- a def of the text, found behind the top -/
structure Df (K : PySem.W.Frag) (mg : Str → Option Value) (x : Str) (st : Stmt) (ps : List Str) where
  f : Addr
  fd : FuncData
  F : Fun K x x st f fd
  m : mg x = some (.ref f)
  k : PySem.W.keepIn K (.ref f) = true
  b : Binds K fd ps []
structure Nm (mg : Str → Option Value) : Prop where
  n_int : mg "int" = none
  n_len : mg "len" = none
  n_abs : mg "abs" = none
  n_str : mg "str" = none
  n_range : mg "range" = none
  n_repr : mg "repr" = none
  n_isinstance : mg "isinstance" = none
  n_bool : mg "bool" = none
  n_list : mg "list" = none
  n_tuple : mg "tuple" = none
  n_min : mg "min" = none
  n_max : mg "max" = none
  n_all : mg "all" = none

abbrev s_is_integer : Stmt := top 7
theorem sc_is_integer : FnScope ["value"] ["value"] (defScope s_is_integer) :=
  ⟨rfl, rfl, rfl, by decide +kernel, rfl, by decide +kernel, by decide +kernel⟩

abbrev s_is_within : Stmt := top 8
theorem sc_is_within : FnScope ["value", "least", "most"] ["value", "least", "most"] (defScope s_is_within) :=
  ⟨rfl, rfl, rfl, by decide +kernel, rfl, by decide +kernel, by decide +kernel⟩

abbrev s_are_integers : Stmt := top 9
theorem sc_are_integers : FnScope ["value", "part"] ["value"] (defScope s_are_integers) :=
  ⟨rfl, rfl, rfl, by decide +kernel, rfl, by decide +kernel, by decide +kernel⟩

abbrev s_is_row : Stmt := top 10
theorem sc_is_row : FnScope ["value", "wide"] ["value", "wide"] (defScope s_is_row) :=
  ⟨rfl, rfl, rfl, by decide +kernel, rfl, by decide +kernel, by decide +kernel⟩

abbrev s_are_rows : Stmt := top 11
theorem sc_are_rows : FnScope ["value", "many", "wide", "row"] ["value", "many", "wide"] (defScope s_are_rows) :=
  ⟨rfl, rfl, rfl, by decide +kernel, rfl, by decide +kernel, by decide +kernel⟩

abbrev s_is_by : Stmt := top 12
theorem sc_is_by : FnScope ["value"] ["value"] (defScope s_is_by) :=
  ⟨rfl, rfl, rfl, by decide +kernel, rfl, by decide +kernel, by decide +kernel⟩

abbrev s_common_divisor : Stmt := top 13
theorem sc_common_divisor : FnScope ["values", "divisor", "value"] ["values"] (defScope s_common_divisor) :=
  ⟨rfl, rfl, rfl, by decide +kernel, rfl, by decide +kernel, by decide +kernel⟩

abbrev s_over : Stmt := top 14
theorem sc_over : FnScope ["number", "by", "worth"] ["number", "by"] (defScope s_over) :=
  ⟨rfl, rfl, rfl, by decide +kernel, rfl, by decide +kernel, by decide +kernel⟩

abbrev s_l_bowl : Stmt := top 16
theorem sc_l_bowl : FnScope ["script", "cell"] ["script"] (defScope s_l_bowl) :=
  ⟨rfl, rfl, rfl, by decide +kernel, rfl, by decide +kernel, by decide +kernel⟩

abbrev s_l_dip : Stmt := top 17
theorem sc_l_dip : FnScope ["bowl", "many", "rest", "turn", "cell", "mixed"] ["bowl", "many"] (defScope s_l_dip) :=
  ⟨rfl, rfl, rfl, by decide +kernel, rfl, by decide +kernel, by decide +kernel⟩

abbrev s_l_choose : Stmt := top 18
theorem sc_l_choose : FnScope ["bowl", "some"] ["bowl", "some"] (defScope s_l_choose) :=
  ⟨rfl, rfl, rfl, by decide +kernel, rfl, by decide +kernel, by decide +kernel⟩

abbrev s_l_value : Stmt := top 19
theorem sc_l_value : FnScope ["bowl", "number", "some"] ["bowl"] (defScope s_l_value) :=
  ⟨rfl, rfl, rfl, by decide +kernel, rfl, by decide +kernel, by decide +kernel⟩

abbrev s_l_is_number : Stmt := top 20
theorem sc_l_is_number : FnScope ["value"] ["value"] (defScope s_l_is_number) :=
  ⟨rfl, rfl, rfl, by decide +kernel, rfl, by decide +kernel, by decide +kernel⟩

abbrev s_l_are : Stmt := top 21
theorem sc_l_are : FnScope ["value", "wide", "each"] ["value", "wide"] (defScope s_l_are) :=
  ⟨rfl, rfl, rfl, by decide +kernel, rfl, by decide +kernel, by decide +kernel⟩

abbrev s_l_are_all : Stmt := top 22
theorem sc_l_are_all : FnScope ["value", "many", "wide", "row"] ["value", "many", "wide"] (defScope s_l_are_all) :=
  ⟨rfl, rfl, rfl, by decide +kernel, rfl, by decide +kernel, by decide +kernel⟩

abbrev s_l_looks_right : Stmt := top 23
theorem sc_l_looks_right : FnScope ["bowl", "wide", "many", "value", "rows", "bent", "each", "number", "at", "row"] ["bowl"] (defScope s_l_looks_right) :=
  ⟨rfl, rfl, rfl, by decide +kernel, rfl, by decide +kernel, by decide +kernel⟩

abbrev s_l_bounds_right : Stmt := top 24
theorem sc_l_bounds_right : FnScope ["bowl", "number", "bound", "pairs", "least", "most", "due", "turn"] ["bowl"] (defScope s_l_bounds_right) :=
  ⟨rfl, rfl, rfl, by decide +kernel, rfl, by decide +kernel, by decide +kernel⟩

abbrev s_l_measure : Stmt := top 25
theorem sc_l_measure : FnScope ["values", "found", "value", "one", "other"] ["values"] (defScope s_l_measure) :=
  ⟨rfl, rfl, rfl, by decide +kernel, rfl, by decide +kernel, by decide +kernel⟩

abbrev s_l_heard : Stmt := top 26
theorem sc_l_heard : FnScope ["ask", "found", "error"] ["ask"] (defScope s_l_heard) :=
  ⟨rfl, rfl, rfl, by decide +kernel, rfl, by decide +kernel, by decide +kernel⟩

abbrev s_l_divisors_right : Stmt := top 27
theorem sc_l_divisors_right : FnScope ["bowl", "by", "some", "kept", "prime", "number", "due", "turn", "its"] ["bowl"] (defScope s_l_divisors_right) :=
  ⟨rfl, rfl, rfl, by decide +kernel, rfl, by decide +kernel, by decide +kernel⟩

abbrev s_l_refused_right : Stmt := top 28
theorem sc_l_refused_right : FnScope ["bowl", "odd", "bad", "heard"] ["bowl"] (defScope s_l_refused_right) :=
  ⟨rfl, rfl, rfl, by decide +kernel, rfl, by decide +kernel, by decide +kernel⟩

abbrev s_law : Stmt := top 29
theorem sc_law : FnScope ["script", "bowl", "lap"] ["script"] (defScope s_law) :=
  ⟨rfl, rfl, rfl, by decide +kernel, rfl, by decide +kernel, by decide +kernel⟩

/-- the text's defs, found behind the top -/
structure Tx (K : PySem.W.Frag) (mg : Str → Option Value) where
  nm : Nm mg
  d_is_integer : Df K mg "is_integer" s_is_integer ["value"]
  d_is_within : Df K mg "is_within" s_is_within ["value", "least", "most"]
  d_are_integers : Df K mg "are_integers" s_are_integers ["value"]
  d_is_row : Df K mg "is_row" s_is_row ["value", "wide"]
  d_are_rows : Df K mg "are_rows" s_are_rows ["value", "many", "wide"]
  d_is_by : Df K mg "is_by" s_is_by ["value"]
  d_common_divisor : Df K mg "common_divisor" s_common_divisor ["values"]
  d_over : Df K mg "over" s_over ["number", "by"]
  d_l_bowl : Df K mg "_law_bowl" s_l_bowl ["script"]
  d_l_dip : Df K mg "_law_dip" s_l_dip ["bowl", "many"]
  d_l_choose : Df K mg "_law_choose" s_l_choose ["bowl", "some"]
  d_l_value : Df K mg "_law_value" s_l_value ["bowl"]
  d_l_is_number : Df K mg "_law_is_number" s_l_is_number ["value"]
  d_l_are : Df K mg "_law_are" s_l_are ["value", "wide"]
  d_l_are_all : Df K mg "_law_are_all" s_l_are_all ["value", "many", "wide"]
  d_l_looks_right : Df K mg "_law_looks_right" s_l_looks_right ["bowl"]
  d_l_bounds_right : Df K mg "_law_bounds_right" s_l_bounds_right ["bowl"]
  d_l_measure : Df K mg "_law_measure" s_l_measure ["values"]
  d_l_heard : Df K mg "_law_heard" s_l_heard ["ask"]
  d_l_divisors_right : Df K mg "_law_divisors_right" s_l_divisors_right ["bowl"]
  d_l_refused_right : Df K mg "_law_refused_right" s_l_refused_right ["bowl"]
  d_law : Df K mg "law" s_law ["script"]

/-! ### what draws -/
/-- the list of three at b: the cells at c, how many were begun, what is left -/
structure Bowl (H : Hp) (b c : Addr) (ns : List Int) (t r : Int) : Prop where
  hb : H b = some (.lst [.ref c, .int t, .int r])
  hc : H c = some (.lst (ns.map V.int))
  ne : b ≠ c
  t0 : 0 ≤ t
  r0 : 0 ≤ r
/-- all but what stands at b is as it was -/
def But (b : Addr) (H H' : Hp) : Prop := ∀ a o, a ≠ b → H a = some o → H' a = some o
theorem But.refl (b : Addr) (H : Hp) : But b H H := fun _ _ _ h => h
theorem But.set {b : Addr} {H H' : Hp} {o : HO} (h : But b H H') : But b H (upd H' b o) := fun a u ne q => by rw [upd_ne ne]; exact h a u ne q
theorem But.new {b p : Addr} {H H' : Hp} {o : HO} (h : But b H H') (hp : H' p = none) : But b H (upd H' p o) := fun a u ne q => by
  rw [upd_ne (ne_of_none (h a u ne q) hp)]; exact h a u ne q
theorem dpInts {K : PySem.W.Frag} {H : Hp} : ∀ ns : List Int, DpAll K H (ns.map V.int) (ns.map PyData.int)
  | [] => .nil
  | n :: ns => .cons (.int n) (dpInts ns)
theorem canInts : ∀ ns : List Int, PyData.canLayAll0 (ns.map PyData.int) = true
  | [] => by simp [PyData.canLayAll0]
  | n :: ns => by simp [PyData.canLayAll0, PyData.canLay0, canInts ns]
theorem depthInts : ∀ ns : List Int, PyData.depthAll (ns.map PyData.int) ≤ 1
  | [] => by simp [PyData.depthAll]
  | n :: ns => by
    have := depthInts ns
    simp only [List.map_cons, PyData.depthAll, PyData.depth]
    omega
theorem shapedInts (ns : List Int) : SeqAt.shaped (.list (ns.map PyData.int)) = true := by
  have h1 := canInts ns
  have h2 := depthInts ns
  unfold SeqAt.shaped
  rw [Bool.and_eq_true]
  refine ⟨by simp [PyData.canLay0, h1], decide_eq_true ?_⟩
  simp only [PyData.depth]
  omega
theorem eqvNil (ns : List Int) : PyData.eqv (.list (ns.map PyData.int)) (.list []) = ns.isEmpty := by
  cases ns <;> simp [PyData.eqv, PyData.eqvAll]
/-- a statement and what stands behind it, by a join of one's own -/
theorem cut {t u : TS} {D : Ends} {σ : L2.St} {H : Hp} (J : L2.St → Hp → Prop) (hu : ∀ σ' H', J σ' H' → u D σ' H') (h : ∀ nx : L2.St → Hp → Prop, (∀ σ' H', J σ' H' → nx σ' H') → t { D with nx := nx } σ H) :
    tSeq t u D σ H := h (u D) hu
theorem pow18 : (10 : Int) ^ ((18 : Int)).toNat = 1000000000000000000 := by decide +kernel
theorem at_ints (ns : List Int) {i : Int} (h0 : 0 ≤ i) (h1 : i < (ns.length : Int)) : ∃ z, atI (ns.map V.int) i = some (.int z) := by
  obtain ⟨k, rfl⟩ := Int.eq_ofNat_of_zero_le h0
  have hk : k < ns.length := by omega
  exact ⟨ns[k], atI_nat (by rw [List.getElem?_map, List.getElem?_eq_getElem hk]; rfl)⟩
/-- behind some draws: at most n more begun, all else as it was -/
structure Aft (n : Int) (H H' : Hp) (b c : Addr) (ns : List Int) (t t' r' : Int) : Prop where
  bowl : Bowl H' b c ns t' r'
  but : But b H H'
  lo : t ≤ t'
  hi : t' ≤ t + n
theorem Aft.trans {n m : Int} {H H1 H2 : Hp} {b c : Addr} {ns : List Int} {t t1 t2 r1 r2 : Int} (x : Aft n H H1 b c ns t t1 r1) (y : Aft m H1 H2 b c ns t1 t2 r2) : Aft (n + m) H H2 b c ns t t2 r2 :=
  ⟨y.bowl, fun a o ne q => y.but a o ne (x.but a o ne q), Int.le_trans x.lo y.lo, by have := x.hi; have := y.hi; omega⟩
theorem Aft.refl {H : Hp} {b c : Addr} {ns : List Int} {t r : Int} (B : Bowl H b c ns t r) : Aft 0 H H b c ns t t r := ⟨B, But.refl b H, Int.le_refl _, by omega⟩
theorem Bowl.same {H H' : Hp} {b c : Addr} {ns : List Int} {t r : Int} (B : Bowl H b c ns t r) (s : Same H H') : Bowl H' b c ns t r := ⟨s _ _ B.hb, s _ _ B.hc, B.ne, B.t0, B.r0⟩
theorem Aft.new {n : Int} {H H' : Hp} {b c p : Addr} {ns : List Int} {t t' r' : Int} {o : HO} (x : Aft n H H' b c ns t t' r') (hp : H' p = none) : Aft n H (upd H' p o) b c ns t t' r' :=
  ⟨x.bowl.same fun a u q => by rw [upd_ne (ne_of_none q hp)]; exact q, x.but.new hp, x.lo, x.hi⟩
theorem Aft.free {n : Int} {H H' : Hp} {b c : Addr} {ns : List Int} {t t' r r' : Int} (B : Bowl H b c ns t r) (x : Aft n H H' b c ns t t' r') {p : Addr} (hp : H' p = none) : H p = none := by
  cases e : H p with
  | none => rfl
  | some o =>
    by_cases hb : p = b
    · rw [hb, x.bowl.hb] at hp; cases hp
    · rw [x.but p o hb e] at hp; cases hp
def spDip : Sp := fun vs H Q _ => ∃ (b c : Addr) (ns : List Int) (t r m : Int), vs = [.ref b, .int m] ∧ 0 < m ∧ m < 2 ^ 200 ∧ Bowl H b c ns t r ∧ t < 2 ^ 20 ∧
  ∀ (v t' r' : Int) (H' : Hp), 0 ≤ v → v < m → Aft 1 H H' b c ns t t' r' → Q (.int v) H'

section
variable {P : Program} {w : World} {K : PySem.W.Frag} {mg : Str → Option Value} {base : Heap}
theorem ok_dip (T : Nm mg) {f : Addr} {fd : FuncData} (F : Fun K "_law_dip" "_law_dip" s_l_dip f fd) : FnOk P w K mg base CX0 1 f fd ["bowl", "many"] spDip := by
  refine F.ok sc_l_dip (fun vs H Q E h => ?_) (fun cdv A outer s H vs Q E hr h => ?_)
  · obtain ⟨b, c, ns, t, r, m, rfl, _⟩ := h
    rfl
  · obtain ⟨b, c, ns, t, r, m, rfl, hm, hm2, B, ht, k0⟩ := h
    have k : ∀ (v t' r' : Int) (H' : Hp), 0 ≤ v → v < m → t ≤ t' → t' ≤ t + 1 → 0 ≤ r' → H' b = some (.lst [.ref c, .int t', .int r']) → But b H H' → Q (.int v) H' :=
      fun v t' r' H' h1 h2 h3 h4 h5 h6 h7 => k0 v t' r' H' h1 h2 ⟨⟨h6, h7 c _ (Ne.symm B.ne) B.hc, B.ne, Int.le_trans B.t0 h3, h5⟩, h7, h3, h4⟩
    refine ⟨_, (pss_cons (ps_if (pt_cmpR op_gt (pe_ix ix_list (pv 0) pe_int (fun _ _ => rfl)) pe_int (nomark _))
  (pss_cons (ps_set (i := 2) sc_l_dip.nd rfl (Or.inl rfl) (pe_callTy call_int1 (by rfl) T.n_int (by decide +kernel) (pa_cons (pe_ix ix_list (pv 0) pe_int (fun _ _ => rfl)) pa_nil)))
  (pss_cons (ps_asg (pe_op op_fdivW (pv 2) (pv 1)) (pg_sub (pv 0) pe_int set_list))
  (pss_one (ps_ret (pe_op op_mod (pe_callTy call_int1 (by rfl) T.n_int (by decide +kernel) (pa_cons (pv 2) pa_nil)) (pv 1))))))
  pss_nil)
  (pss_cons (ps_set (i := 3) sc_l_dip.nd rfl (Or.inl rfl) (pe_ix ix_list (pv 0) pe_int (fun _ _ => rfl)))
  (pss_cons (ps_asg (pe_op op_add (pv 3) pe_int) (pg_sub (pv 0) pe_int set_list))
  (pss_cons (ps_set (i := 4) sc_l_dip.nd rfl (Or.inl rfl) (pe_op op_add (pe_op op_mul pe_int (pv 3)) pe_int))
  (pss_cons (ps_if (pt_cmpR (op_neD hr.units) (pe_ix ix_list (pv 0) pe_int (fun _ _ => rfl)) (pe_lst pa_nil) (nomark _))
  (pss_one (ps_set (i := 4) sc_l_dip.nd rfl (Or.inl rfl) (pe_ix ix_list (pe_ix ix_list (pv 0) pe_int (fun _ _ => rfl)) (pe_op op_mod (pe_callTy call_int1 (by rfl) T.n_int (by decide +kernel) (pa_cons (pv 3) pa_nil)) (pe_callB call_len_seq (by rfl) T.n_len (by decide +kernel) (pa_cons (pe_ix ix_list (pv 0) pe_int (fun _ _ => rfl)) pa_nil))) (fun _ _ => rfl))))
  pss_nil)
  (pss_cons (ps_if (PW.pt (pw_and (pt_cmpR op_lt (pv 3) (pe_callB call_len_seq (by rfl) T.n_len (by decide +kernel) (pa_cons (pe_ix ix_list (pv 0) pe_int (fun _ _ => rfl)) pa_nil)) (nomark _)) (pw_and1 (pt_cmpR op_ge (pe_callB call_abs (by rfl) T.n_abs (by decide +kernel) (pa_cons (pv 4) pa_nil)) (pe_op op_pow pe_int pe_int) (nomark _)))))
  (pss_cons (ps_set (i := 2) sc_l_dip.nd rfl (Or.inl rfl) (pe_op op_add (pe_op op_mul pe_int (pe_op op_sub (pe_callB call_abs (by rfl) T.n_abs (by decide +kernel) (pa_cons (pv 4) pa_nil)) (pe_op op_pow pe_int pe_int))) (pe_callTy call_int1 (by rfl) T.n_int (by decide +kernel) (pa_cons (pe_cmpR op_lt (pv 4) pe_int (nomark _)) pa_nil))))
  (pss_cons (ps_asg (pe_op op_fdivW (pv 2) (pv 1)) (pg_sub (pv 0) pe_int set_list))
  (pss_one (ps_ret (pe_op op_mod (pe_callTy call_int1 (by rfl) T.n_int (by decide +kernel) (pa_cons (pv 2) pa_nil)) (pv 1))))))
  pss_nil)
  (pss_cons (ps_set (i := 5) sc_l_dip.nd rfl (Or.inl rfl) (pe_op op_mod (pe_callTy call_int1 (by rfl) T.n_int (by decide +kernel) (pa_cons (pe_op op_pow (pe_op op_add (pe_op op_add (pe_op op_mod (pe_callTy call_int1 (by rfl) T.n_int (by decide +kernel) (pa_cons (pv 4) pa_nil)) pe_int) (pe_op op_mul pe_int (pv 3))) pe_int) pe_int) pa_nil)) pe_int))
  (pss_cons (ps_set (i := 5) sc_l_dip.nd rfl (Or.inl rfl) (pe_op op_mod (pe_callTy call_int1 (by rfl) T.n_int (by decide +kernel) (pa_cons (pe_op op_pow (pe_op op_add (pe_op op_add (pe_op op_mul (pv 5) (pe_op op_add (pe_op op_mul pe_int (pv 3)) pe_int)) (pe_op op_mul (pe_op op_mul pe_int (pv 3)) (pv 3))) pe_int) pe_int) pa_nil)) pe_int))
  (pss_one (ps_ret (pe_op op_mod (pe_callTy call_int1 (by rfl) T.n_int (by decide +kernel) (pa_cons (pe_op op_fdiv (pv 5) pe_int) pa_nil)) (pv 1)))))))))))), ?_⟩
    refine ⟨_, rfl, b, _, _, _, rfl, rfl, SqL.of B.hb, rfl, _, _, rfl, rfl, _, rfl, ?_⟩
    refine ite2 (fun c1 => ?_) (fun c1 => ?_)
    · have r1 : 0 < r := by simpa using c1
      refine ⟨_, rfl, b, _, _, _, rfl, rfl, SqL.of B.hb, rfl, .inl ⟨_, rfl, ?_⟩⟩
      refine ⟨_, rfl, _, rfl, _, _, rfl, rfl, wide_div hm (b := 201) ?_ (by decide) (by decide), _, rfl, b, _, _, 2, rfl, rfl, B.hb, rfl, ?_⟩
      · omega
      refine ⟨_, rfl, .inl ⟨_, rfl, _, rfl, _, _, rfl, rfl, hm, ?_⟩⟩
      exact k _ _ _ _ (Int.emod_nonneg _ (by omega)) (Int.emod_lt_of_pos _ hm) (by omega) (by omega) (Int.ediv_nonneg (by omega) (by omega)) upd_same (But.refl b H).set
    · refine ⟨_, rfl, b, _, _, _, rfl, rfl, SqL.of B.hb, rfl, ?_⟩
      refine ⟨_, rfl, _, _, rfl, rfl, _, rfl, b, _, _, 1, rfl, rfl, B.hb, rfl, ?_⟩
      refine ⟨_, rfl, _, _, rfl, rfl, .inl ⟨by decide, by decide⟩, _, _, rfl, rfl, ?_⟩
      dsimp only [gName]
      have b1 : But b H (upd H b (.lst [.ref c, .int (t + 1), .int r])) := (But.refl b H).set
      have c1' : (upd H b (.lst [.ref c, .int (t + 1), .int r])) c = some (.lst (ns.map V.int)) := by rw [upd_ne (Ne.symm B.ne)]; exact B.hc
      refine cut (fun σ' H' => ∃ cell : Int, σ' = [some (.ref b), some (.int m), none, some (.int t), some (.int cell), none] ∧ H' b = some (.lst [.ref c, .int (t + 1), .int r]) ∧ But b H H') ?tail ?first
      case first =>
        intro nx hnx
        refine ⟨_, rfl, b, _, _, _, rfl, rfl, SqL.of upd_same, rfl, by decide, fun p hp => ?_⟩
        have cp := ne_of_none c1' hp
        have bp : b ≠ p := ne_of_none (upd_same) hp
        have c2 : (upd (upd H b (.lst [.ref c, .int (t + 1), .int r])) p (.lst [])) c = some (.lst (ns.map V.int)) := by rw [upd_ne cp]; exact c1'
        have b2 : (upd (upd H b (.lst [.ref c, .int (t + 1), .int r])) p (.lst [])) b = some (.lst [.ref c, .int (t + 1), .int r]) := by rw [upd_ne bp]; exact upd_same
        have bb := b1.new hp (o := .lst [])
        refine ⟨_, _, .lst (SqL.of c2) (dpInts ns), .lst (SqL.of upd_same) .nil, shapedInts ns, shapedInts [], _, rfl, ?_⟩
        rw [eqvNil]
        cases ns with
        | nil => exact hnx _ _ ⟨_, rfl, b2, bb⟩
        | cons n0 ns =>
          refine ⟨_, rfl, b, _, _, _, rfl, rfl, SqL.of b2, rfl, _, rfl, .inl ⟨_, rfl, _, rfl, b, _, _, _, rfl, rfl, SqL.of b2, rfl, c, _, rfl, .inl (SqL.of c2), ?_⟩⟩
          have hl : (0 : Int) < (((List.map V.int (n0 :: ns)).length : Nat) : Int) := by rw [List.length_map, List.length_cons]; omega
          have h1 := Int.emod_nonneg t (Int.ne_of_gt hl)
          have h2 := Int.emod_lt_of_pos t hl
          obtain ⟨cell, hcell⟩ := at_ints (n0 :: ns) h1 (by simpa using h2)
          exact ⟨_, _, rfl, rfl, hl, c, _, _, _, rfl, rfl, SqL.of c2, hcell, hnx _ _ ⟨cell, rfl, b2, bb⟩⟩
      case tail =>
        rintro σ' H' ⟨cell, rfl, hb', bb⟩
        have c2 : H' c = some (.lst (ns.map V.int)) := bb c _ (Ne.symm B.ne) B.hc
        refine cut (fun σ' H'' => (∃ x, σ' = [some (.ref b), some (.int m), x, some (.int t), some (.int cell), none]) ∧ H'' = H') ?rest ?great
        case great =>
          intro nx hnx
          refine ⟨_, rfl, _, rfl, b, _, _, _, rfl, rfl, SqL.of hb', rfl, c, _, rfl, .inl (SqL.of c2), _, _, rfl, rfl, _, rfl, ?_⟩
          refine ite2 (fun _ => ?_) (fun _ => ?_)
          · refine ⟨_, rfl, _, rfl, _, _, rfl, rfl, ⟨by decide, by decide, by decide⟩, _, _, rfl, rfl, _, rfl, ?_⟩
            refine ite2 (fun g => ?_) (fun _ => ?_)
            · have hg : (10 : Int) ^ ((18 : Int)).toNat ≤ (if cell < 0 then -cell else cell) := by simpa using g
              refine ⟨_, rfl, _, rfl, _, _, rfl, rfl, ⟨by decide, by decide, by decide⟩, _, _, rfl, rfl, _, _, rfl, rfl, .inl ⟨by decide, by decide⟩, _, rfl, _, _, rfl, rfl, .inr ⟨_, rfl, _, _, rfl, rfl, ?_⟩⟩
              refine ⟨_, rfl, _, rfl, _, _, rfl, rfl, wide_div hm (b := 201) (by omega) (by decide) (by decide), _, rfl, b, _, _, 2, rfl, rfl, hb', rfl, ?_⟩
              refine ⟨_, rfl, .inl ⟨_, rfl, _, rfl, _, _, rfl, rfl, hm, ?_⟩⟩
              refine k _ _ _ _ (Int.emod_nonneg _ (by omega)) (Int.emod_lt_of_pos _ hm) ?_ ?_ (Int.ediv_nonneg ?_ (by omega)) upd_same bb.set
              · omega
              · omega
              · split <;> omega
            · exact hnx _ _ ⟨⟨_, rfl⟩, rfl⟩
          · exact hnx _ _ ⟨⟨_, rfl⟩, rfl⟩
        case rest =>
          rintro σ' H'' ⟨⟨x, rfl⟩, rfl⟩
          have t0 := B.t0
          refine ⟨_, rfl, .inl ⟨_, rfl, _, _, rfl, rfl, (by show (0 : Int) < 2147483579; decide), _, rfl, _, _, rfl, rfl, .inl ⟨by decide, by decide⟩, _, _, rfl, rfl, _, _, rfl, rfl, _, _, rfl, rfl, ⟨by decide, by decide, ?b1⟩, .inl ⟨_, rfl, _, _, rfl, rfl, (by show (0 : Int) < 2147483629; decide), ?r1⟩⟩⟩
          case b1 =>
            have q0 := Int.emod_nonneg cell (by decide : (2147483579 : Int) ≠ 0)
            have q1 := Int.emod_lt_of_pos cell (by decide : (0 : Int) < 2147483579)
            omega
          case r1 =>
            generalize hz : ((cell % 2147483579 + 71815 * t + 8377) ^ ((5 : Int)).toNat) % 2147483629 = z
            have z0 : 0 ≤ z := by rw [← hz]; exact Int.emod_nonneg _ (by decide)
            have z1 : z < 2147483629 := by rw [← hz]; exact Int.emod_lt_of_pos _ (by decide)
            have hmulA : (z * (2 * t + 5117)).natAbs ≤ 2147483629 * 2102269 := by
              rw [Int.natAbs_mul]
              exact Nat.mul_le_mul (by omega) (by omega)
            have hmulB : (105021 * t * t).natAbs ≤ 105021 * 1048576 * 1048576 := by
              rw [Int.natAbs_mul]
              exact Nat.mul_le_mul (by omega) (by omega)
            refine ⟨_, rfl, _, rfl, _, _, rfl, rfl, .inl ⟨by decide, by decide⟩, _, _, rfl, rfl, _, _, rfl, rfl, .inl ⟨by omega, by omega⟩, _, rfl, _, _, rfl, rfl, .inl ⟨by decide, by decide⟩, _, rfl, _, _, rfl, rfl, .inr ⟨by omega, by omega⟩,
              _, _, rfl, rfl, _, _, rfl, rfl, _, _, rfl, rfl, ⟨by decide, by decide, ?b2⟩, .inl ⟨_, rfl, _, _, rfl, rfl, (by show (0 : Int) < 2147483549; decide), ?r2⟩⟩
            case b2 => 
              rw [hz]
              generalize z * (2 * t + 5117) = u1 at hmulA ⊢
              generalize 105021 * t * t = u2 at hmulB ⊢
              omega
            case r2 =>
              refine ⟨_, rfl, _, _, rfl, rfl, ⟨by decide, by decide⟩, .inl ⟨_, rfl, _, rfl, _, _, rfl, rfl, hm, ?_⟩⟩
              exact k _ _ _ _ (Int.emod_nonneg _ (by omega)) (Int.emod_lt_of_pos _ hm) (by omega) (by omega) B.r0 hb' bb
end


theorem cut60 (ns : List Int) : cutV (ns.map V.int) none (some 60) = (ns.take 60).map V.int := by
  unfold cutV
  rw [List.length_map, show ((60 : Int)) = ((60 : Nat) : Int) from rfl, HT.sIx_nat]
  show List.take (min 60 ns.length - 0) (List.drop 0 _) = _
  rw [List.drop_zero, Nat.sub_zero, ← List.map_take]
  congr 1
  rcases Nat.le_total 60 ns.length with h | h
  · rw [Nat.min_eq_left h]
  · rw [Nat.min_eq_right h, List.take_length, List.take_of_length_le h]
def spBowl (K : PySem.W.Frag) : Sp := fun vs H Q _ => ∃ (a : Addr) (ns : List Int), vs = [.ref a] ∧ SqL K H a (ns.map V.int) ∧
  ∀ (H' : Hp) (b c : Addr), Same H H' → H b = none → H c = none → Bowl H' b c (ns.take 60) 0 0 → Q (.ref b) H'
section
variable {P : Program} {w : World} {K : PySem.W.Frag} {mg : Str → Option Value} {base : Heap}
theorem ok_bowl (T : Nm mg) {f : Addr} {fd : FuncData} (F : Fun K "_law_bowl" "_law_bowl" s_l_bowl f fd) : FnOk P w K mg base CX0 1 f fd ["script"] (spBowl K) := by
  refine F.ok sc_l_bowl (fun vs H Q E h => ?_) (fun cdv A outer s H vs Q E hr h => ?_)
  · obtain ⟨a, ns, rfl, _⟩ := h
    rfl
  · obtain ⟨a, ns, rfl, hs, k⟩ := h
    refine ⟨_, (pss_one (ps_ret (pe_lst (pa_cons (pe_lc (own := [("cell", 1)]) (g := (gName 1)) (tt := tYes) rfl sc_l_bowl.nd (pi_list (pe_slice sl_list (pv 0) po_none (po_some pe_int))) (blkOk_by (N := ["script", "cell"]) (sc := defScope s_l_bowl) (by decide +kernel)) (fun _ _ _ _ _ => pg_name (i := 1) sc_l_bowl.nd rfl (Or.inl rfl)) (fun _ _ _ _ _ => pts_nil) (fun _ _ _ _ _ => (pe_callTy call_int1 (by rfl) T.n_int (by decide +kernel) (pa_cons (pv 1) pa_nil)))) (pa_cons pe_int (pa_cons pe_int pa_nil)))))), ?_⟩
    refine ⟨_, rfl, _, rfl, a, _, rfl, hs, fun p hp => ⟨p, rfl, ⟨_, SqL.of upd_same⟩, fun D hD => ?_⟩⟩
    rw [cut60] at hD ⊢
    have pD : p ≠ D := ne_of_none upd_same hD
    have D0 : H D = none := by rw [upd_ne (Ne.symm pD)] at hD; exact hD
    refine lc_list (K := K) (a := p) (xs := (ns.take 60).map V.int) (fun i H' => Same H H' ∧ H' p = some (.lst ((ns.take 60).map V.int)) ∧ H' D = some (.lst (((ns.take 60).take i).map V.int)))
      ⟨fun b o e => ?_, ?_, upd_same⟩ (fun i H' _ ⟨_, q, _⟩ => SqL.of q) ?_ ?_
    · rw [upd_ne (ne_of_none e D0), upd_ne (ne_of_none e hp)]
      exact e
    · rw [upd_ne pD]
      exact upd_same
    · rintro i x H' hx ⟨s0, s1, s2⟩
      rw [List.getElem?_map] at hx
      obtain ⟨z, hz, rfl⟩ := Option.map_eq_some_iff.mp hx
      refine ⟨rfl, _, rfl, .inl ⟨_, rfl, _, s2, ?_, fun b o e => ?_, ?_, ?_⟩⟩
      · rw [List.length_map, List.length_take, List.length_take]
        exact Nat.lt_of_le_of_lt (by omega : _ ≤ 60) (by decide)
      · rw [upd_ne (ne_of_none e D0)]
        exact s0 b o e
      · rw [upd_ne pD]
        exact s1
      · rw [upd_same, List.take_add_one (l := List.take 60 ns) (i := i), hz, List.map_append]
        rfl
    · rintro H' ⟨s0, s1, s2⟩
      rw [List.length_map, List.take_length] at s2
      refine ⟨(by decide : 3 ≤ sizeLine), fun b hb => ?_⟩
      have Db : D ≠ b := ne_of_none s2 hb
      exact k _ b D (fun c o e => by rw [upd_ne (ne_of_none (s0 c o e) hb)]; exact s0 c o e) (s0.free hb) D0
        ⟨upd_same, by rw [upd_ne Db]; exact s2, Ne.symm Db, Int.le_refl _, Int.le_refl _⟩
end
end K01

set_option Elab.async false
set_option linter.all false
set_option maxRecDepth 100000
set_option maxHeartbeats 4000000
namespace K01
open PySem L2 SG
theorem But.seq {K : PySem.W.Frag} {b p : Addr} {H H' : Hp} {xs : List V} (h : But b H H') (ne : p ≠ b) (q : SqL K H p xs) : SqL K H' p xs := by
  rcases q with (q | ⟨o, q⟩) | q
  · exact .inl (.inl (h _ _ ne q))
  · exact .inl (.inr ⟨o, h _ _ ne q⟩)
  · exact .inr q
def spChoose (K : PySem.W.Frag) : Sp := fun vs H Q _ => ∃ (b c : Addr) (ns : List Int) (t r : Int) (p : Addr) (xs : List V), vs = [.ref b, .ref p] ∧ Bowl H b c ns t r ∧ t < 2 ^ 20 ∧
  SqL K H p xs ∧ p ≠ b ∧ 0 < xs.length ∧ xs.length ≤ 1000 ∧ ∀ (v : V) (t' r' : Int) (H' : Hp), v ∈ xs → Aft 1 H H' b c ns t t' r' → Q v H'
section
variable {P : Program} {w : World} {K : PySem.W.Frag} {mg : Str → Option Value} {base : Heap}
theorem ok_choose (T : Tx K mg) {f : Addr} {fd : FuncData} (F : Fun K "_law_choose" "_law_choose" s_l_choose f fd) : FnOk P w K mg base CX0 2 f fd ["bowl", "some"] (spChoose K) := by
  refine F.ok sc_l_choose (fun vs H Q E h => ?_) (fun cdv A outer s H vs Q E hr h => ?_)
  · obtain ⟨b, c, ns, t, r, p, xs, rfl, _⟩ := h
    rfl
  · obtain ⟨b, c, ns, t, r, p, xs, rfl, B, ht, hp, ne, h0, h1, k⟩ := h
    refine ⟨_, (pss_one (ps_ret (pe_ix ix_list (pv 1) (pe_call (ok_dip T.nm T.d_l_dip.F) hr rfl T.d_l_dip.m T.d_l_dip.k T.d_l_dip.b .nil pass0 (pa_cons (pv 0) (pa_cons (pe_callB call_len_seq (by rfl) T.nm.n_len (by decide +kernel) (pa_cons (pv 1) pa_nil)) pa_nil))) (fun _ _ => rfl)))), ?_⟩
    refine ⟨_, rfl, _, rfl, _, rfl, p, _, rfl, .inl hp, b, c, ns, t, r, _, rfl, by omega, by omega, B, ht, fun v t' r' H' v0 v1 x => ?_⟩
    obtain ⟨j, rfl⟩ := Int.eq_ofNat_of_zero_le v0
    have hj : j < xs.length := by omega
    exact ⟨p, xs, _, xs[j], rfl, rfl, x.but.seq ne hp, atI_nat (List.getElem?_eq_getElem hj), k _ t' r' H' (List.getElem_mem hj) x⟩
end
end K01

set_option Elab.async false
set_option linter.all false
set_option maxRecDepth 100000
set_option maxHeartbeats 4000000
namespace K01
open PySem L2 SG
/-! ### values of all kinds -/
structure Nice (d : PyData) : Prop where
  sh : d.showable = true
  lv : d.leavesShort 40 = true
  wt : d.weight ≤ 400
  dp : d.depth ≤ 6
mutual
theorem Dv.same {K : PySem.W.Frag} {H H' : Hp} (s : Same H H') : ∀ (d : PyData) (v : V), Dv K H v d → Dv K H' v d
  | .none, _, h => by cases h; exact .non
  | .bool _, _, h => by cases h; exact .bl _
  | .int _, _, h => by cases h; exact .int _
  | .str _, _, h => by cases h; exact .str _
  | .list ds, _, h => by
    cases h with
    | lst hn hs ha => exact .lst hn (s.seq hs) (Dv.sameAll s ds _ ha)
  | .tuple ds, _, h => by
    cases h with
    | tup hs ha =>
      refine .tup ?_ (Dv.sameAll s ds _ ha)
      rcases hs with (q | ⟨o, q⟩) | q
      · exact .inl (.inl (s _ _ q))
      · exact .inl (.inr ⟨o, s _ _ q⟩)
      · exact .inr q
  | .dict [], _, h => by cases h
  | .dict [(k, d)], _, h => by
    cases h with
    | dic hs hv => exact .dic (s _ _ hs) (Dv.same s d _ hv)
  | .dict (_ :: _ :: _), _, h => by cases h
theorem Dv.sameAll {K : PySem.W.Frag} {H H' : Hp} (s : Same H H') : ∀ (ds : List PyData) (vs : List V), DvAll K H vs ds → DvAll K H' vs ds
  | [], _, h => by cases h; exact .nil
  | d :: ds, _, h => by
    cases h with
    | cons h1 h2 => exact .cons (Dv.same s d _ h1) (Dv.sameAll s ds _ h2)
end
/-- v stands as data in what is tracked away from b -/
def Val (K : PySem.W.Frag) (H : Hp) (b : Addr) (v : V) : Prop := selfV v = true ∧ ∃ (G : Hp) (d : PyData), G b = none ∧ Same G H ∧ Dv K G v d ∧ Nice d
theorem Val.but {K : PySem.W.Frag} {H H' : Hp} {b : Addr} {v : V} (h : Val K H b v) (x : But b H H') : Val K H' b v := by
  obtain ⟨h1, G, d, g0, gs, dv, nc⟩ := h
  refine ⟨h1, G, d, g0, fun a o q => x a o ?_ (gs a o q), dv, nc⟩
  intro e
  rw [e, g0] at q
  cases q
def away (H : Hp) (b : Addr) : Hp := fun a => if a = b then none else H a
theorem away_b (H : Hp) (b : Addr) : away H b b = none := if_pos rfl
theorem away_ne {H : Hp} {a b : Addr} (h : a ≠ b) : away H b a = H a := if_neg h
theorem away_same (H : Hp) (b : Addr) : Same (away H b) H := fun a o q => by
  by_cases e : a = b
  · rw [e, away_b] at q; cases q
  · rw [away_ne e] at q; exact q
theorem Val.mk' {K : PySem.W.Frag} {H : Hp} {b : Addr} {v : V} {d : PyData} (h1 : selfV v = true) (h2 : Dv K (away H b) v d) (h3 : Nice d) : Val K H b v := ⟨h1, _, d, away_b H b, away_same H b, h2, h3⟩
/-- the numbers that are drawn -/
def Mid (i : Int) : Prop := i.natAbs < 10 ^ 21
theorem Mid.log {i : Int} (h : Mid i) : i.natAbs.log2 < 70 := PySem.Flt.log2_lt_of (by decide) (Nat.lt_of_lt_of_le h (by decide))
theorem Mid.len {i : Int} (h : Mid i) : (Str.ofString (toString i)).length ≤ 22 := by
  have e := int_text_length_le10 (k := 21) (by decide) h
  rw [ofString_length]
  exact e
theorem nice_int {i : Int} (h : Mid i) : Nice (.int i) := by
  refine ⟨by simp only [PyData.showable]; exact decide_eq_true (Nat.lt_trans h.log (by decide)), ?_, ?_, by simp [PyData.depth]⟩
  · simp only [PyData.leavesShort, decide_eq_true_eq]
    exact Nat.le_trans (show (Str.ofString (toString i)).length ≤ 22 from h.len) (by decide)
  · simp only [PyData.weight]
    have := h.log
    split <;> omega
theorem nice_text {i : Int} (h : Mid i) : Nice (.str (Str.ofString (toString i))) := by
  refine ⟨by simp [PyData.showable], ?_, ?_, by simp [PyData.depth]⟩
  · simp only [PyData.leavesShort, List.all_eq_true, decide_eq_true_eq]
    intro c hc
    rw [Str.ofString_eq_toList] at hc
    obtain ⟨ch, _, rfl⟩ := List.mem_map.mp (show c ∈ (toString i).toList.map Char.toNat from by simpa using hc)
    exact Nat.lt_of_lt_of_le (ch.val.toNat_lt) (by decide)
  · simp only [PyData.weight]
    exact Nat.le_trans (show (Str.ofString (toString i)).length ≤ 22 from h.len) (by decide)

theorem nice_seq {ds : List PyData} (h1 : PyData.showableAll ds = true) (h2 : PyData.leavesShortAll 40 ds = true) (h3 : PyData.weightAll ds ≤ 400) (h4 : PyData.depthAll ds ≤ 5) :
    Nice (.list ds) ∧ Nice (.tuple ds) := by
  refine ⟨⟨?_, ?_, ?_, ?_⟩, ⟨?_, ?_, ?_, ?_⟩⟩
  all_goals first
    | (simp only [PyData.showable]; exact h1)
    | (simp only [PyData.leavesShort]; exact h2)
    | (simp only [PyData.weight]; exact h3)
    | (simp only [PyData.depth]; omega)
theorem int_wt {i : Int} (h : Mid i) : PyData.weight (.int i) ≤ 70 := by
  have := h.log
  simp only [PyData.weight]
  split <;> omega
theorem ints_nice {ds : List PyData} {i : Int} (h : Mid i) (hd : ds = [.int i] ∨ ds = [.int i, .int 2]) : Nice (.list ds) ∧ Nice (.tuple ds) := by
  have a1 := (nice_int h).sh
  have a2 := (nice_int h).lv
  have a3 := int_wt h
  have b1 : (PyData.int 2).showable = true := (nice_int (by unfold Mid; decide)).sh
  have b2 : (PyData.int 2).leavesShort 40 = true := (nice_int (by unfold Mid; decide)).lv
  have b3 : (PyData.int 2).weight ≤ 70 := int_wt (by unfold Mid; decide)
  rcases hd with rfl | rfl
  · refine nice_seq ?_ ?_ ?_ ?_
    · simp only [PyData.showableAll, a1, Bool.and_self]
    · simp only [PyData.leavesShortAll, a2, Bool.and_self]
    · simp only [PyData.weightAll]; omega
    · simp [PyData.depthAll, PyData.depth]
  · refine nice_seq ?_ ?_ ?_ ?_
    · simp only [PyData.showableAll, a1, b1, Bool.and_self]
    · simp only [PyData.leavesShortAll, a2, b2, Bool.and_self]
    · simp only [PyData.weightAll]; omega
    · simp [PyData.depthAll, PyData.depth]
theorem dict_nice {i : Int} (h : Mid i) : Nice (.dict [(.int i, .list [.int i])]) := by
  have a1 := (nice_int h).sh
  have a2 := (nice_int h).lv
  have a3 := int_wt h
  have L := (ints_nice h (.inl rfl)).1
  have l3 : (PyData.list [.int i]).weight ≤ 71 := by simp only [PyData.weight, PyData.weightAll]; simp only [PyData.weight] at a3; omega
  refine ⟨?_, ?_, ?_, ?_⟩
  · rw [PyData.showable]
    simp only [PyData.showableKv, a1, L.sh, Bool.and_self]
  · rw [PyData.leavesShort]
    simp only [PyData.leavesShortKv, a2, L.lv, Bool.and_self]
  · rw [PyData.weight]
    simp only [PyData.weightKv]
    omega
  · simp [PyData.depth, PyData.depthKv, PyData.depthAll]
theorem deep_nice {i : Int} (h : Mid i) : Nice (.list [.list [.int i], .tuple [.int 1, .list [.int 2]]]) := by
  have L := (ints_nice h (.inl rfl)).1
  have a3 := int_wt h
  have l3 : (PyData.list [.int i]).weight ≤ 71 := by simp only [PyData.weight, PyData.weightAll]; simp only [PyData.weight] at a3; omega
  have T1 : (PyData.tuple [.int 1, .list [.int 2]]).showable = true := by decide +kernel
  have T2 : (PyData.tuple [.int 1, .list [.int 2]]).leavesShort 40 = true := by decide +kernel
  have T3 : (PyData.tuple [.int 1, .list [.int 2]]).weight ≤ 10 := by decide +kernel
  refine (nice_seq ?_ ?_ ?_ ?_).1
  · simp only [PyData.showableAll, L.sh, T1, Bool.and_self]
  · simp only [PyData.leavesShortAll, L.lv, T2, Bool.and_self]
  · simp only [PyData.weightAll]; omega
  · simp [PyData.depthAll, PyData.depth]
theorem alloc {H : Hp} {p : Addr} {o : HO} (hp : H p = none) : Same H (upd H p o) := fun a u q => by
  rw [upd_ne (ne_of_none q hp)]
  exact q
end K01

set_option Elab.async false
set_option linter.all false
set_option maxRecDepth 100000
set_option maxHeartbeats 4000000
namespace K01
open PySem L2 SG
theorem Aft.ext {n : Int} {H H' H'' : Hp} {b c : Addr} {ns : List Int} {t t' r' : Int} (x : Aft n H H' b c ns t t' r') (s : Same H' H'') : Aft n H H'' b c ns t t' r' :=
  ⟨x.bowl.same s, fun a o ne q => s _ _ (x.but a o ne q), x.lo, x.hi⟩
theorem Bowl.apart {H : Hp} {b c p : Addr} {ns : List Int} {t r : Int} (B : Bowl H b c ns t r) (hp : H p = none) : p ≠ b := fun e => by rw [e, B.hb] at hp; cases hp
def spValue (K : PySem.W.Frag) : Sp := fun vs H Q _ => ∃ (b c : Addr) (ns : List Int) (t r : Int), vs = [.ref b] ∧ Bowl H b c ns t r ∧ t < 2 ^ 19 ∧
  ∀ (v : V) (t' r' : Int) (H' : Hp), Val K H' b v → Aft 5 H H' b c ns t t' r' → Q v H'
section
variable {P : Program} {w : World} {K : PySem.W.Frag} {mg : Str → Option Value} {base : Heap}
theorem ok_value (T : Tx K mg) {f : Addr} {fd : FuncData} (F : Fun K "_law_value" "_law_value" s_l_value f fd) : FnOk P w K mg base CX0 3 f fd ["bowl"] (spValue K) := by
  refine F.ok sc_l_value (fun vs H Q E h => ?_) (fun cdv A outer s H vs Q E hr h => ?_)
  · obtain ⟨b, c, ns, t, r, rfl, _⟩ := h
    rfl
  · obtain ⟨b, c, ns, t, r, rfl, B, ht, k⟩ := h
    refine ⟨_, (pss_cons (ps_set (i := 1) sc_l_value.nd rfl (Or.inl rfl) (pe_call (ok_choose T T.d_l_choose.F) hr rfl T.d_l_choose.m T.d_l_choose.k T.d_l_choose.b .nil pass0 (pa_cons (pv 0) (pa_cons (pe_lst (pa_cons (pe_op op_sub (pe_call (ok_dip T.nm T.d_l_dip.F) (hr.mono (by decide)) rfl T.d_l_dip.m T.d_l_dip.k T.d_l_dip.b .nil pass0 (pa_cons (pv 0) (pa_cons pe_int pa_nil))) pe_int) (pa_cons (pe_op op_add (pe_op op_pow pe_int pe_int) (pe_call (ok_dip T.nm T.d_l_dip.F) (hr.mono (by decide)) rfl T.d_l_dip.m T.d_l_dip.k T.d_l_dip.b .nil pass0 (pa_cons (pv 0) (pa_cons pe_int pa_nil)))) (pa_cons (pe_un un_neg (pe_call (ok_dip T.nm T.d_l_dip.F) (hr.mono (by decide)) rfl T.d_l_dip.m T.d_l_dip.k T.d_l_dip.b .nil pass0 (pa_cons (pv 0) (pa_cons pe_int pa_nil)))) pa_nil)))) pa_nil))))
  (pss_cons (ps_set (i := 2) sc_l_value.nd rfl (Or.inl rfl) (pe_lst (pa_cons (pv 1) (pa_cons (pe_callTy call_str_int (by rfl) T.nm.n_str (by decide +kernel) (pa_cons (pv 1) pa_nil)) (pa_cons pe_non (pa_cons pe_bl (pa_cons pe_bl (pa_cons (pe_lstB (pa_cons (pv 1) pa_nil)) (pa_cons (pe_tup (pa_cons (pv 1) (pa_cons pe_int pa_nil))) (pa_cons (pe_disp (pps_cons (pv 1) (pe_lstB (pa_cons (pv 1) pa_nil)) pps_nil) (by rfl) (by rfl) (fun z => by cases z) (by decide)) (pa_cons pe_str (pa_cons (pe_lstB pa_nil) (pa_cons (pe_tup pa_nil) (pa_cons (pe_lstB (pa_cons (pe_lstB (pa_cons (pv 1) pa_nil)) (pa_cons (pe_tup (pa_cons pe_int (pa_cons (pe_lstB (pa_cons pe_int pa_nil)) pa_nil))) pa_nil))) (pa_cons (pe_lstB (pa_cons pe_bl (pa_cons pe_int pa_nil))) (pa_cons pe_str pa_nil))))))))))))))))
  (pss_one (ps_ret (pe_call (ok_choose T T.d_l_choose.F) hr rfl T.d_l_choose.m T.d_l_choose.k T.d_l_choose.b .nil pass0 (pa_cons (pv 0) (pa_cons (pv 2) pa_nil))))))), ?_⟩
    refine ⟨_, rfl, _, rfl, b, c, ns, t, r, _, rfl, by decide, by decide, B, by omega, fun v1 t1 r1 H1 l1 u1 x1 => ?_⟩
    refine ⟨_, _, rfl, rfl, _, _, rfl, rfl, ⟨by decide, by decide, by decide⟩, ?_⟩
    refine ⟨_, rfl, b, c, ns, t1, r1, _, rfl, by decide, by decide, x1.bowl, by have := x1.hi; omega, fun v2 t2 r2 H2 l2 u2 x2 => ?_⟩
    refine ⟨_, _, rfl, rfl, ?_⟩
    refine ⟨_, rfl, b, c, ns, t2, r2, _, rfl, by decide, by decide, x2.bowl, by have := x1.hi; have := x2.hi; omega, fun v3 t3 r3 H3 l3 u3 x3 => ?_⟩
    refine ⟨_, rfl, (by decide : 3 ≤ sizeLine), fun p hp => ?_⟩
    have x123 := (x1.trans x2).trans x3
    have hpb : p ≠ b := fun e => by rw [e, x3.bowl.hb] at hp; cases hp
    have q3 := x123.new hp (o := .lst [.int (v1 - 4), .int (10 ^ ((20 : Int)).toNat + v2), .int (-v3)])
    refine ⟨b, c, ns, t3, r3, p, _, rfl, q3.bowl, by have := q3.hi; omega, SqL.of upd_same, hpb, by show 0 < 3; decide, by show 3 ≤ 1000; decide, fun v4 t4 r4 H4 hv x4 => ?_⟩
    have x4' := q3.trans x4
    obtain ⟨n, rfl, hn⟩ : ∃ n, v4 = .int n ∧ Mid n := by
      have e20 : (10 : Int) ^ ((20 : Int)).toNat = 100000000000000000000 := by decide +kernel
      have m21 : (10 : Nat) ^ 21 = 1000000000000000000000 := by decide +kernel
      have hv' : v4 = .int (v1 - 4) ∨ v4 = .int (10 ^ ((20 : Int)).toNat + v2) ∨ v4 = .int (-v3) := by simpa using hv
      rcases hv' with e | e | e
      · exact ⟨_, e, by unfold Mid; omega⟩
      · exact ⟨_, e, by unfold Mid; rw [e20]; omega⟩
      · exact ⟨_, e, by unfold Mid; omega⟩
    dsimp only [gName]
    refine ⟨_, rfl, _, rfl, _, rfl, Nat.lt_trans hn.log (by decide), _, rfl, (by decide : 1 ≤ sizeLine), fun pa ha a1 => ?_⟩
    have yA := x4'.new ha (o := .lst [.int n])
    have qA : (upd H4 pa (.lst [.int n])) pa = some (.lst [.int n]) := upd_same
    generalize upd H4 pa (.lst [.int n]) = HA at yA qA ⊢
    refine ⟨_, rfl, (by decide : 2 ≤ sizeLine), fun pb hb => ?_⟩
    have yB := yA.new hb (o := .tup [.int n, .int 2])
    have qB : (upd HA pb (.tup [.int n, .int 2])) pb = some (.tup [.int n, .int 2]) := upd_same
    have sB : Same HA (upd HA pb (.tup [.int n, .int 2])) := alloc hb
    generalize upd HA pb (.tup [.int n, .int 2]) = HB at yB qB sB ⊢
    intro pc hc
    have yC := yB.new hc (o := .dK [])
    have sC : Same HB (upd HB pc (.dK [])) := alloc hc
    refine ⟨_, rfl, _, rfl, (by decide : 1 ≤ sizeLine), fun pd hd d1 => ?_⟩
    have cd : pc ≠ pd := ne_of_none upd_same hd
    have hd0 : HB pd = none := by rw [upd_ne (Ne.symm cd)] at hd; exact hd
    refine ⟨by rw [upd_ne cd]; exact upd_same, [(.inl n, .ref pd)], rfl, (by decide : 1 ≤ 15), ?_⟩
    have e0 : upd (upd (upd HB pc (.dK [])) pd (.lst [.int n])) pc (.dK (mergeK [] [(.inl n, .ref pd)])) = upd (upd HB pd (.lst [.int n])) pc (.dK [(.inl n, .ref pd)]) := by
      funext a
      by_cases h1 : a = pc
      · rw [h1, upd_same, upd_same]
        rfl
      · rw [upd_ne h1, upd_ne h1]
        by_cases h2 : a = pd
        · rw [h2, upd_same, upd_same]
        · rw [upd_ne h2, upd_ne h2, upd_ne h1]
    have hc0 : (upd HB pd (.lst [.int n])) pc = none := by rw [upd_ne cd]; exact hc
    have sC : Same HB (upd (upd HB pd (.lst [.int n])) pc (.dK [(.inl n, .ref pd)])) := (alloc hd0).trans (alloc hc0)
    have qC : (upd (upd HB pd (.lst [.int n])) pc (.dK [(.inl n, .ref pd)])) pc = some (.dK [(.inl n, .ref pd)]) := upd_same
    have qD : (upd (upd HB pd (.lst [.int n])) pc (.dK [(.inl n, .ref pd)])) pd = some (.lst [.int n]) := by rw [upd_ne (Ne.symm cd)]; exact upd_same
    rw [e0]
    clear e0 hc0 hd yC
    generalize upd (upd HB pd (.lst [.int n])) pc (.dK [(.inl n, .ref pd)]) = HC at sC qC qD ⊢
    refine ⟨(by decide : 0 ≤ sizeLine), fun pe he e1 => ?_⟩
    have sE := alloc he (o := .lst [])
    have qE : (upd HC pe (.lst [])) pe = some (.lst []) := upd_same
    generalize upd HC pe (.lst []) = HE at sE qE ⊢
    refine ⟨(by decide : 0 ≤ sizeLine), fun pf hf => ?_⟩
    have sF := alloc hf (o := .tup [])
    have qF : (upd HE pf (.tup [])) pf = some (.tup []) := upd_same
    generalize upd HE pf (.tup []) = HF at sF qF ⊢
    refine ⟨_, rfl, (by decide : 1 ≤ sizeLine), fun pg hg g1 => ?_⟩
    have sG := alloc hg (o := .lst [.int n])
    have qG : (upd HF pg (.lst [.int n])) pg = some (.lst [.int n]) := upd_same
    generalize upd HF pg (.lst [.int n]) = HG at sG qG ⊢
    refine ⟨(by decide : 1 ≤ sizeLine), fun ph hh h1 => ?_⟩
    have sH := alloc hh (o := .lst [.int 2])
    have qH : (upd HG ph (.lst [.int 2])) ph = some (.lst [.int 2]) := upd_same
    generalize upd HG ph (.lst [.int 2]) = HH at sH qH ⊢
    refine ⟨(by decide : 2 ≤ sizeLine), fun pi hi => ?_⟩
    have sI := alloc hi (o := .tup [.int 1, .ref ph])
    have qI : (upd HH pi (.tup [.int 1, .ref ph])) pi = some (.tup [.int 1, .ref ph]) := upd_same
    generalize upd HH pi (.tup [.int 1, .ref ph]) = HI at sI qI ⊢
    refine ⟨(by decide : 2 ≤ sizeLine), fun pj hj j1 => ?_⟩
    have sJ := alloc hj (o := .lst [.ref pg, .ref pi])
    have qJ : (upd HI pj (.lst [.ref pg, .ref pi])) pj = some (.lst [.ref pg, .ref pi]) := upd_same
    generalize upd HI pj (.lst [.ref pg, .ref pi]) = HJ at sJ qJ ⊢
    refine ⟨(by decide : 2 ≤ sizeLine), fun pk hk k1 => ?_⟩
    have sK := alloc hk (o := .lst [.bl true, .int 0])
    have qK : (upd HJ pk (.lst [.bl true, .int 0])) pk = some (.lst [.bl true, .int 0]) := upd_same
    generalize upd HJ pk (.lst [.bl true, .int 0]) = HK at sK qK ⊢
    refine ⟨(by decide : 14 ≤ sizeLine), fun pl hl => ?_⟩
    have sAK : Same HA HK := ((((((((sB.trans sC).trans sE).trans sF).trans sG).trans sH).trans sI).trans sJ).trans sK)
    have yK := yA.ext sAK
    have yL := yK.ext (alloc hl (o := .lst [.int n, .str (Str.ofString (toString n)), .non, .bl true, .bl false, .ref pa, .ref pb, .ref pc, .str "", .ref pe, .ref pf, .ref pj, .ref pk, .str "[1]"]))
    dsimp only [gName]
    refine ⟨_, rfl, _, rfl, b, c, ns, t4, r4, pl, _, rfl, yL.bowl, by have := yL.hi; omega, SqL.of upd_same, yK.bowl.apart hl, by show 0 < 14; decide, by show 14 ≤ 1000; decide, fun v t5 r5 H5 hv5 x5 => ?_⟩
    have y5 := yL.trans x5
    refine k v t5 r5 H5 ?_ ⟨y5.bowl, y5.but, y5.lo, by have := y5.hi; omega⟩
    have fin : ∀ {a : Addr} {o : HO}, HK a = some o → o ≠ .lst [.ref c, .int t4, .int r4] → (away H5 b) a = some o := by
      intro a o q ne
      have nb : a ≠ b := ne_of q yK.bowl.hb ne
      rw [away_ne nb]
      exact x5.but a o nb (alloc hl a o q)
    have fA := fin (sAK _ _ qA) (by intro z; cases z)
    have sBK : Same HB HK := ((((((((sC).trans sE).trans sF).trans sG).trans sH).trans sI).trans sJ).trans sK)
    have fB := fin (sBK _ _ qB) (by intro z; cases z)
    have sCK : Same HC HK := (((((((sE).trans sF).trans sG).trans sH).trans sI).trans sJ).trans sK)
    have fC := fin (sCK _ _ qC) (by intro z; cases z)
    have fD := fin (sCK _ _ qD) (by intro z; cases z)
    have sEK : Same HE HK := ((((((sF).trans sG).trans sH).trans sI).trans sJ).trans sK)
    have fE := fin (sEK _ _ qE) (by intro z; cases z)
    have sFK : Same HF HK := (((((sG).trans sH).trans sI).trans sJ).trans sK)
    have fF := fin (sFK _ _ qF) (by intro z; cases z)
    have sGK : Same HG HK := ((((sH).trans sI).trans sJ).trans sK)
    have fG := fin (sGK _ _ qG) (by intro z; cases z)
    have sHK : Same HH HK := (((sI).trans sJ).trans sK)
    have fH := fin (sHK _ _ qH) (by intro z; cases z)
    have sIK : Same HI HK := ((sJ).trans sK)
    have fI := fin (sIK _ _ qI) (by intro z; cases z)
    have fJ := fin (sK _ _ qJ) (by intro z; cases z)
    have fK := fin qK (by intro z; cases z)
    have m2 : Mid 2 := by unfold Mid; decide
    have N := ints_nice hn (.inl rfl)
    have cases_ : v = .int n ∨ v = .str (Str.ofString (toString n)) ∨ v = .non ∨ v = .bl true ∨ v = .bl false ∨ v = .ref pa ∨ v = .ref pb ∨ v = .ref pc ∨ v = .str "" ∨ v = .ref pe ∨ v = .ref pf ∨ v = .ref pj ∨ v = .ref pk ∨ v = .str "[1]" := by
      simpa using hv5
    rcases cases_ with rfl | rfl | rfl | rfl | rfl | rfl | rfl | rfl | rfl | rfl | rfl | rfl | rfl | rfl
    · exact .mk' rfl (.int n) (nice_int hn)
    · exact .mk' rfl (.str _) (nice_text hn)
    · exact .mk' rfl .non ⟨rfl, rfl, by decide, by decide⟩
    · exact .mk' rfl (.bl true) ⟨rfl, rfl, by decide, by decide⟩
    · exact .mk' rfl (.bl false) ⟨rfl, rfl, by decide, by decide⟩
    · exact .mk' rfl (.lst a1 (SqL.of fA) (.cons (.int n) .nil)) N.1
    · exact .mk' rfl (.tup (SqT.of fB) (.cons (.int n) (.cons (.int 2) .nil))) (ints_nice hn (.inr rfl)).2
    · exact .mk' rfl (.dic fC (.lst d1 (SqL.of fD) (.cons (.int n) .nil))) (dict_nice hn)
    · exact .mk' rfl (.str _) ⟨by decide +kernel, by decide +kernel, by decide +kernel, by decide +kernel⟩
    · exact .mk' rfl (.lst e1 (SqL.of fE) .nil) ⟨by decide +kernel, by decide +kernel, by decide +kernel, by decide +kernel⟩
    · exact .mk' rfl (.tup (SqT.of fF) .nil) ⟨by decide +kernel, by decide +kernel, by decide +kernel, by decide +kernel⟩
    · exact .mk' rfl (.lst j1 (SqL.of fJ) (.cons (.lst g1 (SqL.of fG) (.cons (.int n) .nil)) (.cons (.tup (SqT.of fI) (.cons (.int 1) (.cons (.lst h1 (SqL.of fH) (.cons (.int 2) .nil)) .nil))) .nil))) (deep_nice hn)
    · exact .mk' rfl (.lst k1 (SqL.of fK) (.cons (.bl true) (.cons (.int 0) .nil))) ⟨by decide +kernel, by decide +kernel, by decide +kernel, by decide +kernel⟩
    · exact .mk' rfl (.str _) ⟨by decide +kernel, by decide +kernel, by decide +kernel, by decide +kernel⟩
end
end K01

set_option Elab.async false
set_option linter.all false
set_option maxRecDepth 100000
set_option maxHeartbeats 4000000
namespace K01
open PySem L2 SG
/-! ### the errors -/
/-- an error class of the text, found behind the top -/
structure Er (K : PySem.W.Frag) (mg : Str → Option Value) (x q : Str) (st : Stmt) where
  C : Addr
  f : Addr
  fd : FuncData
  F : Fun K "__init__" q st f fd
  m : mg x = some (.ref C)
  O : OexC K C
  X : XfC K C
  E : ExcC K C
  iC : PySem.W.findIn K (.ref C) "__init__" = some (some (.ref f))
  tI : PySem.W.typeIn K (.ref f) = some (.type "function")
/-- __init__ of an error with one field -/
def spIn1 (C : Addr) : Sp := fun vs H Q _ => ∃ (a : Addr) (v : V), vs = [.ref a, v] ∧ H a = some (exo a C none) ∧
  ∀ (d : Addr) (H' : Hp), H d = none → H' a = some (exo a C (some d)) → H' d = some (exd d [("part", v)]) → (∀ b o, b ≠ a → H b = some o → H' b = some o) → Q .non H'
/-- .. with two -/
def spIn2 (C : Addr) : Sp := fun vs H Q _ => ∃ (a : Addr) (v u : V), vs = [.ref a, v, u] ∧ H a = some (exo a C none) ∧
  ∀ (d : Addr) (H' : Hp), H d = none → H' a = some (exo a C (some d)) → H' d = some (exd d [("most", u), ("what", v)]) → (∀ b o, b ≠ a → H b = some o → H' b = some o) → Q .non H'
section
variable {P : Program} {w : World} {K : PySem.W.Frag} {mg : Str → Option Value} {base : Heap}
abbrev i_BadNumber : Stmt := inClass (top 3) 0
theorem si_BadNumber : FnScope ["self", "part"] ["self", "part"] (defScope i_BadNumber) := ⟨rfl, rfl, rfl, by decide +kernel, rfl, by decide +kernel, by decide +kernel⟩
theorem ok_BadNumber (R : Er K mg "BadNumber" "BadNumber.__init__" i_BadNumber) (no : PySem.W.findIn K (.ref R.C) "part" = some none) : FnOk P w K mg base CX0 1 R.f R.fd ["self", "part"] (spIn1 R.C) := by
  refine R.F.ok si_BadNumber (fun vs H Q E h => ?_) (fun cdv A outer s H vs Q E hr h => ?_)
  · obtain ⟨a, v, rfl, _⟩ := h
    rfl
  · obtain ⟨a, v, rfl, ha, k⟩ := h
    refine ⟨_, pss_one (ps_ost (pv 0) (pv 1)), ?_⟩
    refine ⟨_, rfl, _, rfl, a, R.C, rfl, R.O, no, .inl ⟨ha, fun d hd ne => ?_⟩⟩
    exact k d _ hd upd_same (by rw [upd_ne ne]; exact upd_same) fun b o hb q => by rw [upd_ne hb, upd_ne (ne_of_none q hd)]; exact q

abbrev i_Misfit : Stmt := inClass (top 4) 0
theorem si_Misfit : FnScope ["self", "part"] ["self", "part"] (defScope i_Misfit) := ⟨rfl, rfl, rfl, by decide +kernel, rfl, by decide +kernel, by decide +kernel⟩
theorem ok_Misfit (R : Er K mg "Misfit" "Misfit.__init__" i_Misfit) (no : PySem.W.findIn K (.ref R.C) "part" = some none) : FnOk P w K mg base CX0 1 R.f R.fd ["self", "part"] (spIn1 R.C) := by
  refine R.F.ok si_Misfit (fun vs H Q E h => ?_) (fun cdv A outer s H vs Q E hr h => ?_)
  · obtain ⟨a, v, rfl, _⟩ := h
    rfl
  · obtain ⟨a, v, rfl, ha, k⟩ := h
    refine ⟨_, pss_one (ps_ost (pv 0) (pv 1)), ?_⟩
    refine ⟨_, rfl, _, rfl, a, R.C, rfl, R.O, no, .inl ⟨ha, fun d hd ne => ?_⟩⟩
    exact k d _ hd upd_same (by rw [upd_ne ne]; exact upd_same) fun b o hb q => by rw [upd_ne hb, upd_ne (ne_of_none q hd)]; exact q

theorem bi_BadNumber (R : Er K mg "BadNumber" "BadNumber.__init__" i_BadNumber) : Binds K R.fd ["self", "part"] [] := R.F.binds fun _ _ _ _ _ _ us l => match us, l with | [_, _], _ => rfl
theorem bi_Misfit (R : Er K mg "Misfit" "Misfit.__init__" i_Misfit) : Binds K R.fd ["self", "part"] [] := R.F.binds fun _ _ _ _ _ _ us l => match us, l with | [_, _], _ => rfl
theorem flown {H H2 : Hp} {C a d : Addr} {fs : List (Str × V)} {Q : XK} (ha : H a = none) (hd : upd H a (exo a C none) d = none) (q1 : H2 a = some (exo a C (some d))) (q2 : H2 d = some (exd d fs))
    (s : ∀ b o, b ≠ a → upd H a (exo a C none) b = some o → H2 b = some o) (k : ∀ H', Same H H' → H' d = some (.xd fs) → Q (.ref C) (some d) H') :
    V.non = V.non ∧ ∃ (d : Addr) (fs : List (Str × V)), H2 a = some (exo a C (some d)) ∧ H2 d = some (exd d fs) ∧ H d = none ∧ Q (.ref C) (some d) (upd (del H2 a) d (.xd fs)) := by
  have da : d ≠ a := fun e => by rw [e, upd_same] at hd; cases hd
  have d0 : H d = none := by rw [upd_ne da] at hd; exact hd
  refine ⟨rfl, d, fs, q1, q2, d0, k _ (fun b o q => ?_) upd_same⟩
  have ba := ne_of_none q ha
  rw [upd_ne (ne_of_none q d0), del_ne ba]
  exact s b o ba (alloc ha b o q)
end
structure Ty (K : PySem.W.Frag) (mg : Str → Option Value) extends Tx K mg where
  e_BadNumber : Er K mg "BadNumber" "BadNumber.__init__" i_BadNumber
  e_Misfit : Er K mg "Misfit" "Misfit.__init__" i_Misfit
  no_BadNumber : PySem.W.findIn K (.ref e_BadNumber.C) "part" = some none
  no_Misfit : PySem.W.findIn K (.ref e_Misfit.C) "part" = some none
  CS : Addr
  mS : mg "ScrewError" = some (.ref CS)
  xbb : PySem.W.exmOne K (.ref e_BadNumber.C) (.ref e_BadNumber.C) = some true
  xmb : PySem.W.exmOne K (.ref e_Misfit.C) (.ref e_BadNumber.C) = some false
  xmm : PySem.W.exmOne K (.ref e_Misfit.C) (.ref e_Misfit.C) = some true
  mgcd : mg "gcd" = some (.builtin "math.gcd")
  aP : Addr
  mP : mg "PRIMES" = some (.ref aP)
  sP : ∀ H, SqT K H aP [.int 2, .int 3, .int 5, .int 7, .int 11, .int 13]
/-! ### what the words of checks answer -/
def areI (d : PyData) : Bool := match parts d with | some ds => ds.all isI | none => false
def rowI (d : PyData) (w : Int) : Bool := areI d && match parts d with | some ds => decide ((ds.length : Int) = w) | none => false
def rowsI (d : PyData) (m w : Int) : Bool := match parts d with | some ds => decide ((ds.length : Int) = m) && ds.all (rowI · w) | none => false
theorem areI_no {d : PyData} (e : parts d = none) : areI d = false := by rw [areI, e]
theorem areI_of {d : PyData} {ds : List PyData} (e : parts d = some ds) : areI d = (ds.map isI).all id := by rw [areI, e, List.all_map]; rfl
theorem rowsI_no {d : PyData} {m w : Int} (e : parts d = none) : rowsI d m w = false := by rw [rowsI, e]
theorem rowsI_of {d : PyData} {ds : List PyData} {m w : Int} (e : parts d = some ds) : rowsI d m w = (decide ((ds.length : Int) = m) && (ds.map (rowI · w)).all id) := by rw [rowsI, e, List.all_map]; rfl
def byI : PyData → Bool | .int i => inV (.int i) [.int 2, .int 3, .int 5, .int 7, .int 11, .int 13] | _ => false
def optV : Option Int → V | none => .non | some i => .int i
def lowB (l : Option Int) (i : Int) : Bool := match l with | none => true | some a => decide (a ≤ i)
def highB (m : Option Int) (i : Int) : Bool := match m with | none => true | some b => decide (i ≤ b)
def within (d : PyData) (l m : Option Int) : Bool := match d with | .int i => lowB l i && highB m i | _ => false
theorem eqInt (a b : Int) : decide (V.int a = V.int b) = decide (a = b) := by
  by_cases h : a = b
  · rw [h, decide_eq_true rfl, decide_eq_true rfl]
  · rw [decide_eq_false h, decide_eq_false]
    intro z
    injection z with z
    exact h z
def spD (f : PyData → V) (K : PySem.W.Frag) : Sp := fun vs H Q _ => ∃ v d, vs = [v] ∧ Dw K H v d ∧ ∀ H', Same H H' → Q (f d) H'
def spIsInt (K : PySem.W.Frag) : Sp := fun vs H Q _ => ∃ v d, vs = [v] ∧ Dw K H v d ∧ Q (.bl (isI d)) H
def spIsBy (K : PySem.W.Frag) : Sp := fun vs H Q _ => ∃ v d, vs = [v] ∧ Dw K H v d ∧ Q (.bl (byI d)) H
def spWithin (K : PySem.W.Frag) : Sp := fun vs H Q _ => ∃ v d l m, vs = [v, optV l, optV m] ∧ Dw K H v d ∧ Q (.bl (within d l m)) H
def spAre (K : PySem.W.Frag) : Sp := spD (fun d => .bl (areI d)) K
def spRow (K : PySem.W.Frag) : Sp := fun vs H Q _ => ∃ v d w, vs = [v, .int w] ∧ Dw K H v d ∧ ∀ H', Same H H' → Q (.bl (rowI d w)) H'
def spRows (K : PySem.W.Frag) : Sp := fun vs H Q _ => ∃ v d m w, vs = [v, .int m, .int w] ∧ Dw K H v d ∧ ∀ H', Same H H' → Q (.bl (rowsI d m w)) H'
section
variable {P : Program} {w : World} {K : PySem.W.Frag} {mg : Str → Option Value} {base : Heap}
theorem ok_is_integer (T : Tx K mg) {f : Addr} {fd : FuncData} (F : Fun K "is_integer" "is_integer" s_is_integer f fd) : FnOk P w K mg base CX0 1 f fd ["value"] (spIsInt K) := by
  refine F.ok sc_is_integer (fun vs H Q E h => ?_) (fun cdv A outer s H vs Q E hr h => ?_)
  · obtain ⟨v, d, rfl, _⟩ := h
    rfl
  · obtain ⟨v, d, rfl, D, k⟩ := h
    refine ⟨_, (pss_one (ps_ret (pe_and (pe_callB call_isi (by rfl) T.nm.n_isinstance (by decide +kernel) (pa_cons (pv 0) (pa_cons (pe_bltn (v := .ty "int") (by rfl) T.nm.n_int (by decide +kernel) rfl) pa_nil))) (pe_one (pe_not (pe_callB call_isi (by rfl) T.nm.n_isinstance (by decide +kernel) (pa_cons (pv 0) (pa_cons (pe_bltn (v := .ty "bool") (by rfl) T.nm.n_bool (by decide +kernel) rfl) pa_nil)))))))), ?_⟩
    refine ⟨_, rfl, _, _, _, _, _, rfl, .ty _, D.ty, kit_int d, _, rfl, ?_⟩
    refine ite2 (fun c => ?_) (fun c => ?_)
    · refine ⟨_, rfl, _, _, _, _, _, rfl, .ty _, D.ty, kit_bool d, _, rfl, ?_⟩
      rw [show (!isBb d) = isI d from by cases d <;> first | rfl | cases c]
      exact k
    · rw [show false = isI d from by cases d <;> first | rfl | exact absurd rfl c]
      exact k
theorem ok_is_within (T : Tx K mg) {f : Addr} {fd : FuncData} (F : Fun K "is_within" "is_within" s_is_within f fd) : FnOk P w K mg base CX0 2 f fd ["value", "least", "most"] (spWithin K) := by
  refine F.ok sc_is_within (fun vs H Q E h => ?_) (fun cdv A outer s H vs Q E hr h => ?_)
  · obtain ⟨v, d, l, m, rfl, _⟩ := h
    rfl
  · obtain ⟨v, d, l, m, rfl, D, k⟩ := h
    refine ⟨_, (pss_cons (ps_if (pt_not (pt_val (pe_call (ok_is_integer T T.d_is_integer.F) (hr.mono (by decide)) rfl T.d_is_integer.m T.d_is_integer.k T.d_is_integer.b .nil pass0 (pa_cons (pv 0) pa_nil))))
  (pss_one (ps_ret pe_bl))
  pss_nil)
  (pss_one (ps_ret (pe_and (pe_or (pe_cmpR op_isN (pv 1) pe_non (nomark _)) (pe_one (pe_cmpR op_le (pv 1) (pv 0) (nomark _)))) (pe_one (pe_or (pe_cmpR op_isN (pv 2) pe_non (nomark _)) (pe_one (pe_cmpR op_le (pv 0) (pv 2) (nomark _))))))))), ?_⟩
    refine ⟨_, rfl, v, d, rfl, D, _, rfl, ?_⟩
    refine ite2 (fun c => ?_) (fun c => ?_)
    · rw [show false = within d l m from by cases d <;> first | rfl | cases c]
      exact k
    · obtain ⟨i, rfl⟩ : ∃ i, d = .int i := by
        cases d with
        | int i => exact ⟨i, rfl⟩
        | _ => exact absurd rfl c
      cases D
      have second : ∀ z, z = lowB l i → Q (.bl (z && highB m i)) H := fun z e => by rw [e]; exact k
      refine ⟨_, rfl, rfl, ?_⟩
      cases l with
      | none =>
        refine ⟨_, rfl, _, rfl, _, rfl, rfl, ?_⟩
        cases m with
        | none => exact ⟨_, rfl, second _ rfl⟩
        | some b => exact ⟨_, rfl, _, rfl, _, rfl, _, _, rfl, rfl, second _ rfl⟩
      | some a =>
        refine ⟨_, rfl, _, rfl, _, rfl, _, _, rfl, rfl, _, rfl, ?_⟩
        refine ite2 (fun ca => ?_) (fun ca => ?_)
        · refine ⟨_, rfl, rfl, ?_⟩
          cases m with
          | none => exact ⟨_, rfl, second _ ca.symm⟩
          | some b => exact ⟨_, rfl, _, rfl, _, rfl, _, _, rfl, rfl, second _ ca.symm⟩
        · exact second false (by cases z : decide (a ≤ i) with | false => exact z.symm | true => exact absurd z ca)
theorem ok_are_integers (T : Tx K mg) {f : Addr} {fd : FuncData} (F : Fun K "are_integers" "are_integers" s_are_integers f fd) : FnOk P w K mg base CX0 2 f fd ["value"] (spAre K) := by
  refine F.ok sc_are_integers (fun vs H Q E h => ?_) (fun cdv A outer s H vs Q E hr h => ?_)
  · obtain ⟨v, d, rfl, _⟩ := h
    rfl
  · obtain ⟨v, d, rfl, D, k⟩ := h
    refine ⟨_, (pss_one (ps_ret (pe_and (pe_callB call_isiT (by rfl) T.nm.n_isinstance (by decide +kernel) (pa_cons (pv 0) (pa_cons (pe_tup (pa_cons (pe_bltn (v := .ty "list") (by rfl) T.nm.n_list (by decide +kernel) rfl) (pa_cons (pe_bltn (v := .ty "tuple") (by rfl) T.nm.n_tuple (by decide +kernel) rfl) pa_nil))) pa_nil))) (pe_one (pe_callB (cr_all rfl) (by rfl) T.nm.n_all (by decide +kernel) (pa_cons (pe_lc (own := [("part", 1)]) (g := (gName 1)) (tt := tYes) rfl sc_are_integers.nd (pi_seq (pv 0)) (blkOk_by (N := ["value", "part"]) (sc := defScope s_are_integers) (by decide +kernel)) (fun _ _ _ _ _ => pg_name (i := 1) sc_are_integers.nd rfl (Or.inl rfl)) (fun _ _ _ _ _ => pts_nil) (fun _ _ _ _ _ => (pe_call (ok_is_integer T T.d_is_integer.F) (hr.mono (by decide)) rfl T.d_is_integer.m T.d_is_integer.k T.d_is_integer.b .nil pass0 (pa_cons (pv 1) pa_nil)))) pa_nil)))))), ?_⟩
    refine ⟨_, rfl, (by show 2 ≤ sizeLine; decide), fun pT nT => ?_⟩
    have zT := newO nT (o := .tup [.ty "list", .ty "tuple"])
    refine ⟨v, pT, _, _, _, _, rfl, upd_same, .cons (.ty _) (.cons (.ty _) .nil), (Dw.same zT _ _ D).ty, kit_seq d, _, rfl, ?_⟩
    cases e : parts d with
    | none =>
      have k' : Q (.bl (areI d)) _ := k _ zT
      rw [areI_no e] at k'
      exact k'
    | some ds =>
      rw [if_pos (show (some ds).isSome = true from rfl)]
      dsimp only [tCB, tCons]
      refine lc_data (fun d => .bl (isI d)) e (Dw.same zT _ _ D) (fun R r => ⟨_, rfl, r⟩) (fun _ => rfl) (fun x e1 H' R s1 D1 _ r => ⟨_, rfl, x, e1, rfl, D1, r H' (Same.refl H')⟩) fun L H' s1 nL q => ?_
      refine ⟨L, ds.map isI, rfl, SqL.of (by rw [List.map_map]; exact q), ?_⟩
      have k' : Q (.bl (areI d)) _ := k _ (zT.trans s1)
      rw [areI_of e] at k'
      exact k'
theorem ok_is_row (T : Tx K mg) {f : Addr} {fd : FuncData} (F : Fun K "is_row" "is_row" s_is_row f fd) : FnOk P w K mg base CX0 3 f fd ["value", "wide"] (spRow K) := by
  refine F.ok sc_is_row (fun vs H Q E h => ?_) (fun cdv A outer s H vs Q E hr h => ?_)
  · obtain ⟨v, d, w, rfl, _⟩ := h
    rfl
  · obtain ⟨v, d, w, rfl, D, k⟩ := h
    refine ⟨_, (pss_one (ps_ret (pe_and (pe_call (ok_are_integers T T.d_are_integers.F) (hr.mono (by decide)) rfl T.d_are_integers.m T.d_are_integers.k T.d_are_integers.b .nil pass0 (pa_cons (pv 0) pa_nil)) (pe_one (pe_cmpR op_eq (pe_callB call_len_seq (by rfl) T.nm.n_len (by decide +kernel) (pa_cons (pv 0) pa_nil)) (pv 1) (nomark _)))))), ?_⟩
    refine ⟨_, rfl, v, d, rfl, D, fun H1 s1 => ⟨_, rfl, ?_⟩⟩
    refine ite2 (fun c => ?_) (fun c => ?_)
    · obtain ⟨ds, e⟩ : ∃ ds, parts d = some ds := by
        cases e : parts d with
        | none => rw [areI, e] at c; cases c
        | some ds => exact ⟨ds, rfl⟩
      obtain ⟨a, xs, rfl, hs, hl, ha⟩ := (Dw.same s1 _ _ D).seq e
      refine ⟨_, rfl, a, xs, rfl, hs, _, rfl, rfl, ?_⟩
      have k' := k _ s1
      rw [rowI, c, e] at k'
      rw [eqInt, ha.length]
      exact k'
    · have k' := k _ s1
      rw [rowI, show areI d = false by cases z : areI d with | false => rfl | true => exact absurd z c] at k'
      exact k'
theorem ok_are_rows (T : Tx K mg) {f : Addr} {fd : FuncData} (F : Fun K "are_rows" "are_rows" s_are_rows f fd) : FnOk P w K mg base CX0 4 f fd ["value", "many", "wide"] (spRows K) := by
  refine F.ok sc_are_rows (fun vs H Q E h => ?_) (fun cdv A outer s H vs Q E hr h => ?_)
  · obtain ⟨v, d, m, w, rfl, _⟩ := h
    rfl
  · obtain ⟨v, d, m, w, rfl, D, k⟩ := h
    refine ⟨_, (pss_cons (ps_if (PW.pt (pw_or (pt_not (pt_val (pe_callB call_isiT (by rfl) T.nm.n_isinstance (by decide +kernel) (pa_cons (pv 0) (pa_cons (pe_tup (pa_cons (pe_bltn (v := .ty "list") (by rfl) T.nm.n_list (by decide +kernel) rfl) (pa_cons (pe_bltn (v := .ty "tuple") (by rfl) T.nm.n_tuple (by decide +kernel) rfl) pa_nil))) pa_nil))))) (pw_or1 (pt_cmpR op_ne (pe_callB call_len_seq (by rfl) T.nm.n_len (by decide +kernel) (pa_cons (pv 0) pa_nil)) (pv 1) (nomark _)))))
  (pss_one (ps_ret pe_bl))
  pss_nil)
  (pss_one (ps_ret (pe_callB (cr_all rfl) (by rfl) T.nm.n_all (by decide +kernel) (pa_cons (pe_lc (own := [("row", 3)]) (g := (gName 3)) (tt := tYes) rfl sc_are_rows.nd (pi_seq (pv 0)) (blkOk_by (N := ["value", "many", "wide", "row"]) (sc := defScope s_are_rows) (by decide +kernel)) (fun _ _ _ _ _ => pg_name (i := 3) sc_are_rows.nd rfl (Or.inl rfl)) (fun _ _ _ _ _ => pts_nil) (fun _ _ _ _ _ => (pe_call (ok_is_row T T.d_is_row.F) (hr.mono (by decide)) rfl T.d_is_row.m T.d_is_row.k T.d_is_row.b .nil pass0 (pa_cons (pv 3) (pa_cons (pv 2) pa_nil))))) pa_nil))))), ?_⟩
    refine ⟨_, rfl, (by show 2 ≤ sizeLine; decide), fun pT nT => ?_⟩
    have zT := newO nT (o := .tup [.ty "list", .ty "tuple"])
    refine ⟨v, pT, _, _, _, _, rfl, upd_same, .cons (.ty _) (.cons (.ty _) .nil), (Dw.same zT _ _ D).ty, kit_seq d, _, rfl, ?_⟩
    cases e : parts d with
    | none =>
      have k' := k _ zT
      rw [rowsI_no e] at k'
      exact k'
    | some ds =>
      obtain ⟨a, xs, rfl, hs, hl, ha⟩ := (Dw.same zT _ _ D).seq e
      refine ⟨_, rfl, a, xs, rfl, hs, _, rfl, rfl, _, rfl, ?_⟩
      rw [eqInt, ha.length]
      refine ite2 (fun c => ?_) (fun c => ?_)
      · have k' := k _ zT
        rw [rowsI_of e] at k'
        rw [show decide ((ds.length : Int) = m) = false by cases z : decide ((ds.length : Int) = m) with | false => rfl | true => rw [z] at c; cases c] at k'
        exact k'
      · have c' : decide ((ds.length : Int) = m) = true := by cases z : decide ((ds.length : Int) = m) with | true => rfl | false => rw [z] at c; exact absurd rfl c
        dsimp only [tRet, tNext, tCB, tCons]
        refine lc_data (fun d => .bl (rowI d w)) e (Dw.same zT _ _ D) (fun R r => ⟨_, rfl, r⟩) (fun _ => rfl) (fun x e1 H' R s1 D1 _ r => ⟨_, rfl, _, rfl, x, e1, w, rfl, D1, r⟩) fun L H' s1 nL q => ?_
        refine ⟨L, ds.map (rowI · w), rfl, SqL.of (by rw [List.map_map]; exact q), ?_⟩
        have k' := k _ (zT.trans s1)
        rw [rowsI_of e, c'] at k'
        exact k'
theorem ok_is_by (T : Ty K mg) {f : Addr} {fd : FuncData} (F : Fun K "is_by" "is_by" s_is_by f fd) : FnOk P w K mg base CX0 2 f fd ["value"] (spIsBy K) := by
  refine F.ok sc_is_by (fun vs H Q E h => ?_) (fun cdv A outer s H vs Q E hr h => ?_)
  · obtain ⟨v, d, rfl, _⟩ := h
    rfl
  · obtain ⟨v, d, rfl, D, k⟩ := h
    refine ⟨_, (pss_one (ps_ret (pe_and (pe_call (ok_is_integer T.toTx T.d_is_integer.F) (hr.mono (by decide)) rfl T.d_is_integer.m T.d_is_integer.k T.d_is_integer.b .nil pass0 (pa_cons (pv 0) pa_nil)) (pe_one (pe_cmpR op_in_seq (pv 0) (pe_glob (v := .ref T.aP) rfl T.mP rfl) (by rfl)))))), ?_⟩
    refine ⟨_, rfl, v, d, rfl, D, _, rfl, ?_⟩
    refine ite2 (fun c => ?_) (fun c => ?_)
    · obtain ⟨i, rfl⟩ : ∃ i, d = .int i := by
        cases d with
        | int i => exact ⟨i, rfl⟩
        | _ => cases c
      cases D
      exact ⟨_, rfl, _, _, rfl, .inr (T.sP H), rfl, by decide, k⟩
    · rw [show false = byI d from by cases d <;> first | rfl | exact absurd rfl c]
      exact k
end
end K01

set_option Elab.async false
set_option linter.all false
set_option maxRecDepth 100000
set_option maxHeartbeats 4000000
namespace K01
open PySem L2 SG
def numD : PyData → Int | .int i => i | _ => 0
def gcdL (ds : List PyData) : Int := ds.foldl (fun a e => ((Nat.gcd a.natAbs (numD e).natAbs : Nat) : Int)) 0
def gcdD (d : PyData) : Int := match parts d with | some ds => gcdL ds | none => 0
/-- the numbers from 1 that make 1 of n by p, among the first j -/
def invJ (n p : Int) (j : Nat) : List Int := ((List.range j).map fun k => (1 : Int) + ((k : Nat) : Int)).filter fun w => decide (n * w % p = 1)
def invL (n p : Int) : List Int := invJ n p (p - 1).toNat
theorem invJ_succ (n p : Int) (j : Nat) : invJ n p (j + 1) = invJ n p j ++ (if decide (n * (1 + (j : Int)) % p = 1) = true then [1 + (j : Int)] else []) := by
  unfold invJ
  rw [List.range_succ, List.map_append, List.filter_append]
  congr 1
  by_cases h : n * (1 + (j : Int)) % p = 1 <;> simp [h]
theorem invJ_len (n p : Int) (j : Nat) : (invJ n p j).length ≤ j := by
  unfold invJ
  refine Nat.le_trans (List.length_filter_le _ _) ?_
  rw [List.length_map, List.length_range]
  exact Nat.le_refl _
theorem byI_cases {p : Int} (h : byI (.int p) = true) : p = 2 ∨ p = 3 ∨ p = 5 ∨ p = 7 ∨ p = 11 ∨ p = 13 := by
  have h' : inV (.int p) [.int 2, .int 3, .int 5, .int 7, .int 11, .int 13] = true := h
  simp [inV, eqV] at h'
  omega
theorem invJ_mod (n p : Int) (j : Nat) : invJ n p j = invJ (n % p) p j := by
  unfold invJ
  congr 1
  funext w
  rw [Int.mul_emod n w p, Int.mul_emod (n % p) w p, Int.emod_emod]
theorem inv_one {n p : Int} (hp : byI (.int p) = true) (hn : ¬ n % p = 0) : (invL n p).length = 1 := by
  unfold invL
  rw [invJ_mod]
  have key : ∀ q : Nat, (q = 2 ∨ q = 3 ∨ q = 5 ∨ q = 7 ∨ q = 11 ∨ q = 13) → ∀ r, r < q → r ≠ 0 → (invJ (r : Int) (q : Int) ((q : Int) - 1).toNat).length = 1 := by
    rintro q (rfl | rfl | rfl | rfl | rfl | rfl) <;> decide +kernel
  have h1 := byI_cases hp
  have p0 : 0 < p := by omega
  have r0 := Int.emod_nonneg n (by omega : p ≠ 0)
  have r1 := Int.emod_lt_of_pos n p0
  obtain ⟨q, rfl⟩ := Int.eq_ofNat_of_zero_le (Int.le_of_lt p0)
  obtain ⟨r, hr⟩ := Int.eq_ofNat_of_zero_le r0
  rw [hr]
  rw [hr] at hn r1
  exact key q (by omega) r (by omega) (by omega)
/-- what a raising way gives -/
def Thrown (E : XK) (C : Addr) (x : Str) (H : Hp) : Prop := ∀ (dd : Addr) (H' : Hp), Same H H' → H' dd = some (.xd [("part", .str x)]) → E (.ref C) (some dd) H'
def spDiv {K : PySem.W.Frag} {mg : Str → Option Value} (T : Ty K mg) : Sp := fun vs H Q E => ∃ v d, vs = [v] ∧ Dw K H v d ∧ (areI d = true → ∀ H', Same H H' → Q (.int (gcdD d)) H') ∧ (areI d = false → Thrown E T.e_BadNumber.C "values" H)
def spOver {K : PySem.W.Frag} {mg : Str → Option Value} (T : Ty K mg) : Sp := fun vs H Q E => ∃ x d y e, vs = [x, y] ∧ Dw K H x d ∧ Dw K H y e ∧ (isI d = false → Thrown E T.e_BadNumber.C "number" H) ∧ (isI d = true → byI e = false → Thrown E T.e_BadNumber.C "by" H) ∧
  (∀ n p, d = .int n → e = .int p → byI e = true → (n % p = 0 → Thrown E T.e_Misfit.C "number" H) ∧ (¬ n % p = 0 → ∀ H' i, Same H H' → (invL n p)[0]? = some i → Q (.int i) H'))
theorem Thrown.same {E : XK} {C : Addr} {x : Str} {H H' : Hp} (s : Same H H') (h : Thrown E C x H) : Thrown E C x H' := fun dd H'' s' q => h dd H'' (s.trans s') q
section
variable {P : Program} {w : World} {K : PySem.W.Frag} {mg : Str → Option Value} {base : Heap}
theorem ok_common_divisor (T : Ty K mg) {f : Addr} {fd : FuncData} (F : Fun K "common_divisor" "common_divisor" s_common_divisor f fd) : FnOk P w K mg base (L2.CX P w) 3 f fd ["values"] (spDiv T) := by
  refine F.okX sc_common_divisor (fun vs H Q E h => ?_) (fun cdv A outer s H vs Q E hr h => ?_)
  · obtain ⟨x, d, rfl, _⟩ := h
    rfl
  · obtain ⟨x, d, rfl, D, k1, k2⟩ := h
    refine ⟨_, (pss_cons (ps_if (pt_not (pt_val (pe_call (ok_are_integers T.toTx T.d_are_integers.F) (hr.mono (by decide)) rfl T.d_are_integers.m T.d_are_integers.k T.d_are_integers.b .nil pass0 (pa_cons (pv 0) pa_nil))))
  (pss_one (ps_raise rfl (takes_of rfl rfl rfl rfl) (pmk_oex T.e_BadNumber.O T.e_BadNumber.iC T.e_BadNumber.tI (ok_BadNumber T.e_BadNumber T.no_BadNumber) (hr.mono (by decide)) (bi_BadNumber T.e_BadNumber) .nil pass0 rfl T.e_BadNumber.m (pa_cons pe_str pa_nil))))
  pss_nil)
  (pss_cons (ps_set (i := 1) sc_common_divisor.nd rfl (Or.inl rfl) pe_int)
  (pss_cons (ps_for PassesOwn.leaving rfl (pi_seq (pv 0)) (pg_name (i := 2) sc_common_divisor.nd rfl (Or.inl rfl))
  (pss_one (ps_set (i := 1) sc_common_divisor.nd rfl (Or.inl rfl) (pe_callBfun cr_gcd rfl T.mgcd (pa_cons (pv 1) (pa_cons (pv 2) pa_nil))))))
  (pss_one (ps_ret (pv 1)))))), ?_⟩
    refine ⟨_, rfl, x, d, rfl, D, fun H1 s1 => ⟨_, rfl, ?_⟩⟩
    refine ite2 (fun c => ?_) (fun c => ?_)
    · have c' : areI d = false := by cases z : areI d with | false => rfl | true => rw [z] at c; cases c
      refine ⟨(by show 1 ≤ 1000; decide), fun a ha => ⟨a, _, rfl, upd_same, fun d H2 hd q1 q2 s => ?_⟩⟩
      exact flown ha hd q1 q2 s fun H' s2 e2 => (k2 c') d H' (s1.trans s2) e2
    · have c' : areI d = true := by cases z : areI d with | true => rfl | false => rw [z] at c; exact absurd rfl c
      obtain ⟨ds, e⟩ : ∃ ds, parts d = some ds := by
        cases e : parts d with
        | none => rw [areI_no e] at c'; cases c'
        | some ds => exact ⟨ds, rfl⟩
      have k3 := k1 c'
      rw [areI, e] at c'
      have hInt : ∀ e1 ∈ ds, ∃ i, e1 = .int i := fun e1 m => by
        have z := List.all_eq_true.mp c' e1 m
        cases e1 with
        | int i => exact ⟨i, rfl⟩
        | _ => cases z
      dsimp only [tNext]
      refine cut (fun σ' H' => σ' = [some x, some (.int 0), none] ∧ H' = H1) ?_ (fun nx hnx => hnx _ _ ⟨rfl, rfl⟩)
      rintro σ' H' ⟨rfl, rfl⟩
      refine cut (fun σ' H' => ∃ y, σ' = [some x, some (.int (gcdL ds)), y] ∧ Same H H') ?_ ?_
      · rintro σ' H' ⟨y, rfl, s2⟩
        refine ⟨_, rfl, ?_⟩
        have z := k3 H' s2
        rw [gcdD, e] at z
        exact z
      · intro nx hnx
        refine for_data (K := K) e (Dw.same s1 _ _ D) (fun j σ'' H'' => ∃ y, σ'' = [some x, some (.int (gcdL (ds.take j))), y] ∧ Same H' H'') (fun R r => ⟨_, rfl, r⟩) ⟨_, rfl, Same.refl _⟩ (fun j σ' H' ⟨_, _, z⟩ => z) ?_ ?_
        · rintro j y e1 σ' H' he De ⟨y0, rfl, s2⟩
          obtain ⟨i, rfl⟩ := hInt e1 (List.mem_of_getElem? he)
          cases De
          refine ⟨_, rfl, _, rfl, _, _, rfl, some (.int i), ?_, s2⟩
          have z : gcdL (ds.take (j + 1)) = ((Nat.gcd (gcdL (ds.take j)).natAbs i.natAbs : Nat) : Int) := by
            rw [List.take_add_one, he]
            simp [gcdL, numD]
          rw [z]
          rfl
        · rintro σ' H' ⟨y, rfl, s2⟩
          rw [List.take_length]
          exact hnx _ _ ⟨y, rfl, s1.trans s2⟩
theorem ok_over (T : Ty K mg) {f : Addr} {fd : FuncData} (F : Fun K "over" "over" s_over f fd) : FnOk P w K mg base (L2.CX P w) 3 f fd ["number", "by"] (spOver T) := by
  refine F.okX sc_over (fun vs H Q E h => ?_) (fun cdv A outer s H vs Q E hr h => ?_)
  · obtain ⟨x, d, y, e, rfl, _⟩ := h
    rfl
  · obtain ⟨x, d, y, e, rfl, D1, D2, k1, k2, k3⟩ := h
    refine ⟨_, (pss_cons (ps_if (pt_not (pt_val (pe_call (ok_is_integer T.toTx T.d_is_integer.F) (hr.mono (by decide)) rfl T.d_is_integer.m T.d_is_integer.k T.d_is_integer.b .nil pass0 (pa_cons (pv 0) pa_nil))))
  (pss_one (ps_raise rfl (takes_of rfl rfl rfl rfl) (pmk_oex T.e_BadNumber.O T.e_BadNumber.iC T.e_BadNumber.tI (ok_BadNumber T.e_BadNumber T.no_BadNumber) (hr.mono (by decide)) (bi_BadNumber T.e_BadNumber) .nil pass0 rfl T.e_BadNumber.m (pa_cons pe_str pa_nil))))
  pss_nil)
  (pss_cons (ps_if (pt_not (pt_val (pe_call (ok_is_by T T.d_is_by.F) (hr.mono (by decide)) rfl T.d_is_by.m T.d_is_by.k T.d_is_by.b .nil pass0 (pa_cons (pv 1) pa_nil))))
  (pss_one (ps_raise rfl (takes_of rfl rfl rfl rfl) (pmk_oex T.e_BadNumber.O T.e_BadNumber.iC T.e_BadNumber.tI (ok_BadNumber T.e_BadNumber T.no_BadNumber) (hr.mono (by decide)) (bi_BadNumber T.e_BadNumber) .nil pass0 rfl T.e_BadNumber.m (pa_cons pe_str pa_nil))))
  pss_nil)
  (pss_cons (ps_if (pt_cmpR op_eq (pe_op op_mod (pv 0) (pv 1)) pe_int (nomark _))
  (pss_one (ps_raise rfl (takes_of rfl rfl rfl rfl) (pmk_oex T.e_Misfit.O T.e_Misfit.iC T.e_Misfit.tI (ok_Misfit T.e_Misfit T.no_Misfit) (hr.mono (by decide)) (bi_Misfit T.e_Misfit) .nil pass0 rfl T.e_Misfit.m (pa_cons pe_str pa_nil))))
  pss_nil)
  (pss_one (ps_ret (pe_ix ix_list (pe_lc (own := [("worth", 2)]) (g := (gName 2)) rfl sc_over.nd (pi_range2 (by rfl) T.nm.n_range (pa_cons pe_int (pa_cons (pv 1) pa_nil))) (blkOk_by (N := ["number", "by", "worth"]) (sc := defScope s_over) (by decide +kernel)) (fun _ _ _ _ _ => pg_name (i := 2) sc_over.nd rfl (Or.inl rfl)) (fun _ _ _ _ _ => pts_one (pt_cmpR op_eq (pe_op op_mod (pe_op op_mul (pv 0) (pv 2)) (pv 1)) pe_int (nomark _))) (fun _ _ _ _ _ => (pv 2))) pe_int (fun _ _ => rfl))))))), ?_⟩
    refine ⟨_, rfl, x, d, rfl, D1, _, rfl, ?_⟩
    refine ite2 (fun c => ?_) (fun c => ?_)
    · have c' : isI d = false := by cases z : isI d with | false => rfl | true => rw [z] at c; cases c
      refine ⟨(by show 1 ≤ 1000; decide), fun a ha => ⟨a, _, rfl, upd_same, fun d H2 hd q1 q2 s => ?_⟩⟩
      exact flown ha hd q1 q2 s fun H' s2 e2 => (k1 c') d H' s2 e2
    have c' : isI d = true := by cases z : isI d with | true => rfl | false => rw [z] at c; exact absurd rfl c
    obtain ⟨n, rfl⟩ : ∃ n, d = .int n := by
      cases d with
      | int i => exact ⟨i, rfl⟩
      | _ => cases c'
    refine ⟨_, rfl, y, e, rfl, D2, _, rfl, ?_⟩
    refine ite2 (fun cb => ?_) (fun cb => ?_)
    · have cb' : byI e = false := by cases z : byI e with | false => rfl | true => rw [z] at cb; cases cb
      refine ⟨(by show 1 ≤ 1000; decide), fun a ha => ⟨a, _, rfl, upd_same, fun d H2 hd q1 q2 s => ?_⟩⟩
      exact flown ha hd q1 q2 s fun H' s2 e2 => (k2 c' cb') d H' s2 e2
    have cb' : byI e = true := by cases z : byI e with | true => rfl | false => rw [z] at cb; exact absurd rfl cb
    obtain ⟨p, rfl⟩ : ∃ p, e = .int p := by
      cases e with
      | int i => exact ⟨i, rfl⟩
      | _ => cases cb'
    cases D1
    cases D2
    obtain ⟨k4, k5⟩ := k3 n p rfl rfl cb'
    have hp := byI_cases cb'
    have p0 : 0 < p := by omega
    refine ⟨_, rfl, _, rfl, _, _, rfl, rfl, p0, rfl, _, rfl, ?_⟩
    rw [eqInt]
    refine ite2 (fun cz => ?_) (fun cz => ?_)
    · refine ⟨(by show 1 ≤ 1000; decide), fun a ha => ⟨a, _, rfl, upd_same, fun d H2 hd q1 q2 s => ?_⟩⟩
      exact flown ha hd q1 q2 s fun H' s2 e2 => (k4 (of_decide_eq_true cz)) d H' s2 e2
    · have nz : ¬ n % p = 0 := fun z => cz (decide_eq_true z)
      have one := inv_one cb' nz
      refine ⟨_, rfl, 1, p, rfl, by omega, fun L hL => ?_⟩
      refine lc_range (lo := 1) (n := (p - 1).toNat) (fun j H' => Same H H' ∧ H' L = some (.lst ((invJ n p j).map V.int))) ⟨newO hL, upd_same⟩ ?_ ?_
      · intro j H' hj ⟨s, q⟩
        dsimp only [gName]
        refine ⟨rfl, ?_⟩
        refine ⟨_, rfl, _, rfl, _, _, rfl, rfl, .inr ⟨by omega, by omega⟩, _, rfl, _, _, rfl, rfl, p0, rfl, _, rfl, ?_⟩
        rw [eqInt]
        refine ite2 (fun cj => ?_) (fun cj => ?_)
        · refine ⟨_, rfl, _, q, ?_, set_new hL s, ?_⟩
          · rw [List.length_map]
            have := invJ_len n p j
            have : sizeLine = 16777216 := by decide
            omega
          · rw [upd_same, invJ_succ, if_pos cj, List.map_append]
            rfl
        · refine ⟨s, ?_⟩
          rw [invJ_succ, if_neg cj, List.append_nil]
          exact q
      · rintro H' ⟨s, q⟩
        obtain ⟨i, hi⟩ : ∃ i, invL n p = [i] := List.length_eq_one_iff.mp one
        have hi' : invJ n p (p - 1).toNat = [i] := hi
        rw [hi'] at q
        exact ⟨L, _, _, _, rfl, rfl, SqL.of q, rfl, k5 nz H' i s (by rw [hi]; rfl)⟩
end
end K01

set_option Elab.async false
set_option linter.all false
set_option maxRecDepth 100000
set_option maxHeartbeats 4000000
namespace K01
open PySem L2 SG
/-- data that stands away from b -/
def Dx (K : PySem.W.Frag) (H : Hp) (b : Addr) (v : V) (d : PyData) : Prop := Dw K (away H b) v d
theorem Dx.dw {K : PySem.W.Frag} {H : Hp} {b : Addr} {v : V} {d : PyData} (h : Dx K H b v d) : Dw K H v d := Dw.same (away_same H b) _ _ h
theorem away_but {H H' : Hp} {b : Addr} (x : But b H H') : Same (away H b) (away H' b) := fun a o q => by
  by_cases e : a = b
  · rw [e, away_b] at q; cases q
  · rw [away_ne e] at q ⊢; exact x a o e q
theorem away_sm {H H' : Hp} {b : Addr} (x : Same H H') : Same (away H b) (away H' b) := away_but fun a o _ q => x a o q
theorem Dx.but {K : PySem.W.Frag} {H H' : Hp} {b : Addr} {v : V} {d : PyData} (h : Dx K H b v d) (x : But b H H') : Dx K H' b v d := Dw.same (away_but x) _ _ h
theorem Dx.sm {K : PySem.W.Frag} {H H' : Hp} {b : Addr} {v : V} {d : PyData} (h : Dx K H b v d) (x : Same H H') : Dx K H' b v d := Dw.same (away_sm x) _ _ h
mutual
theorem toDw {K : PySem.W.Frag} {H : Hp} : ∀ (d : PyData) (v : V), Dv K H v d → d.weight ≤ 1000 → Dw K H v d
  | .none, _, h, _ => by cases h; exact .non
  | .bool _, _, h, _ => by cases h; exact .bl _
  | .int _, _, h, _ => by cases h; exact .int _
  | .str _, _, h, _ => by cases h; exact .str _
  | .list ds, _, h, w => by
    rw [PyData.weight] at w
    cases h with
    | lst _ hs ha =>
      obtain ⟨h1, h2⟩ := toDwAll ds _ ha w
      exact .lst hs h2 h1
  | .tuple ds, _, h, w => by
    rw [PyData.weight] at w
    cases h with
    | tup hs ha =>
      obtain ⟨h1, h2⟩ := toDwAll ds _ ha w
      exact .tup hs h2 h1
  | .dict _, _, h, _ => by
    cases h with
    | dic hs _ => exact .dic hs
theorem toDwAll {K : PySem.W.Frag} {H : Hp} : ∀ (ds : List PyData) (vs : List V), DvAll K H vs ds → PyData.weightAll ds ≤ 1000 → DwAll K H vs ds ∧ vs.length ≤ 1000
  | [], _, h, _ => by cases h; exact ⟨.nil, Nat.zero_le _⟩
  | d :: ds, _, h, w => by
    have wl : ∀ es : List PyData, es.length ≤ PyData.weightAll es := by
      intro es
      induction es with
      | nil => exact Nat.zero_le _
      | cons e es ih => rw [PyData.weightAll, List.length_cons]; omega
    rw [PyData.weightAll] at w
    cases h with
    | cons h1 h2 =>
      obtain ⟨q1, q2⟩ := toDwAll ds _ h2 (by omega)
      refine ⟨.cons (toDw d _ h1 (by omega)) q1, ?_⟩
      have := q1.length
      have := wl ds
      rw [List.length_cons]; omega
end
theorem Val.dx {K : PySem.W.Frag} {H : Hp} {b : Addr} {v : V} (h : Val K H b v) : ∃ d, Dx K H b v d := by
  obtain ⟨_, G, d, g0, gs, dv, nd⟩ := h
  refine ⟨d, Dw.same (fun a o q => ?_) _ _ (toDw d v dv (by have := nd.wt; omega))⟩
  rw [away_ne (fun e => by rw [e, g0] at q; cases q)]
  exact gs a o q
def areW (d : PyData) : Option Int → Bool | none => areI d | some w => rowI d w
def spLAre (K : PySem.W.Frag) : Sp := fun vs H Q _ => ∃ v d w, vs = [v, optV w] ∧ Dw K H v d ∧ ∀ H', Same H H' → Q (.bl (areW d w)) H'
theorem areI_any {d : PyData} {ds : List PyData} (e : parts d = some ds) : areI d = !ds.any (fun e => !isI e) := by
  rw [areI, e, List.not_any_eq_all_not]; simp
theorem rowsI_any {d : PyData} {ds : List PyData} {m w : Int} (e : parts d = some ds) : rowsI d m w = (decide ((ds.length : Int) = m) && !ds.any (fun e => !rowI e w)) := by
  rw [rowsI, e, List.not_any_eq_all_not]; simp
section
variable {P : Program} {w : World} {K : PySem.W.Frag} {mg : Str → Option Value} {base : Heap}
theorem ok_l_is_number (T : Tx K mg) {f : Addr} {fd : FuncData} (F : Fun K "_law_is_number" "_law_is_number" s_l_is_number f fd) : FnOk P w K mg base CX0 1 f fd ["value"] (spIsInt K) := by
  refine F.ok sc_l_is_number (fun vs H Q E h => ?_) (fun cdv A outer s H vs Q E hr h => ?_)
  · obtain ⟨v, d, rfl, _⟩ := h
    rfl
  · obtain ⟨v, d, rfl, D, k⟩ := h
    refine ⟨_, (pss_one (ps_ret (pe_and (pe_callB call_isi (by rfl) T.nm.n_isinstance (by decide +kernel) (pa_cons (pv 0) (pa_cons (pe_bltn (v := .ty "int") (by rfl) T.nm.n_int (by decide +kernel) rfl) pa_nil))) (pe_and (pe_cmpR op_notB (pv 0) pe_bl (nomark _)) (pe_one (pe_cmpR op_notB (pv 0) pe_bl (nomark _))))))), ?_⟩
    refine ⟨_, rfl, _, _, _, _, _, rfl, .ty _, D.ty, kit_int d, _, rfl, ?_⟩
    cases D with
    | int i => exact ⟨_, rfl, _, rfl, _, rfl, _, rfl, _, rfl, k⟩
    | bl x =>
      refine ⟨_, rfl, _, rfl, _, rfl, ?_⟩
      cases x with
      | true => exact k
      | false => exact ⟨_, rfl, _, rfl, k⟩
    | non => exact k
    | str _ => exact k
    | lst _ _ _ => exact k
    | tup _ _ _ => exact k
    | dic _ => exact k
theorem ok_l_are (T : Tx K mg) {f : Addr} {fd : FuncData} (F : Fun K "_law_are" "_law_are" s_l_are f fd) : FnOk P w K mg base CX0 2 f fd ["value", "wide"] (spLAre K) := by
  refine F.ok sc_l_are (fun vs H Q E h => ?_) (fun cdv A outer s H vs Q E hr h => ?_)
  · obtain ⟨v, d, w, rfl, _⟩ := h
    rfl
  · obtain ⟨v, d, w, rfl, D, k⟩ := h
    refine ⟨_, (pss_cons (ps_if (PW.pt (pw_or (pt_not (pt_val (pe_callB call_isiT (by rfl) T.nm.n_isinstance (by decide +kernel) (pa_cons (pv 0) (pa_cons (pe_tup (pa_cons (pe_bltn (v := .ty "list") (by rfl) T.nm.n_list (by decide +kernel) rfl) (pa_cons (pe_bltn (v := .ty "tuple") (by rfl) T.nm.n_tuple (by decide +kernel) rfl) pa_nil))) pa_nil))))) (pw_or1 (pt_cmpR (op_neNil (Nat.lt_of_le_of_lt (Nat.le_add_right _ 64) hr.units)) (pe_lc (own := [("each", 2)]) (g := (gName 2)) rfl sc_l_are.nd (pi_seq (pv 0)) (blkOk_by (N := ["value", "wide", "each"]) (sc := defScope s_l_are) (by decide +kernel)) (fun _ _ _ _ _ => pg_name (i := 2) sc_l_are.nd rfl (Or.inl rfl)) (fun _ _ _ _ _ => pts_one (pt_not (pt_val (pe_call (ok_l_is_number T T.d_l_is_number.F) (hr.mono (by decide)) rfl T.d_l_is_number.m T.d_l_is_number.k T.d_l_is_number.b .nil pass0 (pa_cons (pv 2) pa_nil))))) (fun _ _ _ _ _ => (pv 2))) (pe_lst pa_nil) (nomark _)))))
  (pss_one (ps_ret pe_bl))
  pss_nil)
  (pss_one (ps_ret (pe_or (pe_cmpR op_isN (pv 1) pe_non (nomark _)) (pe_one (pe_cmpR op_eq (pe_callB call_len_seq (by rfl) T.nm.n_len (by decide +kernel) (pa_cons (pv 0) pa_nil)) (pv 1) (nomark _))))))), ?_⟩
    refine ⟨_, rfl, (by show 2 ≤ sizeLine; decide), fun pT nT => ?_⟩
    have zT := newO nT (o := .tup [.ty "list", .ty "tuple"])
    refine ⟨v, pT, _, _, _, _, rfl, upd_same, .cons (.ty _) (.cons (.ty _) .nil), (Dw.same zT _ _ D).ty, kit_seq d, _, rfl, ?_⟩
    cases e : parts d with
    | none =>
      have k' := k _ zT
      rw [show areW d w = false by cases w with | none => exact areI_no e | some w => unfold areW rowI; rw [areI_no e]; rfl] at k'
      exact k'
    | some ds =>
      dsimp only [Option.isSome, Bool.not_true]
      rw [if_neg (by decide)]
      dsimp only [tTest, tOp]
      refine lc_keep (fun e => !isI e) e (Dw.same zT _ _ D) (fun R r => ⟨_, rfl, r⟩) (fun _ => rfl) (fun _ => rfl) (fun x e1 H' R s1 D1 _ r => ⟨_, rfl, x, e1, rfl, D1, _, rfl, r H' (Same.refl H')⟩) fun L H' ys s1 nL q ey => ?_
      refine ⟨(by decide), fun pN nN => ?_⟩
      have zN := newO nN (o := .lst [])
      refine ⟨L, pN, ys, rfl, rfl, SqL.of (zN _ _ q), SqL.of upd_same, _, rfl, ?_⟩
      have sN := (zT.trans s1).trans zN
      rw [ey]
      have ea := areI_any e
      refine ite2 (fun c => ?_) (fun c => ?_)
      · have k' := k _ sN
        have a0 : areI d = false := by rw [ea]; cases z : ds.any (fun e => !isI e) with | true => rfl | false => rw [z] at c; cases c
        rw [show areW d w = false by cases w with | none => exact a0 | some w => unfold areW rowI; rw [a0]; rfl] at k'
        exact k'
      · have a1 : areI d = true := by rw [ea]; cases z : ds.any (fun e => !isI e) with | false => rfl | true => rw [z] at c; exact absurd rfl c
        refine ⟨_, rfl, rfl, ?_⟩
        have k' := k _ sN
        cases w with
        | none =>
          rw [show areW d none = true from a1] at k'
          exact ⟨_, rfl, k'⟩
        | some w =>
          obtain ⟨a, xs, rfl, hs, hl, ha⟩ := (Dw.same sN _ _ D).seq e
          refine ⟨_, rfl, _, rfl, a, xs, rfl, hs, _, rfl, rfl, ?_⟩
          show Q (.bl (decide (V.int _ = V.int w))) _
          rw [eqInt, ha.length]
          rw [show areW d (some w) = decide ((ds.length : Int) = w) by unfold areW rowI; rw [a1, e]; rfl] at k'
          exact k'
theorem ok_l_are_all (T : Tx K mg) {f : Addr} {fd : FuncData} (F : Fun K "_law_are_all" "_law_are_all" s_l_are_all f fd) : FnOk P w K mg base CX0 3 f fd ["value", "many", "wide"] (spRows K) := by
  refine F.ok sc_l_are_all (fun vs H Q E h => ?_) (fun cdv A outer s H vs Q E hr h => ?_)
  · obtain ⟨v, d, m, w, rfl, _⟩ := h
    rfl
  · obtain ⟨v, d, m, w, rfl, D, k⟩ := h
    refine ⟨_, (pss_one (ps_ret (pe_and (pe_callB call_isiT (by rfl) T.nm.n_isinstance (by decide +kernel) (pa_cons (pv 0) (pa_cons (pe_tup (pa_cons (pe_bltn (v := .ty "list") (by rfl) T.nm.n_list (by decide +kernel) rfl) (pa_cons (pe_bltn (v := .ty "tuple") (by rfl) T.nm.n_tuple (by decide +kernel) rfl) pa_nil))) pa_nil))) (pe_and (pe_cmpR op_eq (pe_callB call_len_seq (by rfl) T.nm.n_len (by decide +kernel) (pa_cons (pv 0) pa_nil)) (pv 1) (nomark _)) (pe_one (pe_cmpR (op_eqNil (Nat.lt_of_le_of_lt (Nat.le_add_right _ 64) hr.units)) (pe_lc (own := [("row", 3)]) (g := (gName 3)) rfl sc_l_are_all.nd (pi_seq (pv 0)) (blkOk_by (N := ["value", "many", "wide", "row"]) (sc := defScope s_l_are_all) (by decide +kernel)) (fun _ _ _ _ _ => pg_name (i := 3) sc_l_are_all.nd rfl (Or.inl rfl)) (fun _ _ _ _ _ => pts_one (pt_not (pt_val (pe_call (ok_l_are T T.d_l_are.F) (hr.mono (by decide)) rfl T.d_l_are.m T.d_l_are.k T.d_l_are.b .nil pass0 (pa_cons (pv 3) (pa_cons (pv 2) pa_nil)))))) (fun _ _ _ _ _ => (pv 3))) (pe_lst pa_nil) (nomark _))))))), ?_⟩
    refine ⟨_, rfl, (by show 2 ≤ sizeLine; decide), fun pT nT => ?_⟩
    have zT := newO nT (o := .tup [.ty "list", .ty "tuple"])
    refine ⟨v, pT, _, _, _, _, rfl, upd_same, .cons (.ty _) (.cons (.ty _) .nil), (Dw.same zT _ _ D).ty, kit_seq d, _, rfl, ?_⟩
    cases e : parts d with
    | none =>
      have k' := k _ zT
      rw [rowsI_no e] at k'
      exact k'
    | some ds =>
      have er := rowsI_any (m := m) (w := w) e
      obtain ⟨a, xs, rfl, hs, hl, ha⟩ := (Dw.same zT _ _ D).seq e
      refine ⟨_, rfl, a, xs, rfl, hs, _, rfl, rfl, _, rfl, ?_⟩
      rw [eqInt, ha.length]
      refine ite2 (fun c => ?_) (fun c => ?_)
      · dsimp only [tOp]
        refine lc_keep (fun e => !rowI e w) e (Dw.same zT _ _ D) (fun R r => ⟨_, rfl, r⟩) (fun _ => rfl) (fun _ => rfl) (fun x e1 H' R s1 D1 _ r => ⟨_, rfl, _, rfl, x, e1, some w, rfl, D1, fun H'' s2 => ⟨_, rfl, r H'' s2⟩⟩) fun L H' ys s1 nL q ey => ?_
        refine ⟨(by decide), fun pN nN => ?_⟩
        have zN := newO nN (o := .lst [])
        refine ⟨L, pN, ys, rfl, rfl, SqL.of (zN _ _ q), SqL.of upd_same, ?_⟩
        have k' := k _ ((zT.trans s1).trans zN)
        rw [er, c] at k'
        rw [ey]
        exact k'
      · have k' := k _ zT
        rw [er, show decide ((ds.length : Int) = m) = false by cases z : decide ((ds.length : Int) = m) with | false => rfl | true => exact absurd z c] at k'
        exact k'
end
end K01

set_option Elab.async false
set_option linter.all false
set_option maxRecDepth 100000
set_option maxHeartbeats 4000000
namespace K01
open PySem L2 SG
/-- tuple(x), x a list or a tuple -/
def rTupOf (K : PySem.W.Frag) : List V → Hp → VK → Prop := fun xs H Q => ∃ p ys, xs = [V.ref p] ∧ ((SqL K H p ys ∧ ∀ (l : Addr), H l = none → Q (V.ref l) (upd H l (HO.tup ys))) ∨ SqT K H p ys ∧ Q (V.ref p) H)
theorem Aft.put {n : Int} {H H' : Hp} {b c L : Addr} {ns : List Int} {t t' r r' : Int} {o : HO} (B : Bowl H b c ns t r) (x : Aft n H H' b c ns t t' r') (hL : H L = none) : Aft n H (upd H' L o) b c ns t t' r' := by
  have nb : b ≠ L := ne_of_none B.hb hL
  have nc : c ≠ L := ne_of_none B.hc hL
  refine ⟨⟨by rw [upd_ne nb]; exact x.bowl.hb, by rw [upd_ne nc]; exact x.bowl.hc, B.ne, x.bowl.t0, x.bowl.r0⟩, fun a o ne q => ?_, x.lo, x.hi⟩
  rw [upd_ne (ne_of_none q hL)]
  exact x.but a o ne q
theorem Aft.le {n m : Int} {H H' : Hp} {b c : Addr} {ns : List Int} {t t' r' : Int} (x : Aft n H H' b c ns t t' r') (h : n ≤ m) : Aft m H H' b c ns t t' r' := ⟨x.bowl, x.but, x.lo, by have := x.hi; omega⟩
theorem Aft.keep {n : Int} {H H' : Hp} {b c a : Addr} {ns : List Int} {t t' r' : Int} {o : HO} (x : Aft n H H' b c ns t t' r') (q : H a = some o) (ne : a ≠ b) : H' a = some o := x.but a o ne q
/-- [_law_dip(bowl, m) - k for at in range(wide)] -/
theorem dips_row {m k : Int} {y0 y2 y3 y4 y5 y6 y7 y9 : Option V} {H : Hp} {Q : VK} {b c : Addr} {ns : List Int} {t r w : Int} {z : Option V} (hm : 0 < m) (hm2 : m < 2 ^ 200) (B : Bowl H b c ns t r) (ht : t + w < 2 ^ 20) (w0 : 0 ≤ w) (w4 : w < 1000)
    (e0 : y0 = some (.ref b)) (kk : ∀ (L : Addr) (is : List Int) (t' r' : Int) (H' : Hp), H L = none → H' L = some (.lst (is.map V.int)) → (is.length : Int) = w → Aft w H H' b c ns t t' r' → Q (.ref L) H') :
    tLc (iRng1 (tCons (tVar 1) tNil)) (gName 8) tYes (tOp (rI0 fun i j => .int (i - j)) (tCall spDip [] E0 (tCons (tVar 0) (tCons (tC (.int m)) tNil))) (tC (.int k))) [8] [y0, some (.int w), y2, y3, y4, y5, y6, y7, z, y9] H Q := by
  subst e0
  refine ⟨_, rfl, w, rfl, by omega, by omega, fun L hL => ?_⟩
  refine lc_range (n := w.toNat) (fun j H' => ∃ is t' r', Aft (j : Int) H H' b c ns t t' r' ∧ H' L = some (.lst (is.map V.int)) ∧ is.length = j) ⟨[], t, r, (Aft.refl B).put B hL, upd_same, rfl⟩ ?_ ?_
  · rintro j H' hj ⟨is, t', r', x, q, l⟩
    dsimp only [gName]
    refine ⟨rfl, ?_⟩
    refine ⟨_, rfl, b, c, ns, t', r', m, rfl, hm, hm2, x.bowl, by have := x.hi; omega, fun v t2 r2 H2 v0 v1 x2 => ?_⟩
    have nL : L ≠ b := fun e => by rw [e, x.bowl.hb] at q; cases is with | nil => cases q | cons a l => cases q
    refine ⟨_, _, rfl, rfl, ?_⟩
    have x3 := x.trans x2
    refine ⟨_, x2.keep q nL, ?_, is ++ [v - k], t2, r2, ?_, ?_, ?_⟩
    · rw [List.length_map, l]
      have : sizeLine = 16777216 := by decide
      omega
    · exact x3.put B hL
    · rw [upd_same, List.map_append]; rfl
    · rw [List.length_append, l]; rfl
  · rintro H' ⟨is, t', r', x, q, l⟩
    have e : ((w.toNat : Nat) : Int) = w := Int.toNat_of_nonneg w0
    rw [e] at x
    exact kk L is t' r' H' hL q (by rw [l]; exact e) x
def RowAt (H : Hp) (b L : Addr) (x : V) : Prop := ∃ (p : Addr) (is : List Int), x = .ref p ∧ H p = some (.lst (is.map V.int)) ∧ is.length ≤ 1000 ∧ p ≠ L ∧ p ≠ b
theorem RowAt.put {H : Hp} {b L : Addr} {x : V} {o : HO} (h : RowAt H b L x) : RowAt (upd H L o) b L x := by
  obtain ⟨p, is, e, q, l, n1, n2⟩ := h
  exact ⟨p, is, e, by rw [upd_ne n1]; exact q, l, n1, n2⟩
theorem RowAt.but {H H' : Hp} {b L : Addr} {x : V} (h : RowAt H b L x) (z : But b H H') : RowAt H' b L x := by
  obtain ⟨p, is, e, q, l, n1, n2⟩ := h
  exact ⟨p, is, e, z _ _ n2 q, l, n1, n2⟩
theorem intsDw {K : PySem.W.Frag} {H : Hp} : ∀ is : List Int, DwAll K H (is.map V.int) (is.map PyData.int)
  | [] => .nil
  | i :: is => .cons (.int i) (intsDw is)
theorem RowAt.dx {K : PySem.W.Frag} {H : Hp} {b L : Addr} {x : V} (h : RowAt H b L x) : ∃ es, Dx K H b x (.list es) := by
  obtain ⟨p, is, rfl, q, l, _, n2⟩ := h
  exact ⟨_, .lst (SqL.of (by rw [away_ne n2]; exact q)) (by rw [List.length_map]; exact l) (intsDw is)⟩
def DxAll (K : PySem.W.Frag) (H : Hp) (b : Addr) (xs : List V) (ds : List PyData) : Prop := DwAll K (away H b) xs ds
theorem rowsDx {K : PySem.W.Frag} {H : Hp} {b L : Addr} : ∀ {ls : List V}, (∀ x ∈ ls, RowAt H b L x) → ∃ ds, DxAll K H b ls ds
  | [], _ => ⟨[], .nil⟩
  | x :: ls, h => by
    obtain ⟨es, q⟩ := (h x List.mem_cons_self).dx (K := K)
    obtain ⟨ds, qs⟩ := rowsDx (K := K) (ls := ls) fun y m => h y (List.mem_cons_of_mem _ m)
    exact ⟨_, .cons q qs⟩
theorem Dx.list {K : PySem.W.Frag} {H : Hp} {b p : Addr} {xs : List V} {ds : List PyData} (q : H p = some (.lst xs)) (ne : p ≠ b) (l : xs.length ≤ 1000) (h : DxAll K H b xs ds) : Dx K H b (.ref p) (.list ds) := .lst (SqL.of (by rw [away_ne ne]; exact q)) l h
theorem Dx.tuple {K : PySem.W.Frag} {H : Hp} {b p : Addr} {xs : List V} {ds : List PyData} (q : H p = some (.tup xs)) (ne : p ≠ b) (l : xs.length ≤ 1000) (h : DxAll K H b xs ds) : Dx K H b (.ref p) (.tuple ds) := .tup (SqT.of (by rw [away_ne ne]; exact q)) l h
theorem DxAll.sm {K : PySem.W.Frag} {H H' : Hp} {b : Addr} {xs : List V} {ds : List PyData} (h : DxAll K H b xs ds) (x : Same H H') : DxAll K H' b xs ds := DwAll.same (away_sm x) _ _ h
theorem DxAll.append {K : PySem.W.Frag} {H : Hp} {b : Addr} : ∀ {xs ys : List V} {ds es : List PyData}, DxAll K H b xs ds → DxAll K H b ys es → DxAll K H b (xs ++ ys) (ds ++ es)
  | [], _, _, _, .nil, h2 => h2
  | _ :: _, _, _, _, .cons a h1, h2 => .cons a (DxAll.append (xs := _) h1 h2)
theorem RowAt.sm {H H' : Hp} {b L : Addr} {x : V} (h : RowAt H b L x) (z : Same H H') : RowAt H' b L x := h.but fun a o _ q => z a o q
section
variable {K : PySem.W.Frag} {σ : L2.St} {H : Hp} {Q : VK} {b L : Addr} {ls : List V} {v : V} {d : PyData}
/-- rows + [rows[0]] if rows != [] else [[]] -/
theorem third_at (h4 : σ[4]? = some (some (.ref L))) (hb : ∃ o, H b = some o) (nL : L ≠ b) (qL : H L = some (.lst ls)) (lL : ls.length ≤ 2) (rows : ∀ x ∈ ls, RowAt H b L x)
    (k : ∀ x d H', Same H H' → Dx K H' b x d → Q x H') :
    (tIf (tTest (tOp (rNeNil K) (tVar 4) (tLst tNil))) (tOp rCat (tVar 4) (tLst (tCons (tOp (rIxL K) (tVar 4) (tC (.int 0))) tNil))) (tLst (tCons (tLst tNil) tNil))) σ H Q := by
  obtain ⟨ob, hb⟩ := hb
  have nb : ∀ {H' : Hp} {p : Addr}, Same H H' → H' p = none → p ≠ b := fun {H' p} s n e => by
    have := s _ _ hb
    rw [← e, n] at this
    cases this
  refine ⟨_, h4, (by decide), fun pN nN => ?_⟩
  have zN := newO nN (o := .lst [])
  refine ⟨L, pN, ls, rfl, rfl, SqL.of (zN _ _ qL), SqL.of upd_same, _, rfl, ?_⟩
  cases ls with
  | nil =>
    refine ⟨(by decide), fun p1 n1 => ?_⟩
    have z1 := newO n1 (o := .lst [])
    have q1 : (upd (upd H pN (.lst [])) p1 (.lst [])) p1 = some (.lst []) := upd_same
    have m1 := nb zN n1
    generalize upd (upd H pN (.lst [])) p1 (.lst []) = H1 at z1 q1 ⊢
    refine ⟨(by show 1 ≤ sizeLine; decide), fun p2 n2 => ?_⟩
    have z2 := newO n2 (o := .lst [.ref p1])
    exact k _ _ _ ((zN.trans z1).trans z2) (Dx.list upd_same (nb (zN.trans z1) n2) (by show 1 ≤ 1000; decide) (.cons (Dx.list (z2 _ _ q1) m1 (Nat.zero_le _) .nil) .nil))
  | cons x0 ls =>
    refine ⟨_, h4, _, h4, L, _, _, _, rfl, rfl, SqL.of (zN _ _ qL), (show atI (x0 :: ls) ((0 : Nat) : Int) = some x0 from atI_nat rfl), ?_⟩
    refine ⟨(by show 1 ≤ sizeLine; decide), fun p1 n1 => ?_⟩
    have z1 := newO n1 (o := .lst [x0])
    have q1 : (upd (upd H pN (.lst [])) p1 (.lst [x0])) p1 = some (.lst [x0]) := upd_same
    generalize upd (upd H pN (.lst [])) p1 (.lst [x0]) = H1 at z1 q1 ⊢
    rw [List.length_cons] at lL
    refine ⟨L, p1, _, _, rfl, rfl, z1 _ _ (zN _ _ qL), q1, ?_, fun p2 n2 => ?_⟩
    · rw [List.length_cons, List.length_singleton]
      have : sizeLine = 16777216 := by decide
      omega
    have z2 := newO n2 (o := .lst (x0 :: ls ++ [x0]))
    have s2 := (zN.trans z1).trans z2
    obtain ⟨ds, hds⟩ := rowsDx (K := K) (H := upd H1 p2 (.lst (x0 :: ls ++ [x0]))) (b := b) (L := L) (ls := x0 :: ls ++ [x0]) fun y m => by
      refine (rows y ?_).sm s2
      rcases List.mem_append.mp m with m | m
      · exact m
      · rw [List.mem_singleton.mp m]; exact List.mem_cons_self
    exact k _ _ _ s2 (Dx.list upd_same (nb (zN.trans z1) n2) (by rw [List.length_append, List.length_cons, List.length_singleton]; omega) hds)
/-- [tuple(row) for row in rows] -/
theorem fourth_at (h4 : σ[4]? = some (some (.ref L))) (hg : ∀ x : V, ((wipe σ [9]).set 9 (some x))[9]? = some (some x)) (hw : ∀ x : V, wipe ((wipe σ [9]).set 9 (some x)) [9] = wipe σ [9]) (hb : ∃ o, H b = some o) (nL : L ≠ b) (qL : H L = some (.lst ls)) (lL : ls.length ≤ 2) (rows : ∀ x ∈ ls, RowAt H b L x)
    (k : ∀ x d H', Same H H' → Dx K H' b x d → Q x H') : tLc (iList K (tVar 4)) (gName 9) tYes (tCB (rTupOf K) (tCons (tVar 9) tNil)) [9] σ H Q := by
  obtain ⟨ob, hb⟩ := hb
  have nb : ∀ {H' : Hp} {p : Addr}, Same H H' → H' p = none → p ≠ b := fun {H' p} s n e => by
    have := s _ _ hb
    rw [← e, n] at this
    cases this
  refine ⟨_, h4, L, rfl, ⟨_, SqL.of qL⟩, fun D hD => ?_⟩
  refine lc_list (K := K) (a := L) (xs := ls) (fun j H' => Same H H' ∧ ∃ ys, H' D = some (.lst ys) ∧ ys.length = j ∧ ∀ y ∈ ys, ∃ (p : Addr) (is : List Int), y = .ref p ∧ p ≠ b ∧ p ≠ D ∧ H' p = some (.tup (is.map V.int)) ∧ is.length ≤ 1000) ⟨newO hD, [], upd_same, rfl, fun y m => nomatch m⟩ (fun j H' _ z => z.1.seq (SqL.of qL)) ?_ ?_
  · rintro j x H' hx ⟨s, ys, q, l, all⟩
    obtain ⟨p, is, rfl, qp, lp, n1, n2⟩ := (rows x (List.mem_of_getElem? hx)).sm s
    refine ⟨hw _, ?_⟩
    refine ⟨_, hg _, p, _, rfl, .inl ⟨SqL.of qp, fun t nt => ?_⟩⟩
    have zt := newO nt (o := .tup (is.map V.int))
    have tD : t ≠ D := fun e => by rw [e, q] at nt; cases nt
    refine ⟨ys, zt _ _ q, ?_, set_new hD (s.trans zt), ys ++ [.ref t], upd_same, by rw [List.length_append, l]; rfl, fun y m => ?_⟩
    · have := (List.getElem?_eq_some_iff.mp hx).1
      have : sizeLine = 16777216 := by decide
      omega
    · rcases List.mem_append.mp m with m | m
      · obtain ⟨p', is', e1, e2, e3, e4, e5⟩ := all y m
        exact ⟨p', is', e1, e2, e3, by rw [upd_ne e3]; exact zt _ _ e4, e5⟩
      · refine ⟨t, is, List.mem_singleton.mp m, nb s nt, tD, by rw [upd_ne tD]; exact upd_same, lp⟩
  · rintro H' ⟨s, ys, q, l, all⟩
    have dn : D ≠ b := nb (Same.refl H) hD
    have go : ∀ zs : List V, (∀ y ∈ zs, y ∈ ys) → ∃ ds, DxAll K H' b zs ds := by
      intro zs
      induction zs with
      | nil => exact fun _ => ⟨[], .nil⟩
      | cons z zs ih =>
        intro h
        obtain ⟨ds, hds⟩ := ih fun y m => h y (List.mem_cons_of_mem _ m)
        obtain ⟨p, is, rfl, e2, e3, e4, e5⟩ := all z (h z List.mem_cons_self)
        exact ⟨_, .cons (Dx.tuple e4 e2 (by rw [List.length_map]; exact e5) (intsDw is)) hds⟩
    obtain ⟨ds, hds⟩ := go ys fun y m => m
    exact k _ _ _ s (Dx.list q dn (by omega) hds)
/-- [value] + rows[1:] -/
theorem fifth_at (h3 : σ[3]? = some (some v)) (h4 : σ[4]? = some (some (.ref L))) (hb : ∃ o, H b = some o) (nL : L ≠ b) (qL : H L = some (.lst ls)) (lL : ls.length ≤ 2) (rows : ∀ x ∈ ls, RowAt H b L x) (dv : Dx K H b v d)
    (k : ∀ x d H', Same H H' → Dx K H' b x d → Q x H') : tOp rCat (tLst (tCons (tVar 3) tNil)) (tSl (rSlL K) (tVar 4) (tPart (tC (.int 1))) tNoPart) σ H Q := by
  obtain ⟨ob, hb⟩ := hb
  have nb : ∀ {H' : Hp} {p : Addr}, Same H H' → H' p = none → p ≠ b := fun {H' p} s n e => by
    have := s _ _ hb
    rw [← e, n] at this
    cases this
  refine ⟨_, h3, (by show 1 ≤ sizeLine; decide), fun p1 n1 => ?_⟩
  have z1 := newO n1 (o := .lst [v])
  have q1 : (upd H p1 (.lst [v])) p1 = some (.lst [v]) := upd_same
  generalize upd H p1 (.lst [v]) = H1 at z1 q1 ⊢
  refine ⟨_, h4, _, rfl, L, ls, rfl, SqL.of (z1 _ _ qL), fun p2 n2 => ?_⟩
  have sub : ∀ y ∈ cutV ls (some 1) none, y ∈ ls := fun y m => List.mem_of_mem_drop (List.mem_of_mem_take m)
  have len : (cutV ls (some 1) none).length ≤ ls.length := by
    unfold cutV
    rw [List.length_take, List.length_drop]
    omega
  generalize cutV ls (some 1) none = cs at sub len
  have z2 := newO n2 (o := .lst cs)
  have q2 : (upd H1 p2 (.lst cs)) p2 = some (.lst cs) := upd_same
  generalize upd H1 p2 (.lst cs) = H2 at z2 q2 ⊢
  refine ⟨p1, p2, _, _, rfl, rfl, z2 _ _ q1, q2, ?_, fun p3 n3 => ?_⟩
  · rw [List.length_singleton]
    have : sizeLine = 16777216 := by decide
    omega
  have z3 := newO n3 (o := .lst ([v] ++ cs))
  have s3 := (z1.trans z2).trans z3
  obtain ⟨ds, hds⟩ := rowsDx (K := K) (H := upd H2 p3 (.lst ([v] ++ cs))) (b := b) (L := L) (ls := cs) fun y m => (rows y (sub y m)).sm s3
  exact k _ _ _ s3 (Dx.list upd_same (nb (z1.trans z2) n3) (by rw [List.length_append, List.length_singleton]; omega) (DxAll.append (xs := [v]) (.cons (dv.sm s3) .nil) hds))
/-- rows + [value] -/
theorem sixth_at (h3 : σ[3]? = some (some v)) (h4 : σ[4]? = some (some (.ref L))) (hb : ∃ o, H b = some o) (nL : L ≠ b) (qL : H L = some (.lst ls)) (lL : ls.length ≤ 2) (rows : ∀ x ∈ ls, RowAt H b L x) (dv : Dx K H b v d)
    (k : ∀ x d H', Same H H' → Dx K H' b x d → Q x H') : tOp rCat (tVar 4) (tLst (tCons (tVar 3) tNil)) σ H Q := by
  obtain ⟨ob, hb⟩ := hb
  have nb : ∀ {H' : Hp} {p : Addr}, Same H H' → H' p = none → p ≠ b := fun {H' p} s n e => by
    have := s _ _ hb
    rw [← e, n] at this
    cases this
  refine ⟨_, h4, _, h3, (by show 1 ≤ sizeLine; decide), fun p1 n1 => ?_⟩
  have z1 := newO n1 (o := .lst [v])
  have q1 : (upd H p1 (.lst [v])) p1 = some (.lst [v]) := upd_same
  generalize upd H p1 (.lst [v]) = H1 at z1 q1 ⊢
  refine ⟨L, p1, _, _, rfl, rfl, z1 _ _ qL, q1, ?_, fun p3 n3 => ?_⟩
  · rw [List.length_singleton]
    have : sizeLine = 16777216 := by decide
    omega
  have z3 := newO n3 (o := .lst (ls ++ [v]))
  have s3 := z1.trans z3
  obtain ⟨ds, hds⟩ := rowsDx (K := K) (H := upd H1 p3 (.lst (ls ++ [v]))) (b := b) (L := L) (ls := ls) fun y m => (rows y m).sm s3
  exact k _ _ _ s3 (Dx.list upd_same (nb z1 n3) (by rw [List.length_append, List.length_singleton]; omega) (DxAll.append hds (.cons (dv.sm s3) .nil)))
end
theorem iteEq {a b : V} {A B : Prop} (h : a = b) (hB : B) : if (!decide (a = b)) = true then A else B := by
  rw [if_neg (by rw [decide_eq_true h]; decide)]; exact hB
theorem eqTrue {a b : V} (h : a = b) : decide (a = b) = true := decide_eq_true h
theorem sevens : ∀ n : Nat, (List.replicate n [V.int 7]).flatten = (List.replicate n (7 : Int)).map V.int
  | 0 => rfl
  | n + 1 => by rw [List.replicate_succ, List.replicate_succ, List.flatten_cons, List.map_cons, sevens n]; rfl
theorem rowI_ints (is : List Int) (w : Int) : rowI (.list (is.map PyData.int)) w = decide ((is.length : Int) = w) := by
  have h : areI (.list (is.map PyData.int)) = true := by
    show (is.map PyData.int).all isI = true
    rw [List.all_map, List.all_eq_true]
    exact fun _ _ => rfl
  unfold rowI
  rw [h]
  show (true && decide (((is.map PyData.int).length : Int) = w)) = _
  rw [List.length_map, Bool.true_and]
theorem retEq {a b : V} {Q : VK} {H : Hp} (h : a = b) (q : Q (.bl true) H) : Q (.bl (decide (a = b))) H := by
  rw [decide_eq_true h]; exact q

def spBowled (n : Int) : Sp := fun vs H Q _ => ∃ (b c : Addr) (ns : List Int) (t r : Int), vs = [.ref b] ∧ Bowl H b c ns t r ∧ t < 2 ^ 18 ∧ ∀ (t' r' : Int) (H' : Hp), Aft n H H' b c ns t t' r' → Q (.bl true) H'
section
variable {P : Program} {w : World} {K : PySem.W.Frag} {mg : Str → Option Value} {base : Heap}
theorem kn_is_integer_value {f : Addr} {fd : FuncData} (F : Fun K "is_integer" "is_integer" s_is_integer f fd) : KBn K fd ["value"] 0 ["value"] (fun _ ws => ws) (fun _ ws => ws) :=
  kb_keys F (fun l => l) (fun r => r) fun _ _ _ _ _ _ ws l => match ws, l with | [_], _ => rfl
theorem kn_are_integers_value {f : Addr} {fd : FuncData} (F : Fun K "are_integers" "are_integers" s_are_integers f fd) : KBn K fd ["value"] 0 ["value"] (fun _ ws => ws) (fun _ ws => ws) :=
  kb_keys F (fun l => l) (fun r => r) fun _ _ _ _ _ _ ws l => match ws, l with | [_], _ => rfl
theorem kn_is_row_value_wide {f : Addr} {fd : FuncData} (F : Fun K "is_row" "is_row" s_is_row f fd) : KBn K fd ["value", "wide"] 0 ["value", "wide"] (fun _ ws => ws) (fun _ ws => ws) :=
  kb_keys F (fun l => l) (fun r => r) fun _ _ _ _ _ _ ws l => match ws, l with | [_, _], _ => rfl
theorem kn_are_rows_many_value_wide {f : Addr} {fd : FuncData} (F : Fun K "are_rows" "are_rows" s_are_rows f fd) : KBn K fd ["value", "many", "wide"] 0 ["many", "value", "wide"] (fun _ ws => o213 ws) (fun _ ws => o213 ws) :=
  kb_keys F (o213) vals213 fun _ _ _ _ _ _ ws l => match ws, l with | [_, _, _], _ => rfl
theorem kn_is_by_value {f : Addr} {fd : FuncData} (F : Fun K "is_by" "is_by" s_is_by f fd) : KBn K fd ["value"] 0 ["value"] (fun _ ws => ws) (fun _ ws => ws) :=
  kb_keys F (fun l => l) (fun r => r) fun _ _ _ _ _ _ ws l => match ws, l with | [_], _ => rfl
theorem kn_is_within_most_value_least {f : Addr} {fd : FuncData} (F : Fun K "is_within" "is_within" s_is_within f fd) : KBn K fd ["value", "least", "most"] 0 ["most", "value", "least"] (fun _ ws => o312 ws) (fun _ ws => o312 ws) :=
  kb_keys F (o312) vals312 fun _ _ _ _ _ _ ws l => match ws, l with | [_, _, _], _ => rfl
theorem kn_common_divisor_values {f : Addr} {fd : FuncData} (F : Fun K "common_divisor" "common_divisor" s_common_divisor f fd) : KBn K fd ["values"] 0 ["values"] (fun _ ws => ws) (fun _ ws => ws) :=
  kb_keys F (fun l => l) (fun r => r) fun _ _ _ _ _ _ ws l => match ws, l with | [_], _ => rfl
theorem kn_over_by_number {f : Addr} {fd : FuncData} (F : Fun K "over" "over" s_over f fd) : KBn K fd ["number", "by"] 0 ["by", "number"] (fun _ ws => o21 ws) (fun _ ws => o21 ws) :=
  kb_keys F (o21) vals21 fun _ _ _ _ _ _ ws l => match ws, l with | [_, _], _ => rfl
theorem ok_l_looks_right (T : Ty K mg) {f : Addr} {fd : FuncData} (F : Fun K "_law_looks_right" "_law_looks_right" s_l_looks_right f fd) : FnOk P w K mg base CX0 5 f fd ["bowl"] (spBowled 60) := by
  refine F.ok sc_l_looks_right (fun vs H Q E h => ?_) (fun cdv A outer s H vs Q E hr h => ?_)
  · obtain ⟨b, c, ns, t, r, rfl, _⟩ := h
    rfl
  · obtain ⟨b, c, ns, t, r, rfl, B0, ht, k⟩ := h
    refine ⟨_, (pss_cons (ps_asg (pe_tup (pa_cons (pe_call (ok_dip T.nm T.d_l_dip.F) (hr.mono (by decide)) rfl T.d_l_dip.m T.d_l_dip.k T.d_l_dip.b .nil pass0 (pa_cons (pv 0) (pa_cons pe_int pa_nil))) (pa_cons (pe_call (ok_dip T.nm T.d_l_dip.F) (hr.mono (by decide)) rfl T.d_l_dip.m T.d_l_dip.k T.d_l_dip.b .nil pass0 (pa_cons (pv 0) (pa_cons pe_int pa_nil))) pa_nil))) (pg_tup (by rfl) (pgs_cons (pg_name (i := 1) sc_l_looks_right.nd rfl (Or.inr rfl)) (pgs_cons (pg_name (i := 2) sc_l_looks_right.nd rfl (Or.inl rfl)) pgs_nil))))
  (pss_cons (ps_set (i := 3) sc_l_looks_right.nd rfl (Or.inl rfl) (pe_call (ok_value T.toTx T.d_l_value.F) (hr.mono (by decide)) rfl T.d_l_value.m T.d_l_value.k T.d_l_value.b .nil pass0 (pa_cons (pv 0) pa_nil)))
  (pss_cons (ps_setLc (i := 4) (own := [("row", 9)]) (g := (gName 9)) (tt := tYes) rfl sc_l_looks_right.nd rfl rfl (sw_true rfl rfl (by rfl) (by decide +kernel)) (pi_range1 (by rfl) T.nm.n_range (pa_cons (pv 2) pa_nil)) (blkOk_by (N := ["bowl", "wide", "many", "value", "rows", "bent", "each", "number", "at", "row"]) (sc := defScope s_l_looks_right) (by decide +kernel)) (fun _ _ _ _ _ => pg_name (i := 9) sc_l_looks_right.nd rfl (Or.inl rfl)) (fun _ _ _ _ _ => pts_nil) (fun _ _ _ _ _ => (pe_lc (own := [("at", 8)]) (g := (gName 8)) (tt := tYes) rfl sc_l_looks_right.nd (pi_range1 (by rfl) T.nm.n_range (pa_cons (pv 1) pa_nil)) (blkOk_by (N := ["bowl", "wide", "many", "value", "rows", "bent", "each", "number", "at", "row"]) (by kernel_rfl)) (fun _ _ _ _ _ => pg_name (i := 8) sc_l_looks_right.nd rfl (Or.inl rfl)) (fun _ _ _ _ _ => pts_nil) (fun _ _ _ _ _ => (pe_op op_sub (pe_call (ok_dip T.nm T.d_l_dip.F) (hr.mono (by decide)) rfl T.d_l_dip.m T.d_l_dip.k T.d_l_dip.b .nil pass0 (pa_cons (pv 0) (pa_cons pe_int pa_nil))) pe_int)))))
  (pss_cons (ps_set (i := 5) sc_l_looks_right.nd rfl (Or.inl rfl) (pe_call (ok_choose T.toTx T.d_l_choose.F) (hr.mono (by decide)) rfl T.d_l_choose.m T.d_l_choose.k T.d_l_choose.b .nil pass0 (pa_cons (pv 0) (pa_cons (pe_lst (pa_cons (pv 4) (pa_cons (pe_callTy call_tuple_of (by rfl) T.nm.n_tuple (by decide +kernel) (pa_cons (pv 4) pa_nil)) (pa_cons (pe_ifExp (pt_cmpR (op_neNil (Nat.lt_of_le_of_lt (Nat.le_add_right _ 64) hr.units)) (pv 4) (pe_lst pa_nil) (nomark _)) (pe_op op_cat (pv 4) (pe_lst (pa_cons (pe_ix ix_list (pv 4) pe_int (fun _ _ => rfl)) pa_nil))) (pe_lst (pa_cons (pe_lst pa_nil) pa_nil))) (pa_cons (pe_lc (own := [("row", 9)]) (g := (gName 9)) (tt := tYes) rfl sc_l_looks_right.nd (pi_list (pv 4)) (blkOk_by (N := ["bowl", "wide", "many", "value", "rows", "bent", "each", "number", "at", "row"]) (sc := defScope s_l_looks_right) (by decide +kernel)) (fun _ _ _ _ _ => pg_name (i := 9) sc_l_looks_right.nd rfl (Or.inl rfl)) (fun _ _ _ _ _ => pts_nil) (fun _ _ _ _ _ => (pe_callTy (T := "tuple") (r := rTupOf K) call_tuple_of (by rfl) T.nm.n_tuple (by decide +kernel) (pa_cons (pv 9) pa_nil)))) (pa_cons (pe_op op_cat (pe_lst (pa_cons (pv 3) pa_nil)) (pe_slice sl_list (pv 4) (po_some pe_int) po_none)) (pa_cons (pe_op op_cat (pv 4) (pe_lst (pa_cons (pv 3) pa_nil))) (pa_cons (pv 3) pa_nil)))))))) pa_nil))))
  (pss_cons (ps_if (PW.pt (pw_or (pt_cmpR op_ne (pe_callB call_repr0 (by rfl) T.nm.n_repr (by decide +kernel) (pa_cons (pe_callK0 (ok_is_integer T.toTx T.d_is_integer.F) (hr.mono (by decide)) rfl T.d_is_integer.m T.d_is_integer.k (kn_is_integer_value T.d_is_integer.F) pass0 (pk_cons (pv 3) pk_nil)) pa_nil)) (pe_callB call_repr0 (by rfl) T.nm.n_repr (by decide +kernel) (pa_cons (pe_call (ok_l_is_number T.toTx T.d_l_is_number.F) (hr.mono (by decide)) rfl T.d_l_is_number.m T.d_l_is_number.k T.d_l_is_number.b .nil pass0 (pa_cons (pv 3) pa_nil)) pa_nil)) (nomark _)) (pw_or1 (pt_cmpR op_ne (pe_callB call_repr0 (by rfl) T.nm.n_repr (by decide +kernel) (pa_cons (pe_callK0 (ok_are_integers T.toTx T.d_are_integers.F) (hr.mono (by decide)) rfl T.d_are_integers.m T.d_are_integers.k (kn_are_integers_value T.d_are_integers.F) pass0 (pk_cons (pv 3) pk_nil)) pa_nil)) (pe_callB call_repr0 (by rfl) T.nm.n_repr (by decide +kernel) (pa_cons (pe_call (ok_l_are T.toTx T.d_l_are.F) (hr.mono (by decide)) rfl T.d_l_are.m T.d_l_are.k T.d_l_are.b .nil pass0 (pa_cons (pv 3) (pa_cons pe_non pa_nil))) pa_nil)) (nomark _)))))
  (pss_one (ps_ret pe_bl))
  pss_nil)
  (pss_cons (ps_if (PW.pt (pw_or (pt_cmpR op_ne (pe_callB call_repr0 (by rfl) T.nm.n_repr (by decide +kernel) (pa_cons (pe_callK0 (ok_is_row T.toTx T.d_is_row.F) (hr.mono (by decide)) rfl T.d_is_row.m T.d_is_row.k (kn_is_row_value_wide T.d_is_row.F) pass0 (pk_cons (pv 3) (pk_cons (pv 1) pk_nil))) pa_nil)) (pe_callB call_repr0 (by rfl) T.nm.n_repr (by decide +kernel) (pa_cons (pe_call (ok_l_are T.toTx T.d_l_are.F) (hr.mono (by decide)) rfl T.d_l_are.m T.d_l_are.k T.d_l_are.b .nil pass0 (pa_cons (pv 3) (pa_cons (pv 1) pa_nil))) pa_nil)) (nomark _)) (pw_or (pt_cmpR op_notB (pe_call (ok_is_row T.toTx T.d_is_row.F) (hr.mono (by decide)) rfl T.d_is_row.m T.d_is_row.k T.d_is_row.b .nil pass0 (pa_cons (pe_op op_rep (pe_lst (pa_cons pe_int pa_nil)) (pv 1)) (pa_cons (pv 1) pa_nil))) pe_bl (nomark _)) (pw_or1 (pt_cmpR op_notB (pe_call (ok_is_row T.toTx T.d_is_row.F) (hr.mono (by decide)) rfl T.d_is_row.m T.d_is_row.k T.d_is_row.b .nil pass0 (pa_cons (pe_op op_rep (pe_lst (pa_cons pe_int pa_nil)) (pv 1)) (pa_cons (pe_op op_add (pv 1) pe_int) pa_nil))) pe_bl (nomark _))))))
  (pss_one (ps_ret pe_bl))
  pss_nil)
  (pss_cons (ps_for PassesOwn.never rfl (pi_tup (pe_tup (pa_cons (pv 5) (pa_cons (pv 4) (pa_cons (pv 3) pa_nil))))) (pg_name (i := 6) sc_l_looks_right.nd rfl (Or.inl rfl))
  (pss_one (ps_if (pt_cmpR op_ne (pe_callB call_repr0 (by rfl) T.nm.n_repr (by decide +kernel) (pa_cons (pe_callK0 (ok_are_rows T.toTx T.d_are_rows.F) (hr.mono (by decide)) rfl T.d_are_rows.m T.d_are_rows.k (kn_are_rows_many_value_wide T.d_are_rows.F) pass0 (pk_cons (pv 2) (pk_cons (pv 6) (pk_cons (pv 1) pk_nil)))) pa_nil)) (pe_callB call_repr0 (by rfl) T.nm.n_repr (by decide +kernel) (pa_cons (pe_call (ok_l_are_all T.toTx T.d_l_are_all.F) (hr.mono (by decide)) rfl T.d_l_are_all.m T.d_l_are_all.k T.d_l_are_all.b .nil pass0 (pa_cons (pv 6) (pa_cons (pv 2) (pa_cons (pv 1) pa_nil)))) pa_nil)) (nomark _))
  (pss_one (ps_ret pe_bl))
  pss_nil)))
  (pss_cons (ps_set (i := 7) sc_l_looks_right.nd rfl (Or.inl rfl) (pe_call (ok_choose T.toTx T.d_l_choose.F) (hr.mono (by decide)) rfl T.d_l_choose.m T.d_l_choose.k T.d_l_choose.b .nil pass0 (pa_cons (pv 0) (pa_cons (pe_lst (pa_cons (pv 3) (pa_cons (pe_op op_sub (pe_call (ok_dip T.nm T.d_l_dip.F) (hr.mono (by decide)) rfl T.d_l_dip.m T.d_l_dip.k T.d_l_dip.b .nil pass0 (pa_cons (pv 0) (pa_cons pe_int pa_nil))) pe_int) (pa_cons pe_int (pa_cons pe_int (pa_cons pe_int (pa_cons pe_int (pa_cons pe_int (pa_cons pe_int (pa_cons pe_bl (pa_cons (pe_un un_neg pe_int) pa_nil))))))))))) pa_nil))))
  (pss_one (ps_ret (pe_cmpR op_eq (pe_callB call_repr0 (by rfl) T.nm.n_repr (by decide +kernel) (pa_cons (pe_callK0 (ok_is_by T T.d_is_by.F) (hr.mono (by decide)) rfl T.d_is_by.m T.d_is_by.k (kn_is_by_value T.d_is_by.F) pass0 (pk_cons (pv 7) pk_nil)) pa_nil)) (pe_callB call_repr0 (by rfl) T.nm.n_repr (by decide +kernel) (pa_cons (pe_and (pe_call (ok_l_is_number T.toTx T.d_l_is_number.F) (hr.mono (by decide)) rfl T.d_l_is_number.m T.d_l_is_number.k T.d_l_is_number.b .nil pass0 (pa_cons (pv 7) pa_nil)) (pe_one (pe_cmpR op_in_seq (pv 7) (pe_tup (pa_cons pe_int (pa_cons pe_int (pa_cons pe_int (pa_cons pe_int (pa_cons pe_int (pa_cons pe_int pa_nil))))))) (by rfl)))) pa_nil)) (nomark _)))))))))))), ?_⟩
    refine cut (fun σ' H' => ∃ wd mn t' r', σ' = [some (.ref b), some (.int wd), some (.int mn), none, none, none, none, none, none, none] ∧ 0 ≤ wd ∧ wd < 4 ∧ 0 ≤ mn ∧ mn < 3 ∧ Aft 2 H H' b c ns t t' r') ?_ ?_
    rotate_left
    · intro nx hnx
      refine ⟨_, rfl, b, c, ns, t, r, 4, rfl, by decide, by decide, B0, by omega, fun wd t1 r1 H1 w0 w4 x1 => ?_⟩
      refine ⟨_, rfl, b, c, ns, t1, r1, 3, rfl, by decide, by decide, x1.bowl, by have := x1.hi; omega, fun mn t2 r2 H2 m0 m3 x2 => ?_⟩
      refine ⟨(by show 2 ≤ sizeLine; decide), fun p hp => ⟨p, _, rfl, SqT.of upd_same, rfl, _, _, rfl, _, _, rfl, rfl, ?_⟩⟩
      exact hnx _ _ ⟨wd, mn, t2, r2, rfl, w0, w4, m0, m3, (x1.trans x2).new hp⟩
    rintro σ' H1 ⟨wd, mn, t1, r1, rfl, w0, w4, m0, m3, x1⟩
    refine cut (fun σ' H' => ∃ v d t' r', σ' = [some (.ref b), some (.int wd), some (.int mn), some v, none, none, none, none, none, none] ∧ Dx K H' b v d ∧ Aft 7 H H' b c ns t t' r') ?_ ?_
    rotate_left
    · intro nx hnx
      refine ⟨_, rfl, b, c, ns, t1, r1, rfl, x1.bowl, by have := x1.hi; omega, fun v t2 r2 H2 V x2 => ?_⟩
      obtain ⟨d, dv⟩ := V.dx
      exact hnx _ _ ⟨v, d, t2, r2, rfl, dv, x1.trans x2⟩
    rintro σ' H2 ⟨v, d, t2, r2, rfl, dv, x2⟩
    have hi2 := x2.hi
    refine cut (fun σ' H' => ∃ L ls t' r', σ' = [some (.ref b), some (.int wd), some (.int mn), some v, some (.ref L), none, none, none, none, none] ∧ L ≠ b ∧ H' L = some (.lst ls) ∧ ls.length ≤ 2 ∧ (∀ x ∈ ls, RowAt H' b L x) ∧ Dx K H' b v d ∧ Aft 19 H H' b c ns t t' r') ?_ ?_
    rotate_left
    · intro nx hnx
      refine ⟨_, rfl, mn, rfl, by omega, by omega, fun L hL => ?_⟩
      have nL : L ≠ b := fun e => by rw [e, x2.bowl.hb] at hL; cases hL
      refine lc_range (n := mn.toNat) (fun j H' => ∃ ls t' r', Aft (4 * (j : Int)) H2 H' b c ns t2 t' r' ∧ H' L = some (.lst ls) ∧ ls.length = j ∧ ∀ x ∈ ls, RowAt H' b L x) ⟨[], t2, r2, ((Aft.refl x2.bowl).le (by omega)).put x2.bowl hL, upd_same, rfl, fun x m => nomatch m⟩ ?_ ?_
      · rintro j H' hj ⟨ls, t', r', x, q, l, rows⟩
        dsimp only [gName]
        refine ⟨rfl, ?_⟩
        dsimp only [tYes]
        rw [if_pos rfl]
        have hx := x.hi
        refine dips_row (m := 9) (k := 4) (by decide) (by decide) x.bowl (by omega) w0 (by omega) rfl fun M is t3 r3 H3 hM qM lM x3 => ?_
        have nMb : M ≠ b := fun e => by rw [e, x.bowl.hb] at hM; cases hM
        have nML : M ≠ L := fun e => by rw [e, q] at hM; cases hM
        have xx := x.trans x3
        refine ⟨ls, x3.keep q nL, ?_, ls ++ [.ref M], t3, r3, ?_, upd_same, ?_, ?_⟩
        · rw [l]
          have : sizeLine = 16777216 := by decide
          omega
        · exact (xx.put x2.bowl hL).le (by omega)
        · rw [List.length_append, l]; rfl
        · intro y my
          rcases List.mem_append.mp my with my | my
          · exact ((rows y my).but x3.but).put
          · rw [List.mem_singleton.mp my]
            exact RowAt.put ⟨M, is, rfl, qM, by omega, nML, nMb⟩
      · rintro H' ⟨ls, t', r', x, q, l, rows⟩
        exact hnx _ _ ⟨L, ls, t', r', rfl, nL, q, by omega, rows, dv.but x.but, (x2.trans x).le (by omega)⟩
    rintro σ' H3 ⟨L, ls, t3, r3, rfl, nL, qL, lL, rows, dv3, x3⟩
    have B3 := x3.bowl
    have hi3 := x3.hi
    refine cut (fun σ' H' => ∃ bt db ds t' r', σ' = [some (.ref b), some (.int wd), some (.int mn), some v, some (.ref L), some bt, none, none, none, none] ∧ Dx K H' b bt db ∧ Dx K H' b (.ref L) (.list ds) ∧ Dx K H' b v d ∧ Aft 20 H H' b c ns t t' r') ?_ ?_
    rotate_left
    · intro nx hnx
      obtain ⟨ds0, rd⟩ := rowsDx (K := K) rows
      have DL : Dx K H3 b (.ref L) (.list ds0) := Dx.list qL nL (by omega) rd
      have nb : ∀ {H' : Hp} {p : Addr}, Same H3 H' → H' p = none → p ≠ b := fun {H' p} s n e => by
        have := s _ _ B3.hb
        rw [← e, n] at this
        cases this
      refine ⟨_, rfl, ?_⟩
      dsimp only [tLst, tCons, tNil]
      refine ⟨_, rfl, _, rfl, L, ls, rfl, .inl ⟨SqL.of qL, fun p2 n2 => ?_⟩⟩
      have z2 := newO n2 (o := .tup ls)
      have D2 : Dx K (upd H3 p2 (.tup ls)) b (.ref p2) (.tuple ds0) := Dx.tuple upd_same (nb (Same.refl H3) n2) (by omega) (rd.sm z2)
      generalize upd H3 p2 (.tup ls) = G2 at z2 D2 ⊢
      dsimp only
      refine third_at rfl ⟨_, z2 _ _ B3.hb⟩ nL (z2 _ _ qL) lL (fun x m => (rows x m).sm z2) fun y3 d3 G3 s3 D3 => ?_
      have u3 := z2.trans s3
      refine fourth_at rfl (fun _ => rfl) (fun _ => rfl) ⟨_, u3 _ _ B3.hb⟩ nL (u3 _ _ qL) lL (fun x m => (rows x m).sm u3) fun y4 d4 G4 s4 D4 => ?_
      have u4 := u3.trans s4
      refine fifth_at rfl rfl ⟨_, u4 _ _ B3.hb⟩ nL (u4 _ _ qL) lL (fun x m => (rows x m).sm u4) (dv3.sm u4) fun y5 d5 G5 s5 D5 => ?_
      have u5 := u4.trans s5
      refine sixth_at rfl rfl ⟨_, u5 _ _ B3.hb⟩ nL (u5 _ _ qL) lL (fun x m => (rows x m).sm u5) (dv3.sm u5) fun y6 d6 G6 s6 D6 => ?_
      have u6 := u5.trans s6
      refine ⟨_, rfl, ?_⟩
      refine ⟨(by show 7 ≤ sizeLine; decide), fun pb np => ?_⟩
      have z7 := newO np (o := .lst [.ref L, .ref p2, y3, y4, y5, y6, v])
      have u7 := u6.trans z7
      have x7 := (x3.ext u6).new np (o := .lst [.ref L, .ref p2, y3, y4, y5, y6, v])
      refine ⟨b, c, ns, t3, r3, pb, _, rfl, x7.bowl, by omega, SqL.of upd_same, nb u6 np, by show 0 < 7; decide, by show 7 ≤ 1000; decide, fun bt t8 r8 H8 hv x8 => ?_⟩
      have all : ∃ db, Dx K H8 b bt db := by
        have hv' : bt = .ref L ∨ bt = .ref p2 ∨ bt = y3 ∨ bt = y4 ∨ bt = y5 ∨ bt = y6 ∨ bt = v := by simpa using hv
        rcases hv' with e | e | e | e | e | e | e
        · exact ⟨_, e ▸ (DL.sm u7).but x8.but⟩
        · exact ⟨_, e ▸ (D2.sm ((((s3.trans s4).trans s5).trans s6).trans z7)).but x8.but⟩
        · exact ⟨_, e ▸ (D3.sm (((s4.trans s5).trans s6).trans z7)).but x8.but⟩
        · exact ⟨_, e ▸ (D4.sm ((s5.trans s6).trans z7)).but x8.but⟩
        · exact ⟨_, e ▸ (D5.sm (s6.trans z7)).but x8.but⟩
        · exact ⟨_, e ▸ (D6.sm z7).but x8.but⟩
        · exact ⟨_, e ▸ (dv3.sm u7).but x8.but⟩
      obtain ⟨db, hdb⟩ := all
      exact hnx _ _ ⟨bt, db, ds0, t8, r8, rfl, hdb, (DL.sm u7).but x8.but, (dv3.sm u7).but x8.but, x7.trans x8⟩
    rintro σ' H4 ⟨bt, db, ds, t4, r4, rfl, Db, DL, dv4, x4⟩
    clear rows qL dv3 x3 B3
    refine cut (fun σ' H' => σ' = [some (.ref b), some (.int wd), some (.int mn), some v, some (.ref L), some bt, none, none, none, none] ∧ Same H4 H') ?_ ?_
    rotate_left
    · intro nx hnx
      refine ⟨_, rfl, rfl, rfl, v, d, rfl, dv4.dw, .inr (.inl ⟨_, rfl, ?_⟩)⟩
      refine ⟨_, rfl, v, d, rfl, dv4.dw, .inr (.inl ⟨_, rfl, ?_⟩)⟩
      refine ⟨rfl, _, rfl, iteEq rfl ?_⟩
      refine ⟨_, rfl, rfl, rfl, v, d, rfl, dv4.dw, fun G1 g1 => .inr (.inl ⟨_, rfl, ?_⟩)⟩
      refine ⟨_, rfl, v, d, none, rfl, Dw.same g1 _ _ dv4.dw, fun G2 g2 => .inr (.inl ⟨_, rfl, ?_⟩)⟩
      refine ⟨rfl, _, rfl, iteEq rfl ?_⟩
      exact hnx _ _ ⟨rfl, g1.trans g2⟩
    rintro σ' H5 ⟨rfl, s5⟩
    have dv5 := dv4.sm s5
    refine cut (fun σ' H' => σ' = [some (.ref b), some (.int wd), some (.int mn), some v, some (.ref L), some bt, none, none, none, none] ∧ Same H5 H') ?_ ?_
    rotate_left
    · intro nx hnx
      refine ⟨_, rfl, _, rfl, rfl, rfl, v, d, wd, rfl, dv5.dw, fun G1 g1 => .inr (.inl ⟨_, rfl, ?_⟩)⟩
      refine ⟨_, rfl, _, rfl, v, d, some wd, rfl, Dw.same g1 _ _ dv5.dw, fun G2 g2 => .inr (.inl ⟨_, rfl, ?_⟩)⟩
      refine ⟨rfl, _, rfl, iteEq rfl ?_⟩
      have g := g1.trans g2
      have e7 : ((wd.toNat : Nat) : Int) = wd := Int.toNat_of_nonneg w0
      refine ⟨(by show 1 ≤ sizeLine; decide), fun p1 n1 => ⟨_, rfl, p1, wd, _, rfl, rfl, upd_same, by omega, by omega, ?_, fun p2 n2 => ?_⟩⟩
      · rw [List.length_singleton]
        have : sizeLine = 16777216 := by decide
        omega
      rw [sevens]
      have g3 := (g.trans (newO n1 (o := .lst [.int 7]))).trans (newO n2 (o := .lst ((List.replicate wd.toNat (7 : Int)).map V.int)))
      refine ⟨_, rfl, _, .list ((List.replicate wd.toNat (7 : Int)).map PyData.int), wd, rfl, .lst (SqL.of upd_same) (by rw [List.length_map, List.length_replicate]; omega) (intsDw _), fun G4 g4 => ⟨true, rfl, _, rfl, iteEq ?_ ?_⟩⟩
      · rw [rowI_ints, List.length_replicate, e7, decide_eq_true rfl]
      refine ⟨(by show 1 ≤ sizeLine; decide), fun p3 n3 => ⟨_, rfl, p3, wd, _, rfl, rfl, upd_same, by omega, by omega, ?_, fun p4 n4 => ?_⟩⟩
      · rw [List.length_singleton]
        have : sizeLine = 16777216 := by decide
        omega
      rw [sevens]
      have g5 := ((g3.trans g4).trans (newO n3 (o := .lst [.int 7]))).trans (newO n4 (o := .lst ((List.replicate wd.toNat (7 : Int)).map V.int)))
      refine ⟨_, rfl, _, _, rfl, rfl, _, .list ((List.replicate wd.toNat (7 : Int)).map PyData.int), wd + 1, rfl, .lst (SqL.of upd_same) (by rw [List.length_map, List.length_replicate]; omega) (intsDw _), fun G6 g6 => ⟨false, rfl, _, rfl, iteEq ?_ ?_⟩⟩
      · rw [rowI_ints, List.length_replicate, e7, decide_eq_false (by omega)]
      exact hnx _ _ ⟨rfl, g5.trans g6⟩
    rintro σ' H6 ⟨rfl, s6⟩
    have s46 := s5.trans s6
    refine cut (fun σ' H' => (∃ x6, σ' = [some (.ref b), some (.int wd), some (.int mn), some v, some (.ref L), some bt, x6, none, none, none]) ∧ Same H6 H') ?_ ?_
    rotate_left
    · intro nx hnx
      refine ⟨_, rfl, _, rfl, _, rfl, (by show 3 ≤ sizeLine; decide), fun pt nt => ?_⟩
      have zt := newO nt (o := .tup [bt, .ref L, v])
      have qt : (upd H6 pt (.tup [bt, .ref L, v])) pt = some (.tup [bt, .ref L, v]) := upd_same
      generalize upd H6 pt (.tup [bt, .ref L, v]) = HT at zt qt ⊢
      refine ⟨pt, rfl, ⟨_, SqT.of qt⟩, for_tup (K := K) (a := pt) (xs := [bt, .ref L, v]) (fun (j : Nat) σ' H' => (∃ x6, σ' = [some (.ref b), some (.int wd), some (.int mn), some v, some (.ref L), some bt, x6, none, none, none]) ∧ Same HT H') ⟨⟨_, rfl⟩, Same.refl HT⟩
        (fun _ _ H' _ ⟨_, z⟩ => SqT.of (z _ _ qt)) ?_ ?_⟩
      rotate_left
      · rintro σ' H' ⟨e, z⟩
        exact hnx _ _ ⟨e, zt.trans z⟩
      rintro j x σ' H' hx ⟨⟨x6, rfl⟩, z⟩
      have zz := (s46.trans zt).trans z
      obtain ⟨dx, Dx⟩ : ∃ dx, Dw K H' x dx := by
        rcases j with _ | _ | _ | j
        · cases hx; exact ⟨_, Dw.same zz _ _ Db.dw⟩
        · cases hx; exact ⟨_, Dw.same zz _ _ DL.dw⟩
        · cases hx; exact ⟨_, Dw.same zz _ _ dv4.dw⟩
        · cases hx
      dsimp only [gName]
      refine ⟨_, rfl, _, rfl, _, rfl, rfl, rfl, x, dx, mn, wd, rfl, Dx, fun G1 g1 => .inr (.inl ⟨_, rfl, ?_⟩)⟩
      refine ⟨_, rfl, _, rfl, _, rfl, x, dx, mn, wd, rfl, Dw.same g1 _ _ Dx, fun G2 g2 => .inr (.inl ⟨_, rfl, ?_⟩)⟩
      refine ⟨rfl, _, rfl, iteEq rfl ?_⟩
      exact ⟨⟨_, rfl⟩, (z.trans g1).trans g2⟩
    rintro σ' H7 ⟨⟨x6, rfl⟩, s7⟩
    have s47 := s46.trans s7
    have x7 := x4.ext s47
    have hi7 := x7.hi
    have dv7 := dv4.sm s47
    refine cut (fun σ' H' => ∃ num dn t' r', σ' = [some (.ref b), some (.int wd), some (.int mn), some v, some (.ref L), some bt, x6, some num, none, none] ∧ Dw K H' num dn ∧ Aft 60 H H' b c ns t t' r') ?_ ?_
    rotate_left
    · intro nx hnx
      refine ⟨_, rfl, _, rfl, _, rfl, b, c, ns, t4, r4, 20, rfl, by decide, by decide, x7.bowl, by omega, fun n t8 r8 H8 l8 u8 x8 => ?_⟩
      have hi8 := x8.hi
      refine ⟨_, _, rfl, rfl, ?_⟩
      refine ⟨2, rfl, (by show 10 ≤ sizeLine; decide), fun pl nl => ?_⟩
      have nlb : pl ≠ b := x8.bowl.apart nl
      have x9 := (x7.trans x8).new nl (o := .lst [v, .int (n - 3), .int 2, .int 13, .int 17, .int 1, .int 4, .int 9, .bl true, .int (-2)])
      refine ⟨b, c, ns, t8, r8, pl, _, rfl, x9.bowl, by omega, SqL.of upd_same, nlb, by show 0 < 10; decide, by show 10 ≤ 1000; decide, fun num t9 r9 H9 hv x10 => ?_⟩
      have all : ∃ dn, Dw K H9 num dn := by
        have hv' : num = v ∨ num = .int (n - 3) ∨ num = .int 2 ∨ num = .int 13 ∨ num = .int 17 ∨ num = .int 1 ∨ num = .int 4 ∨ num = .int 9 ∨ num = .bl true ∨ num = .int (-2) := by simpa using hv
        rcases hv' with e | e | e | e | e | e | e | e | e | e
        · exact ⟨_, e ▸ (((dv7.but x8.but).sm (newO nl)).but x10.but).dw⟩
        · exact ⟨.int _, by rw [e]; exact .int _⟩
        · exact ⟨.int _, by rw [e]; exact .int _⟩
        · exact ⟨.int _, by rw [e]; exact .int _⟩
        · exact ⟨.int _, by rw [e]; exact .int _⟩
        · exact ⟨.int _, by rw [e]; exact .int _⟩
        · exact ⟨.int _, by rw [e]; exact .int _⟩
        · exact ⟨.int _, by rw [e]; exact .int _⟩
        · exact ⟨.bool _, by rw [e]; exact .bl _⟩
        · exact ⟨.int _, by rw [e]; exact .int _⟩
      obtain ⟨dn, hdn⟩ := all
      exact hnx _ _ ⟨num, dn, t9, r9, rfl, hdn, (x9.trans x10).le (by decide)⟩
    rintro σ' H8 ⟨num, dn, t8, r8, rfl, Dn, x8⟩
    refine ⟨_, rfl, rfl, rfl, num, dn, rfl, Dn, .inr (.inl ⟨_, rfl, ?_⟩)⟩
    refine ⟨_, rfl, num, dn, rfl, Dn, _, rfl, ?_⟩
    refine ite2 (fun ci => ?_) (fun ci => ?_)
    · obtain ⟨i, rfl⟩ : ∃ i, dn = .int i := by
        cases dn with
        | int i => exact ⟨i, rfl⟩
        | _ => cases ci
      cases Dn
      refine ⟨_, rfl, (by show 6 ≤ sizeLine; decide), fun pp np => ⟨pp, _, rfl, .inr (SqT.of upd_same), rfl, by decide, .inr (.inl ⟨_, rfl, rfl, ?_⟩)⟩⟩
      exact retEq (Q := Q) rfl (k _ _ _ (x8.new np))
    · refine .inr (.inl ⟨_, rfl, rfl, ?_⟩)
      rw [show byI dn = false by cases dn <;> first | rfl | exact absurd rfl ci]
      exact retEq (Q := Q) rfl (k _ _ _ x8)

end
end K01

set_option Elab.async false
set_option linter.all false
set_option maxRecDepth 100000
set_option maxHeartbeats 4000000
namespace K01
open PySem L2 SG
def PairAt (H : Hp) (b : Addr) (x : V) : Prop := ∃ (p : Addr) (l m : Option Int), x = .ref p ∧ p ≠ b ∧ H p = some (.tup [optV l, optV m])
theorem PairAt.but {H H' : Hp} {b : Addr} {x : V} (h : PairAt H b x) (z : But b H H') : PairAt H' b x := by
  obtain ⟨p, l, m, e, n, q⟩ := h
  exact ⟨p, l, m, e, n, z _ _ n q⟩
theorem PairAt.sm {H H' : Hp} {b : Addr} {x : V} (h : PairAt H b x) (z : Same H H') : PairAt H' b x := h.but fun a o _ q => z a o q
theorem PairAt.mk' {H : Hp} {b p : Addr} {l m : Option Int} (n : p ≠ b) (q : H p = some (.tup [optV l, optV m])) : PairAt H b (.ref p) := ⟨p, l, m, rfl, n, q⟩

section
variable {P : Program} {w : World} {K : PySem.W.Frag} {mg : Str → Option Value} {base : Heap}
theorem ok_l_bounds_right (T : Ty K mg) {f : Addr} {fd : FuncData} (F : Fun K "_law_bounds_right" "_law_bounds_right" s_l_bounds_right f fd) : FnOk P w K mg base CX0 3 f fd ["bowl"] (spBowled 60) := by
  refine F.ok sc_l_bounds_right (fun vs H Q E h => ?_) (fun cdv A outer s H vs Q E hr h => ?_)
  · obtain ⟨b, c, ns, t, r, rfl, _⟩ := h
    rfl
  · obtain ⟨b, c, ns, t, r, rfl, B0, ht, k⟩ := h
    refine ⟨_, (pss_cons (ps_asg (pe_lc (own := [("turn", 7)]) (g := (gName 7)) (tt := tYes) rfl sc_l_bounds_right.nd (pi_range1 (by rfl) T.nm.n_range (pa_cons pe_int pa_nil)) (blkOk_by (N := ["bowl", "number", "bound", "pairs", "least", "most", "due", "turn"]) (sc := defScope s_l_bounds_right) (by decide +kernel)) (fun _ _ _ _ _ => pg_name (i := 7) sc_l_bounds_right.nd rfl (Or.inl rfl)) (fun _ _ _ _ _ => pts_nil) (fun _ _ _ _ _ => (pe_op op_mul (pe_call (ok_choose T.toTx T.d_l_choose.F) (hr.mono (by decide)) rfl T.d_l_choose.m T.d_l_choose.k T.d_l_choose.b .nil pass0 (pa_cons (pv 0) (pa_cons (pe_lst (pa_cons pe_int (pa_cons (pe_un un_neg pe_int) pa_nil))) pa_nil))) (pe_call (ok_dip T.nm T.d_l_dip.F) (hr.mono (by decide)) rfl T.d_l_dip.m T.d_l_dip.k T.d_l_dip.b .nil pass0 (pa_cons (pv 0) (pa_cons (pe_call (ok_choose T.toTx T.d_l_choose.F) (hr.mono (by decide)) rfl T.d_l_choose.m T.d_l_choose.k T.d_l_choose.b .nil pass0 (pa_cons (pv 0) (pa_cons (pe_lst (pa_cons pe_int (pa_cons pe_int (pa_cons (pe_op op_pow pe_int pe_int) pa_nil)))) pa_nil))) pa_nil)))))) (pg_lst (by rfl) (pgs_cons (pg_name (i := 1) sc_l_bounds_right.nd rfl (Or.inl rfl)) (pgs_cons (pg_name (i := 2) sc_l_bounds_right.nd rfl (Or.inl rfl)) pgs_nil))))
  (pss_cons (ps_set (i := 3) sc_l_bounds_right.nd rfl (Or.inl rfl) (pe_lst (pa_cons (pe_tup (pa_cons (pv 2) (pa_cons pe_non pa_nil))) (pa_cons (pe_tup (pa_cons pe_non (pa_cons (pv 2) pa_nil))) (pa_cons (pe_tup (pa_cons (pe_callB (call_min2 rfl) (by rfl) T.nm.n_min (by decide +kernel) (pa_cons (pv 2) (pa_cons (pv 1) pa_nil))) (pa_cons (pe_callB (call_max2 rfl) (by rfl) T.nm.n_max (by decide +kernel) (pa_cons (pv 2) (pa_cons (pv 1) pa_nil))) pa_nil))) (pa_cons (pe_tup (pa_cons pe_non (pa_cons pe_non pa_nil))) (pa_cons (pe_tup (pa_cons (pe_op op_add (pv 1) pe_int) (pa_cons pe_non pa_nil))) (pa_cons (pe_tup (pa_cons pe_non (pa_cons (pe_op op_sub (pv 1) pe_int) pa_nil))) (pa_cons (pe_tup (pa_cons (pv 1) (pa_cons (pv 1) pa_nil))) pa_nil)))))))))
  (pss_cons (ps_for PassesOwn.never rfl (pi_list (pv 3)) (pg_tup (by rfl) (pgs_cons (pg_name (i := 4) sc_l_bounds_right.nd rfl (Or.inl rfl)) (pgs_cons (pg_name (i := 5) sc_l_bounds_right.nd rfl (Or.inl rfl)) pgs_nil)))
  (pss_cons (ps_set (i := 6) sc_l_bounds_right.nd rfl (Or.inl rfl) (pe_and (pe_or (pe_cmpR op_isN (pv 4) pe_non (nomark _)) (pe_one (pe_cmpR op_le (pv 4) (pv 1) (nomark _)))) (pe_one (pe_or (pe_cmpR op_isN (pv 5) pe_non (nomark _)) (pe_one (pe_cmpR op_le (pv 1) (pv 5) (nomark _)))))))
  (pss_one (ps_if (PW.pt (pw_or (pt_cmpR op_ne (pe_callB call_repr0 (by rfl) T.nm.n_repr (by decide +kernel) (pa_cons (pe_callK0 (ok_is_within T.toTx T.d_is_within.F) (hr.mono (by decide)) rfl T.d_is_within.m T.d_is_within.k (kn_is_within_most_value_least T.d_is_within.F) pass0 (pk_cons (pv 5) (pk_cons (pv 1) (pk_cons (pv 4) pk_nil)))) pa_nil)) (pe_callB call_repr0 (by rfl) T.nm.n_repr (by decide +kernel) (pa_cons (pv 6) pa_nil)) (nomark _)) (pw_or1 (pt_cmpR op_notB (pe_call (ok_is_within T.toTx T.d_is_within.F) (hr.mono (by decide)) rfl T.d_is_within.m T.d_is_within.k T.d_is_within.b .nil pass0 (pa_cons (pe_call (ok_choose T.toTx T.d_l_choose.F) (hr.mono (by decide)) rfl T.d_l_choose.m T.d_l_choose.k T.d_l_choose.b .nil pass0 (pa_cons (pv 0) (pa_cons (pe_lst (pa_cons pe_bl (pa_cons pe_non (pa_cons pe_str (pa_cons (pe_lst (pa_cons pe_int pa_nil)) pa_nil))))) pa_nil))) (pa_cons (pv 4) (pa_cons (pv 5) pa_nil)))) pe_bl (nomark _)))))
  (pss_one (ps_ret pe_bl))
  pss_nil))))
  (pss_one (ps_ret pe_bl))))), ?_⟩
    refine cut (fun σ' H' => ∃ nu bo t' r', σ' = [some (.ref b), some (.int nu), some (.int bo), none, none, none, none, none] ∧ Aft 6 H H' b c ns t t' r') ?_ ?_
    rotate_left
    · intro nx hnx
      refine ⟨2, rfl, by decide, by decide, fun D hD => ?_⟩
      have nD : D ≠ b := fun e => by rw [e, B0.hb] at hD; cases hD
      refine lc_range (n := 2) (fun (j : Nat) H' => ∃ (is : List Int) (t' r' : Int), Aft (3 * (j : Int)) H H' b c ns t t' r' ∧ H' D = some (.lst (is.map V.int)) ∧ is.length = j) ⟨[], t, r, ((Aft.refl B0).le (by omega)).put B0 hD, upd_same, rfl⟩ ?_ ?_
      · rintro j H' hj ⟨is, t', r', x, q, l⟩
        have hx := x.hi
        dsimp only [gName]
        refine ⟨rfl, ?_⟩
        refine ⟨_, rfl, 1, rfl, (by show 2 ≤ sizeLine; decide), fun p1 n1 => ?_⟩
        have y1 := x.new n1 (o := .lst [.int 1, .int (-1)])
        refine ⟨b, c, ns, t', r', p1, _, rfl, y1.bowl, by omega, SqL.of upd_same, x.bowl.apart n1, by show 0 < 2; decide, by show 2 ≤ 1000; decide, fun sg t2 r2 H2 hs x2 => ?_⟩
        obtain ⟨sg, rfl, hs⟩ : ∃ s, sg = .int s ∧ (s = 1 ∨ s = -1) := by
          have hs' : sg = .int 1 ∨ sg = .int (-1) := by simpa using hs
          rcases hs' with e | e
          · exact ⟨_, e, .inl rfl⟩
          · exact ⟨_, e, .inr rfl⟩
        have h2 := x2.hi
        refine ⟨_, rfl, _, rfl, _, _, rfl, rfl, ⟨by decide, by decide, by decide⟩, (by show 3 ≤ sizeLine; decide), fun p2 n2 => ?_⟩
        have y2 := (y1.trans x2).new n2 (o := .lst [.int 3, .int 100, .int (10 ^ ((30 : Int)).toNat)])
        refine ⟨b, c, ns, t2, r2, p2, _, rfl, y2.bowl, by omega, SqL.of upd_same, x2.bowl.apart n2, by show 0 < 3; decide, by show 3 ≤ 1000; decide, fun mm t3 r3 H3 hm x3 => ?_⟩
        obtain ⟨mm, rfl, m0, m1⟩ : ∃ s, mm = .int s ∧ 0 < s ∧ s < 2 ^ 200 := by
          have hm' : mm = .int 3 ∨ mm = .int 100 ∨ mm = .int (10 ^ ((30 : Int)).toNat) := by simpa using hm
          rcases hm' with e | e | e
          · exact ⟨_, e, by decide, by decide⟩
          · exact ⟨_, e, by decide, by decide⟩
          · exact ⟨_, e, by decide +kernel, by decide +kernel⟩
        have h3 := x3.hi
        refine ⟨b, c, ns, t3, r3, mm, rfl, m0, m1, x3.bowl, by omega, fun v t4 r4 H4 v0 v1 x4 => ?_⟩
        refine ⟨_, _, rfl, rfl, .inl ⟨by omega, by omega⟩, ?_⟩
        have y4 := (y2.trans x3).trans x4
        have q4 : H4 D = some (.lst (is.map V.int)) := by
          have w1 : (upd H' p1 (.lst [.int 1, .int (-1)])) D = some (.lst (is.map V.int)) := by rw [upd_ne (ne_of_none q n1)]; exact q
          have w2 := x2.but _ _ nD w1
          have w3 : (upd H2 p2 (.lst [.int 3, .int 100, .int (10 ^ ((30 : Int)).toNat)])) D = some (.lst (is.map V.int)) := by rw [upd_ne (ne_of_none w2 n2)]; exact w2
          exact x4.but _ _ nD (x3.but _ _ nD w3)
        refine ⟨_, q4, ?_, is ++ [sg * v], t4, r4, (y4.le (by omega)).put B0 hD, ?_, ?_⟩
        · rw [List.length_map, l]
          have : sizeLine = 16777216 := by decide
          omega
        · rw [upd_same, List.map_append]; rfl
        · rw [List.length_append, l]; rfl
      · rintro H' ⟨is, t', r', x, q, l⟩
        obtain ⟨nu, bo, rfl⟩ : ∃ nu bo, is = [nu, bo] := by
          match is, l with
          | [nu, bo], _ => exact ⟨nu, bo, rfl⟩
        exact ⟨D, _, rfl, SqL.of q, rfl, _, _, rfl, _, _, rfl, rfl, hnx _ _ ⟨nu, bo, t', r', rfl, x.le (by decide)⟩⟩
    rintro σ' H1 ⟨nu, bo, t1, r1, rfl, x1⟩
    have h1 := x1.hi
    refine cut (fun σ' H' => ∃ pp xs, σ' = [some (.ref b), some (.int nu), some (.int bo), some (.ref pp), none, none, none, none] ∧ Same H1 H' ∧ pp ≠ b ∧ H' pp = some (.lst xs) ∧ xs.length = 7 ∧ ∀ x ∈ xs, PairAt H' b x) ?_ ?_
    rotate_left
    · intro nx hnx
      have nb : ∀ {H' : Hp} {p : Addr}, Same H1 H' → H' p = none → p ≠ b := fun {H' p} s n e => by
        have := s _ _ x1.bowl.hb
        rw [← e, n] at this
        cases this
      refine ⟨_, rfl, (by show 2 ≤ sizeLine; decide), fun p1 n1 => ?_⟩
      have z1 := newO n1 (o := .tup [.int bo, .non])
      have q1 : (upd H1 p1 (.tup [.int bo, .non])) p1 = some (.tup [.int bo, .non]) := upd_same
      generalize upd H1 p1 (.tup [.int bo, .non]) = G1 at z1 q1 ⊢
      have m1 := nb (Same.refl H1) n1
      refine ⟨_, rfl, (by show 2 ≤ sizeLine; decide), fun p2 n2 => ?_⟩
      have z2 := newO n2 (o := .tup [.non, .int bo])
      have q2 : (upd G1 p2 (.tup [.non, .int bo])) p2 = some (.tup [.non, .int bo]) := upd_same
      generalize upd G1 p2 (.tup [.non, .int bo]) = G2 at z2 q2 ⊢
      have u2 := z1.trans z2
      have m2 := nb z1 n2
      refine ⟨_, rfl, _, rfl, _, _, rfl, _, rfl, _, rfl, _, _, rfl, (by show 2 ≤ sizeLine; decide), fun p3 n3 => ?_⟩
      have z3 := newO n3 (o := .tup [.int (if nu < bo then nu else bo), .int (if nu > bo then nu else bo)])
      have q3 : (upd G2 p3 (.tup [.int (if nu < bo then nu else bo), .int (if nu > bo then nu else bo)])) p3 = some (.tup [.int (if nu < bo then nu else bo), .int (if nu > bo then nu else bo)]) := upd_same
      generalize upd G2 p3 (.tup [.int (if nu < bo then nu else bo), .int (if nu > bo then nu else bo)]) = G3 at z3 q3 ⊢
      have u3 := u2.trans z3
      have m3 := nb u2 n3
      refine ⟨(by show 2 ≤ sizeLine; decide), fun p4 n4 => ?_⟩
      have z4 := newO n4 (o := .tup [.non, .non])
      have q4 : (upd G3 p4 (.tup [.non, .non])) p4 = some (.tup [.non, .non]) := upd_same
      generalize upd G3 p4 (.tup [.non, .non]) = G4 at z4 q4 ⊢
      have u4 := u3.trans z4
      have m4 := nb u3 n4
      refine ⟨_, rfl, _, _, rfl, rfl, (by show 2 ≤ sizeLine; decide), fun p5 n5 => ?_⟩
      have z5 := newO n5 (o := .tup [.int (nu + 1), .non])
      have q5 : (upd G4 p5 (.tup [.int (nu + 1), .non])) p5 = some (.tup [.int (nu + 1), .non]) := upd_same
      generalize upd G4 p5 (.tup [.int (nu + 1), .non]) = G5 at z5 q5 ⊢
      have u5 := u4.trans z5
      have m5 := nb u4 n5
      refine ⟨_, rfl, _, _, rfl, rfl, (by show 2 ≤ sizeLine; decide), fun p6 n6 => ?_⟩
      have z6 := newO n6 (o := .tup [.non, .int (nu - 1)])
      have q6 : (upd G5 p6 (.tup [.non, .int (nu - 1)])) p6 = some (.tup [.non, .int (nu - 1)]) := upd_same
      generalize upd G5 p6 (.tup [.non, .int (nu - 1)]) = G6 at z6 q6 ⊢
      have u6 := u5.trans z6
      have m6 := nb u5 n6
      refine ⟨_, rfl, _, rfl, (by show 2 ≤ sizeLine; decide), fun p7 n7 => ?_⟩
      have z7 := newO n7 (o := .tup [.int nu, .int nu])
      have q7 : (upd G6 p7 (.tup [.int nu, .int nu])) p7 = some (.tup [.int nu, .int nu]) := upd_same
      generalize upd G6 p7 (.tup [.int nu, .int nu]) = G7 at z7 q7 ⊢
      have u7 := u6.trans z7
      have m7 := nb u6 n7
      refine ⟨(by show 7 ≤ sizeLine; decide), fun p8 n8 => ?_⟩
      have z8 := newO n8 (o := .lst [.ref p1, .ref p2, .ref p3, .ref p4, .ref p5, .ref p6, .ref p7])
      refine hnx _ _ ⟨p8, _, rfl, u7.trans z8, nb u7 n8, upd_same, rfl, fun x hx => ?_⟩
      have hx' : x = .ref p1 ∨ x = .ref p2 ∨ x = .ref p3 ∨ x = .ref p4 ∨ x = .ref p5 ∨ x = .ref p6 ∨ x = .ref p7 := by simpa using hx
      rcases hx' with e | e | e | e | e | e | e
      · rw [e]; exact (PairAt.mk' (l := some bo) (m := none) m1 q1).sm ((((((z2.trans z3).trans z4).trans z5).trans z6).trans z7).trans z8)
      · rw [e]; exact (PairAt.mk' (l := none) (m := some bo) m2 q2).sm (((((z3.trans z4).trans z5).trans z6).trans z7).trans z8)
      · rw [e]; exact (PairAt.mk' (l := some _) (m := some _) m3 q3).sm ((((z4.trans z5).trans z6).trans z7).trans z8)
      · rw [e]; exact (PairAt.mk' (l := none) (m := none) m4 q4).sm (((z5.trans z6).trans z7).trans z8)
      · rw [e]; exact (PairAt.mk' (l := some _) (m := none) m5 q5).sm ((z6.trans z7).trans z8)
      · rw [e]; exact (PairAt.mk' (l := none) (m := some _) m6 q6).sm (z7.trans z8)
      · rw [e]; exact (PairAt.mk' (l := some _) (m := some _) m7 q7).sm z8
    rintro σ' H2 ⟨pp, xs, rfl, s2, np, qp, l7, all⟩
    have x2 := x1.ext s2
    refine cut (fun σ' H' => ∃ t' r', Aft 60 H H' b c ns t t' r') ?_ ?_
    · rintro σ' H' ⟨t', r', x⟩
      exact k _ _ _ x
    intro nx hnx
    refine ⟨_, rfl, pp, rfl, ⟨_, SqL.of qp⟩, for_list (K := K) (a := pp) (xs := xs) (fun (j : Nat) σ' H' => ∃ x4 x5 x6 t' r', σ' = [some (.ref b), some (.int nu), some (.int bo), some (.ref pp), x4, x5, x6, none] ∧ Aft (j : Int) H2 H' b c ns t1 t' r')
      ⟨_, _, _, t1, r1, rfl, Aft.refl x2.bowl⟩ (fun j σ' H' _ ⟨_, _, _, _, _, _, z⟩ => SqL.of (z.but _ _ np qp)) ?_ ?_⟩
    rotate_left
    · rintro σ' H' ⟨x4, x5, x6, t', r', _, z⟩
      exact hnx _ _ ⟨t', r', (x2.trans z).le (by omega)⟩
    rintro j x σ' H' hx ⟨x4, x5, x6, t', r', rfl, z⟩
    have hz := z.hi
    have hj : j < xs.length := (List.getElem?_eq_some_iff.mp hx).1
    obtain ⟨p, l, m, rfl, n, q⟩ := (all x (List.mem_of_getElem? hx)).but z.but
    refine ⟨p, _, rfl, SqT.of q, rfl, _, _, rfl, _, _, rfl, rfl, ?_⟩
    refine cut (fun σ' H'' => σ' = [some (.ref b), some (.int nu), some (.int bo), some (.ref pp), some (optV l), some (optV m), some (.bl (lowB l nu && highB m nu)), none] ∧ H'' = H') ?_ ?_
    rotate_left
    · intro ny hny
      have second : ∀ z, z = lowB l nu → ny [some (.ref b), some (.int nu), some (.int bo), some (.ref pp), some (optV l), some (optV m), some (.bl (z && highB m nu)), none] H' := fun z e => by rw [e]; exact hny _ _ ⟨rfl, rfl⟩
      cases l with
      | none =>
        refine ⟨_, rfl, rfl, _, rfl, _, rfl, _, rfl, rfl, ?_⟩
        cases m with
        | none => exact ⟨_, rfl, second _ rfl⟩
        | some b => exact ⟨_, rfl, _, rfl, _, rfl, _, _, rfl, rfl, second _ rfl⟩
      | some a =>
        refine ⟨_, rfl, rfl, _, rfl, _, rfl, _, rfl, _, _, rfl, rfl, _, rfl, ?_⟩
        refine ite2 (fun ca => ?_) (fun ca => ?_)
        · refine ⟨_, rfl, rfl, ?_⟩
          cases m with
          | none => exact ⟨_, rfl, second _ ca.symm⟩
          | some b => exact ⟨_, rfl, _, rfl, _, rfl, _, _, rfl, rfl, second _ ca.symm⟩
        · exact second false (by cases z : decide (a ≤ nu) with | false => exact z.symm | true => exact absurd z ca)
    rintro σ' H'' ⟨rfl, rfl⟩
    refine ⟨_, rfl, _, rfl, _, rfl, rfl, rfl, .int nu, .int nu, l, m, rfl, .int nu, .inr (.inl ⟨_, rfl, ?_⟩)⟩
    refine ⟨_, rfl, .inr (.inl ⟨_, rfl, rfl, _, rfl, iteEq rfl ?_⟩)⟩
    refine ⟨_, rfl, (by show 1 ≤ sizeLine; decide), fun a1 b1 => (?_ : _ ∧ _)⟩
    have w1 := z.new b1 (o := .lst [.int 3])
    have e1 : (upd H'' a1 (.lst [.int 3])) a1 = some (.lst [.int 3]) := upd_same
    have na1 := z.bowl.apart b1
    generalize upd H'' a1 (.lst [.int 3]) = G1 at w1 e1 ⊢
    refine ⟨(by show 4 ≤ sizeLine; decide), fun a2 b2 => ?_⟩
    have w2 := w1.new b2 (o := .lst [.bl true, .non, .str "3", .ref a1])
    refine ⟨b, c, ns, t', r', a2, _, rfl, w2.bowl, by omega, SqL.of upd_same, w1.bowl.apart b2, by show 0 < 4; decide, by show 4 ≤ 1000; decide, fun ch t2 r2 G2 hc y2 => ?_⟩
    have e2 : G2 a1 = some (.lst [.int 3]) := y2.but _ _ na1 (by rw [upd_ne (ne_of_none e1 b2)]; exact e1)
    obtain ⟨dc, Dc, fc⟩ : ∃ dc, Dw K G2 ch dc ∧ within dc l m = false := by
      have hc' : ch = .bl true ∨ ch = .non ∨ ch = .str "3" ∨ ch = .ref a1 := by simpa using hc
      rcases hc' with e | e | e | e
      · rw [e]; exact ⟨_, .bl true, rfl⟩
      · rw [e]; exact ⟨_, .non, rfl⟩
      · rw [e]; exact ⟨_, .str _, rfl⟩
      · rw [e]; exact ⟨_, .lst (SqL.of e2) (by show 1 ≤ 1000; decide) (.cons (.int 3) .nil), rfl⟩
    refine ⟨_, rfl, _, rfl, ch, dc, l, m, rfl, Dc, false, rfl, _, rfl, iteEq (by rw [fc]) ?_⟩
    exact ⟨_, _, _, t2, r2, rfl, (w2.trans y2).le (by omega)⟩

end
end K01

set_option Elab.async false
set_option linter.all false
set_option maxRecDepth 100000
set_option maxHeartbeats 4000000
namespace K01
open PySem L2 SG
def gcdI (is : List Int) : Int := is.foldl (fun a i => ((Nat.gcd a.natAbs i.natAbs : Nat) : Int)) 0
theorem gcdL_ints (is : List Int) : gcdL (is.map PyData.int) = gcdI is := by unfold gcdL gcdI; rw [List.foldl_map]; rfl
theorem gcdI_take {is : List Int} {j : Nat} {i : Int} (h : is[j]? = some i) : gcdI (is.take (j + 1)) = ((Nat.gcd (gcdI (is.take j)).natAbs i.natAbs : Nat) : Int) := by
  unfold gcdI
  rw [List.take_add_one, h]
  simp
theorem gcdI_nn (is : List Int) : 0 ≤ gcdI is := by
  have key : ∀ (l : List Int) (a : Int), 0 ≤ a → 0 ≤ l.foldl (fun a i => ((Nat.gcd a.natAbs i.natAbs : Nat) : Int)) a := by
    intro l
    induction l with
    | nil => exact fun a h => h
    | cons x l ih => exact fun a _ => ih _ (Int.natCast_nonneg _)
  exact key is 0 (Int.le_refl 0)
def spMeasure (K : PySem.W.Frag) : Sp := fun vs H Q _ => ∃ (a : Addr) (is : List Int), vs = [.ref a] ∧ SqL K H a (is.map V.int) ∧ Q (.int (gcdI is)) H
section
variable {P : Program} {w : World} {K : PySem.W.Frag} {mg : Str → Option Value} {base : Heap}
theorem ok_l_measure (T : Tx K mg) {f : Addr} {fd : FuncData} (F : Fun K "_law_measure" "_law_measure" s_l_measure f fd) : FnOk P w K mg base CX0 1 f fd ["values"] (spMeasure K) := by
  refine F.ok sc_l_measure (fun vs H Q E h => ?_) (fun cdv A outer s H vs Q E hr h => ?_)
  · obtain ⟨a, is, rfl, _⟩ := h
    rfl
  · obtain ⟨a, is, rfl, hs, k⟩ := h
    refine ⟨_, (pss_cons (ps_set (i := 1) sc_l_measure.nd rfl (Or.inl rfl) pe_int)
  (pss_cons (ps_for PassesOwn.never rfl (pi_list (pv 0)) (pg_name (i := 2) sc_l_measure.nd rfl (Or.inl rfl))
  (pss_cons (ps_par (i := 3) (j := 4) (by rfl) sc_l_measure.nd rfl rfl (by decide) rfl rfl (pa_cons (pv 1) (pa_cons (pe_callB call_abs (by rfl) T.nm.n_abs (by decide +kernel) (pa_cons (pv 2) pa_nil)) pa_nil)) (by rfl))
  (pss_cons (ps_while PassesOwn.never (pt_cmpR op_gt (pv 4) pe_int (nomark _))
  (pss_one (ps_par (i := 3) (j := 4) (by rfl) sc_l_measure.nd rfl rfl (by decide) rfl rfl (pa_cons (pv 4) (pa_cons (pe_op op_mod (pe_callTy call_int1 (by rfl) T.nm.n_int (by decide +kernel) (pa_cons (pv 3) pa_nil)) (pv 4)) pa_nil)) (by rfl))))
  (pss_one (ps_set (i := 1) sc_l_measure.nd rfl (Or.inl rfl) (pv 3))))))
  (pss_one (ps_ret (pv 1))))), ?_⟩
    refine ⟨_, rfl, a, rfl, ⟨_, hs⟩, for_list (K := K) (a := a) (xs := is.map V.int) (fun (j : Nat) σ' H' => ∃ x2 x3 x4, σ' = [some (.ref a), some (.int (gcdI (is.take j))), x2, x3, x4] ∧ H' = H) ⟨_, _, _, rfl, rfl⟩ (fun j σ' H' _ ⟨_, _, _, _, e⟩ => by rw [e]; exact hs) ?_ ?_⟩
    · rintro j x σ' H' hx ⟨x2, x3, x4, rfl, rfl⟩
      rw [List.getElem?_map] at hx
      obtain ⟨i, hi, rfl⟩ := Option.map_eq_some_iff.mp hx
      dsimp only [gName]
      refine ⟨_, rfl, _, rfl, _, rfl, _, _, rfl, ?_⟩
      dsimp only
      have nn := gcdI_nn (is.take j)
      have ab : (if i < 0 then -i else i) = (i.natAbs : Int) := by split <;> omega
      rw [ab]
      refine cut (fun σ' H'' => (∃ x4, σ' = [some (.ref a), some (.int (gcdI (is.take j))), some (.int i), some (.int (gcdI (is.take (j + 1)))), x4]) ∧ H'' = H') ?_ ?_
      · rintro σ' H'' ⟨⟨x4, rfl⟩, rfl⟩
        exact ⟨_, rfl, _, _, _, rfl, rfl⟩
      intro nx hnx
      refine while_by (fun σ' H'' => ∃ one other : Nat, σ' = [some (.ref a), some (.int (gcdI (is.take j))), some (.int i), some (.int (one : Int)), some (.int (other : Int))] ∧ H'' = H' ∧ Nat.gcd one other = Nat.gcd (gcdI (is.take j)).natAbs i.natAbs)
        (fun σ' _ => match σ' with | [_, _, _, _, some (.int z)] => z.toNat | _ => 0) ⟨(gcdI (is.take j)).natAbs, i.natAbs, ?_, rfl, rfl⟩ ?_ ?_
      · rw [Int.natAbs_of_nonneg nn]; rfl
      · rintro σ' H'' ⟨one, other, rfl, rfl, hg⟩
        refine ⟨_, rfl, _, _, rfl, rfl, _, rfl, ?_⟩
        refine ite2 (fun c => ?_) (fun c => ?_)
        · have c' : (other : Int) > 0 := of_decide_eq_true c
          refine ⟨_, rfl, _, rfl, .inl ⟨_, rfl, _, rfl, _, _, rfl, rfl, c', _, _, rfl, ?_⟩⟩
          refine ⟨⟨other, one % other, rfl, rfl, ?_⟩, ?_⟩
          · rw [← hg, Nat.gcd_comm other, ← Nat.gcd_rec, Nat.gcd_comm]
          · show ((one : Int) % (other : Int)).toNat < (other : Int).toNat
            have := Int.emod_lt_of_pos (one : Int) c'
            omega
        · have c' : other = 0 := by
            rcases Nat.eq_zero_or_pos other with e | e
            · exact e
            · exact absurd (decide_eq_true (show (other : Int) > 0 by omega)) c
          subst c'
          rw [Nat.gcd_zero_right] at hg
          refine hnx _ _ ⟨⟨some (.int ((0 : Nat) : Int)), ?_⟩, rfl⟩
          rw [gcdI_take hi, ← hg]
      · intro σ' H'' R R' hR h
        obtain ⟨v, e, i1, i2, e1, e2, c, e3, q⟩ := h
        exact ⟨v, e, i1, i2, e1, e2, c, e3, hR _ _ q⟩
    · rintro σ' H' ⟨x2, x3, x4, rfl, rfl⟩
      rw [List.length_map, List.take_length]
      exact ⟨_, rfl, k⟩
end
end K01

set_option Elab.async false
set_option linter.all false
set_option maxRecDepth 100000
set_option maxHeartbeats 4000000
namespace K01
open PySem L2 SG
/-- what _law_heard makes of an error -/
def heardX {K : PySem.W.Frag} {mg : Str → Option Value} (T : Ty K mg) (Q : VK) : XK := fun cls d H =>
  ∃ (dd : Addr) (v : V), d = some dd ∧ H dd = some (.xd [("part", v)]) ∧
    ((cls = .ref T.e_BadNumber.C ∧ ∀ p, H p = none → Q (.ref p) (upd H p (.tup [.str "number", v]))) ∨ (cls = .ref T.e_Misfit.C ∧ ∀ p, H p = none → Q (.ref p) (upd H p (.tup [.str "misfit", v]))))
def TTh {K : PySem.W.Frag} {mg : Str → Option Value} (T : Ty K mg) : (XK → Hp → VK → Prop) → Hp → VK → Prop := fun tl H Q => ∀ R : VK, tl (heardX T Q) H R
theorem heard_gives {X : Cx} {K : PySem.W.Frag} {mg : Str → Option Value} (T : Ty K mg) (hK : X.K = K) (hm : X.mg = mg) {g : Addr} {cdg : Value} {q : Str} : LamX.GivesTo X ["ask", "found", "error"] "_law_heard" (defScope s_l_heard) g cdg (defBody s_l_heard) "ask" q (TTh T) := by
  subst hK hm
  intro f c' s H Q tl act hc h
  refine ⟨_, pss_cons (ps_set (i := 1) sc_l_heard.nd rfl (Or.inl rfl) pe_non) (pss_cons (ps_try_ways (X := (cxOf C8.CX0 X.prog X.w X.K X.mg X.base ["ask", "found", "error"] "_law_heard" (defScope s_l_heard) g cdg X.A X.stack s H C8.E0).nox)
    (tb := fun W D σ H => ∃ Ech : XK, (∀ cls d σ' H', Ech cls d H' → W cls d σ' H') ∧ σ[0]? = some (some (.ref f)) ∧ H c' = some (LamX.CodeO c' q) ∧ tl Ech H fun _ H' => D.nx σ H') (Wout := fun _ _ _ _ => False) rfl rfl sc_l_heard.nd L2.takes0 (fun W pn xe tk _ => ?_)
    (.named (i := 2) ⟨rfl, by decide, .inl T.e_BadNumber.m⟩ rfl rfl (fun a oe cls d pn hz hf => pss_one (ps_set (i := 1) sc_l_heard.nd rfl (Or.inl rfl) (pe_tup (pa_cons pe_str (pa_cons (pe_xf T.e_BadNumber.X T.no_BadNumber hz hf (pv 2)) pa_nil)))))
    (.named (i := 2) ⟨rfl, by decide, .inl T.e_Misfit.m⟩ rfl rfl (fun a oe cls d pn hz hf => pss_one (ps_set (i := 1) sc_l_heard.nd rfl (Or.inl rfl) (pe_tup (pa_cons pe_str (pa_cons (pe_xf T.e_Misfit.X T.no_Misfit hz hf (pv 2)) pa_nil)))))
    (.plain ⟨rfl, by decide, .inl T.mS⟩ (fun a oe cls d pn hz hf => pss_one (ps_set (i := 1) sc_l_heard.nd rfl (Or.inl rfl) (pe_tup (pa_cons pe_str (pa_cons pe_non pa_nil))))) .nil)))) (pss_one (ps_ret (pv 1)))), ?_⟩
  · refine ⟨fun pins s' σ H' D I h' => ?_⟩
    obtain ⟨Ech, hW, h1, h2, h3⟩ := h'
    exact (pss_one (ps_expr (act W pn xe Ech _ _ tk hW))).run pins s' σ H' D I ⟨h1, h2, h3⟩
  · refine ⟨heardX T Q, ?_, rfl, hc, h _⟩
    intro cls d σ' H' hx hlen
    obtain ⟨dd, v, rfl, hd, hx⟩ := hx
    obtain ⟨x0, x1, x2, rfl⟩ : ∃ x0 x1 x2, σ' = [x0, x1, x2] := by
      match σ', hlen with
      | [x0, x1, x2], _ => exact ⟨x0, x1, x2, rfl⟩
    rcases hx with ⟨rfl, k⟩ | ⟨rfl, k⟩
    · refine ⟨true, T.xbb, fun _ a na => ?_, fun z => nomatch z⟩
      refine ⟨_, rfl, rfl, rfl, dd, _, v, rfl, hd, rfl, (by show 2 ≤ sizeLine; decide), fun p np => ?_⟩
      exact ⟨_, rfl, k p np⟩
    · refine ⟨false, T.xmb, (fun z => nomatch z), fun _ => ⟨true, T.xmm, fun _ a na => ?_, fun z => nomatch z⟩⟩
      refine ⟨_, rfl, rfl, rfl, dd, _, v, rfl, hd, rfl, (by show 2 ≤ sizeLine; decide), fun p np => ?_⟩
      exact ⟨_, rfl, k p np⟩
end K01

set_option Elab.async false
set_option linter.all false
set_option maxRecDepth 100000
set_option maxHeartbeats 4000000
namespace K01
open PySem L2 SG
/-- the bowl goes on, the tables of code objects stay such -/
def spTab (Tb : List (Addr × Str)) (n : Int) : Sp := fun vs H Q _ => ∃ (b c : Addr) (ns : List Int) (t r : Int), vs = [.ref b] ∧ Bowl H b c ns t r ∧ t < 2 ^ 18 ∧ LamX.Tabs Tb H ∧
  ∀ (t' r' : Int) (H' : Hp), Bowl H' b c ns t' r' → t ≤ t' → t' ≤ t + n → LamX.Tabs Tb H' → Q (.bl true) H'
theorem tabs_but {Tb : List (Addr × Str)} {H H' : Hp} {b : Addr} {xs : List V} (h : LamX.Tabs Tb H) (hb : H b = some (.lst xs)) (x : But b H H') : LamX.Tabs Tb H' := fun p hp => by
  obtain ⟨ps, h1, h2, h3⟩ := h p hp
  refine ⟨ps, x _ _ (fun e => by rw [e, hb] at h1; cases h1) h1, h2, fun pos cv hc => ?_⟩
  obtain ⟨c, e1, e2⟩ := h3 pos cv hc
  refine ⟨c, e1, x _ _ (fun e => ?_) e2⟩
  rw [e, hb] at e2
  have z : HO.lst xs = LamX.CodeO b p.2 := Option.some.inj e2
  unfold LamX.CodeO at z
  cases z
theorem tabs_same {Tb : List (Addr × Str)} {H H' : Hp} (h : LamX.Tabs Tb H) (x : Same H H') : LamX.Tabs Tb H' := h.ext x
theorem bowl_ext {H H' : Hp} {b c : Addr} {ns : List Int} {t r : Int} (B : Bowl H b c ns t r) (x : LamX.ExtN H H') : Bowl H' b c ns t r :=
  ⟨x _ _ B.hb (fun ps z => by cases z), x _ _ B.hc (fun ps z => by cases z), B.ne, B.t0, B.r0⟩
def gN (is : List Int) : Nat := is.foldl (fun a i => Nat.gcd a i.natAbs) 0
theorem gN_from : ∀ (l : List Int) (a : Nat), l.foldl (fun a i => Nat.gcd a i.natAbs) a = Nat.gcd a (gN l)
  | [], a => (Nat.gcd_zero_right a).symm
  | x :: l, a => by
    unfold gN
    rw [List.foldl_cons, List.foldl_cons, gN_from l, gN_from l, Nat.gcd_zero_left, Nat.gcd_assoc]
theorem gN_cons (x : Int) (l : List Int) : gN (x :: l) = Nat.gcd x.natAbs (gN l) := by
  show (x :: l).foldl _ 0 = _
  rw [List.foldl_cons, gN_from, Nat.gcd_zero_left]
theorem gN_append : ∀ (l m : List Int), gN (l ++ m) = Nat.gcd (gN l) (gN m)
  | [], m => (Nat.gcd_zero_left _).symm
  | x :: l, m => by rw [List.cons_append, gN_cons, gN_append l m, gN_cons, Nat.gcd_assoc]
theorem gN_reverse : ∀ l : List Int, gN l.reverse = gN l
  | [] => rfl
  | x :: l => by
    rw [List.reverse_cons, gN_append, gN_reverse l, gN_cons, gN_cons, Nat.gcd_comm]
    congr 1
    exact Nat.gcd_zero_right _
theorem gcdI_gN (is : List Int) : gcdI is = (gN is : Int) := by
  have key : ∀ (l : List Int) (a : Nat), l.foldl (fun a i => ((Nat.gcd a.natAbs i.natAbs : Nat) : Int)) (a : Int) = ((l.foldl (fun a i => Nat.gcd a i.natAbs) a : Nat) : Int) := by
    intro l
    induction l with
    | nil => exact fun a => rfl
    | cons x l ih => exact fun a => ih (Nat.gcd a x.natAbs)
  exact key is 0
theorem gcdI_reverse (is : List Int) : gcdI is.reverse = gcdI is := by rw [gcdI_gN, gcdI_gN, gN_reverse]
theorem gN_le {B : Nat} : ∀ {l : List Int}, (∀ i ∈ l, i.natAbs ≤ B) → gN l ≤ B
  | [], _ => Nat.zero_le _
  | x :: l, h => by
    rw [gN_cons]
    rcases Nat.eq_zero_or_pos x.natAbs with e | e
    · rw [e, Nat.gcd_zero_left]
      exact gN_le fun i m => h i (List.mem_cons_of_mem _ m)
    · exact Nat.le_trans (Nat.gcd_le_left _ e) (h x List.mem_cons_self)
theorem gcdI_log {is : List Int} (h : ∀ i ∈ is, i.natAbs ≤ 2 ^ 42) : (gcdI is).natAbs.log2 < 1920 := by
  rw [gcdI_gN, Int.natAbs_natCast]
  have h2 : (gN is).log2 < 43 := PySem.Flt.log2_lt_of (by decide) (Nat.lt_of_le_of_lt (gN_le h) (by decide))
  omega
theorem gcdD_list (is : List Int) : gcdD (.list (is.map PyData.int)) = gcdI is := gcdL_ints is
theorem gcdD_tuple (is : List Int) : gcdD (.tuple (is.map PyData.int)) = gcdI is := gcdL_ints is
theorem areI_ints (is : List Int) : (is.map PyData.int).all isI = true := by
  rw [List.all_map, List.all_eq_true]
  exact fun _ _ => rfl
theorem eqvInts (is : List Int) : PyData.eqv (.list (is.map PyData.int)) (.list (is.map PyData.int)) = true := SeqAt.eqv_refl _ (by simp [PyData.canLay0, canInts])
def mfD : PyData := .tuple [.str "misfit", .str "number"]
theorem mf_eqv : PyData.eqv mfD mfD = true := SeqAt.eqv_refl _ (by decide +kernel)
theorem mf_shaped : SeqAt.shaped mfD = true := by decide +kernel
theorem iteNo {A B : Prop} (hB : B) : if (!true) = true then A else B := hB

section
variable {P : Program} {w : World} {K : PySem.W.Frag} {mg : Str → Option Value} {base : Heap}
theorem ok_l_divisors_right (T : Ty K mg) {f cD PD : Addr} {oc kV doc pm ct : Value} {an od : Option Addr} {osl : Array (Option Value)} (lk : K.lookup f = some ⟨oc, od, .func (PySem.W.fnOf "_law_divisors_right" "_law_divisors_right" (defArgs s_l_divisors_right) (defBody s_l_divisors_right) (defScope s_l_divisors_right) .none kV doc pm an (.ref cD) ct), osl⟩)
    (hcd : PySem.W.codeIn K (.ref cD) "_law_divisors_right" = true) (TB : LamX.TabB base mg cD PD) {Tb : List (Addr × Str)} (hmT : (PD, ("_law_divisors_right.<locals>.<lambda>" : Str)) ∈ Tb) (huT : ∀ p ∈ Tb, p.1 = PD → p.2 = ("_law_divisors_right.<locals>.<lambda>" : Str)) :
    FnOk P w K mg base CX0 6 f (PySem.W.fnOf "_law_divisors_right" "_law_divisors_right" (defArgs s_l_divisors_right) (defBody s_l_divisors_right) (defScope s_l_divisors_right) .none kV doc pm an (.ref cD) ct) ["bowl"] (spTab Tb 60) := by
  obtain ⟨ocH, odH, kVH, docH, pmH, anH, cdH, ctH, oslH, efH, lkH, hcH⟩ := T.d_l_heard.F.ex
  have hbH := T.d_l_heard.b
  rw [efH] at hbH lkH
  refine fn_of lk hcd sc_l_divisors_right (fun vs H Q E h => ?_) fun A outer s H vs Q E hr h => ?_
  · obtain ⟨b, c, ns, t, r, rfl, _⟩ := h
    rfl
  · obtain ⟨b, c, ns, t, r, rfl, B0, ht, tabs, k⟩ := h
    suffices hh : ∃ t, PSs (cxOf CX0 P w K mg base ["bowl", "by", "some", "kept", "prime", "number", "due", "turn", "its"] "_law_divisors_right" (defScope s_l_divisors_right) f (.ref cD) A outer s H E).nox (defBody s_l_divisors_right) t ∧ t { nx := fun _ H' => Q .non H', rt := Q } (start ["bowl", "by", "some", "kept", "prime", "number", "due", "turn", "its"] [.ref b]) H by
      obtain ⟨t, h1, h2⟩ := hh
      exact ⟨t, h1.nox, h2⟩
    refine ⟨_, (pss_cons (ps_set (i := 1) sc_l_divisors_right.nd rfl (Or.inr rfl) (pe_call (ok_choose T.toTx T.d_l_choose.F) (hr.mono (by decide)) rfl T.d_l_choose.m T.d_l_choose.k T.d_l_choose.b .nil pass0 (pa_cons (pv 0) (pa_cons (pe_lst (pa_cons pe_int (pa_cons pe_int (pa_cons pe_int (pa_cons pe_int (pa_cons (pe_op op_add (pe_op op_pow pe_int pe_int) pe_int) (pa_cons pe_int pa_nil))))))) pa_nil))))
  (pss_cons (ps_setLc (i := 2) (own := [("turn", 7)]) (g := (gName 7)) (tt := tYes) rfl sc_l_divisors_right.nd rfl rfl (sw_true rfl rfl (by rfl) (by decide +kernel)) (pi_range1 (by rfl) T.nm.n_range (pa_cons (pe_call (ok_dip T.nm T.d_l_dip.F) (hr.mono (by decide)) rfl T.d_l_dip.m T.d_l_dip.k T.d_l_dip.b .nil pass0 (pa_cons (pv 0) (pa_cons pe_int pa_nil))) pa_nil)) (blkOk_by (N := ["bowl", "by", "some", "kept", "prime", "number", "due", "turn", "its"]) (sc := defScope s_l_divisors_right) (by decide +kernel)) (fun _ _ _ _ _ => pg_name (i := 7) sc_l_divisors_right.nd rfl (Or.inl rfl)) (fun _ _ _ _ _ => pts_nil) (fun _ _ _ _ _ => (pe_op op_mul (pv 1) (pe_op op_sub (pe_call (ok_dip T.nm T.d_l_dip.F) (hr.mono (by decide)) rfl T.d_l_dip.m T.d_l_dip.k T.d_l_dip.b .nil pass0 (pa_cons (pv 0) (pa_cons pe_int pa_nil))) pe_int))))
  (pss_cons (ps_set (i := 3) sc_l_divisors_right.nd rfl (Or.inl rfl) (pe_callTy call_list_of (by rfl) T.nm.n_list (by decide +kernel) (pa_cons (pv 2) pa_nil)))
  (pss_cons (ps_if (PW.pt (pw_or (pt_cmpR op_ne (pe_callB call_repr0 (by rfl) T.nm.n_repr (by decide +kernel) (pa_cons (pe_callK0 (ok_common_divisor T T.d_common_divisor.F) (hr.mono (by decide)) rfl T.d_common_divisor.m T.d_common_divisor.k (kn_common_divisor_values T.d_common_divisor.F) passL (pk_cons (pv 2) pk_nil)) pa_nil)) (pe_callB call_repr0 (by rfl) T.nm.n_repr (by decide +kernel) (pa_cons (pe_call (ok_l_measure T.toTx T.d_l_measure.F) (hr.mono (by decide)) rfl T.d_l_measure.m T.d_l_measure.k T.d_l_measure.b .nil pass0 (pa_cons (pv 2) pa_nil)) pa_nil)) (nomark _)) (pw_or (pt_cmpR op_ne (pe_call (ok_common_divisor T T.d_common_divisor.F) (hr.mono (by decide)) rfl T.d_common_divisor.m T.d_common_divisor.k T.d_common_divisor.b .nil passL (pa_cons (pe_callTy call_tuple_of (by rfl) T.nm.n_tuple (by decide +kernel) (pa_cons (pe_revL (pv 2)) pa_nil)) pa_nil)) (pe_call (ok_l_measure T.toTx T.d_l_measure.F) (hr.mono (by decide)) rfl T.d_l_measure.m T.d_l_measure.k T.d_l_measure.b .nil pass0 (pa_cons (pv 2) pa_nil)) (nomark _)) (pw_or1 (pt_cmpR (op_neD hr.units) (pv 2) (pv 3) (nomark _))))))
  (pss_one (ps_ret pe_bl))
  pss_nil)
  (pss_cons (ps_set (i := 4) sc_l_divisors_right.nd rfl (Or.inr rfl) (pe_call (ok_choose T.toTx T.d_l_choose.F) (hr.mono (by decide)) rfl T.d_l_choose.m T.d_l_choose.k T.d_l_choose.b .nil pass0 (pa_cons (pv 0) (pa_cons (pe_lst (pa_cons pe_int (pa_cons pe_int (pa_cons pe_int (pa_cons pe_int (pa_cons pe_int (pa_cons pe_int pa_nil))))))) pa_nil))))
  (pss_cons (ps_set (i := 5) sc_l_divisors_right.nd rfl (Or.inr rfl) (pe_call (ok_choose T.toTx T.d_l_choose.F) (hr.mono (by decide)) rfl T.d_l_choose.m T.d_l_choose.k T.d_l_choose.b .nil pass0 (pa_cons (pv 0) (pa_cons (pe_lst (pa_cons (pe_op op_sub (pe_call (ok_dip T.nm T.d_l_dip.F) (hr.mono (by decide)) rfl T.d_l_dip.m T.d_l_dip.k T.d_l_dip.b .nil pass0 (pa_cons (pv 0) (pa_cons pe_int pa_nil))) pe_int) (pa_cons (pe_op op_add (pe_op op_pow pe_int pe_int) (pe_call (ok_dip T.nm T.d_l_dip.F) (hr.mono (by decide)) rfl T.d_l_dip.m T.d_l_dip.k T.d_l_dip.b .nil pass0 (pa_cons (pv 0) (pa_cons pe_int pa_nil)))) (pa_cons (pe_op op_sub (pe_un un_neg (pe_op op_pow pe_int pe_int)) (pe_call (ok_dip T.nm T.d_l_dip.F) (hr.mono (by decide)) rfl T.d_l_dip.m T.d_l_dip.k T.d_l_dip.b .nil pass0 (pa_cons (pv 0) (pa_cons pe_int pa_nil)))) pa_nil)))) pa_nil))))
  (pss_cons (ps_setLc (i := 6) (own := [("its", 8)]) (g := (gName 8)) rfl sc_l_divisors_right.nd rfl rfl (sw_true rfl rfl (by rfl) (by decide +kernel)) (pi_range2 (by rfl) T.nm.n_range (pa_cons pe_int (pa_cons (pv 4) pa_nil))) (blkOk_by (N := ["bowl", "by", "some", "kept", "prime", "number", "due", "turn", "its"]) (sc := defScope s_l_divisors_right) (by decide +kernel)) (fun _ _ _ _ _ => pg_name (i := 8) sc_l_divisors_right.nd rfl (Or.inl rfl)) (fun _ _ _ _ _ => pts_one (pt_cmpR op_eq (pe_op op_mod (pe_callTy (T := "int") call_int1 (by rfl) T.nm.n_int (by decide +kernel) (pa_cons (pe_op op_mul (pv 8) (pv 5)) pa_nil)) (pv 4)) pe_int (nomark _))) (fun _ _ _ _ _ => (pv 8)))
  (pss_cons (ps_if (pt_cmpR op_eq (pe_op op_mod (pe_callTy call_int1 (by rfl) T.nm.n_int (by decide +kernel) (pa_cons (pv 5) pa_nil)) (pv 4)) pe_int (nomark _))
  (pss_one (ps_ret (pe_cmpR (op_eqD hr.units) (LamX.pe_lamcall (T := Tb) (TT := TTh T) (Ng := ["ask", "found", "error"]) (k := 3) rfl T.d_l_heard.m T.d_l_heard.k lkH hcH hbH sc_l_heard rfl (Or.inl rfl) (heard_gives T rfl rfl) TB rfl hmT huT hr (LamX.lamS_by (by kernel_rfl)) rfl (fun _ _ _ _ _ => rfl) (fun A outer s H E f c' hr2 => pe_callS (ok_over T T.d_over.F) hr2 rfl T.d_over.m T.d_over.k T.d_over.b (fun σ => passAt (takes_of rfl rfl rfl rfl) σ) (pa_cons (pv 5) (pa_cons (pv 4) pa_nil)))) (pe_tup (pa_cons pe_str (pa_cons pe_str pa_nil))) (nomark _))))
  pss_nil)
  (pss_one (ps_ret (pe_and (pe_cmpR op_eq (pe_callB call_len_seq (by rfl) T.nm.n_len (by decide +kernel) (pa_cons (pv 6) pa_nil)) pe_int (nomark _)) (pe_one (pe_cmpR op_eq (pe_callB call_repr0 (by rfl) T.nm.n_repr (by decide +kernel) (pa_cons (pe_callK0 (ok_over T T.d_over.F) (hr.mono (by decide)) rfl T.d_over.m T.d_over.k (kn_over_by_number T.d_over.F) passL (pk_cons (pv 4) (pk_cons (pv 5) pk_nil))) pa_nil)) (pe_callB call_repr0 (by rfl) T.nm.n_repr (by decide +kernel) (pa_cons (pe_ix ix_list (pv 6) pe_int (fun _ _ => rfl)) pa_nil)) (nomark _)))))))))))))), ?_⟩
    have fold : ∀ {n : Int} {t' r' : Int} {H' : Hp}, Aft n H H' b c ns t t' r' → LamX.Tabs Tb H' := fun x => tabs_but tabs B0.hb x.but
    -- by
    refine cut (fun σ' H' => ∃ by' t' r', σ' = [some (.ref b), some (.int by'), none, none, none, none, none, none, none] ∧ by'.natAbs ≤ 1000000007 ∧ Aft 1 H H' b c ns t t' r') ?_ ?_
    rotate_left
    · intro nx hnx
      refine ⟨_, rfl, _, _, rfl, rfl, ⟨by decide, by decide, by decide⟩, _, _, rfl, rfl, (by show 6 ≤ sizeLine; decide), fun p hp => ?_⟩
      have y := (Aft.refl B0).new hp (o := .lst [.int 1, .int 2, .int 6, .int 35, .int (10 ^ ((9 : Int)).toNat + 7), .int 0])
      refine ⟨b, c, ns, t, r, p, _, rfl, y.bowl, by omega, SqL.of upd_same, B0.apart hp, by show 0 < 6; decide, by show 6 ≤ 1000; decide, fun v t2 r2 H2 hv x2 => ?_⟩
      have hv' : v = .int 1 ∨ v = .int 2 ∨ v = .int 6 ∨ v = .int 35 ∨ v = .int (10 ^ ((9 : Int)).toNat + 7) ∨ v = .int 0 := by simpa using hv
      have yy := y.trans x2
      rcases hv' with rfl | rfl | rfl | rfl | rfl | rfl
      · exact hnx _ _ ⟨_, t2, r2, rfl, by decide, yy⟩
      · exact hnx _ _ ⟨_, t2, r2, rfl, by decide, yy⟩
      · exact hnx _ _ ⟨_, t2, r2, rfl, by decide, yy⟩
      · exact hnx _ _ ⟨_, t2, r2, rfl, by decide, yy⟩
      · exact hnx _ _ ⟨_, t2, r2, rfl, by decide, yy⟩
      · exact hnx _ _ ⟨_, t2, r2, rfl, by decide, yy⟩
    rintro σ' H1 ⟨by', t1, r1, rfl, hby, x1⟩
    have h1 := x1.hi
    -- some
    refine cut (fun σ' H' => ∃ (L : Addr) (is : List Int) (t' r' : Int), σ' = [some (.ref b), some (.int by'), some (.ref L), none, none, none, none, none, none] ∧ L ≠ b ∧ H' L = some (.lst (is.map V.int)) ∧ is.length ≤ 4 ∧ (∀ i ∈ is, i.natAbs ≤ 2 ^ 42) ∧ Aft 10 H H' b c ns t t' r') ?_ ?_
    rotate_left
    · intro nx hnx
      refine ⟨_, rfl, b, c, ns, t1, r1, 5, rfl, by decide, by decide, x1.bowl, by omega, fun n t2 r2 H2 n0 n5 x2 => ?_⟩
      have h2 := x2.hi
      refine ⟨n, rfl, by omega, by omega, fun L hL => ?_⟩
      have nL : L ≠ b := x2.bowl.apart hL
      refine lc_range (n := n.toNat) (fun (j : Nat) H' => ∃ (is : List Int) (t' r' : Int), Aft (j : Int) H2 H' b c ns t2 t' r' ∧ H' L = some (.lst (is.map V.int)) ∧ is.length = j ∧ ∀ i ∈ is, i.natAbs ≤ 2 ^ 42) ⟨[], t2, r2, (Aft.refl x2.bowl).put x2.bowl hL, upd_same, rfl, fun i m => nomatch m⟩ ?_ ?_
      · rintro j H' hj ⟨is, t', r', x, q, l, bd⟩
        have hx := x.hi
        dsimp only [gName]
        refine ⟨rfl, ?_⟩
        refine ⟨_, rfl, _, rfl, b, c, ns, t', r', 2001, rfl, by decide, by decide, x.bowl, by omega, fun v t3 r3 H3 v0 v1 x3 => ?_⟩
        refine ⟨_, _, rfl, rfl, _, _, rfl, rfl, .inl ⟨by omega, by omega⟩, ?_⟩
        refine ⟨_, x3.but _ _ nL q, ?_, is ++ [by' * (v - 1000)], t3, r3, (x.trans x3).put x2.bowl hL, ?_, ?_, ?_⟩
        · rw [List.length_map, l]
          have : sizeLine = 16777216 := by decide
          omega
        · rw [upd_same, List.map_append]; rfl
        · rw [List.length_append, l]; rfl
        · intro i m
          rcases List.mem_append.mp m with m | m
          · exact bd i m
          · rw [List.mem_singleton.mp m, Int.natAbs_mul]
            refine Nat.le_trans (Nat.mul_le_mul hby (show (v - 1000).natAbs ≤ 1000 by omega)) (by decide)
      · rintro H' ⟨is, t', r', x, q, l, bd⟩
        exact hnx _ _ ⟨L, is, t', r', rfl, nL, q, by omega, bd, ((x1.trans x2).trans x).le (by omega)⟩
    rintro σ' H2 ⟨L, is, t2, r2, rfl, nL, qL, lL, bd, x2⟩
    have h2 := x2.hi
    -- kept
    refine cut (fun σ' H' => ∃ Lk, σ' = [some (.ref b), some (.int by'), some (.ref L), some (.ref Lk), none, none, none, none, none] ∧ Same H2 H' ∧ H' Lk = some (.lst (is.map V.int))) ?_ ?_
    rotate_left
    · intro nx hnx
      refine ⟨_, rfl, L, _, rfl, .inl (SqL.of qL), fun l hl => ?_⟩
      exact hnx _ _ ⟨l, rfl, newO hl, upd_same⟩
    rintro σ' H3 ⟨Lk, rfl, s3, qk⟩
    have qL3 := s3 _ _ qL
    refine cut (fun σ' H' => σ' = [some (.ref b), some (.int by'), some (.ref L), some (.ref Lk), none, none, none, none, none] ∧ Same H3 H') ?_ ?_
    rotate_left
    · intro nx hnx
      have small : (is.map V.int).length ≤ 1000 := by rw [List.length_map]; omega
      refine ⟨_, rfl, rfl, rfl, _, _, rfl, .lst (SqL.of qL3) small (intsDw is), fun _ G1 g1 => ?_, fun z => ?_⟩
      rotate_left
      · rw [show areI (.list (is.map PyData.int)) = true from areI_ints is] at z; cases z
      rw [gcdD_list]
      refine .inr (.inr ⟨_, rfl, gcdI_log bd, ?_⟩)
      refine ⟨_, rfl, L, is, rfl, SqL.of (g1 _ _ qL3), .inr (.inr ⟨_, rfl, gcdI_log bd, ?_⟩)⟩
      refine ⟨rfl, _, rfl, iteEq rfl ?_⟩
      refine ⟨_, rfl, L, _, rfl, SqL.of (g1 _ _ qL3), fun p hp => ?_⟩
      refine ⟨p, _, rfl, .inl ⟨SqL.of upd_same, fun l hl => ?_⟩⟩
      have g2 := (g1.trans (newO hp (o := .lst (is.map V.int).reverse))).trans (newO hl (o := .tup (is.map V.int).reverse))
      refine ⟨_, .tuple (is.reverse.map PyData.int), rfl, .tup (SqT.of upd_same) (by rw [List.length_reverse]; exact small) (by rw [← List.map_reverse]; exact intsDw is.reverse), fun _ G2 g3 => ?_, fun z => ?_⟩
      rotate_left
      · rw [show areI (.tuple (is.reverse.map PyData.int)) = true from areI_ints is.reverse] at z; cases z
      rw [gcdD_tuple, gcdI_reverse]
      have g4 := g2.trans g3
      refine ⟨_, rfl, L, is, rfl, SqL.of (g4 _ _ qL3), rfl, _, rfl, iteEq rfl ?_⟩
      refine ⟨_, rfl, _, rfl, _, _, .lst (SqL.of (g4 _ _ qL3)) (dpInts is), .lst (SqL.of (g4 _ _ qk)) (dpInts is), shapedInts is, shapedInts is, _, rfl, ?_⟩
      rw [eqvInts]
      exact hnx _ _ ⟨rfl, g4⟩
    rintro σ' H4 ⟨rfl, s4⟩
    have x4 := x2.ext (s3.trans s4)
    have h4 := x4.hi
    -- prime
    refine cut (fun σ' H' => ∃ p t' r', σ' = [some (.ref b), some (.int by'), some (.ref L), some (.ref Lk), some (.int p), none, none, none, none] ∧ byI (.int p) = true ∧ Aft 11 H H' b c ns t t' r') ?_ ?_
    rotate_left
    · intro nx hnx
      refine ⟨_, rfl, (by show 6 ≤ sizeLine; decide), fun p hp => ?_⟩
      have y := x4.new hp (o := .lst [.int 2, .int 3, .int 5, .int 7, .int 11, .int 13])
      refine ⟨b, c, ns, t2, r2, p, _, rfl, y.bowl, by omega, SqL.of upd_same, x4.bowl.apart hp, by show 0 < 6; decide, by show 6 ≤ 1000; decide, fun v t5 r5 H5 hv x5 => ?_⟩
      have hv' : v = .int 2 ∨ v = .int 3 ∨ v = .int 5 ∨ v = .int 7 ∨ v = .int 11 ∨ v = .int 13 := by simpa using hv
      have yy := y.trans x5
      rcases hv' with rfl | rfl | rfl | rfl | rfl | rfl
      · exact hnx _ _ ⟨_, t5, r5, rfl, by decide, yy⟩
      · exact hnx _ _ ⟨_, t5, r5, rfl, by decide, yy⟩
      · exact hnx _ _ ⟨_, t5, r5, rfl, by decide, yy⟩
      · exact hnx _ _ ⟨_, t5, r5, rfl, by decide, yy⟩
      · exact hnx _ _ ⟨_, t5, r5, rfl, by decide, yy⟩
      · exact hnx _ _ ⟨_, t5, r5, rfl, by decide, yy⟩
    rintro σ' H5 ⟨p, t5, r5, rfl, hp, x5⟩
    have h5 := x5.hi
    have pc := byI_cases hp
    have p0 : 0 < p := by omega
    -- number
    refine cut (fun σ' H' => ∃ n t' r', σ' = [some (.ref b), some (.int by'), some (.ref L), some (.ref Lk), some (.int p), some (.int n), none, none, none] ∧ Aft 15 H H' b c ns t t' r') ?_ ?_
    rotate_left
    · intro nx hnx
      refine ⟨_, rfl, _, rfl, b, c, ns, t5, r5, 40, rfl, by decide, by decide, x5.bowl, by omega, fun n1 t6 r6 H6 _ _ x6 => ?_⟩
      have h6 := x6.hi
      refine ⟨_, _, rfl, rfl, _, _, rfl, rfl, ⟨by decide, by decide, by decide⟩, _, rfl, b, c, ns, t6, r6, 40, rfl, by decide, by decide, x6.bowl, by omega, fun n2 t7 r7 H7 _ _ x7 => ?_⟩
      have h7 := x7.hi
      refine ⟨_, _, rfl, rfl, _, _, rfl, rfl, ⟨by decide, by decide, by decide⟩, _, rfl, _, rfl, b, c, ns, t7, r7, 40, rfl, by decide, by decide, x7.bowl, by omega, fun n3 t8 r8 H8 _ _ x8 => ?_⟩
      have h8 := x8.hi
      refine ⟨_, _, rfl, rfl, (by show 3 ≤ sizeLine; decide), fun q hq => ?_⟩
      have y := (((x5.trans x6).trans x7).trans x8).new hq (o := .lst [.int (n1 - 20), .int (10 ^ ((25 : Int)).toNat + n2), .int (-10 ^ ((9 : Int)).toNat - n3)])
      refine ⟨b, c, ns, t8, r8, q, _, rfl, y.bowl, by omega, SqL.of upd_same, x8.bowl.apart hq, by show 0 < 3; decide, by show 3 ≤ 1000; decide, fun v t9 r9 H9 hv x9 => ?_⟩
      obtain ⟨n, rfl⟩ : ∃ n, v = .int n := by
        have hv' : v = .int (n1 - 20) ∨ v = .int (10 ^ ((25 : Int)).toNat + n2) ∨ v = .int (-10 ^ ((9 : Int)).toNat - n3) := by simpa using hv
        rcases hv' with e | e | e
        · exact ⟨_, e⟩
        · exact ⟨_, e⟩
        · exact ⟨_, e⟩
      exact hnx _ _ ⟨n, t9, r9, rfl, (y.trans x9).le (by decide)⟩
    rintro σ' H6 ⟨n, t6, r6, rfl, x6⟩
    -- due
    refine cut (fun σ' H' => ∃ D, σ' = [some (.ref b), some (.int by'), some (.ref L), some (.ref Lk), some (.int p), some (.int n), some (.ref D), none, none] ∧ Same H6 H' ∧ H' D = some (.lst ((invL n p).map V.int))) ?_ ?_
    rotate_left
    · intro nx hnx
      refine ⟨_, rfl, 1, p, rfl, by omega, fun D hD => ?_⟩
      refine lc_range (lo := 1) (n := (p - 1).toNat) (fun j H' => Same H6 H' ∧ H' D = some (.lst ((invJ n p j).map V.int))) ⟨newO hD, upd_same⟩ ?_ ?_
      · intro j H' hj ⟨s, q⟩
        dsimp only [gName]
        refine ⟨rfl, ?_⟩
        refine ⟨_, rfl, _, rfl, _, _, rfl, rfl, .inl ⟨by omega, by omega⟩, .inl ⟨_, rfl, _, rfl, _, _, rfl, rfl, p0, rfl, _, rfl, ?_⟩⟩
        rw [eqInt, Int.mul_comm (1 + (j : Int)) n]
        refine ite2 (fun cj => ?_) (fun cj => ?_)
        · refine ⟨_, rfl, _, q, ?_, set_new hD s, ?_⟩
          · rw [List.length_map]
            have := invJ_len n p j
            have : sizeLine = 16777216 := by decide
            omega
          · rw [upd_same, invJ_succ, if_pos cj, List.map_append]
            rfl
        · refine ⟨s, ?_⟩
          rw [invJ_succ, if_neg cj, List.append_nil]
          exact q
      · rintro H' ⟨s, q⟩
        exact hnx _ _ ⟨D, rfl, s, q⟩
    rintro σ' H7 ⟨D, rfl, s7, qD⟩
    have x7 := x6.ext s7
    refine ⟨_, rfl, .inl ⟨_, rfl, _, rfl, _, _, rfl, rfl, p0, rfl, _, rfl, ?_⟩⟩
    rw [eqInt]
    refine ite2 (fun cz => ?_) (fun cz => ?_)
    · have z0 : n % p = 0 := of_decide_eq_true cz
      refine ⟨fold x7, fun G1 eG tG => ?_⟩
      have BG := bowl_ext x7.bowl eG
      intro R
      refine ⟨_, rfl, _, rfl, .int n, .int n, .int p, .int p, rfl, .int n, .int p, (fun z => nomatch z), fun _ z => ?_, fun n' p' e1 e2 hb => ?_⟩
      · rw [hp] at z; cases z
      cases e1
      cases e2
      refine ⟨fun _ dd G2 g2 q2 => ?_, fun nz => absurd z0 nz⟩
      refine ⟨dd, .str "number", rfl, q2, .inr ⟨rfl, fun p1 n1 => ?_⟩⟩
      have q1 : (upd G2 p1 (.tup [.str "misfit", .str "number"])) p1 = some (.tup [.str "misfit", .str "number"]) := upd_same
      have g3 := g2.trans (newO n1 (o := .tup [.str "misfit", .str "number"]))
      generalize upd G2 p1 (.tup [.str "misfit", .str "number"]) = G3 at q1 g3 ⊢
      refine ⟨(by show 2 ≤ sizeLine; decide), fun p2 n2 => ?_⟩
      have g4 := newO n2 (o := .tup [.str "misfit", .str "number"])
      refine ⟨mfD, mfD, .tup (SqT.of (g4 _ _ q1)) (.cons (.str _) (.cons (.str _) .nil)), .tup (SqT.of upd_same) (.cons (.str _) (.cons (.str _) .nil)), mf_shaped, mf_shaped, ?_⟩
      rw [mf_eqv]
      have g5 := g3.trans g4
      exact k _ _ _ (BG.same g5) x7.lo (by have := x7.hi; omega) (tabs_same tG g5)
    · have nz : ¬ n % p = 0 := fun z => cz (decide_eq_true z)
      have one := inv_one hp nz
      obtain ⟨i, hi⟩ : ∃ i, invL n p = [i] := List.length_eq_one_iff.mp one
      rw [hi] at qD
      refine ⟨_, rfl, D, _, rfl, .inl (SqL.of qD), rfl, _, rfl, ?_⟩
      refine ⟨_, rfl, _, rfl, rfl, rfl, .int n, .int n, .int p, .int p, rfl, .int n, .int p, (fun z => nomatch z), fun _ z => ?_, fun n' p' e1 e2 hb => ?_⟩
      · rw [hp] at z; cases z
      cases e1
      cases e2
      refine ⟨fun z => absurd z nz, fun _ G1 i' g1 e => ?_⟩
      rw [hi] at e
      cases e
      have ib : i.natAbs.log2 < 1920 := by
        have m : i ∈ invL n p := by rw [hi]; exact List.mem_singleton.mpr rfl
        unfold invL invJ at m
        obtain ⟨j, hj, rfl⟩ := List.mem_map.mp (List.mem_filter.mp m).1
        have := List.mem_range.mp hj
        have h5' : (1 + (j : Int)).natAbs.log2 < 5 := PySem.Flt.log2_lt_of (by decide) (show (1 + (j : Int)).natAbs < 2 ^ 5 by omega)
        omega
      refine .inr (.inr ⟨_, rfl, ib, ?_⟩)
      refine ⟨_, rfl, D, _, _, _, rfl, rfl, SqL.of (g1 _ _ qD), rfl, .inr (.inr ⟨_, rfl, ib, rfl, ?_⟩)⟩
      have y := x7.ext g1
      exact retEq (Q := Q) rfl (k _ _ _ y.bowl y.lo (by have := y.hi; omega) (fold y))

end
end K01

set_option Elab.async false
set_option linter.all false
set_option maxRecDepth 100000
set_option maxHeartbeats 4000000
namespace K01
open PySem L2 SG
mutual
theorem Dw.ext {K : PySem.W.Frag} {H H' : Hp} (s : LamX.ExtN H H') : ∀ (d : PyData) (v : V), Dw K H v d → Dw K H' v d
  | .none, _, h => by cases h; exact .non
  | .bool _, _, h => by cases h; exact .bl _
  | .int _, _, h => by cases h; exact .int _
  | .str _, _, h => by cases h; exact .str _
  | .list ds, _, h => by
    cases h with
    | lst hs hl ha =>
      refine .lst ?_ hl (DwAll.ext s ds _ ha)
      rcases hs with (q | ⟨o, q⟩) | q
      · exact .inl (.inl (s _ _ q fun ps z => by cases z))
      · exact .inl (.inr ⟨o, s _ _ q fun ps z => by cases z⟩)
      · exact .inr q
  | .tuple ds, _, h => by
    cases h with
    | tup hs hl ha =>
      refine .tup ?_ hl (DwAll.ext s ds _ ha)
      rcases hs with (q | ⟨o, q⟩) | q
      · exact .inl (.inl (s _ _ q fun ps z => by cases z))
      · exact .inl (.inr ⟨o, s _ _ q fun ps z => by cases z⟩)
      · exact .inr q
  | .dict _, _, h => by
    cases h with
    | dic hs => exact .dic (s _ _ hs fun ps z => by cases z)
theorem DwAll.ext {K : PySem.W.Frag} {H H' : Hp} (s : LamX.ExtN H H') : ∀ (ds : List PyData) (vs : List V), DwAll K H vs ds → DwAll K H' vs ds
  | [], _, h => by cases h; exact .nil
  | d :: ds, _, h => by
    cases h with
    | cons h1 h2 => exact .cons (Dw.ext s d _ h1) (DwAll.ext s ds _ h2)
end
theorem away_ext {H H' : Hp} {b : Addr} (x : LamX.ExtN H H') : LamX.ExtN (away H b) (away H' b) := fun a o q n => by
  by_cases e : a = b
  · rw [e, away_b] at q; cases q
  · rw [away_ne e] at q ⊢; exact x a o q n
theorem Dx.ext {K : PySem.W.Frag} {H H' : Hp} {b : Addr} {v : V} {d : PyData} (h : Dx K H b v d) (x : LamX.ExtN H H') : Dx K H' b v d := Dw.ext (away_ext x) _ _ h
def refD : PyData := .list [.tuple [.str "number", .str "number"], .tuple [.str "number", .str "by"], .tuple [.str "number", .str "values"]]
theorem ref_eqv : PyData.eqv refD refD = true := SeqAt.eqv_refl _ (by decide +kernel)
theorem ref_shaped : SeqAt.shaped refD = true := by decide +kernel

section
variable {P : Program} {w : World} {K : PySem.W.Frag} {mg : Str → Option Value} {base : Heap}
theorem ok_l_refused_right (T : Ty K mg) {f cD PD : Addr} {oc kV doc pm ct : Value} {an od : Option Addr} {osl : Array (Option Value)} (lk : K.lookup f = some ⟨oc, od, .func (PySem.W.fnOf "_law_refused_right" "_law_refused_right" (defArgs s_l_refused_right) (defBody s_l_refused_right) (defScope s_l_refused_right) .none kV doc pm an (.ref cD) ct), osl⟩)
    (hcd : PySem.W.codeIn K (.ref cD) "_law_refused_right" = true) (TB : LamX.TabB base mg cD PD) {Tb : List (Addr × Str)} (hmT : (PD, ("_law_refused_right.<locals>.<lambda>" : Str)) ∈ Tb) (huT : ∀ p ∈ Tb, p.1 = PD → p.2 = ("_law_refused_right.<locals>.<lambda>" : Str)) :
    FnOk P w K mg base CX0 6 f (PySem.W.fnOf "_law_refused_right" "_law_refused_right" (defArgs s_l_refused_right) (defBody s_l_refused_right) (defScope s_l_refused_right) .none kV doc pm an (.ref cD) ct) ["bowl"] (spTab Tb 60) := by
  obtain ⟨ocH, odH, kVH, docH, pmH, anH, cdH, ctH, oslH, efH, lkH, hcH⟩ := T.d_l_heard.F.ex
  have hbH := T.d_l_heard.b
  rw [efH] at hbH lkH
  refine fn_of lk hcd sc_l_refused_right (fun vs H Q E h => ?_) fun A outer s H vs Q E hr h => ?_
  · obtain ⟨b, c, ns, t, r, rfl, _⟩ := h
    rfl
  · obtain ⟨b, c, ns, t, r, rfl, B0, ht, tabs, k⟩ := h
    suffices hh : ∃ t, PSs (cxOf CX0 P w K mg base ["bowl", "odd", "bad", "heard"] "_law_refused_right" (defScope s_l_refused_right) f (.ref cD) A outer s H E).nox (defBody s_l_refused_right) t ∧ t { nx := fun _ H' => Q .non H', rt := Q } (start ["bowl", "odd", "bad", "heard"] [.ref b]) H by
      obtain ⟨t, h1, h2⟩ := hh
      exact ⟨t, h1.nox, h2⟩
    refine ⟨_, (pss_cons (ps_asg (pe_tup (pa_cons (pe_call (ok_choose T.toTx T.d_l_choose.F) (hr.mono (by decide)) rfl T.d_l_choose.m T.d_l_choose.k T.d_l_choose.b .nil pass0 (pa_cons (pv 0) (pa_cons (pe_lst (pa_cons pe_non (pa_cons pe_bl (pa_cons pe_str (pa_cons (pe_lst (pa_cons pe_int pa_nil)) (pa_cons (pe_tup (pa_cons pe_int (pa_cons pe_int pa_nil))) (pa_cons pe_dnewK pa_nil))))))) pa_nil))) (pa_cons (pe_call (ok_choose T.toTx T.d_l_choose.F) (hr.mono (by decide)) rfl T.d_l_choose.m T.d_l_choose.k T.d_l_choose.b .nil pass0 (pa_cons (pv 0) (pa_cons (pe_lst (pa_cons pe_int (pa_cons pe_int (pa_cons pe_int (pa_cons pe_int (pa_cons pe_int (pa_cons (pe_un un_neg pe_int) (pa_cons pe_non (pa_cons pe_bl (pa_cons pe_str (pa_cons (pe_lst (pa_cons pe_int pa_nil)) (pa_cons (pe_op op_pow pe_int pe_int) pa_nil)))))))))))) pa_nil))) pa_nil))) (pg_tup (by rfl) (pgs_cons (pg_name (i := 1) sc_l_refused_right.nd rfl (Or.inr rfl)) (pgs_cons (pg_name (i := 2) sc_l_refused_right.nd rfl (Or.inr rfl)) pgs_nil))))
  (pss_cons (ps_set (i := 3) sc_l_refused_right.nd rfl (Or.inl rfl) (pe_lst (pa_cons (LamX.pe_lamcall (T := Tb) (TT := TTh T) (Ng := ["ask", "found", "error"]) (k := 3) rfl T.d_l_heard.m T.d_l_heard.k lkH hcH hbH sc_l_heard rfl (Or.inl rfl) (heard_gives T rfl rfl) TB rfl hmT huT hr (LamX.lamS_by (by kernel_rfl)) rfl (fun _ _ _ _ _ => rfl) (fun A outer s H E f c' hr2 => pe_callS (ok_over T T.d_over.F) hr2 rfl T.d_over.m T.d_over.k T.d_over.b (fun σ => passAt (takes_of rfl rfl rfl rfl) σ) (pa_cons (pv 1) (pa_cons (pv 2) pa_nil)))) pa_nil)))
  (pss_cons (ps_expr (pe_bm PySem.F.plainAttrs_list PySem.F.slot_list_append PySem.F.type_list_append mt_append (pv 3) (pa_cons (LamX.pe_lamcall (T := Tb) (TT := TTh T) (Ng := ["ask", "found", "error"]) (k := 3) rfl T.d_l_heard.m T.d_l_heard.k lkH hcH hbH sc_l_heard rfl (Or.inl rfl) (heard_gives T rfl rfl) TB rfl hmT huT hr (LamX.lamS_by (by kernel_rfl)) rfl (fun _ _ _ _ _ => rfl) (fun A outer s H E f c' hr2 => pe_callS (ok_over T T.d_over.F) hr2 rfl T.d_over.m T.d_over.k T.d_over.b (fun σ => passAt (takes_of rfl rfl rfl rfl) σ) (pa_cons pe_int (pa_cons (pv 2) pa_nil)))) pa_nil)))
  (pss_cons (ps_expr (pe_bm PySem.F.plainAttrs_list PySem.F.slot_list_append PySem.F.type_list_append mt_append (pv 3) (pa_cons (LamX.pe_lamcall (T := Tb) (TT := TTh T) (Ng := ["ask", "found", "error"]) (k := 3) rfl T.d_l_heard.m T.d_l_heard.k lkH hcH hbH sc_l_heard rfl (Or.inl rfl) (heard_gives T rfl rfl) TB rfl hmT huT hr (LamX.lamS_by (by kernel_rfl)) rfl (fun _ _ _ _ _ => rfl) (fun A outer s H E f c' hr2 => pe_callS (ok_common_divisor T T.d_common_divisor.F) hr2 rfl T.d_common_divisor.m T.d_common_divisor.k T.d_common_divisor.b (fun σ => passAt (takes_of rfl rfl rfl rfl) σ) (pa_cons (pe_call (ok_choose T.toTx T.d_l_choose.F) (hr2.mono (by decide)) rfl T.d_l_choose.m T.d_l_choose.k T.d_l_choose.b .nil pass0 (pa_cons (pv 0) (pa_cons (pe_lst (pa_cons pe_non (pa_cons pe_int (pa_cons pe_str (pa_cons pe_dnewK (pa_cons (pe_lst (pa_cons pe_int (pa_cons pe_non pa_nil))) (pa_cons (pe_lst (pa_cons pe_bl pa_nil)) (pa_cons (pe_tup (pa_cons pe_int (pa_cons pe_str pa_nil))) (pa_cons (pe_lst (pa_cons (pe_lst (pa_cons pe_int pa_nil)) pa_nil)) (pa_cons (pe_disp (pps_cons pe_int pe_int pps_nil) (by rfl) (by rfl) (fun z => by cases z) (by decide)) pa_nil)))))))))) pa_nil))) pa_nil))) pa_nil)))
  (pss_one (ps_ret (pe_cmpR (op_eqD hr.units) (pv 3) (pe_lst (pa_cons (pe_tup (pa_cons pe_str (pa_cons pe_str pa_nil))) (pa_cons (pe_tup (pa_cons pe_str (pa_cons pe_str pa_nil))) (pa_cons (pe_tup (pa_cons pe_str (pa_cons pe_str pa_nil))) pa_nil)))) (nomark _)))))))), ?_⟩
    have fold : ∀ {n : Int} {t' r' : Int} {H' : Hp}, Aft n H H' b c ns t t' r' → LamX.Tabs Tb H' := fun x => tabs_but tabs B0.hb x.but
    refine cut (fun σ' H' => ∃ ov bv d e t' r', σ' = [some (.ref b), some ov, some bv, none] ∧ Dx K H' b ov d ∧ isI d = false ∧ Dx K H' b bv e ∧ byI e = false ∧ Aft 2 H H' b c ns t t' r') ?_ ?_
    rotate_left
    · intro nx hnx
      refine ⟨_, rfl, (by show 1 ≤ sizeLine; decide), fun p1 n1 => ?_⟩
      have y1 := (Aft.refl B0).new n1 (o := .lst [.int 3])
      have q1 : (upd H p1 (.lst [.int 3])) p1 = some (.lst [.int 3]) := upd_same
      have m1 := B0.apart n1
      generalize upd H p1 (.lst [.int 3]) = G1 at y1 q1 ⊢
      refine ⟨(by show 2 ≤ sizeLine; decide), fun p2 n2 p3 n3 => ?_⟩
      have y2 := y1.new n2 (o := .tup [.int 1, .int 2])
      have m2 := y1.bowl.apart n2
      have q2 : (upd G1 p2 (.tup [.int 1, .int 2])) p2 = some (.tup [.int 1, .int 2]) := upd_same
      have z2 := newO n2 (o := .tup [.int 1, .int 2])
      generalize upd G1 p2 (.tup [.int 1, .int 2]) = G2 at y2 q2 z2 n3 ⊢
      have y3 := y2.new n3 (o := .dK [])
      have m3 := y2.bowl.apart n3
      have q3 : (upd G2 p3 (.dK [])) p3 = some (.dK []) := upd_same
      have z3 := newO n3 (o := .dK [])
      generalize upd G2 p3 (.dK []) = G3 at y3 q3 z3 ⊢
      refine ⟨(by show 6 ≤ sizeLine; decide), fun p4 n4 => ?_⟩
      have y4 := y3.new n4 (o := .lst [.non, .bl true, .str "3", .ref p1, .ref p2, .ref p3])
      have m4 := y3.bowl.apart n4
      have z4 := newO n4 (o := .lst [.non, .bl true, .str "3", .ref p1, .ref p2, .ref p3])
      refine ⟨b, c, ns, t, r, p4, _, rfl, y4.bowl, by omega, SqL.of upd_same, m4, by show 0 < 6; decide, by show 6 ≤ 1000; decide, fun ov t2 r2 H2 hv x2 => ?_⟩
      have h2 := x2.hi
      have D1 : ∃ d, Dx K H2 b ov d ∧ isI d = false := by
        have hv' : ov = .non ∨ ov = .bl true ∨ ov = .str "3" ∨ ov = .ref p1 ∨ ov = .ref p2 ∨ ov = .ref p3 := by simpa using hv
        rcases hv' with e | e | e | e | e | e
        · rw [e]; exact ⟨_, .non, rfl⟩
        · rw [e]; exact ⟨_, .bl true, rfl⟩
        · rw [e]; exact ⟨_, .str _, rfl⟩
        · rw [e]; exact ⟨_, Dx.list (x2.but _ _ m1 (z4 _ _ (z3 _ _ (z2 _ _ q1)))) m1 (by show 1 ≤ 1000; decide) (.cons (.int 3) .nil), rfl⟩
        · rw [e]; exact ⟨_, Dx.tuple (x2.but _ _ m2 (z4 _ _ (z3 _ _ q2))) m2 (by show 2 ≤ 1000; decide) (.cons (.int 1) (.cons (.int 2) .nil)), rfl⟩
        · rw [e]; exact ⟨.dict [], .dic (by rw [away_ne m3]; exact x2.but _ _ m3 (z4 _ _ q3)), rfl⟩
      obtain ⟨d, Dd, fd⟩ := D1
      have x4 := y4.trans x2
      clear y1 y2 y3 y4 q1 q2 q3 z2 z3 z4
      refine ⟨_, rfl, 3, rfl, (by show 1 ≤ sizeLine; decide), fun a1 b1 => ?_⟩
      have w1 := x4.new b1 (o := .lst [.int 5])
      have e1 : (upd H2 a1 (.lst [.int 5])) a1 = some (.lst [.int 5]) := upd_same
      have l1 := x4.bowl.apart b1
      have g1 := newO b1 (o := .lst [.int 5])
      generalize upd H2 a1 (.lst [.int 5]) = G4 at w1 e1 g1 ⊢
      refine ⟨_, _, rfl, rfl, ⟨by decide, by decide, by decide⟩, (by show 11 ≤ sizeLine; decide), fun a2 b2 => ?_⟩
      have w2 := w1.new b2 (o := .lst [.int 0, .int 1, .int 4, .int 9, .int 17, .int (-3), .non, .bl true, .str "5", .ref a1, .int (10 ^ ((20 : Int)).toNat)])
      have g2 := newO b2 (o := .lst [.int 0, .int 1, .int 4, .int 9, .int 17, .int (-3), .non, .bl true, .str "5", .ref a1, .int (10 ^ ((20 : Int)).toNat)])
      refine ⟨b, c, ns, t2, r2, a2, _, rfl, w2.bowl, by omega, SqL.of upd_same, w1.bowl.apart b2, by show 0 < 11; decide, by show 11 ≤ 1000; decide, fun bv t3 r3 H3 hv x3 => ?_⟩
      have D2 : ∃ e, Dx K H3 b bv e ∧ byI e = false := by
        have hv' : bv = .int 0 ∨ bv = .int 1 ∨ bv = .int 4 ∨ bv = .int 9 ∨ bv = .int 17 ∨ bv = .int (-3) ∨ bv = .non ∨ bv = .bl true ∨ bv = .str "5" ∨ bv = .ref a1 ∨ bv = .int (10 ^ ((20 : Int)).toNat) := by simpa using hv
        rcases hv' with e | e | e | e | e | e | e | e | e | e | e
        · rw [e]; exact ⟨_, .int _, by decide +kernel⟩
        · rw [e]; exact ⟨_, .int _, by decide +kernel⟩
        · rw [e]; exact ⟨_, .int _, by decide +kernel⟩
        · rw [e]; exact ⟨_, .int _, by decide +kernel⟩
        · rw [e]; exact ⟨_, .int _, by decide +kernel⟩
        · rw [e]; exact ⟨_, .int _, by decide +kernel⟩
        · rw [e]; exact ⟨_, .non, rfl⟩
        · rw [e]; exact ⟨_, .bl true, rfl⟩
        · rw [e]; exact ⟨_, .str _, rfl⟩
        · rw [e]; exact ⟨_, Dx.list (x3.but _ _ l1 (g2 _ _ e1)) l1 (by show 1 ≤ 1000; decide) (.cons (.int 5) .nil), rfl⟩
        · rw [e]; exact ⟨_, .int _, by decide +kernel⟩
      obtain ⟨e, De, fe⟩ := D2
      have Dd3 : Dx K H3 b ov d := ((Dd.sm g1).sm g2).but x3.but
      refine ⟨(by show 2 ≤ sizeLine; decide), fun p hp => ⟨p, _, rfl, SqT.of upd_same, rfl, _, _, rfl, _, _, rfl, rfl, ?_⟩⟩
      have zp := newO hp (o := .tup [ov, bv])
      exact hnx _ _ ⟨ov, bv, d, e, t3, r3, rfl, Dd3.sm zp, fd, De.sm zp, fe, (w2.trans x3).new hp⟩
    rintro σ' H1 ⟨ov, bv, d, e, t1, r1, rfl, Dd, fd, De, fe, x1⟩
    have h1 := x1.hi
    have l1 := x1.lo
    -- the first
    refine cut (fun σ' H' => ∃ l p1 e, σ' = [some (.ref b), some ov, some bv, some (.ref l)] ∧ l ≠ b ∧ p1 ≠ b ∧ p1 ≠ l ∧ H' l = some (.lst [.ref p1]) ∧ H' p1 = some (.tup [.str "number", .str "number"]) ∧ Dx K H' b bv e ∧ byI e = false ∧ Bowl H' b c ns t1 r1 ∧ LamX.Tabs Tb H') ?_ ?_
    rotate_left
    · intro nx hnx
      refine ⟨fold x1, fun G1 eG tG => ?_⟩
      have BG := bowl_ext x1.bowl eG
      intro R
      refine ⟨_, rfl, _, rfl, ov, d, bv, e, rfl, (Dd.ext eG).dw, (De.ext eG).dw, fun _ dd G2 g2 q2 => ?_, fun z => (by rw [fd] at z; cases z), fun n' p' e1 => (by rw [e1] at fd; cases fd)⟩
      refine ⟨dd, .str "number", rfl, q2, .inl ⟨rfl, fun p1 n1 => ?_⟩⟩
      have B2 := BG.same g2
      have m1 := B2.apart n1
      have z1 := newO n1 (o := .tup [.str "number", .str "number"])
      have q1 : (upd G2 p1 (.tup [.str "number", .str "number"])) p1 = some (.tup [.str "number", .str "number"]) := upd_same
      generalize upd G2 p1 (.tup [.str "number", .str "number"]) = G3 at z1 q1 ⊢
      refine ⟨(by show 1 ≤ sizeLine; decide), fun l nl => ?_⟩
      have z2 := newO nl (o := .lst [.ref p1])
      have s3 := (g2.trans z1).trans z2
      exact hnx _ _ ⟨l, p1, e, rfl, (B2.same z1).apart nl, m1, (fun e => by rw [e, nl] at q1; cases q1), upd_same, z2 _ _ q1, (De.ext eG).sm s3, fe, BG.same s3, tabs_same tG s3⟩
    rintro σ' H2 ⟨l, p1, e, rfl, lb, pb1, pl1, ql, q1, De, fe, B2, T2⟩
    refine cut (fun σ' H' => ∃ p2, σ' = [some (.ref b), some ov, some bv, some (.ref l)] ∧ p2 ≠ b ∧ p2 ≠ l ∧ H' l = some (.lst [.ref p1, .ref p2]) ∧ H' p1 = some (.tup [.str "number", .str "number"]) ∧ H' p2 = some (.tup [.str "number", .str "by"]) ∧ Bowl H' b c ns t1 r1 ∧ LamX.Tabs Tb H') ?_ ?_
    rotate_left
    · intro nx hnx
      refine ⟨_, rfl, .inl ⟨rfl, _, SqL.of ql⟩, ?_⟩
      refine ⟨T2, fun G1 eG tG => ?_⟩
      have BG := bowl_ext B2 eG
      have qlG := eG _ _ ql fun ps z => by cases z
      have q1G := eG _ _ q1 fun ps z => by cases z
      intro R
      refine ⟨_, rfl, .int 14, .int 14, bv, e, rfl, .int 14, (De.ext eG).dw, (fun z => nomatch z), fun _ _ dd G2 g2 q2 => ?_, fun n' p' e1 e2 z => (by rw [e2] at fe; rw [e2, fe] at z; cases z)⟩
      refine ⟨dd, .str "by", rfl, q2, .inl ⟨rfl, fun p2 n2 => ?_⟩⟩
      have B3 := BG.same g2
      have m2 := B3.apart n2
      have z1 := newO n2 (o := .tup [.str "number", .str "by"])
      have q2' : (upd G2 p2 (.tup [.str "number", .str "by"])) p2 = some (.tup [.str "number", .str "by"]) := upd_same
      have n2l : p2 ≠ l := fun e => by rw [e, g2 _ _ qlG] at n2; cases n2
      generalize upd G2 p2 (.tup [.str "number", .str "by"]) = G3 at z1 q2' ⊢
      have s3 := g2.trans z1
      refine ⟨l, _, _, rfl, rfl, s3 _ _ qlG, (by show 1 < sizeLine; decide), ?_⟩
      have lc : ∀ {a : Addr} {o : HO}, a ≠ l → G3 a = some o → (upd G3 l (.lst [.ref p1, .ref p2])) a = some o := fun n q => by rw [upd_ne n]; exact q
      have bu : But l G3 (upd G3 l (.lst [.ref p1, .ref p2])) := (But.refl l G3).set
      have B4 := BG.same s3
      have cl : c ≠ l := fun e => by
        have z := B4.hc
        rw [e, s3 _ _ qlG] at z
        cases ns with
        | nil => cases z
        | cons n ns => cases z
      exact hnx _ _ ⟨p2, rfl, m2, n2l, upd_same, lc pl1 (s3 _ _ q1G), lc n2l q2', ⟨lc (Ne.symm lb) B4.hb, lc cl B4.hc, B4.ne, B4.t0, B4.r0⟩, tabs_but (tabs_same tG s3) (s3 _ _ qlG) bu⟩
    rintro σ' H3 ⟨p2, rfl, pb2, pl2, ql, q1, q2, B3, T3⟩
    refine cut (fun σ' H' => ∃ p3 t' r', σ' = [some (.ref b), some ov, some bv, some (.ref l)] ∧ H' l = some (.lst [.ref p1, .ref p2, .ref p3]) ∧ H' p1 = some (.tup [.str "number", .str "number"]) ∧ H' p2 = some (.tup [.str "number", .str "by"]) ∧ H' p3 = some (.tup [.str "number", .str "values"]) ∧ Bowl H' b c ns t' r' ∧ t1 ≤ t' ∧ t' ≤ t1 + 1 ∧ LamX.Tabs Tb H') ?_ ?_
    rotate_left
    · intro nx hnx
      refine ⟨_, rfl, .inl ⟨rfl, _, SqL.of ql⟩, ?_⟩
      refine ⟨T3, fun G1 eG tG => ?_⟩
      have BG := bowl_ext B3 eG
      have qlG := eG _ _ ql fun ps z => by cases z
      have q1G := eG _ _ q1 fun ps z => by cases z
      have q2G := eG _ _ q2 fun ps z => by cases z
      intro R
      refine ⟨_, rfl, fun d1 m1 => ?_⟩
      have nb1 := BG.apart m1
      have z1 := newO m1 (o := .dK [])
      have w1 : (upd G1 d1 (.dK [])) d1 = some (.dK []) := upd_same
      generalize upd G1 d1 (.dK []) = K1 at z1 w1 ⊢
      refine ⟨(by show 2 ≤ sizeLine; decide), fun d2 m2 => ?_⟩
      have nb2 := (BG.same z1).apart m2
      have z2 := newO m2 (o := .lst [.int 1, .non])
      have w2 : (upd K1 d2 (.lst [.int 1, .non])) d2 = some (.lst [.int 1, .non]) := upd_same
      have u2 := z1.trans z2
      generalize upd K1 d2 (.lst [.int 1, .non]) = K2 at z2 w2 u2 ⊢
      refine ⟨(by show 1 ≤ sizeLine; decide), fun d3 m3 => ?_⟩
      have nb3 := (BG.same u2).apart m3
      have z3 := newO m3 (o := .lst [.bl true])
      have w3 : (upd K2 d3 (.lst [.bl true])) d3 = some (.lst [.bl true]) := upd_same
      have u3 := u2.trans z3
      generalize upd K2 d3 (.lst [.bl true]) = K3 at z3 w3 u3 ⊢
      refine ⟨(by show 2 ≤ sizeLine; decide), fun d4 m4 => ?_⟩
      have nb4 := (BG.same u3).apart m4
      have z4 := newO m4 (o := .tup [.int 1, .str "2"])
      have w4 : (upd K3 d4 (.tup [.int 1, .str "2"])) d4 = some (.tup [.int 1, .str "2"]) := upd_same
      have u4 := u3.trans z4
      generalize upd K3 d4 (.tup [.int 1, .str "2"]) = K4 at z4 w4 u4 ⊢
      refine ⟨(by show 1 ≤ sizeLine; decide), fun d5 m5 => ?_⟩
      have nb5 := (BG.same u4).apart m5
      have z5 := newO m5 (o := .lst [.int 1])
      have w5 : (upd K4 d5 (.lst [.int 1])) d5 = some (.lst [.int 1]) := upd_same
      have u5 := u4.trans z5
      generalize upd K4 d5 (.lst [.int 1]) = K5 at z5 w5 u5 ⊢
      refine ⟨(by show 1 ≤ sizeLine; decide), fun d6 m6 => ?_⟩
      have nb6 := (BG.same u5).apart m6
      have z6 := newO m6 (o := .lst [.ref d5])
      have w6 : (upd K5 d6 (.lst [.ref d5])) d6 = some (.lst [.ref d5]) := upd_same
      have u6 := u5.trans z6
      generalize upd K5 d6 (.lst [.ref d5]) = K6 at z6 w6 u6 ⊢
      intro d7 m7
      have nb7 := (BG.same u6).apart m7
      refine ⟨upd_same, [(.inl 1, .int 1)], rfl, (by show 1 ≤ 15; decide), ?_⟩
      have z7 : Same K6 (upd (upd K6 d7 (.dK [])) d7 (.dK (mergeK [] [(.inl 1, .int 1)]))) := set_new m7 (newO m7)
      have w7 : (upd (upd K6 d7 (.dK [])) d7 (.dK (mergeK [] [(.inl 1, .int 1)]))) d7 = some (.dK (mergeK [] [(.inl 1, .int 1)])) := upd_same
      have u7 := u6.trans z7
      generalize upd (upd K6 d7 (.dK [])) d7 (.dK (mergeK [] [(.inl 1, .int 1)])) = K7 at z7 w7 u7 ⊢
      refine ⟨(by show 9 ≤ sizeLine; decide), fun d8 m8 => ?_⟩
      have nb8 := (BG.same u7).apart m8
      have z8 := newO m8 (o := .lst [.non, .int 5, .str "12", .ref d1, .ref d2, .ref d3, .ref d4, .ref d6, .ref d7])
      have u8 := u7.trans z8
      have w8 : (upd K7 d8 (.lst [.non, .int 5, .str "12", .ref d1, .ref d2, .ref d3, .ref d4, .ref d6, .ref d7])) d8 = some (.lst [.non, .int 5, .str "12", .ref d1, .ref d2, .ref d3, .ref d4, .ref d6, .ref d7]) := upd_same
      generalize upd K7 d8 (.lst [.non, .int 5, .str "12", .ref d1, .ref d2, .ref d3, .ref d4, .ref d6, .ref d7]) = K8 at z8 w8 u8 ⊢
      have B8 := BG.same u8
      refine ⟨b, c, ns, t1, r1, d8, _, rfl, B8, by omega, SqL.of w8, nb8, by show 0 < 9; decide, by show 9 ≤ 1000; decide, fun v t4 r4 K9 hv x9 => ?_⟩
      have up : ∀ {a : Addr} {o : HO}, a ≠ b → K8 a = some o → K9 a = some o := fun n q => x9.but _ _ n q
      have D3 : ∃ e, Dw K K9 v e ∧ areI e = false := by
        have hv' : v = .non ∨ v = .int 5 ∨ v = .str "12" ∨ v = .ref d1 ∨ v = .ref d2 ∨ v = .ref d3 ∨ v = .ref d4 ∨ v = .ref d6 ∨ v = .ref d7 := by simpa using hv
        rcases hv' with e | e | e | e | e | e | e | e | e
        · rw [e]; exact ⟨_, .non, rfl⟩
        · rw [e]; exact ⟨_, .int 5, rfl⟩
        · rw [e]; exact ⟨_, .str _, rfl⟩
        · rw [e]; exact ⟨.dict [], .dic (up nb1 (z8 _ _ (z7 _ _ (z6 _ _ (z5 _ _ (z4 _ _ (z3 _ _ (z2 _ _ w1)))))))), rfl⟩
        · rw [e]; exact ⟨_, .lst (SqL.of (up nb2 (z8 _ _ (z7 _ _ (z6 _ _ (z5 _ _ (z4 _ _ (z3 _ _ w2)))))))) (by show 2 ≤ 1000; decide) (.cons (.int 1) (.cons .non .nil)), rfl⟩
        · rw [e]; exact ⟨_, .lst (SqL.of (up nb3 (z8 _ _ (z7 _ _ (z6 _ _ (z5 _ _ (z4 _ _ w3))))))) (by show 1 ≤ 1000; decide) (.cons (.bl true) .nil), rfl⟩
        · rw [e]; exact ⟨_, .tup (SqT.of (up nb4 (z8 _ _ (z7 _ _ (z6 _ _ (z5 _ _ w4)))))) (by show 2 ≤ 1000; decide) (.cons (.int 1) (.cons (.str _) .nil)), rfl⟩
        · rw [e]; exact ⟨_, .lst (SqL.of (up nb6 (z8 _ _ (z7 _ _ w6)))) (by show 1 ≤ 1000; decide) (.cons (.lst (SqL.of (up nb5 (z8 _ _ (z7 _ _ (z6 _ _ w5))))) (by show 1 ≤ 1000; decide) (.cons (.int 1) .nil)) .nil), rfl⟩
        · rw [e]; exact ⟨.dict [], .dic (up nb7 (z8 _ _ w7)), rfl⟩
      obtain ⟨e3, De3, fe3⟩ := D3
      refine ⟨v, e3, rfl, De3, fun z => (by rw [fe3] at z; cases z), fun _ dd G2 g2 qd => ?_⟩
      refine ⟨dd, .str "values", rfl, qd, .inl ⟨rfl, fun p3 n3 => ?_⟩⟩
      have B4 := x9.bowl.same g2
      have m3 := B4.apart n3
      have z9 := newO n3 (o := .tup [.str "number", .str "values"])
      have q3 : (upd G2 p3 (.tup [.str "number", .str "values"])) p3 = some (.tup [.str "number", .str "values"]) := upd_same
      have ql9 := g2 _ _ (up lb (u8 _ _ qlG))
      have n3l : p3 ≠ l := fun e => by rw [e, ql9] at n3; cases n3
      generalize upd G2 p3 (.tup [.str "number", .str "values"]) = G3 at z9 q3 ⊢
      refine ⟨l, _, _, rfl, rfl, z9 _ _ ql9, (by show 2 < sizeLine; decide), ?_⟩
      have lc : ∀ {a : Addr} {o : HO}, a ≠ l → G3 a = some o → (upd G3 l (.lst [.ref p1, .ref p2, .ref p3])) a = some o := fun n q => by rw [upd_ne n]; exact q
      have bu : But l G3 (upd G3 l (.lst [.ref p1, .ref p2, .ref p3])) := (But.refl l G3).set
      have B5 := B4.same z9
      have cl : c ≠ l := fun e => by
        have z := B5.hc
        rw [e, z9 _ _ ql9] at z
        cases ns with
        | nil => cases z
        | cons n ns => cases z
      have T9 : LamX.Tabs Tb G3 := tabs_same (tabs_same (tabs_but (tabs_same tG u8) B8.hb x9.but) g2) z9
      exact hnx _ _ ⟨p3, t4, r4, rfl, upd_same, lc pl1 (z9 _ _ (g2 _ _ (up pb1 (u8 _ _ q1G)))), lc pl2 (z9 _ _ (g2 _ _ (up pb2 (u8 _ _ q2G)))), lc n3l q3, ⟨lc (Ne.symm lb) B5.hb, lc cl B5.hc, B5.ne, B5.t0, B5.r0⟩, x9.lo, x9.hi, tabs_but T9 (z9 _ _ ql9) bu⟩
    rintro σ' H4 ⟨p3, t4, r4, rfl, ql, q1, q2, q3, B4, lo4, hi4, T4⟩
    refine ⟨_, rfl, (by show 2 ≤ sizeLine; decide), fun a1 n1 => ?_⟩
    have z1 := newO n1 (o := .tup [.str "number", .str "number"])
    have e1 : (upd H4 a1 (.tup [.str "number", .str "number"])) a1 = some (.tup [.str "number", .str "number"]) := upd_same
    generalize upd H4 a1 (.tup [.str "number", .str "number"]) = G1 at z1 e1 ⊢
    refine ⟨(by show 2 ≤ sizeLine; decide), fun a2 n2 => ?_⟩
    have z2 := newO n2 (o := .tup [.str "number", .str "by"])
    have e2 : (upd G1 a2 (.tup [.str "number", .str "by"])) a2 = some (.tup [.str "number", .str "by"]) := upd_same
    generalize upd G1 a2 (.tup [.str "number", .str "by"]) = G2 at z2 e2 ⊢
    refine ⟨(by show 2 ≤ sizeLine; decide), fun a3 n3 => ?_⟩
    have z3 := newO n3 (o := .tup [.str "number", .str "values"])
    have e3 : (upd G2 a3 (.tup [.str "number", .str "values"])) a3 = some (.tup [.str "number", .str "values"]) := upd_same
    generalize upd G2 a3 (.tup [.str "number", .str "values"]) = G3 at z3 e3 ⊢
    refine ⟨(by show 3 ≤ sizeLine; decide), fun a4 n4 => ?_⟩
    have z4 := newO n4 (o := .lst [.ref a1, .ref a2, .ref a3])
    have s4 := ((z1.trans z2).trans z3).trans z4
    refine ⟨refD, refD, .lst (SqL.of (s4 _ _ ql)) (.cons (.tup (SqT.of (s4 _ _ q1)) (.cons (.str _) (.cons (.str _) .nil))) (.cons (.tup (SqT.of (s4 _ _ q2)) (.cons (.str _) (.cons (.str _) .nil))) (.cons (.tup (SqT.of (s4 _ _ q3)) (.cons (.str _) (.cons (.str _) .nil))) .nil))),
      .lst (SqL.of upd_same) (.cons (.tup (SqT.of (z4 _ _ (z3 _ _ (z2 _ _ e1)))) (.cons (.str _) (.cons (.str _) .nil))) (.cons (.tup (SqT.of (z4 _ _ (z3 _ _ e2))) (.cons (.str _) (.cons (.str _) .nil))) (.cons (.tup (SqT.of (z4 _ _ e3)) (.cons (.str _) (.cons (.str _) .nil))) .nil))), ref_shaped, ref_shaped, ?_⟩
    rw [ref_eqv]
    exact k _ _ _ (B4.same s4) (by omega) (by omega) (tabs_same T4 s4)

end
end K01

set_option Elab.async false
set_option linter.all false
set_option maxRecDepth 100000
set_option maxHeartbeats 4000000
namespace K01
open PySem L2 SG
def spLaw (K : PySem.W.Frag) (Tb : List (Addr × Str)) : Sp := fun vs H Q _ => ∃ (a : Addr) (ns : List Int), vs = [.ref a] ∧ SqL K H a (ns.map V.int) ∧ LamX.Tabs Tb H ∧ ∀ H', Q (.bl true) H'
section
variable {P : Program} {w : World} {K : PySem.W.Frag} {mg : Str → Option Value} {base : Heap}
theorem ok_law (T : Ty K mg) {Tb : List (Addr × Str)} (GD : FnOk P w K mg base CX0 6 T.d_l_divisors_right.f T.d_l_divisors_right.fd ["bowl"] (spTab Tb 60)) (GR : FnOk P w K mg base CX0 6 T.d_l_refused_right.f T.d_l_refused_right.fd ["bowl"] (spTab Tb 60))
    {f : Addr} {fd : FuncData} (F : Fun K "law" "law" s_law f fd) : FnOk P w K mg base CX0 7 f fd ["script"] (spLaw K Tb) := by
  refine F.ok sc_law (fun vs H Q E h => ?_) (fun cdv A outer s H vs Q E hr h => ?_)
  · obtain ⟨a, ns, rfl, _⟩ := h
    rfl
  · obtain ⟨a, ns, rfl, hs, tabs, k⟩ := h
    refine ⟨_, (pss_cons (ps_set (i := 1) sc_law.nd rfl (Or.inl rfl) (pe_call (ok_bowl T.nm T.d_l_bowl.F) (hr.mono (by decide)) rfl T.d_l_bowl.m T.d_l_bowl.k T.d_l_bowl.b .nil pass0 (pa_cons (pv 0) pa_nil)))
  (pss_cons (ps_for PassesOwn.never rfl (pi_range1 (by rfl) T.nm.n_range (pa_cons pe_int pa_nil)) (pg_name (i := 2) sc_law.nd rfl (Or.inl rfl))
  (pss_one (ps_if (PW.pt (pw_or (pt_not (pt_val (pe_call (ok_l_looks_right T T.d_l_looks_right.F) (hr.mono (by decide)) rfl T.d_l_looks_right.m T.d_l_looks_right.k T.d_l_looks_right.b .nil pass0 (pa_cons (pv 1) pa_nil)))) (pw_or (pt_not (pt_val (pe_call (ok_l_bounds_right T T.d_l_bounds_right.F) (hr.mono (by decide)) rfl T.d_l_bounds_right.m T.d_l_bounds_right.k T.d_l_bounds_right.b .nil pass0 (pa_cons (pv 1) pa_nil)))) (pw_or (pt_not (pt_val (pe_call GD (hr.mono (by decide)) rfl T.d_l_divisors_right.m T.d_l_divisors_right.k T.d_l_divisors_right.b .nil pass0 (pa_cons (pv 1) pa_nil)))) (pw_or1 (pt_not (pt_val (pe_call GR (hr.mono (by decide)) rfl T.d_l_refused_right.m T.d_l_refused_right.k T.d_l_refused_right.b .nil pass0 (pa_cons (pv 1) pa_nil)))))))))
  (pss_one (ps_ret pe_bl))
  pss_nil)))
  (pss_one (ps_ret pe_bl)))), ?_⟩
    refine ⟨_, rfl, a, ns, rfl, hs, fun H1 b c s1 hb0 hc0 B => ?_⟩
    dsimp only [gName]
    generalize ns.take 60 = ms at B
    have tabs1 := tabs_same tabs s1
    refine ⟨4, rfl, by decide, by decide, for_range (n := 4) (fun (j : Nat) σ' H' => ∃ x2 t r, σ' = [some (.ref a), some (.ref b), x2] ∧ Bowl H' b c ms t r ∧ t ≤ 240 * (j : Int) ∧ LamX.Tabs Tb H') ⟨_, 0, 0, rfl, B, by decide, tabs1⟩ ?_ (fun σ' H' _ => k _)⟩
    rintro j σ' H' hj ⟨x2, t, r, rfl, B', ht, tb⟩
    dsimp only [gName]
    refine ⟨_, rfl, b, c, ms, t, r, rfl, B', by omega, fun t1 r1 H2 x1 => ⟨_, rfl, ?_⟩⟩
    have h1 := x1.hi
    refine ⟨_, rfl, b, c, ms, t1, r1, rfl, x1.bowl, by omega, fun t2 r2 H3 x2 => ⟨_, rfl, ?_⟩⟩
    have h2 := x2.hi
    have tb3 := tabs_but (tabs_but tb B'.hb x1.but) x1.bowl.hb x2.but
    refine ⟨_, rfl, b, c, ms, t2, r2, rfl, x2.bowl, by omega, tb3, fun t3 r3 H4 B3 l3 u3 tb4 => ⟨_, rfl, ?_⟩⟩
    refine ⟨_, rfl, b, c, ms, t3, r3, rfl, B3, by omega, tb4, fun t4 r4 H5 B4 l4 u4 tb5 => ⟨_, rfl, ?_⟩⟩
    exact ⟨_, t4, r4, rfl, B4, by omega, tb5⟩
end
end K01

set_option Elab.async false
set_option linter.all false
set_option maxRecDepth 100000
set_option maxHeartbeats 0
namespace K01
open PySem L2 SG
theorem all_mk {l : PySem.W.OpenLaw} {w : World} {K : PySem.W.Frag} {h : Heap} {mg : Str → Option Value} {fa CS P C0 C1 fi0 fi1 cD PD cR PR f_is_integer f_is_within f_are_integers f_is_row f_are_rows f_is_by f_common_divisor f_over f_l_bowl f_l_dip f_l_choose f_l_value f_l_is_number f_l_are f_l_are_all f_l_looks_right f_l_bounds_right f_l_measure f_l_heard f_l_divisors_right f_l_refused_right f_law : Addr} {ddP : Option Addr} {itsP : Array Value} {nP : Nat} {slP : Array (Option Value)} (X : K.In h) (G : h.Ns mainGlobals mg) (hfa : mg "law" = some (.ref fa))
    {nm0 q0 : Str} {N0 : Addr} {bs0 bm0 : List Value} {sn0 : List Str} {sub0 : List Value} {ab0 : Bool} {col0 : Option Bool} {dd0 : Option Addr} {m00 m10 m20 m30 m50 : Option Value}
    {odi0 ani0 : Option Addr} {sli0 : Array (Option Value)} {oci0 kVi0 dci0 pmi0 cti0 : Value} {cdi0 : Value}
    {nm1 q1 : Str} {N1 : Addr} {bs1 bm1 : List Value} {sn1 : List Str} {sub1 : List Value} {ab1 : Bool} {col1 : Option Bool} {dd1 : Option Addr} {m01 m11 m21 m31 m51 : Option Value}
    {odi1 ani1 : Option Addr} {sli1 : Array (Option Value)} {oci1 kVi1 dci1 pmi1 cti1 : Value} {cdi1 : Value}
    {od_is_integer an_is_integer : Option Addr} {sl_is_integer : Array (Option Value)} {oc_is_integer kV_is_integer dc_is_integer pm_is_integer ct_is_integer : Value} {cd_is_integer : Value}
    {od_is_within an_is_within : Option Addr} {sl_is_within : Array (Option Value)} {oc_is_within kV_is_within dc_is_within pm_is_within ct_is_within : Value} {cd_is_within : Value}
    {od_are_integers an_are_integers : Option Addr} {sl_are_integers : Array (Option Value)} {oc_are_integers kV_are_integers dc_are_integers pm_are_integers ct_are_integers : Value} {cd_are_integers : Value}
    {od_is_row an_is_row : Option Addr} {sl_is_row : Array (Option Value)} {oc_is_row kV_is_row dc_is_row pm_is_row ct_is_row : Value} {cd_is_row : Value}
    {od_are_rows an_are_rows : Option Addr} {sl_are_rows : Array (Option Value)} {oc_are_rows kV_are_rows dc_are_rows pm_are_rows ct_are_rows : Value} {cd_are_rows : Value}
    {od_is_by an_is_by : Option Addr} {sl_is_by : Array (Option Value)} {oc_is_by kV_is_by dc_is_by pm_is_by ct_is_by : Value} {cd_is_by : Value}
    {od_common_divisor an_common_divisor : Option Addr} {sl_common_divisor : Array (Option Value)} {oc_common_divisor kV_common_divisor dc_common_divisor pm_common_divisor ct_common_divisor : Value} {cd_common_divisor : Value}
    {od_over an_over : Option Addr} {sl_over : Array (Option Value)} {oc_over kV_over dc_over pm_over ct_over : Value} {cd_over : Value}
    {od_l_bowl an_l_bowl : Option Addr} {sl_l_bowl : Array (Option Value)} {oc_l_bowl kV_l_bowl dc_l_bowl pm_l_bowl ct_l_bowl : Value} {cd_l_bowl : Value}
    {od_l_dip an_l_dip : Option Addr} {sl_l_dip : Array (Option Value)} {oc_l_dip kV_l_dip dc_l_dip pm_l_dip ct_l_dip : Value} {cd_l_dip : Value}
    {od_l_choose an_l_choose : Option Addr} {sl_l_choose : Array (Option Value)} {oc_l_choose kV_l_choose dc_l_choose pm_l_choose ct_l_choose : Value} {cd_l_choose : Value}
    {od_l_value an_l_value : Option Addr} {sl_l_value : Array (Option Value)} {oc_l_value kV_l_value dc_l_value pm_l_value ct_l_value : Value} {cd_l_value : Value}
    {od_l_is_number an_l_is_number : Option Addr} {sl_l_is_number : Array (Option Value)} {oc_l_is_number kV_l_is_number dc_l_is_number pm_l_is_number ct_l_is_number : Value} {cd_l_is_number : Value}
    {od_l_are an_l_are : Option Addr} {sl_l_are : Array (Option Value)} {oc_l_are kV_l_are dc_l_are pm_l_are ct_l_are : Value} {cd_l_are : Value}
    {od_l_are_all an_l_are_all : Option Addr} {sl_l_are_all : Array (Option Value)} {oc_l_are_all kV_l_are_all dc_l_are_all pm_l_are_all ct_l_are_all : Value} {cd_l_are_all : Value}
    {od_l_looks_right an_l_looks_right : Option Addr} {sl_l_looks_right : Array (Option Value)} {oc_l_looks_right kV_l_looks_right dc_l_looks_right pm_l_looks_right ct_l_looks_right : Value} {cd_l_looks_right : Value}
    {od_l_bounds_right an_l_bounds_right : Option Addr} {sl_l_bounds_right : Array (Option Value)} {oc_l_bounds_right kV_l_bounds_right dc_l_bounds_right pm_l_bounds_right ct_l_bounds_right : Value} {cd_l_bounds_right : Value}
    {od_l_measure an_l_measure : Option Addr} {sl_l_measure : Array (Option Value)} {oc_l_measure kV_l_measure dc_l_measure pm_l_measure ct_l_measure : Value} {cd_l_measure : Value}
    {od_l_heard an_l_heard : Option Addr} {sl_l_heard : Array (Option Value)} {oc_l_heard kV_l_heard dc_l_heard pm_l_heard ct_l_heard : Value} {cd_l_heard : Value}
    {od_l_divisors_right an_l_divisors_right : Option Addr} {sl_l_divisors_right : Array (Option Value)} {oc_l_divisors_right kV_l_divisors_right dc_l_divisors_right pm_l_divisors_right ct_l_divisors_right : Value}
    {od_l_refused_right an_l_refused_right : Option Addr} {sl_l_refused_right : Array (Option Value)} {oc_l_refused_right kV_l_refused_right dc_l_refused_right pm_l_refused_right ct_l_refused_right : Value}
    {od_law an_law : Option Addr} {sl_law : Array (Option Value)} {oc_law kV_law dc_law pm_law ct_law : Value} {cd_law : Value}
    {clD : Value} {cdD : Option Addr} {vsD : Array Value} {csD : Array (Option Value)}
    {clR : Value} {cdR : Option Addr} {vsR : Array Value} {csR : Array (Option Value)}
    (aS : PySem.W.nsIn K mainGlobals "ScrewError" = some (some (.ref CS)))
    (aG : PySem.W.nsIn K mainGlobals "gcd" = some (some (.builtin "math.gcd")))
    (aP : PySem.W.nsIn K mainGlobals "PRIMES" = some (some (.ref P)))
    (lP : K.lookup P = some ⟨.type "tuple", ddP, .seq itsP nP, slP⟩)
    (zP : itsP.size ≤ sizeLine)
    (vP : Vals [.int 2, .int 3, .int 5, .int 7, .int 11, .int 13] itsP.toList)
    (z_int : PySem.W.nsIn K mainGlobals "int" = some none)
    (z_len : PySem.W.nsIn K mainGlobals "len" = some none)
    (z_abs : PySem.W.nsIn K mainGlobals "abs" = some none)
    (z_str : PySem.W.nsIn K mainGlobals "str" = some none)
    (z_range : PySem.W.nsIn K mainGlobals "range" = some none)
    (z_repr : PySem.W.nsIn K mainGlobals "repr" = some none)
    (z_isinstance : PySem.W.nsIn K mainGlobals "isinstance" = some none)
    (z_bool : PySem.W.nsIn K mainGlobals "bool" = some none)
    (z_list : PySem.W.nsIn K mainGlobals "list" = some none)
    (z_tuple : PySem.W.nsIn K mainGlobals "tuple" = some none)
    (z_min : PySem.W.nsIn K mainGlobals "min" = some none)
    (z_max : PySem.W.nsIn K mainGlobals "max" = some none)
    (z_all : PySem.W.nsIn K mainGlobals "all" = some none)
    (aC0 : PySem.W.nsIn K mainGlobals "BadNumber" = some (some (.ref C0)))
    (xC0 : K.lookup C0 = some (excClassObj nm0 q0 C0 N0 bs0 bm0 true sn0 sub0 ab0 col0 dd0 m00 m10 m20 m30 m50 "ValueError.__new__"))
    (rC0 : PySem.HandSPX.refsVE bm0 = true)
    (saC0 : PySem.W.findIn K (.ref C0) "__setattr__" = some (some (.builtin "object.__setattr__")))
    (exC0 : PySem.W.subIn K (.ref C0) (.type "BaseException") = some true)
    (tyC0 : PySem.W.typeIn K (.ref C0) = some (.type "type"))
    (keC0 : PySem.W.keepIn K (.ref C0) = true)
    (gaC0 : PySem.W.findIn K (.ref C0) "__getattribute__" = some (some (.builtin "BaseException.__getattribute__")))
    (ggC0 : PySem.W.findIn K (.ref C0) "__getattr__" = some none)
    (hdC0 : PySem.W.hasDictIn K C0 = true)
    (haC0 : PySem.W.findIn K (.ref C0) "__class__" = some (some (.builtin "object.__class__")))
    (hmC0 : PySem.W.mroIn K C0 (.type "object") = some true)
    (iCC0 : PySem.W.findIn K (.ref C0) "__init__" = some (some (.ref fi0)))
    (tIC0 : PySem.W.typeIn K (.ref fi0) = some (.type "function"))
    (li0 : K.lookup fi0 = some ⟨oci0, odi0, .func (PySem.W.fnOf "__init__" "BadNumber.__init__" (defArgs i_BadNumber) (defBody i_BadNumber) (defScope i_BadNumber) .none kVi0 dci0 pmi0 ani0 cdi0 cti0), sli0⟩)
    (ci0 : PySem.W.codeIn K cdi0 "BadNumber.__init__" = true)
    (ki0 : PySem.W.keepIn K (.ref fi0) = true)
    (noC0 : PySem.W.findIn K (.ref C0) "part" = some none)
    (aC1 : PySem.W.nsIn K mainGlobals "Misfit" = some (some (.ref C1)))
    (xC1 : K.lookup C1 = some (excClassObj nm1 q1 C1 N1 bs1 bm1 true sn1 sub1 ab1 col1 dd1 m01 m11 m21 m31 m51 "ValueError.__new__"))
    (rC1 : PySem.HandSPX.refsVE bm1 = true)
    (saC1 : PySem.W.findIn K (.ref C1) "__setattr__" = some (some (.builtin "object.__setattr__")))
    (exC1 : PySem.W.subIn K (.ref C1) (.type "BaseException") = some true)
    (tyC1 : PySem.W.typeIn K (.ref C1) = some (.type "type"))
    (keC1 : PySem.W.keepIn K (.ref C1) = true)
    (gaC1 : PySem.W.findIn K (.ref C1) "__getattribute__" = some (some (.builtin "BaseException.__getattribute__")))
    (ggC1 : PySem.W.findIn K (.ref C1) "__getattr__" = some none)
    (hdC1 : PySem.W.hasDictIn K C1 = true)
    (haC1 : PySem.W.findIn K (.ref C1) "__class__" = some (some (.builtin "object.__class__")))
    (hmC1 : PySem.W.mroIn K C1 (.type "object") = some true)
    (iCC1 : PySem.W.findIn K (.ref C1) "__init__" = some (some (.ref fi1)))
    (tIC1 : PySem.W.typeIn K (.ref fi1) = some (.type "function"))
    (li1 : K.lookup fi1 = some ⟨oci1, odi1, .func (PySem.W.fnOf "__init__" "Misfit.__init__" (defArgs i_Misfit) (defBody i_Misfit) (defScope i_Misfit) .none kVi1 dci1 pmi1 ani1 cdi1 cti1), sli1⟩)
    (ci1 : PySem.W.codeIn K cdi1 "Misfit.__init__" = true)
    (ki1 : PySem.W.keepIn K (.ref fi1) = true)
    (noC1 : PySem.W.findIn K (.ref C1) "part" = some none)
    (hn : PySem.W.specialIn K (.builtin "object.__class__") "__get__" = some (some (.builtin "getset_descriptor.__get__")))
    (ht : PySem.W.takesIn K (.builtin "object.__class__") = some true)
    (u00 : PySem.W.subIn K (.ref C0) (.ref C0) = some true)
    (u10 : PySem.W.subIn K (.ref C1) (.ref C0) = some false)
    (u11 : PySem.W.subIn K (.ref C1) (.ref C1) = some true)
    (a_is_integer : PySem.W.nsIn K mainGlobals "is_integer" = some (some (.ref f_is_integer)))
    (l_is_integer : K.lookup f_is_integer = some ⟨oc_is_integer, od_is_integer, .func (PySem.W.fnOf "is_integer" "is_integer" (defArgs s_is_integer) (defBody s_is_integer) (defScope s_is_integer) .none kV_is_integer dc_is_integer pm_is_integer an_is_integer cd_is_integer ct_is_integer), sl_is_integer⟩)
    (c_is_integer : PySem.W.codeIn K cd_is_integer "is_integer" = true)
    (k_is_integer : PySem.W.keepIn K (.ref f_is_integer) = true)
    (a_is_within : PySem.W.nsIn K mainGlobals "is_within" = some (some (.ref f_is_within)))
    (l_is_within : K.lookup f_is_within = some ⟨oc_is_within, od_is_within, .func (PySem.W.fnOf "is_within" "is_within" (defArgs s_is_within) (defBody s_is_within) (defScope s_is_within) .none kV_is_within dc_is_within pm_is_within an_is_within cd_is_within ct_is_within), sl_is_within⟩)
    (c_is_within : PySem.W.codeIn K cd_is_within "is_within" = true)
    (k_is_within : PySem.W.keepIn K (.ref f_is_within) = true)
    (a_are_integers : PySem.W.nsIn K mainGlobals "are_integers" = some (some (.ref f_are_integers)))
    (l_are_integers : K.lookup f_are_integers = some ⟨oc_are_integers, od_are_integers, .func (PySem.W.fnOf "are_integers" "are_integers" (defArgs s_are_integers) (defBody s_are_integers) (defScope s_are_integers) .none kV_are_integers dc_are_integers pm_are_integers an_are_integers cd_are_integers ct_are_integers), sl_are_integers⟩)
    (c_are_integers : PySem.W.codeIn K cd_are_integers "are_integers" = true)
    (k_are_integers : PySem.W.keepIn K (.ref f_are_integers) = true)
    (a_is_row : PySem.W.nsIn K mainGlobals "is_row" = some (some (.ref f_is_row)))
    (l_is_row : K.lookup f_is_row = some ⟨oc_is_row, od_is_row, .func (PySem.W.fnOf "is_row" "is_row" (defArgs s_is_row) (defBody s_is_row) (defScope s_is_row) .none kV_is_row dc_is_row pm_is_row an_is_row cd_is_row ct_is_row), sl_is_row⟩)
    (c_is_row : PySem.W.codeIn K cd_is_row "is_row" = true)
    (k_is_row : PySem.W.keepIn K (.ref f_is_row) = true)
    (a_are_rows : PySem.W.nsIn K mainGlobals "are_rows" = some (some (.ref f_are_rows)))
    (l_are_rows : K.lookup f_are_rows = some ⟨oc_are_rows, od_are_rows, .func (PySem.W.fnOf "are_rows" "are_rows" (defArgs s_are_rows) (defBody s_are_rows) (defScope s_are_rows) .none kV_are_rows dc_are_rows pm_are_rows an_are_rows cd_are_rows ct_are_rows), sl_are_rows⟩)
    (c_are_rows : PySem.W.codeIn K cd_are_rows "are_rows" = true)
    (k_are_rows : PySem.W.keepIn K (.ref f_are_rows) = true)
    (a_is_by : PySem.W.nsIn K mainGlobals "is_by" = some (some (.ref f_is_by)))
    (l_is_by : K.lookup f_is_by = some ⟨oc_is_by, od_is_by, .func (PySem.W.fnOf "is_by" "is_by" (defArgs s_is_by) (defBody s_is_by) (defScope s_is_by) .none kV_is_by dc_is_by pm_is_by an_is_by cd_is_by ct_is_by), sl_is_by⟩)
    (c_is_by : PySem.W.codeIn K cd_is_by "is_by" = true)
    (k_is_by : PySem.W.keepIn K (.ref f_is_by) = true)
    (a_common_divisor : PySem.W.nsIn K mainGlobals "common_divisor" = some (some (.ref f_common_divisor)))
    (l_common_divisor : K.lookup f_common_divisor = some ⟨oc_common_divisor, od_common_divisor, .func (PySem.W.fnOf "common_divisor" "common_divisor" (defArgs s_common_divisor) (defBody s_common_divisor) (defScope s_common_divisor) .none kV_common_divisor dc_common_divisor pm_common_divisor an_common_divisor cd_common_divisor ct_common_divisor), sl_common_divisor⟩)
    (c_common_divisor : PySem.W.codeIn K cd_common_divisor "common_divisor" = true)
    (k_common_divisor : PySem.W.keepIn K (.ref f_common_divisor) = true)
    (a_over : PySem.W.nsIn K mainGlobals "over" = some (some (.ref f_over)))
    (l_over : K.lookup f_over = some ⟨oc_over, od_over, .func (PySem.W.fnOf "over" "over" (defArgs s_over) (defBody s_over) (defScope s_over) .none kV_over dc_over pm_over an_over cd_over ct_over), sl_over⟩)
    (c_over : PySem.W.codeIn K cd_over "over" = true)
    (k_over : PySem.W.keepIn K (.ref f_over) = true)
    (a_l_bowl : PySem.W.nsIn K mainGlobals "_law_bowl" = some (some (.ref f_l_bowl)))
    (l_l_bowl : K.lookup f_l_bowl = some ⟨oc_l_bowl, od_l_bowl, .func (PySem.W.fnOf "_law_bowl" "_law_bowl" (defArgs s_l_bowl) (defBody s_l_bowl) (defScope s_l_bowl) .none kV_l_bowl dc_l_bowl pm_l_bowl an_l_bowl cd_l_bowl ct_l_bowl), sl_l_bowl⟩)
    (c_l_bowl : PySem.W.codeIn K cd_l_bowl "_law_bowl" = true)
    (k_l_bowl : PySem.W.keepIn K (.ref f_l_bowl) = true)
    (a_l_dip : PySem.W.nsIn K mainGlobals "_law_dip" = some (some (.ref f_l_dip)))
    (l_l_dip : K.lookup f_l_dip = some ⟨oc_l_dip, od_l_dip, .func (PySem.W.fnOf "_law_dip" "_law_dip" (defArgs s_l_dip) (defBody s_l_dip) (defScope s_l_dip) .none kV_l_dip dc_l_dip pm_l_dip an_l_dip cd_l_dip ct_l_dip), sl_l_dip⟩)
    (c_l_dip : PySem.W.codeIn K cd_l_dip "_law_dip" = true)
    (k_l_dip : PySem.W.keepIn K (.ref f_l_dip) = true)
    (a_l_choose : PySem.W.nsIn K mainGlobals "_law_choose" = some (some (.ref f_l_choose)))
    (l_l_choose : K.lookup f_l_choose = some ⟨oc_l_choose, od_l_choose, .func (PySem.W.fnOf "_law_choose" "_law_choose" (defArgs s_l_choose) (defBody s_l_choose) (defScope s_l_choose) .none kV_l_choose dc_l_choose pm_l_choose an_l_choose cd_l_choose ct_l_choose), sl_l_choose⟩)
    (c_l_choose : PySem.W.codeIn K cd_l_choose "_law_choose" = true)
    (k_l_choose : PySem.W.keepIn K (.ref f_l_choose) = true)
    (a_l_value : PySem.W.nsIn K mainGlobals "_law_value" = some (some (.ref f_l_value)))
    (l_l_value : K.lookup f_l_value = some ⟨oc_l_value, od_l_value, .func (PySem.W.fnOf "_law_value" "_law_value" (defArgs s_l_value) (defBody s_l_value) (defScope s_l_value) .none kV_l_value dc_l_value pm_l_value an_l_value cd_l_value ct_l_value), sl_l_value⟩)
    (c_l_value : PySem.W.codeIn K cd_l_value "_law_value" = true)
    (k_l_value : PySem.W.keepIn K (.ref f_l_value) = true)
    (a_l_is_number : PySem.W.nsIn K mainGlobals "_law_is_number" = some (some (.ref f_l_is_number)))
    (l_l_is_number : K.lookup f_l_is_number = some ⟨oc_l_is_number, od_l_is_number, .func (PySem.W.fnOf "_law_is_number" "_law_is_number" (defArgs s_l_is_number) (defBody s_l_is_number) (defScope s_l_is_number) .none kV_l_is_number dc_l_is_number pm_l_is_number an_l_is_number cd_l_is_number ct_l_is_number), sl_l_is_number⟩)
    (c_l_is_number : PySem.W.codeIn K cd_l_is_number "_law_is_number" = true)
    (k_l_is_number : PySem.W.keepIn K (.ref f_l_is_number) = true)
    (a_l_are : PySem.W.nsIn K mainGlobals "_law_are" = some (some (.ref f_l_are)))
    (l_l_are : K.lookup f_l_are = some ⟨oc_l_are, od_l_are, .func (PySem.W.fnOf "_law_are" "_law_are" (defArgs s_l_are) (defBody s_l_are) (defScope s_l_are) .none kV_l_are dc_l_are pm_l_are an_l_are cd_l_are ct_l_are), sl_l_are⟩)
    (c_l_are : PySem.W.codeIn K cd_l_are "_law_are" = true)
    (k_l_are : PySem.W.keepIn K (.ref f_l_are) = true)
    (a_l_are_all : PySem.W.nsIn K mainGlobals "_law_are_all" = some (some (.ref f_l_are_all)))
    (l_l_are_all : K.lookup f_l_are_all = some ⟨oc_l_are_all, od_l_are_all, .func (PySem.W.fnOf "_law_are_all" "_law_are_all" (defArgs s_l_are_all) (defBody s_l_are_all) (defScope s_l_are_all) .none kV_l_are_all dc_l_are_all pm_l_are_all an_l_are_all cd_l_are_all ct_l_are_all), sl_l_are_all⟩)
    (c_l_are_all : PySem.W.codeIn K cd_l_are_all "_law_are_all" = true)
    (k_l_are_all : PySem.W.keepIn K (.ref f_l_are_all) = true)
    (a_l_looks_right : PySem.W.nsIn K mainGlobals "_law_looks_right" = some (some (.ref f_l_looks_right)))
    (l_l_looks_right : K.lookup f_l_looks_right = some ⟨oc_l_looks_right, od_l_looks_right, .func (PySem.W.fnOf "_law_looks_right" "_law_looks_right" (defArgs s_l_looks_right) (defBody s_l_looks_right) (defScope s_l_looks_right) .none kV_l_looks_right dc_l_looks_right pm_l_looks_right an_l_looks_right cd_l_looks_right ct_l_looks_right), sl_l_looks_right⟩)
    (c_l_looks_right : PySem.W.codeIn K cd_l_looks_right "_law_looks_right" = true)
    (k_l_looks_right : PySem.W.keepIn K (.ref f_l_looks_right) = true)
    (a_l_bounds_right : PySem.W.nsIn K mainGlobals "_law_bounds_right" = some (some (.ref f_l_bounds_right)))
    (l_l_bounds_right : K.lookup f_l_bounds_right = some ⟨oc_l_bounds_right, od_l_bounds_right, .func (PySem.W.fnOf "_law_bounds_right" "_law_bounds_right" (defArgs s_l_bounds_right) (defBody s_l_bounds_right) (defScope s_l_bounds_right) .none kV_l_bounds_right dc_l_bounds_right pm_l_bounds_right an_l_bounds_right cd_l_bounds_right ct_l_bounds_right), sl_l_bounds_right⟩)
    (c_l_bounds_right : PySem.W.codeIn K cd_l_bounds_right "_law_bounds_right" = true)
    (k_l_bounds_right : PySem.W.keepIn K (.ref f_l_bounds_right) = true)
    (a_l_measure : PySem.W.nsIn K mainGlobals "_law_measure" = some (some (.ref f_l_measure)))
    (l_l_measure : K.lookup f_l_measure = some ⟨oc_l_measure, od_l_measure, .func (PySem.W.fnOf "_law_measure" "_law_measure" (defArgs s_l_measure) (defBody s_l_measure) (defScope s_l_measure) .none kV_l_measure dc_l_measure pm_l_measure an_l_measure cd_l_measure ct_l_measure), sl_l_measure⟩)
    (c_l_measure : PySem.W.codeIn K cd_l_measure "_law_measure" = true)
    (k_l_measure : PySem.W.keepIn K (.ref f_l_measure) = true)
    (a_l_heard : PySem.W.nsIn K mainGlobals "_law_heard" = some (some (.ref f_l_heard)))
    (l_l_heard : K.lookup f_l_heard = some ⟨oc_l_heard, od_l_heard, .func (PySem.W.fnOf "_law_heard" "_law_heard" (defArgs s_l_heard) (defBody s_l_heard) (defScope s_l_heard) .none kV_l_heard dc_l_heard pm_l_heard an_l_heard cd_l_heard ct_l_heard), sl_l_heard⟩)
    (c_l_heard : PySem.W.codeIn K cd_l_heard "_law_heard" = true)
    (k_l_heard : PySem.W.keepIn K (.ref f_l_heard) = true)
    (a_l_divisors_right : PySem.W.nsIn K mainGlobals "_law_divisors_right" = some (some (.ref f_l_divisors_right)))
    (l_l_divisors_right : K.lookup f_l_divisors_right = some ⟨oc_l_divisors_right, od_l_divisors_right, .func (PySem.W.fnOf "_law_divisors_right" "_law_divisors_right" (defArgs s_l_divisors_right) (defBody s_l_divisors_right) (defScope s_l_divisors_right) .none kV_l_divisors_right dc_l_divisors_right pm_l_divisors_right an_l_divisors_right (.ref cD) ct_l_divisors_right), sl_l_divisors_right⟩)
    (c_l_divisors_right : PySem.W.codeIn K (.ref cD) "_law_divisors_right" = true)
    (k_l_divisors_right : PySem.W.keepIn K (.ref f_l_divisors_right) = true)
    (a_l_refused_right : PySem.W.nsIn K mainGlobals "_law_refused_right" = some (some (.ref f_l_refused_right)))
    (l_l_refused_right : K.lookup f_l_refused_right = some ⟨oc_l_refused_right, od_l_refused_right, .func (PySem.W.fnOf "_law_refused_right" "_law_refused_right" (defArgs s_l_refused_right) (defBody s_l_refused_right) (defScope s_l_refused_right) .none kV_l_refused_right dc_l_refused_right pm_l_refused_right an_l_refused_right (.ref cR) ct_l_refused_right), sl_l_refused_right⟩)
    (c_l_refused_right : PySem.W.codeIn K (.ref cR) "_law_refused_right" = true)
    (k_l_refused_right : PySem.W.keepIn K (.ref f_l_refused_right) = true)
    (a_law : PySem.W.nsIn K mainGlobals "law" = some (some (.ref f_law)))
    (l_law : K.lookup f_law = some ⟨oc_law, od_law, .func (PySem.W.fnOf "law" "law" (defArgs s_law) (defBody s_law) (defScope s_law) .none kV_law dc_law pm_law an_law cd_law ct_law), sl_law⟩)
    (c_law : PySem.W.codeIn K cd_law "law" = true)
    (k_law : PySem.W.keepIn K (.ref f_law) = true)
    (tD : K.lookup cD = some ⟨clD, cdD, .fields vsD, csD⟩)
    (vD : vsD[11]? = some (.ref PD))
    (hD : PySem.W.codeHdIn K cD PD = true)
    (gD : h.get? PD = some (PySem.W.tabObj #[]))
    (nD : K.lookup PD = none)
    (tR : K.lookup cR = some ⟨clR, cdR, .fields vsR, csR⟩)
    (vR : vsR[11]? = some (.ref PR))
    (hR : PySem.W.codeHdIn K cR PR = true)
    (gR : h.get? PR = some (PySem.W.tabObj #[]))
    (nR : K.lookup PR = none)
    (ne : PD ≠ PR)
    : LamX.LawAtS l w K CX0 7 63 "script" mg fa h := by
  have e := hfa.symm.trans (PySem.W.mg_of X G a_law)
  cases e
  have E0 : ExcC K C0 := ⟨gaC0, ggC0, exC0, hdC0, haC0, hn, ht, hmC0⟩
  let R0 : Er K mg "BadNumber" "BadNumber.__init__" i_BadNumber := { C := C0, f := fi0, fd := _, F := fun_mk (st := i_BadNumber) li0 ci0 ki0, m := PySem.W.mg_of X G aC0, O := ⟨⟨_, _, _, _, _, _, _, _, _, _, _, _, _, _, _, xC0, rC0⟩, saC0, exC0, tyC0, keC0⟩, X := ⟨gaC0, ggC0, exC0, hdC0⟩, E := E0, iC := iCC0, tI := tIC0 }
  have E1 : ExcC K C1 := ⟨gaC1, ggC1, exC1, hdC1, haC1, hn, ht, hmC1⟩
  let R1 : Er K mg "Misfit" "Misfit.__init__" i_Misfit := { C := C1, f := fi1, fd := _, F := fun_mk (st := i_Misfit) li1 ci1 ki1, m := PySem.W.mg_of X G aC1, O := ⟨⟨_, _, _, _, _, _, _, _, _, _, _, _, _, _, _, xC1, rC1⟩, saC1, exC1, tyC1, keC1⟩, X := ⟨gaC1, ggC1, exC1, hdC1⟩, E := E1, iC := iCC1, tI := tIC1 }
  let T0 : Tx K mg := { nm := { n_int := PySem.W.mg_none_of X G z_int, n_len := PySem.W.mg_none_of X G z_len, n_abs := PySem.W.mg_none_of X G z_abs, n_str := PySem.W.mg_none_of X G z_str, n_range := PySem.W.mg_none_of X G z_range, n_repr := PySem.W.mg_none_of X G z_repr, n_isinstance := PySem.W.mg_none_of X G z_isinstance, n_bool := PySem.W.mg_none_of X G z_bool, n_list := PySem.W.mg_none_of X G z_list, n_tuple := PySem.W.mg_none_of X G z_tuple, n_min := PySem.W.mg_none_of X G z_min, n_max := PySem.W.mg_none_of X G z_max, n_all := PySem.W.mg_none_of X G z_all }, d_is_integer := { f := _, fd := _, F := fun_mk (st := s_is_integer) l_is_integer c_is_integer k_is_integer, m := PySem.W.mg_of X G a_is_integer, k := k_is_integer, b := (fun_mk (st := s_is_integer) l_is_integer c_is_integer k_is_integer).binds (ps := ["value"]) (fun _ _ _ _ _ _ us hl => match us, hl with | [_], _ => rfl) }, d_is_within := { f := _, fd := _, F := fun_mk (st := s_is_within) l_is_within c_is_within k_is_within, m := PySem.W.mg_of X G a_is_within, k := k_is_within, b := (fun_mk (st := s_is_within) l_is_within c_is_within k_is_within).binds (ps := ["value", "least", "most"]) (fun _ _ _ _ _ _ us hl => match us, hl with | [_, _, _], _ => rfl) }, d_are_integers := { f := _, fd := _, F := fun_mk (st := s_are_integers) l_are_integers c_are_integers k_are_integers, m := PySem.W.mg_of X G a_are_integers, k := k_are_integers, b := (fun_mk (st := s_are_integers) l_are_integers c_are_integers k_are_integers).binds (ps := ["value"]) (fun _ _ _ _ _ _ us hl => match us, hl with | [_], _ => rfl) }, d_is_row := { f := _, fd := _, F := fun_mk (st := s_is_row) l_is_row c_is_row k_is_row, m := PySem.W.mg_of X G a_is_row, k := k_is_row, b := (fun_mk (st := s_is_row) l_is_row c_is_row k_is_row).binds (ps := ["value", "wide"]) (fun _ _ _ _ _ _ us hl => match us, hl with | [_, _], _ => rfl) }, d_are_rows := { f := _, fd := _, F := fun_mk (st := s_are_rows) l_are_rows c_are_rows k_are_rows, m := PySem.W.mg_of X G a_are_rows, k := k_are_rows, b := (fun_mk (st := s_are_rows) l_are_rows c_are_rows k_are_rows).binds (ps := ["value", "many", "wide"]) (fun _ _ _ _ _ _ us hl => match us, hl with | [_, _, _], _ => rfl) }, d_is_by := { f := _, fd := _, F := fun_mk (st := s_is_by) l_is_by c_is_by k_is_by, m := PySem.W.mg_of X G a_is_by, k := k_is_by, b := (fun_mk (st := s_is_by) l_is_by c_is_by k_is_by).binds (ps := ["value"]) (fun _ _ _ _ _ _ us hl => match us, hl with | [_], _ => rfl) }, d_common_divisor := { f := _, fd := _, F := fun_mk (st := s_common_divisor) l_common_divisor c_common_divisor k_common_divisor, m := PySem.W.mg_of X G a_common_divisor, k := k_common_divisor, b := (fun_mk (st := s_common_divisor) l_common_divisor c_common_divisor k_common_divisor).binds (ps := ["values"]) (fun _ _ _ _ _ _ us hl => match us, hl with | [_], _ => rfl) }, d_over := { f := _, fd := _, F := fun_mk (st := s_over) l_over c_over k_over, m := PySem.W.mg_of X G a_over, k := k_over, b := (fun_mk (st := s_over) l_over c_over k_over).binds (ps := ["number", "by"]) (fun _ _ _ _ _ _ us hl => match us, hl with | [_, _], _ => rfl) }, d_l_bowl := { f := _, fd := _, F := fun_mk (st := s_l_bowl) l_l_bowl c_l_bowl k_l_bowl, m := PySem.W.mg_of X G a_l_bowl, k := k_l_bowl, b := (fun_mk (st := s_l_bowl) l_l_bowl c_l_bowl k_l_bowl).binds (ps := ["script"]) (fun _ _ _ _ _ _ us hl => match us, hl with | [_], _ => rfl) }, d_l_dip := { f := _, fd := _, F := fun_mk (st := s_l_dip) l_l_dip c_l_dip k_l_dip, m := PySem.W.mg_of X G a_l_dip, k := k_l_dip, b := (fun_mk (st := s_l_dip) l_l_dip c_l_dip k_l_dip).binds (ps := ["bowl", "many"]) (fun _ _ _ _ _ _ us hl => match us, hl with | [_, _], _ => rfl) }, d_l_choose := { f := _, fd := _, F := fun_mk (st := s_l_choose) l_l_choose c_l_choose k_l_choose, m := PySem.W.mg_of X G a_l_choose, k := k_l_choose, b := (fun_mk (st := s_l_choose) l_l_choose c_l_choose k_l_choose).binds (ps := ["bowl", "some"]) (fun _ _ _ _ _ _ us hl => match us, hl with | [_, _], _ => rfl) }, d_l_value := { f := _, fd := _, F := fun_mk (st := s_l_value) l_l_value c_l_value k_l_value, m := PySem.W.mg_of X G a_l_value, k := k_l_value, b := (fun_mk (st := s_l_value) l_l_value c_l_value k_l_value).binds (ps := ["bowl"]) (fun _ _ _ _ _ _ us hl => match us, hl with | [_], _ => rfl) }, d_l_is_number := { f := _, fd := _, F := fun_mk (st := s_l_is_number) l_l_is_number c_l_is_number k_l_is_number, m := PySem.W.mg_of X G a_l_is_number, k := k_l_is_number, b := (fun_mk (st := s_l_is_number) l_l_is_number c_l_is_number k_l_is_number).binds (ps := ["value"]) (fun _ _ _ _ _ _ us hl => match us, hl with | [_], _ => rfl) }, d_l_are := { f := _, fd := _, F := fun_mk (st := s_l_are) l_l_are c_l_are k_l_are, m := PySem.W.mg_of X G a_l_are, k := k_l_are, b := (fun_mk (st := s_l_are) l_l_are c_l_are k_l_are).binds (ps := ["value", "wide"]) (fun _ _ _ _ _ _ us hl => match us, hl with | [_, _], _ => rfl) }, d_l_are_all := { f := _, fd := _, F := fun_mk (st := s_l_are_all) l_l_are_all c_l_are_all k_l_are_all, m := PySem.W.mg_of X G a_l_are_all, k := k_l_are_all, b := (fun_mk (st := s_l_are_all) l_l_are_all c_l_are_all k_l_are_all).binds (ps := ["value", "many", "wide"]) (fun _ _ _ _ _ _ us hl => match us, hl with | [_, _, _], _ => rfl) }, d_l_looks_right := { f := _, fd := _, F := fun_mk (st := s_l_looks_right) l_l_looks_right c_l_looks_right k_l_looks_right, m := PySem.W.mg_of X G a_l_looks_right, k := k_l_looks_right, b := (fun_mk (st := s_l_looks_right) l_l_looks_right c_l_looks_right k_l_looks_right).binds (ps := ["bowl"]) (fun _ _ _ _ _ _ us hl => match us, hl with | [_], _ => rfl) }, d_l_bounds_right := { f := _, fd := _, F := fun_mk (st := s_l_bounds_right) l_l_bounds_right c_l_bounds_right k_l_bounds_right, m := PySem.W.mg_of X G a_l_bounds_right, k := k_l_bounds_right, b := (fun_mk (st := s_l_bounds_right) l_l_bounds_right c_l_bounds_right k_l_bounds_right).binds (ps := ["bowl"]) (fun _ _ _ _ _ _ us hl => match us, hl with | [_], _ => rfl) }, d_l_measure := { f := _, fd := _, F := fun_mk (st := s_l_measure) l_l_measure c_l_measure k_l_measure, m := PySem.W.mg_of X G a_l_measure, k := k_l_measure, b := (fun_mk (st := s_l_measure) l_l_measure c_l_measure k_l_measure).binds (ps := ["values"]) (fun _ _ _ _ _ _ us hl => match us, hl with | [_], _ => rfl) }, d_l_heard := { f := _, fd := _, F := fun_mk (st := s_l_heard) l_l_heard c_l_heard k_l_heard, m := PySem.W.mg_of X G a_l_heard, k := k_l_heard, b := (fun_mk (st := s_l_heard) l_l_heard c_l_heard k_l_heard).binds (ps := ["ask"]) (fun _ _ _ _ _ _ us hl => match us, hl with | [_], _ => rfl) }, d_l_divisors_right := { f := _, fd := _, F := fun_mk (st := s_l_divisors_right) l_l_divisors_right c_l_divisors_right k_l_divisors_right, m := PySem.W.mg_of X G a_l_divisors_right, k := k_l_divisors_right, b := (fun_mk (st := s_l_divisors_right) l_l_divisors_right c_l_divisors_right k_l_divisors_right).binds (ps := ["bowl"]) (fun _ _ _ _ _ _ us hl => match us, hl with | [_], _ => rfl) }, d_l_refused_right := { f := _, fd := _, F := fun_mk (st := s_l_refused_right) l_l_refused_right c_l_refused_right k_l_refused_right, m := PySem.W.mg_of X G a_l_refused_right, k := k_l_refused_right, b := (fun_mk (st := s_l_refused_right) l_l_refused_right c_l_refused_right k_l_refused_right).binds (ps := ["bowl"]) (fun _ _ _ _ _ _ us hl => match us, hl with | [_], _ => rfl) }, d_law := { f := _, fd := _, F := fun_mk (st := s_law) l_law c_law k_law, m := PySem.W.mg_of X G a_law, k := k_law, b := (fun_mk (st := s_law) l_law c_law k_law).binds (ps := ["script"]) (fun _ _ _ _ _ _ us hl => match us, hl with | [_], _ => rfl) } }
  let T : Ty K mg := { toTx := T0, e_BadNumber := R0, e_Misfit := R1, no_BadNumber := noC0, no_Misfit := noC1, CS := CS, mS := PySem.W.mg_of X G aS, xbb := PySem.W.exm_ref exC0 hdC0 tyC0 u00, xmb := PySem.W.exm_ref exC0 hdC0 tyC0 u10, xmm := PySem.W.exm_ref exC1 hdC1 tyC1 u11, mgcd := PySem.W.mg_of X G aG, aP := P, mP := PySem.W.mg_of X G aP, sP := fun _ => .inr ⟨_, itsP, nP, lP, rfl, rfl, zP, vP⟩ }
  have two : ∀ {p : Addr × Addr} {R : Addr × Addr → Prop}, p ∈ [(cD, PD), (cR, PR)] → R (cD, PD) → R (cR, PR) → R p := fun {p R} m h1 h2 => by
    rcases List.mem_cons.mp m with e | m
    · rw [e]; exact h1
    · rw [List.mem_singleton.mp m]; exact h2
  refine ⟨T.d_law.fd, [(cD, PD), (cR, PR)], spLaw K [(PD, "_law_divisors_right.<locals>.<lambda>"), (PR, "_law_refused_right.<locals>.<lambda>")], fun p m => two (R := fun p => h.get? p.2 = some { cls := .none, data := .fields #[] }) m gD gR, fun p m => two (R := fun p => K.lookup p.2 = none) m nD nR,
    fun p m => two (R := fun p => PySem.W.CodeHd h p.1 p.2) m (PySem.W.codeHd_of_K X hD) (PySem.W.codeHd_of_K X hR), fun s v => .of_eq rfl, fun H a ns _ _ tb hs => ⟨a, ns, rfl, hs, ?_, fun _ => rfl⟩, fun base _ _ tb => ?_⟩
  · intro p hp
    rcases List.mem_cons.mp hp with e | hp
    · rw [e]; exact LamX.TabS.nil (tb (cD, PD) List.mem_cons_self)
    · rw [List.mem_singleton.mp hp]; exact LamX.TabS.nil (tb (cR, PR) (List.mem_cons_of_mem _ List.mem_cons_self))
  · refine ok_law T (ok_l_divisors_right T l_l_divisors_right c_l_divisors_right (tb (cD, PD) List.mem_cons_self) List.mem_cons_self ?_) (ok_l_refused_right T l_l_refused_right c_l_refused_right (tb (cR, PR) (List.mem_cons_of_mem _ List.mem_cons_self)) (List.mem_cons_of_mem _ List.mem_cons_self) ?_) T.d_law.F
    · intro p hp e
      rcases List.mem_cons.mp hp with z | hp
      · rw [z]
      · rw [List.mem_singleton.mp hp] at e; exact absurd e.symm ne
    · intro p hp e
      rcases List.mem_cons.mp hp with z | hp
      · rw [z] at e; exact absurd e ne
      · rw [List.mem_singleton.mp hp]
end K01
open PySem PySem.W PyProof.Rows in
set_option maxRecDepth 100000 in
set_option maxHeartbeats 0 in
theorem PySem.Challenge.cw_screwsums_k01_plain_values_told_holds : PySem.Challenge.rw_screwsums_k01_plain_values_told.Holds := by
  w_on; o_law; k_head; (case hw => w_witness2)
  k_fill
  refine LamX.walk_ofTs (l := PySem.Challenge.rw_screwsums_k01_plain_values_told) (n := 63) (k := 7) (x := "script") (CX := fun _ => L2.CX0) rfl (by decide) rfl ⟨rfl, by decide, by decide⟩ (fun w h Y => PySem.W.km_in_of Y) ?F (fun _ _ _ _ _ z => z)
  case F =>
    intro w mg fa h Y KX G hmg
    refine' K01.all_mk KX G hmg ?aS ?aG ?aP ?lP ?zP ?vP ?z_int ?z_len ?z_abs ?z_str ?z_range ?z_repr ?z_isinstance ?z_bool ?z_list ?z_tuple ?z_min ?z_max ?z_all ?aC0 ?xC0 ?rC0 ?saC0 ?exC0 ?tyC0 ?keC0 ?gaC0 ?ggC0 ?hdC0 ?haC0 ?hmC0 ?iCC0 ?tIC0 ?li0 ?ci0 ?ki0 ?noC0 ?aC1 ?xC1 ?rC1 ?saC1 ?exC1 ?tyC1 ?keC1 ?gaC1 ?ggC1 ?hdC1 ?haC1 ?hmC1 ?iCC1 ?tIC1 ?li1 ?ci1 ?ki1 ?noC1 ?hn ?ht ?u00 ?u10 ?u11 ?a_is_integer ?l_is_integer ?c_is_integer ?k_is_integer ?a_is_within ?l_is_within ?c_is_within ?k_is_within ?a_are_integers ?l_are_integers ?c_are_integers ?k_are_integers ?a_is_row ?l_is_row ?c_is_row ?k_is_row ?a_are_rows ?l_are_rows ?c_are_rows ?k_are_rows ?a_is_by ?l_is_by ?c_is_by ?k_is_by ?a_common_divisor ?l_common_divisor ?c_common_divisor ?k_common_divisor ?a_over ?l_over ?c_over ?k_over ?a_l_bowl ?l_l_bowl ?c_l_bowl ?k_l_bowl ?a_l_dip ?l_l_dip ?c_l_dip ?k_l_dip ?a_l_choose ?l_l_choose ?c_l_choose ?k_l_choose ?a_l_value ?l_l_value ?c_l_value ?k_l_value ?a_l_is_number ?l_l_is_number ?c_l_is_number ?k_l_is_number ?a_l_are ?l_l_are ?c_l_are ?k_l_are ?a_l_are_all ?l_l_are_all ?c_l_are_all ?k_l_are_all ?a_l_looks_right ?l_l_looks_right ?c_l_looks_right ?k_l_looks_right ?a_l_bounds_right ?l_l_bounds_right ?c_l_bounds_right ?k_l_bounds_right ?a_l_measure ?l_l_measure ?c_l_measure ?k_l_measure ?a_l_heard ?l_l_heard ?c_l_heard ?k_l_heard ?a_l_divisors_right ?l_l_divisors_right ?c_l_divisors_right ?k_l_divisors_right ?a_l_refused_right ?l_l_refused_right ?c_l_refused_right ?k_l_refused_right ?a_law ?l_law ?c_law ?k_law ?tD ?vD ?hD ?gD ?nD ?tR ?vR ?hR ?gR ?nR ?ne
    (case aS => k_is)
    (case aG => k_is)
    (case aP => k_is)
    (case lP => k_is)
    (case zP => (decide +kernel))
    (case vP => exact .cons ⟨_, rfl⟩ (.cons ⟨_, rfl⟩ (.cons ⟨_, rfl⟩ (.cons ⟨_, rfl⟩ (.cons ⟨_, rfl⟩ (.cons ⟨_, rfl⟩ .nil))))))
    (case z_int => k_is)
    (case z_len => k_is)
    (case z_abs => k_is)
    (case z_str => k_is)
    (case z_range => k_is)
    (case z_repr => k_is)
    (case z_isinstance => k_is)
    (case z_bool => k_is)
    (case z_list => k_is)
    (case z_tuple => k_is)
    (case z_min => k_is)
    (case z_max => k_is)
    (case z_all => k_is)
    (case aC0 => k_is)
    (case xC0 => k_is)
    (case rC0 => (decide +kernel))
    (case saC0 => k_is)
    (case exC0 => k_is)
    (case tyC0 => k_is)
    (case keC0 => k_is)
    (case gaC0 => k_is)
    (case ggC0 => k_is)
    (case hdC0 => k_is)
    (case haC0 => k_is)
    (case hmC0 => k_is)
    (case iCC0 => k_is)
    (case tIC0 => k_is)
    (case li0 => k_is)
    (case ci0 => k_is)
    (case ki0 => k_is)
    (case noC0 => k_is)
    (case aC1 => k_is)
    (case xC1 => k_is)
    (case rC1 => (decide +kernel))
    (case saC1 => k_is)
    (case exC1 => k_is)
    (case tyC1 => k_is)
    (case keC1 => k_is)
    (case gaC1 => k_is)
    (case ggC1 => k_is)
    (case hdC1 => k_is)
    (case haC1 => k_is)
    (case hmC1 => k_is)
    (case iCC1 => k_is)
    (case tIC1 => k_is)
    (case li1 => k_is)
    (case ci1 => k_is)
    (case ki1 => k_is)
    (case noC1 => k_is)
    (case hn => k_is)
    (case ht => k_is)
    (case u00 => first | rfl | k_is)
    (case u10 => k_is)
    (case u11 => first | rfl | k_is)
    (case a_is_integer => k_is)
    (case l_is_integer => k_is)
    (case c_is_integer => k_is)
    (case k_is_integer => k_is)
    (case a_is_within => k_is)
    (case l_is_within => k_is)
    (case c_is_within => k_is)
    (case k_is_within => k_is)
    (case a_are_integers => k_is)
    (case l_are_integers => k_is)
    (case c_are_integers => k_is)
    (case k_are_integers => k_is)
    (case a_is_row => k_is)
    (case l_is_row => k_is)
    (case c_is_row => k_is)
    (case k_is_row => k_is)
    (case a_are_rows => k_is)
    (case l_are_rows => k_is)
    (case c_are_rows => k_is)
    (case k_are_rows => k_is)
    (case a_is_by => k_is)
    (case l_is_by => k_is)
    (case c_is_by => k_is)
    (case k_is_by => k_is)
    (case a_common_divisor => k_is)
    (case l_common_divisor => k_is)
    (case c_common_divisor => k_is)
    (case k_common_divisor => k_is)
    (case a_over => k_is)
    (case l_over => k_is)
    (case c_over => k_is)
    (case k_over => k_is)
    (case a_l_bowl => k_is)
    (case l_l_bowl => k_is)
    (case c_l_bowl => k_is)
    (case k_l_bowl => k_is)
    (case a_l_dip => k_is)
    (case l_l_dip => k_is)
    (case c_l_dip => k_is)
    (case k_l_dip => k_is)
    (case a_l_choose => k_is)
    (case l_l_choose => k_is)
    (case c_l_choose => k_is)
    (case k_l_choose => k_is)
    (case a_l_value => k_is)
    (case l_l_value => k_is)
    (case c_l_value => k_is)
    (case k_l_value => k_is)
    (case a_l_is_number => k_is)
    (case l_l_is_number => k_is)
    (case c_l_is_number => k_is)
    (case k_l_is_number => k_is)
    (case a_l_are => k_is)
    (case l_l_are => k_is)
    (case c_l_are => k_is)
    (case k_l_are => k_is)
    (case a_l_are_all => k_is)
    (case l_l_are_all => k_is)
    (case c_l_are_all => k_is)
    (case k_l_are_all => k_is)
    (case a_l_looks_right => k_is)
    (case l_l_looks_right => k_is)
    (case c_l_looks_right => k_is)
    (case k_l_looks_right => k_is)
    (case a_l_bounds_right => k_is)
    (case l_l_bounds_right => k_is)
    (case c_l_bounds_right => k_is)
    (case k_l_bounds_right => k_is)
    (case a_l_measure => k_is)
    (case l_l_measure => k_is)
    (case c_l_measure => k_is)
    (case k_l_measure => k_is)
    (case a_l_heard => k_is)
    (case l_l_heard => k_is)
    (case c_l_heard => k_is)
    (case k_l_heard => k_is)
    (case a_l_divisors_right => k_is)
    (case l_l_divisors_right => k_is)
    (case c_l_divisors_right => k_is)
    (case k_l_divisors_right => k_is)
    (case a_l_refused_right => k_is)
    (case l_l_refused_right => k_is)
    (case c_l_refused_right => k_is)
    (case k_l_refused_right => k_is)
    (case a_law => k_is)
    (case l_law => k_is)
    (case c_law => k_is)
    (case k_law => k_is)
    (case tD => k_is)
    (case vD => rfl)
    (case hD => first | kernel_rfl | k_is | rfl)
    (case gD => exact PySem.W.km_tabs_of Y _ (by simp))
    (case nD => first | kernel_rfl | k_is | rfl)
    (case tR => k_is)
    (case vR => rfl)
    (case hR => first | kernel_rfl | k_is | rfl)
    (case gR => exact PySem.W.km_tabs_of Y _ (by simp))
    (case nR => first | kernel_rfl | k_is | rfl)
    (case ne => decide)
