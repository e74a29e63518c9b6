import PyProof.Rows.All
import Wide.All
import OpenK.AllK
import Wide.FinOn
import HandS.ForMost
import HandS.EndBits
import HandS.Wide
import HandS.Exc
import HandS.ExcOwn
import KE.KIsAll
import HandS.ExcInit
import HandS.ExcIs
import HandS.ExcField
import HandS.ExcValue
import HandS.IsInst
import HandS.Defaults
import HandS.MakeKwOnly
import HandS.More
import HandS.Ends
import PySem.Challenge.RW_screwsums_k00_errors_keep_their_fields
import PyProof.ReprLen
import PyProof.FitsInt
import HandS.WordsExc
import KE.RegKIsAll
set_option Elab.async false
set_option linter.all false
set_option maxRecDepth 100000
set_option maxHeartbeats 4000000
/-! A def whose promise may lean on this: no builtin that guards itself (a repr of a list, say) is at work around it. -/
namespace SG
open PySem PySem.Spec PyProof.Rows L2

/-- as L2's FnOk, where nothing guarded runs around -/
structure FnG (P : Program) (w : World) (K : PySem.W.Frag) (mg : Str → Option Value) (base : Heap)
    (CX : CXT) (k : Nat) (f : Addr) (fd : FuncData) (ps : List Str) (sp : Sp) : Prop where
  len : ∀ vs H Q E, sp vs H Q E → vs.length = ps.length
  run : ∀ (A : Around) (outer : List Env) (s : Shared) (H : Hp) (args : Args) (us : List Value) (vs : List V) (Q : VK) (E : XK),
    A.guards = some [] → Room k A → Env0 P w K mg base A outer s H → BindsTo s fd args (ps.zip us) → Vals vs us →
    sp vs H Q E → codeAny (model P w) A (.call (.ref f) args) (CR CX outer P w H s Q E) s

section
variable {P : Program} {w : World} {K : PySem.W.Frag} {mg : Str → Option Value} {base : Heap}
  {CX : CXT} {k : Nat} {f : Addr} {fd : FuncData} {ps : List Str} {sp : Sp}
theorem FnG.of (F : FnOk P w K mg base CX k f fd ps sp) : FnG P w K mg base CX k f fd ps sp :=
  ⟨F.len, fun A o s H a us vs Q E _ hr => F.run A o s H a us vs Q E hr⟩
theorem FnG.mono {j : Nat} (F : FnG P w K mg base CX j f fd ps sp) (h : j ≤ k) : FnG P w K mg base CX k f fd ps sp :=
  ⟨F.len, fun A o s H a us vs Q E hg hr => F.run A o s H a us vs Q E hg (hr.mono h)⟩

/-- from a def's text to its promise, the guards handed to the body -/
theorem fnG_of {x qual : Str} {st : Stmt} {N : List Str} (F : Fun K x qual st f fd) (S : FnScope N ps (defScope st))
    (len : ∀ vs H Q E, sp vs H Q E → vs.length = ps.length)
    (hbody : ∀ (cdv : Value) (A : Around) (outer : List Env) (s : Shared) (H : Hp) (vs : List V) (Q : VK) (E : XK),
      A.guards = some [] → Room k (A.deeper (envOfC qual (defScope st) s.heap.objs.size f cdv)) → sp vs H Q E →
      ∃ t, PSs (cxOf CX P w K mg base N qual (defScope st) f cdv A outer s H E) (defBody st) t ∧
        t { nx := fun _ H' => Q .non H', rt := Q } (start N vs) H) :
    FnG P w K mg base CX (k + 1) f fd ps sp := by
  obtain ⟨oc, od, kV, doc, pm, an, cdv, ct, osl, rfl, lk, hcd⟩ := F.ex
  refine ⟨len, ?_⟩
  intro A outer s H args us vs Q E hgd hr e0 hb r hsp
  have hlen := len _ _ _ _ hsp
  have old : ∀ b o, base.get? b = some o → s.heap.get? b = some o := fun b o e => (e0.bs b o e).1
  have KX : K.In s.heap := e0.mod.kin.keeps old
  have lim : s.heap.NoLimit := e0.mod.nolimit.keeps old
  refine codeAny_call_function hr.depth (KX _ _ lk) rfl S.co S.gen rfl (PySem.W.codeRec_of KX hcd) (hb _ _ _ _ ?_)
  refine wpAny_newFunctionEnv_cells S.kind ?_ ?_
  · rintro ⟨n, v⟩ hy
    rcases S.par n (List.of_mem_zip hy).1 with q | q
    · exact .inl q
    · exact .inr ⟨q, PySem.W.cellsFrom_some _ _ _ (.inl q)⟩
  · intro env he s1 x
    subst he
    refine ⟨lim.keeps x.toInCall.keep, codeAny_func ?_⟩
    obtain ⟨t, ht, hq⟩ := hbody cdv A outer s H vs Q E hgd (hr.deeper _) hsp
    have I := inv_start (CX := CX) (E := E) S hr.hd e0 hlen r x
    refine wpAny_mono (ht.run [] s1 (start N vs) H _ I hq) ?_ (fun e s' hs => hs)
    intro fl s' hs
    cases fl with
    | ret u =>
      obtain ⟨v, σ', H', J, rv, q⟩ := hs
      exact ⟨v, H', J.os, J.bare, J.base, J.hok, rv, q⟩
    | next =>
      obtain ⟨σ', H', J, q⟩ := hs
      exact ⟨V.non, H', J.os, J.bare, J.base, J.hok, rfl, q⟩
    | brk =>
      obtain ⟨_, _, _, q⟩ := hs
      exact q.elim
    | cont =>
      obtain ⟨_, _, _, q⟩ := hs
      exact q.elim
end

section
variable {X : Cx} {CX : CXT} {k : Nat} {f : Addr} {fd : FuncData} {ps : List Str} {sp : Sp} {dvs : List V} {ds : List Value} {E : XK}
  {x : Str} {p pos : Pos} {e : Expr} {es : List Expr} {t : TA}
theorem run_g {pins : List (Addr × Obj)} {σ : L2.St} {H : Hp} {s : Shared} {Q : VK} {us : List Value} {vs : List V}
    (F : FnG X.prog X.w X.K X.mg X.base CX k f fd ps sp) (hg : X.A.guards = some []) (hr : Room k X.A) (hb : Binds X.K fd ps ds)
    (hd : Vals dvs ds) (hx : Passes CX X E) (I : Inv X pins σ H s) (r : Vals vs us) (h : sp (vs ++ dvs) H Q E) :
    wpAny (model X.prog X.w) X.A (call (.ref f) us) (EP X pins σ Q) X.xe s := by
  have r2 : Vals (vs ++ dvs) (us ++ ds) := r.append hd
  have hl : (us ++ ds).length = ps.length := r2.length.symm.trans (F.len _ _ _ _ h)
  refine wpAny_call (codeAny_mono (F.run X.A X.stack s H ⟨us, []⟩ _ _ Q E hg hr I.env0 (hb s us I.kIn hl) r2 h) ?_)
  intro r s' hq
  cases r with
  | error e => exact hx pins σ H s e s' I hq
  | ok fl => cases fl with
    | ret u => exact I.after hq
    | next => exact hq.elim
    | brk => exact hq.elim
    | cont => exact hq.elim
/-- f(e, ..), f's promise leaning on the guards -/
theorem pe_callG (F : FnG X.prog X.w X.K X.mg X.base CX k f fd ps sp) (hgd : X.A.guards = some []) (hr : Room k X.A) (hg : Gl X x)
    (hm : X.mg x = some (.ref f)) (hk : PySem.W.keepIn X.K (.ref f) = true) (hb : Binds X.K fd ps ds) (hd : Vals dvs ds) (hx : Passes CX X E)
    (ha : PA X (e :: es) t) (hdb : (x == ("__debug__" : Str)) = false := by decide)
    (he : starEach (e :: es) X.env = (false, eval e X.env) :: starEach es X.env := by rfl)
    (hpl : (backTo pos (starEach es X.env)).any (·.1) = false := by rfl) :
    PE X (.Call (.Name x p) (e :: es) [] pos) (tCall sp dvs E t) := by
  refine ⟨fun pins s σ H Q I h => wpAny_Call_Name_kw (ld_glob I hg hm ?_ hdb)⟩
  refine PySem.W.callWith_K (h₀ := X.base) I.ok.mod.kin hk ?_ he hpl
  refine thn (ha.run pos pins s σ H _ I h) ?_
  rintro us s1 ⟨vs, H1, I1, r, q⟩
  exact ⟨I1.kIn, run_g F hgd hr hb hd hx I1 r q⟩
end

/-! ### repr of data: None, bools, ints, texts, lists, tuples, dicts of these -/
mutual
/-- what stands at a value, as data -/
inductive Dv (K : PySem.W.Frag) (H : Hp) : V → PyData → Prop
  | non : Dv K H .non .none
  | bl (b : Bool) : Dv K H (.bl b) (.bool b)
  | int (i : Int) : Dv K H (.int i) (.int i)
  | str (x : Str) : Dv K H (.str x) (.str x)
  | lst {a : Addr} {xs : List V} {ds : List PyData} : 1 < a → SqL K H a xs → DvAll K H xs ds → Dv K H (.ref a) (.list ds)
  | tup {a : Addr} {xs : List V} {ds : List PyData} : SqT K H a xs → DvAll K H xs ds → Dv K H (.ref a) (.tuple ds)
  | dic {a : Addr} {k : Int} {v : V} {d : PyData} : H a = some (.dK [(.inl k, v)]) → Dv K H v d → Dv K H (.ref a) (.dict [(.int k, d)])
inductive DvAll (K : PySem.W.Frag) (H : Hp) : List V → List PyData → Prop
  | nil : DvAll K H [] []
  | cons {v : V} {vs : List V} {d : PyData} {ds : List PyData} : Dv K H v d → DvAll K H vs ds → DvAll K H (v :: vs) (d :: ds)
end

section
variable {X : Cx} {pins : List (Addr × Obj)} {σ : L2.St} {H : Hp} {s : Shared}
mutual
theorem Dv.reads (I : Inv X pins σ H s) : ∀ (d : PyData) (v : V) (u : Value), Dv X.K H v d → RelV v u → ∃ as, Reads s.heap u d as ∧ sysModules ∉ as
  | .none, _, _, h, r => by
    cases h; cases r
    exact ⟨_, .none, List.not_mem_nil⟩
  | .bool b, _, _, h, r => by
    cases h; cases r
    exact ⟨_, .bool b, List.not_mem_nil⟩
  | .int i, _, _, h, r => by
    cases h
    obtain ⟨t, rfl⟩ := r
    exact ⟨_, .int i t, List.not_mem_nil⟩
  | .str x, _, _, h, r => by
    cases h
    obtain ⟨t, rfl⟩ := r
    exact ⟨_, .str x t, List.not_mem_nil⟩
  | .list ds, _, _, h, r => by
    cases h with
    | lst hn hs ha =>
      cases r
      obtain ⟨its, rv, ⟨o, n, ho, hc, _, hd⟩, _⟩ := I.list hs
      obtain ⟨as, hr, hm⟩ := Dv.readsAll I ds _ its ha rv
      refine ⟨_, .list ho hc hd hr, fun z => ?_⟩
      rcases List.mem_cons.mp z with e | z
      · rw [← e] at hn; exact absurd hn (by decide)
      · exact hm z
  | .tuple ds, _, _, h, r => by
    cases h with
    | tup hs ha =>
      cases r
      obtain ⟨its, rv, ⟨o, ho, hc, n, hd⟩, _⟩ := I.tuple hs
      obtain ⟨as, hr, hm⟩ := Dv.readsAll I ds _ its ha rv
      exact ⟨_, .tuple ho hc hd hr, hm⟩
  | .dict [], _, _, h, _ => by cases h
  | .dict [(.int n, d)], _, _, h, r => by
    cases h with
    | dic hs hv =>
      cases r
      obtain ⟨_, hsm, vs, kv, o, es, ep, ho, hx, hd, _, hp, hnd⟩ := dk_of I.hok hs
      clear hnd
      match vs, kv with
      | [(q1, q2)], .cons qq .nil =>
        obtain ⟨e1, rv⟩ := qq
        obtain ⟨l⟩ := es
        have hp' : Pairs (mixKind X.prog X.w) l [(q1, q2)] := hp
        cases hp' with
        | @cons e0 _ _ _ k1 k2 k3 =>
          cases k3
          have e1' : Sum.inl _ = q1 := e1
          subst e1'
          have hk : keyIs (.inl _) e0.key = true := k1
          obtain ⟨i, t, z1, z2⟩ | ⟨x, t, z1, z2⟩ := keyIs_shape hk
          · cases z1
            have k2' : e0.val = q2 := k2
            obtain ⟨as, hr, hm⟩ := Dv.reads I d _ _ hv rv
            have f1 : Reads s.heap e0.key (PyData.int n) [] := by
              rw [z2]; exact .int n t
            have f2 : Reads s.heap e0.val d as := k2'.symm ▸ hr
            refine ⟨_, .dict ho hx.1 hd (.cons f1 .nil) (.cons f2 .nil), fun z => ?_⟩
            rw [List.append_nil, List.append_nil] at z
            rcases List.mem_cons.mp z with e | z'
            · rw [← e] at hsm; exact absurd hsm (by decide)
            · exact hm z'
          · cases z1
  | .dict [(.none, _)], _, _, h, _ => by cases h
  | .dict [(.bool _, _)], _, _, h, _ => by cases h
  | .dict [(.str _, _)], _, _, h, _ => by cases h
  | .dict [(.list _, _)], _, _, h, _ => by cases h
  | .dict [(.tuple _, _)], _, _, h, _ => by cases h
  | .dict [(.dict _, _)], _, _, h, _ => by cases h
  | .dict (_ :: _ :: _), _, _, h, _ => by cases h
theorem Dv.readsAll (I : Inv X pins σ H s) : ∀ (ds : List PyData) (vs : List V) (us : List Value), DvAll X.K H vs ds → Vals vs us → ∃ as, ReadsAll s.heap us ds as ∧ sysModules ∉ as
  | [], _, _, h, r => by
    cases h; cases r
    exact ⟨_, .nil, List.not_mem_nil⟩
  | d :: ds, _, _, h, r => by
    cases h with
    | cons h1 h2 =>
      cases r with
      | cons r1 r2 =>
        obtain ⟨as, q1, m1⟩ := Dv.reads I d _ _ h1 r1
        obtain ⟨bs, q2, m2⟩ := Dv.readsAll I ds _ _ h2 r2
        exact ⟨_, .cons q1 q2, fun z => (List.mem_append.mp z).elim m1 m2⟩
end
end
/-- repr(v), v data -/
def rRepr (K : PySem.W.Frag) : List V → Hp → VK → Prop := fun xs H Q =>
  ∃ v d, xs = [v] ∧ Dv K H v d ∧ d.showable = true ∧ d.shown.length ≤ sizeLine ∧ d.depth ≤ 60 ∧ Q (.str d.shown) H
theorem call_repr {X : Cx} (hg : X.A.guards = some []) (hu : X.A.units + 64 < cLine) : CallR X (.builtin "repr") (rRepr X.K) := by
  intro pins s σ H xs us Q I r h
  obtain ⟨v, d, rfl, hv, h1, h2, h3, q⟩ := h
  obtain ⟨u, rfl, ru⟩ := vals1 r
  obtain ⟨as, hr, hm⟩ := Dv.reads I d v u hv ru
  have big : ∀ {a : Addr}, u = .ref a → wpAny (model X.prog X.w) X.A (call (.builtin "repr") [u]) (EP X pins σ Q) X.xe s := by
    intro a e
    subst e
    exact repr_of_reads' hr h1 (fun _ => hm) hg (by omega) (fun _ _ e => e) (fun h' t tk k => ⟨.str d.shown, H, I.kept k, ⟨_, rfl⟩, q⟩) h2
  cases hr with
  | none => exact PySem.P.repr_of_none ⟨.str _, H, I.tok _, ⟨_, rfl⟩, by simpa only [PyData.shown] using q⟩
  | bool b => exact PySem.P.repr_of_bool ⟨.str _, H, I.tok _, ⟨_, rfl⟩, by simpa only [PyData.shown] using q⟩
  | int i t => exact PySem.P.repr_of_int (by simpa [PyData.showable] using h1) ⟨.str _, H, I.tok _, ⟨_, rfl⟩, by simpa only [PyData.shown] using q⟩
  | str x t => exact PySem.P.repr_of_str ⟨.str _, H, I.tok _, ⟨_, rfl⟩, by simpa only [PyData.shown] using q⟩ (by simpa only [PyData.shown] using h2)
  | list _ _ _ _ => exact big rfl
  | tuple _ _ _ _ => exact big rfl
  | dict _ _ _ _ _ => exact big rfl

/-- a list of written items, its place told to lie behind sys.modules -/
def tLstB (t : TA) : TE := fun σ H Q => t σ H fun xs H1 => xs.length ≤ sizeLine ∧ ∀ p, H1 p = none → 1 < p → Q (.ref p) (upd H1 p (.lst xs))
theorem pe_lstB {X : Cx} {es : List Expr} {t : TA} {pos : Pos} (h : PA X es t) : PE X (.List es pos) (tLstB t) := by
  refine ⟨fun pins s σ H Q I hq => wpAny_List_spliced (thn (h.run pos pins s σ H _ I hq) ?_)⟩
  rintro us s1 ⟨xs, H1, I1, r, z, q⟩
  refine ⟨r.length ▸ z, ?_⟩
  have hf := I1.hok.fresh (Nat.le_refl s1.heap.objs.size)
  have big : 1 < s1.heap.objs.size := I1.big
  refine ⟨.ref s1.heap.objs.size, upd H1 s1.heap.objs.size (.lst xs), I1.laid (t' := s1.toks) (fun b u e => Heap.get?_push_of_some _ e) (Nat.le_refl _) ?_, rfl, q _ hf big⟩
  exact ⟨z, us, 0, r, Heap.get?_push_size _ rfl⟩
end SG

set_option Elab.async false
set_option linter.all false
set_option maxRecDepth 100000
set_option maxHeartbeats 4000000
/-! Errors of the program's own classes as values: made by a call, kept behind an except suite, asked for their class and their fields. -/
namespace SG
open PySem PySem.Spec PyProof.Rows L2

/-! ### an error object, whatever its record holds -/
def exv (e : Addr) (cls : Value) (d : Option Addr) : HO := .ext fun h => ∃ (o : Obj) (vs : Array Value), h.get? e = some o ∧ Zc cls d o ∧ o.data = .fields vs
theorem exv_ok {P : Program} {w : World} {H : Hp} {h : Heap} {e : Addr} {cls : Value} {d : Option Addr} {o : Obj} {vs : Array Value}
    (he : h.get? e = some o) (hz : Zc cls d o) (hd : o.data = .fields vs) : ObjOk P w H h e (exv e cls d) := by
  refine ⟨⟨o, vs, he, hz, hd⟩, ⟨o, he⟩, ?_⟩
  rintro h1 h2 ⟨o', v', q, r⟩ k
  exact ⟨o', v', k _ q, r⟩
theorem exv_at {P : Program} {w : World} {H : Hp} {h : Heap} {e : Addr} {cls : Value} {d : Option Addr} (ok : HOk P w H h) (q : H e = some (exv e cls d)) :
    ∃ (o : Obj) (vs : Array Value), h.get? e = some o ∧ Zc cls d o ∧ o.data = .fields vs := by
  have x : ObjOk P w H h e (.ext fun h => ∃ (o : Obj) (vs : Array Value), h.get? e = some o ∧ Zc cls d o ∧ o.data = .fields vs) := ok e _ q
  exact x.1
/-- an error of the class at C stands at e, its dict at d: as it was made, or behind a try -/
def ExAt (H : Hp) (e C : Addr) (d : Option Addr) : Prop := H e = some (exo e C d) ∨ H e = some (exv e (.ref C) d)
theorem ExAt.get {P : Program} {w : World} {H : Hp} {h : Heap} {e C : Addr} {d : Option Addr} (x : ExAt H e C d) (ok : HOk P w H h) :
    ∃ (o : Obj) (vs : Array Value), h.get? e = some o ∧ Zc (.ref C) d o ∧ o.data = .fields vs := by
  rcases x with x | x
  · obtain ⟨t, q⟩ := exo_at ok x
    exact ⟨_, _, q, ⟨rfl, rfl⟩, rfl⟩
  · exact exv_at ok x
theorem ExAt.there {H : Hp} {e C : Addr} {d : Option Addr} (x : ExAt H e C d) : ∃ o, H e = some o := x.elim (fun q => ⟨_, q⟩) fun q => ⟨_, q⟩
theorem ExAt.same {H H' : Hp} {e C : Addr} {d : Option Addr} (s : ∀ o, H e = some o → H' e = some o) (x : ExAt H e C d) : ExAt H' e C d := x.imp (s _) (s _)
/-- its fields stand at d -/
def ExD (H : Hp) (d : Addr) (fs : List (Str × V)) : Prop := H d = some (exd d fs) ∨ H d = some (.xd fs)
theorem ExD.get {P : Program} {w : World} {H : Hp} {h : Heap} {d : Addr} {fs : List (Str × V)} (x : ExD H d fs) (ok : HOk P w H h) :
    ∃ mA, h.Ns1 d mA ∧ ∀ f, RelO (fs.lookup f) (mA f) := by
  rcases x with x | x
  · exact exd_at ok x
  · exact ok d _ x
theorem ExD.same {H H' : Hp} {d : Addr} {fs : List (Str × V)} (s : ∀ o, H d = some o → H' d = some o) (x : ExD H d fs) : ExD H' d fs := x.imp (s _) (s _)

/-! ### isinstance -/
section
variable {prog : Program} {w : World} {A : Around} {E : Value → Shared → Prop} {s : Shared} {K : PySem.W.Frag} {x D : Addr} {ox : Obj} {od : Option Obj}
open PySem.W PySem.Calls in
theorem found_class {attr g : Value} {name : Str} (hc : (clsIn K D).isSome = true) (ha : findIn K (.ref D) name = some (some attr))
    (hg : specialIn K attr "__get__" = some (some g)) (ht : takesIn K attr = some true) : findObj K D od name = some (.bind g attr) := by
  cases hcd : clsIn K D with
  | none =>
    rw [hcd] at hc
    cases hc
  | some cd =>
    unfold findObj
    rw [hcd, Option.bind_some, ha, Option.bind_some]
    simp [hg, ht]
open PySem.W PySem.Calls in
theorem ask_class {Q : Option Value → Shared → Prop} (C : ExcC K D) (X : K.In s.heap) (I : PySem.W.InstAt s.heap x ox D od)
    (h : Q (some (.ref D)) { s with toks := s.toks + 1 }) : wpAny (model prog w) A (getAttr? (.ref x) "__class__") Q E s := by
  have some_cls : (clsIn K D).isSome = true := by
    obtain ⟨cd, hc, _⟩ := any_some C.hd
    rw [hc]; rfl
  have hf := found_class (od := od) some_cls C.ha C.hn C.ht
  obtain ⟨hp, g, d, t, os⟩ := s
  have aT := I.type (M := model prog w)
  have aG := looks_findIn (M := model prog w) X C.hg
  have aA := looks_findIn (M := model prog w) X C.hk
  have aF := looks_find (M := model prog w) X I hf
  have base : Looks (model prog w) hp (isInstance (.ref x) (.type "BaseException")) true := aT.andThen (looks_subIn X C.hs)
  have notObj : (Value.builtin "BaseException.__getattribute__" == Value.builtin "object.__getattribute__") = false := by decide +kernel
  have notObj' : (onTheHeap (Value.ref D) && Value.builtin "BaseException.__getattribute__" == Value.builtin "object.__getattribute__") = false := by
    rw [notObj]; rfl
  unfold getAttr? getAttrBy? getAttrBy
  refine wpAny_bind (wpAny_mkText (wpAny_bind (wpAny_attempt (wpAny_holding (wpAny_bind (aT.at (wpAny_bind (aG.at ?_))))))))
  show wpAny _ _ (if (onTheHeap (Value.ref D) && Value.builtin "BaseException.__getattribute__" == Value.builtin "object.__getattribute__") = true then _ else _) _ _ _
  rw [notObj', if_neg Bool.false_ne_true]
  unfold getAttrByItsOwn hookBefore
  refine wpAny_bind ?_
  rw [if_pos (show onTheHeap (Value.ref D) = true from rfl)]
  refine aA.at (wpAny_bind (wpAny_attempt (wpAny_holding ?_)))
  unfold callGetattribute
  rw [show (false && onTheHeap (Value.builtin "BaseException.__getattribute__")) = false from rfl, if_neg Bool.false_ne_true]
  unfold boundAndCalled
  rw [PySem.F.excAttr_ValueError.ga.bind (.ref x)]
  refine wpAny_bind (wpAny_pure ?_)
  show wpAny _ _ (call (.builtin "BaseException.__getattribute__") [.ref x, .str "__class__" t]) _ _ _
  refine wpAny_call (codeAny_call_builtin PySem.F.excAttr_ValueError.ga.plain PySem.F.entry_bexc_ga ?_)
  refine @check_slot (model prog w) _ _ ⟨hp, g, d, t + 1, os⟩ "BaseException.__getattribute__" "BaseException" "__getattribute__" (.ref x) [.str "__class__" t] [] _ (by decide +kernel) (by decide +kernel) base (PySem.F.args_bexc_ga (.ref x) (.str "__class__" t)) ?_
  unfold Builtin.«object.__getattribute__»
  refine wpAny_bind (wpAny_of_eq (a := ((Value.ref x : Value), [Value.str "__class__" t])) (by first | rfl | (simp only [slotArgs]; rfl)) ?_)
  refine wpAny_bind (wpAny_pure (wpAny_bind (aT.at (wpAny_bind (aF.at ?_)))))
  show wpAny _ _ (holding [Value.builtin "object.__class__"] (call (.builtin "getset_descriptor.__get__") [.builtin "object.__class__", .ref x, .ref D]) >>= ret) _ _ _
  refine wpAny_bind (wpAny_holding (wpAny_call (class_get (s := ⟨hp, g, d, t + 1, os⟩) (ox := ox) (od := od) X I C.hm ?_)))
  refine wpAny_pure ?_
  show wpAny _ _ (handedOut (.ref D)) _ _ _
  rw [handedOut_of (v := .ref D) rfl]
  first
    | exact wpAny_pure (wpAny_pure h)
    | exact wpAny_pure h
    | exact wpAny_pure (wpAny_bind (wpAny_pure (wpAny_pure h)))
open PySem.W PySem.Calls in
theorem kit_err (C : ExcC K D) : KitX K (.ref x) (.ref D) (fun h => PySem.W.InstAt h x ox D od) where
  ty := fun _ _ _ I => I.type
  it := by
    intro M h X _
    obtain ⟨cd, hc, _⟩ := any_some C.hd
    unfold clsIn at hc
    split at hc
    · rename_i c' d' cd' sl' ho
      intro A' Q' E' s' k q
      unfold isType loadHead
      exact wpAny_bind (wpAny_loadPart (k _ _ (X _ _ ho)) (wpAny_pure q))
    · cases hc
  ne := by
    intro h tp dd its n sl X htp
    obtain ⟨cd, hc, _⟩ := any_some C.hd
    cases e : (Value.ref D == Value.ref tp) with
    | false => rfl
    | true =>
      have e' : D = tp := Value.ref.inj (beq_iff_eq.mp e)
      subst e'
      unfold clsIn at hc
      split at hc
      · rename_i c' d' cd' sl' ho
        cases (X _ _ ho).symm.trans htp
      · cases hc
  ca := fun X I k => ask_class C X I k
end
section
variable {X : Cx}
theorem inst_of {pins : List (Addr × Obj)} {σ : L2.St} {H : Hp} {s : Shared} {a C : Addr} {d : Option Addr} (I : Inv X pins σ H s) (x : ExAt H a C d)
    (hd : ∀ dd, d = some dd → ∃ fs, ExD H dd fs) : ∃ (o : Obj) (od : Option Obj), PySem.W.InstAt s.heap a o C od := by
  obtain ⟨o, vs, he, ⟨z1, z2⟩, hv⟩ := x.get I.hok
  have no : PySem.W.notCls o = true := by
    unfold PySem.W.notCls
    rw [hv] <;> rfl
  cases d with
  | none => exact ⟨o, none, he, z1, no, by rw [z2]; trivial⟩
  | some dd =>
    obtain ⟨fs, q⟩ := hd dd rfl
    obtain ⟨mA, ⟨od, es, ep, h1, _⟩, _⟩ := q.get I.hok
    exact ⟨o, some od, he, z1, no, by rw [z2]; exact h1⟩
/-- isinstance(e, c) of an error e, c a class -/
def rIsx (K : PySem.W.Frag) : List V → Hp → VK → Prop := fun xs H Q => ∃ (a C : Addr) (d : Option Addr) (c : V) (u : Value) (b : Bool),
  xs = [.ref a, c] ∧ ExAt H a C d ∧ (∀ dd, d = some dd → ∃ fs, ExD H dd fs) ∧ ExcC K C ∧ ClsV c u ∧ PySem.W.kitOne K (.ref C) u = some b ∧ Q (.bl b) H
theorem call_isx : CallR X (.builtin "isinstance") (rIsx X.K) := by
  intro pins s σ H xs us Q I r h
  obtain ⟨a, C, d, c, u, b, rfl, hx, hd, T, k, e, q⟩ := h
  obtain ⟨u1, u2, rfl, r1, r2⟩ := vals2 r
  cases (show u1 = Value.ref a from r1)
  cases k.eq r2
  obtain ⟨o, od, J⟩ := inst_of I hx hd
  exact PySem.W.kia_one (kit_err T) I.kIn J e (fun z => nomatch z) fun tk => ⟨.bl b, H, I.tok tk, rfl, q⟩
/-- isinstance(e, (c, ..)) of an error e, the tuple tracked -/
def rIsxT (K : PySem.W.Frag) : List V → Hp → VK → Prop := fun xs H Q => ∃ (a C : Addr) (d : Option Addr) (tp : Addr) (cs : List V) (us : List Value) (b : Bool),
  xs = [.ref a, .ref tp] ∧ ExAt H a C d ∧ (∀ dd, d = some dd → ∃ fs, ExD H dd fs) ∧ ExcC K C ∧ H tp = some (.tup cs) ∧ Paired ClsV cs us ∧ PySem.W.kitAny K (.ref C) us = some b ∧ Q (.bl b) H
theorem call_isxT : CallR X (.builtin "isinstance") (rIsxT X.K) := by
  intro pins s σ H xs us Q I r h
  obtain ⟨a, C, d, tp, cs, ws, b, rfl, hx, hd, T, ht, k, e, q⟩ := h
  obtain ⟨u1, u2, rfl, r1, r2⟩ := vals2 r
  cases (show u1 = Value.ref a from r1)
  cases (show u2 = Value.ref tp from r2)
  obtain ⟨o, od, J⟩ := inst_of I hx hd
  obtain ⟨_, its, rv, ot, h1, h2, n, h3⟩ := (show ObjOk X.prog X.w H s.heap tp (.tup cs) from I.hok tp _ ht)
  cases ClsV.all k rv
  obtain ⟨oc, od', dt, sl⟩ := ot
  dsimp only at h2 h3
  subst h2 h3
  exact PySem.W.kia_tup (kit_err T) I.kIn J h1 e (fun z => nomatch z) fun tk => ⟨.bl b, H, I.tok tk, rfl, q⟩
/-- e.f of an error e -/
def tExf (K : PySem.W.Frag) (f : Str) (te : TE) : TE := fun σ H Q => te σ H fun x H1 => ∃ (a C d : Addr) (fs : List (Str × V)) (v : V),
  x = .ref a ∧ ExAt H1 a C (some d) ∧ ExD H1 d fs ∧ XfC K C ∧ PySem.W.findIn K (.ref C) f = some none ∧ fs.lookup f = some v ∧ Q v H1
theorem pe_exf {e : Expr} {te : TE} {pos : Pos} {f : Str} (he : PE X e te) (hb : attributeBase e f X.env (eval e X.env) = eval e X.env := by rfl) :
    PE X (.Attribute e f pos) (tExf X.K f te) := by
  refine ⟨fun pins s σ H Q I h => attr_of hb (thn (he.run pins s σ H _ I h) ?_)⟩
  rintro u s1 ⟨x, H1, I1, rx, a, C, d, fs, v, rfl, ha, hd, T, hno, l, q⟩
  obtain rfl : u = Value.ref a := rx
  obtain ⟨o, vs, hg, ⟨z1, z2⟩, hv⟩ := ha.get I1.hok
  obtain ⟨mA, hns, hr⟩ := hd.get I1.hok
  obtain ⟨od, ho, hl⟩ := lookIn_ns hns
  obtain ⟨u, hu, ru⟩ := RelO.some_of (v := v) (o := mA f) (by rw [← l]; exact hr f)
  have J : PySem.W.InstAt s1.heap a o C (some od) := ⟨hg, z1, by unfold PySem.W.notCls; rw [hv] <;> rfl, by rw [z2]; exact ho⟩
  exact HandSPX.exc_get I1.kIn J T.ga T.gg T.exC (PySem.W.findObj_own T.hdC hno rfl (by rw [hl, hu])) (handed_of ru) ⟨v, H1, I1.tok _, ru, q⟩
end
end SG

set_option Elab.async false
set_option linter.all false
set_option maxRecDepth 100000
set_option maxHeartbeats 4000000
/-! An own error class called, with keywords or without: what is made is a value. -/
namespace PySem
namespace SGE
open Builtin Builtin.ObjectAttr HandSPX
section
variable {M : Model} {prog : Program} {w : World} {A : Around} {E : Value → Shared → Prop} {R : Result → Shared → Prop}
  {h : Heap} {g : Array GenState} {d : Drawn} {t : Nat} {os : OsState} {nm q : Str} {C N : Addr} {bs bm bmB : List Value} {hdct : Bool}
  {sn : List Str} {sub : List Value} {ab : Bool} {col : Option Bool} {dd : Option Addr} {k0 k1 k2 k3 k5 : Option Value} {B newId initId : String}
  {rest : List Value} {kw : List (Str × Value)}
theorem new_checked {Q : Unit → Shared → Prop} (F : ExcBaseFacts B newId initId bmB) (hT : ∀ X : String, bm.contains (.type X) = bmB.contains (.type X))
    (hC : h.get? C = some (excClassObj nm q C N bs bm hdct sn sub ab col dd k0 k1 k2 k3 k5 newId)) (hq : Q () ⟨h, g, d, t, os⟩) :
    wpAny M A (checkBuiltinCall newId ⟨.ref C :: rest, kw⟩) Q E ⟨h, g, d, t, os⟩ := by
  have below : (Value.ref C :: bm).contains (.type B) = true := by rw [List.contains_cons, hT, F.hasB, Bool.or_true]
  have lone := F.noStar
  simp only [checkBuiltinCall, F.newKind, F.newSplit, F.newRow]
  repeat (first | refine wpAny_loadPart_at hC ?_ | (refine wpAny_isSubtype_exc hC ?_; rw [below]) | refine wpAny_staticBase_exc hC ?_ | refine wpAny_madeBy_exc hC ?_ | simp only [bne_self_eq_false, Bool.false_eq_true, if_false] | wp_step)
  exact hq
theorem new_run (F : ExcBaseFacts B newId initId bmB) (hT : ∀ X : String, bm.contains (.type X) = bmB.contains (.type X))
    (hC : h.get? C = some (excClassObj nm q C N bs bm hdct sn sub ab col dd k0 k1 k2 k3 k5 newId)) (hrest : rest.length ≤ sizeLine)
    (hq : R (.ok (.ret (.ref (h.objs.size + 1)))) ⟨(h.push (PySem.W.kdv_tup rest)).push (excO C h.objs.size), g, d, t, os⟩) :
    codeAny (model prog w) A (.builtin newId ⟨.ref C :: rest, kw⟩) R ⟨h, g, d, t, os⟩ := by
  have ends := F.ends
  have cB : (Value.ref C :: bm).contains (.type B) = true := by rw [List.contains_cons, hT, F.hasB, Bool.or_true]
  have cA : (Value.ref C :: bm).contains (.type "AttributeError") = false := by rw [List.contains_cons, hT, F.noAttr]; rfl
  have cN : (Value.ref C :: bm).contains (.type "NameError") = false := by rw [List.contains_cons, hT, F.noName]; rfl
  refine codeAny_builtinAt F.entry ?_
  unfold Builtin.«BaseException.__new__»
  refine wpAt_bind ?_
  show wpAt _ _ _ (stack >>= _) _ _ _
  refine wpAt_bind (wpAt_stack fun p below => wpAt_of_wpAny ?_)
  wp_walk
  refine wpAt_of_wpAny ?_
  rw [F.owner]
  repeat (first | with_reducible refine wpAny_madeHere_exc F.canon hC ?_ | with_reducible refine wpAny_loadPart_at hC ?_ | (with_reducible refine wpAny_isSubtype_exc hC ?_; first | rw [cB] | rw [cA] | rw [cN]) | wp_step)
  show R _ _
  rw [Heap.size_push]
  exact hq
theorem type_call_run {fI : Addr} {Q : Fin → Shared → Prop} (F : ExcBaseFacts B newId initId bmB) (hT : ∀ X : String, bm.contains (.type X) = bmB.contains (.type X))
    (hC : h.get? C = some (excClassObj nm q C N bs bm hdct sn sub ab col dd k0 k1 k2 k3 k5 newId)) (hrest : rest.length ≤ sizeLine)
    (hi : W.Looks (model prog w) h (typeLookup (.ref C) "__init__") (some (.ref fI))) (hb : ∀ self, W.Looks (model prog w) h (bindSpecial (.ref fI) self) (.ref fI, [self]))
    (hq : codeAny (model prog w) A (.call (.ref fI) ⟨.ref (h.objs.size + 1) :: rest, kw⟩)
      (fun r s' => match r with | .ok (.ret v) => v = .none ∧ Q (.done (.ret (.ref (h.objs.size + 1)))) s' | .ok _ => False | .error e => E e s')
      ⟨(h.push (PySem.W.kdv_tup rest)).push (excO C h.objs.size), g, d, t, os⟩) :
    wpAny (model prog w) A (Builtin.«type.__call__» ⟨.ref C :: rest, kw⟩) Q E ⟨h, g, d, t, os⟩ := by
  repeat (first | with_reducible refine wpAny_loadPart_at hC ?_ | with_reducible refine wpAny_madeBy_exc hC ?_ | wp_step)
  refine codeAny_call_builtin_code (Code.quiet_builtin _ F.quiet) (new_checked F hT hC ?_)
  refine new_run F hT hC hrest ?_
  show wpAny _ _ _ _ _ _
  have k : ∀ b o, h.get? b = some o → ((h.push (PySem.W.kdv_tup rest)).push (excO C h.objs.size)).get? b = some o :=
    fun b o e => Heap.get?_push_of_some _ (Heap.get?_push_of_some _ e)
  have hC2 := k _ _ hC
  have got : ((h.push (PySem.W.kdv_tup rest)).push (excO C h.objs.size)).get? (h.objs.size + 1) = some (excO C h.objs.size) := by heap_get
  have selfIn : (Value.ref C :: bm).contains (.ref C) = true := by simp
  have i2 := hi.keeps k
  have b2 := (hb (.ref (h.objs.size + 1))).keeps k
  unfold isInstance
  repeat (first | with_reducible refine wpAny_loadPart_at got ?_ | (with_reducible refine wpAny_isSubtype_exc hC2 ?_; rw [selfIn]) | wp_step)
  show wpAny _ _ (typeLookup (.ref C) _) _ _ _
  refine i2.at (wpAny_holding (wpAny_bind (b2.at ?_)))
  refine wpAny_bind (wpAny_call (codeAny_mono hq ?_))
  intro r s' z
  rcases r with e | (v | _ | _ | _) <;> first | exact z | exact z.elim | skip
  obtain ⟨rfl, z⟩ := z
  first
    | exact wpAny_pure (wpAny_pure z)
    | (wp_walk; exact z)
theorem tc_checked {M : Model} {Q : Unit → Shared → Prop} (hC : h.get? C = some (excClassObj nm q C N bs bm hdct sn sub ab col dd k0 k1 k2 k3 k5 newId))
    (hq : Q () ⟨h, g, d, t, os⟩) : wpAny M A (checkBuiltinCall "type.__call__" ⟨.ref C :: rest, kw⟩) Q E ⟨h, g, d, t, os⟩ := by
  have f3 := tc_sub
  have hT : (⟨h, g, d, t, os⟩ : Shared).TypeIs (.ref C) "type" := ⟨_, hC, rfl⟩
  simp only [checkBuiltinCall, tc_kind, tc_split]
  repeat (any_goals (first | assumption | with_reducible refine wpAny_loadPart_at hC ?_ | with_reducible refine wpAny_onRaise ?_ | with_reducible refine wpAny_map ?_ | wp_step))
theorem call_run {fI : Addr} (F : ExcBaseFacts B newId initId bmB) (hT : ∀ X : String, bm.contains (.type X) = bmB.contains (.type X))
    (hC : h.get? C = some (excClassObj nm q C N bs bm hdct sn sub ab col dd k0 k1 k2 k3 k5 newId)) (hrest : rest.length ≤ sizeLine)
    (hi : W.Looks (model prog w) h (typeLookup (.ref C) "__init__") (some (.ref fI))) (hb : ∀ self, W.Looks (model prog w) h (bindSpecial (.ref fI) self) (.ref fI, [self]))
    (hq : codeAny (model prog w) (A.under (.builtin "type.__call__" ⟨.ref C :: rest, kw⟩)) (.call (.ref fI) ⟨.ref (h.objs.size + 1) :: rest, kw⟩) (W.InitBack (h.objs.size + 1) R)
      ⟨(h.push (PySem.W.kdv_tup rest)).push (excO C h.objs.size), g, d, t, os⟩) :
    codeAny (model prog w) A (.call (.ref C) ⟨rest, kw⟩) R ⟨h, g, d, t, os⟩ := by
  have f1 := tc_lookup
  have f2 := tc_bind (.ref C)
  have hTy : (⟨h, g, d, t, os⟩ : Shared).TypeIs (.ref C) "type" := ⟨_, hC, rfl⟩
  refine codeAny_of_tree ?_
  show wpAny _ _ (callAny (.ref C) _) _ _ _
  repeat (any_goals (first | assumption | with_reducible refine wpAny_loadPart_at hC ?_ | wp_step))
  refine ⟨rfl, ?_⟩
  refine codeAny_call_builtin_at (Code.quiet_builtin _ (by decide +kernel)) entry_typeCall (tc_checked hC (type_call_run F hT hC hrest hi hb ?_))
  refine codeAny_mono hq fun r s' z => ?_
  rcases r with e | (v | _ | _ | _) <;> exact z
end
end SGE
end PySem

namespace SG
open PySem PySem.Spec PyProof.Rows L2
/-- C(e, ..): the values given, then __init__ over the new error -/
def tMkE (C : Addr) (n m : Nat) (sp : Sp) (gV : List V → List V → List V) (t tk : TA) : TE := fun σ H Q => t σ H fun vs H1 => tk σ H1 fun zs H2 =>
  vs.length = n ∧ zs.length = m ∧ vs.length ≤ 1000 ∧ ∀ a, H2 a = none →
  sp (gV (.ref a :: vs) zs) (upd H2 a (exo a C none)) (fun v H3 => v = .non ∧ Q (.ref a) H3) E0
section
variable {X : Cx} {k n : Nat} {f C : Addr} {fd : FuncData} {ps ks : List Str} {sp : Sp} {x : Str} {p pos : Pos} {e : Expr} {es : List Expr} {kws : List Keyword} {t tk : TA}
  {gg : List Value → List Value → List Value} {gV : List V → List V → List V}
theorem run_err {pins : List (Addr × Obj)} {σ : L2.St} {H : Hp} {s : Shared} {Q : VK} {us ws : List Value} {vs zs : List V} (T : OexC X.K C)
    (iC : PySem.W.findIn X.K (.ref C) "__init__" = some (some (.ref f))) (tI : PySem.W.typeIn X.K (.ref f) = some (.type "function"))
    (F : FnOk X.prog X.w X.K X.mg X.base CX0 k f fd ps sp) (hr : Room (k + 1) X.A) (hb : KBn X.K fd ps n ks gg gV)
    (I : Inv X pins σ H s) (r : Vals vs us) (rz : Vals zs ws) (l1 : vs.length + 1 = n) (l2 : zs.length = ks.length) (hz : vs.length ≤ 1000)
    (h : ∀ a, H a = none → sp (gV (.ref a :: vs) zs) (upd H a (exo a C none)) (fun v H3 => v = .non ∧ Q (.ref a) H3) E0) :
    wpAny (model X.prog X.w) X.A (call (.ref C) us (ks.zip ws)) (EP X pins σ Q) X.xe s := by
  obtain ⟨nm, q, N, bs, bm, sn, sub, ab, col, dd, k0, k1, k2, k3, k5, hC, hbm⟩ := T.cls
  obtain ⟨hp, g, dr, tk, os⟩ := s
  have hsz : hp.objs.size ≤ hp.objs.size + 1 := Nat.le_succ _
  have hq := h (hp.objs.size + 1) (I.hok.fresh hsz)
  have keeps : ∀ b o, hp.get? b = some o → ((hp.push (PySem.W.kdv_tup us)).push (PySem.HandSPX.excO C hp.objs.size)).get? b = some o :=
    fun b o e => Heap.get?_push_of_some _ (Heap.get?_push_of_some _ e)
  have got : ((hp.push (PySem.W.kdv_tup us)).push (PySem.HandSPX.excO C hp.objs.size)).get? (hp.objs.size + 1) = some (PySem.HandSPX.excO C hp.objs.size) := by heap_get
  have I2 : Inv X pins σ (upd H (hp.objs.size + 1) (exo (hp.objs.size + 1) C none)) ⟨(hp.push (PySem.W.kdv_tup us)).push (PySem.HandSPX.excO C hp.objs.size), g, dr, tk, os⟩ :=
    I.laid (t' := tk) (a := hp.objs.size + 1) (h' := (hp.push (PySem.W.kdv_tup us)).push (PySem.HandSPX.excO C hp.objs.size)) keeps hsz (exo_ok got)
  have r1 : Vals (V.ref (hp.objs.size + 1) :: vs) (Value.ref (hp.objs.size + 1) :: us) := .cons rfl r
  have r2 := hb.rel r1 rz
  have hus : us.length ≤ sizeLine := by
    rw [← Paired.length r, sizeLine_eq]
    omega
  have n1 : (Value.ref (hp.objs.size + 1) :: us).length = n := r1.length.symm.trans l1
  refine wpAny_call (PySem.SGE.call_run PySem.F.excBase_ValueError (fun Y => PySem.HandSPX.refsVE_contains Y bm hbm) (I.kIn _ _ hC) hus (PySem.W.looks_findIn I.kIn iC) (fun self => PySem.W.bind_fn I.kIn self tI)
    (codeAny_mono (F.run _ X.stack _ _ ⟨Value.ref (hp.objs.size + 1) :: us, ks.zip ws⟩ (gg (Value.ref (hp.objs.size + 1) :: us) ws) _ _ E0 (hr.make C us (ks.zip ws)) (I2.env0.make C us (ks.zip ws))
      (hb.to _ (Value.ref (hp.objs.size + 1) :: us) ws I2.kIn n1 (rz.length.symm.trans l2)) r2 hq) ?_))
  intro r s' hq'
  cases r with
  | error e => exact hq'.elim
  | ok fl => cases fl with
    | ret u =>
      obtain ⟨v, H', I3, rv, ev, q3⟩ := I2.after hq'
      subst ev
      exact ⟨rv, V.ref (hp.objs.size + 1), H', I3, rfl, q3⟩
    | next => exact hq'.elim
    | brk => exact hq'.elim
    | cont => exact hq'.elim
/-- C(e, ..) -/
theorem pe_err (T : OexC X.K C) (iC : PySem.W.findIn X.K (.ref C) "__init__" = some (some (.ref f))) (tI : PySem.W.typeIn X.K (.ref f) = some (.type "function"))
    (F : FnOk X.prog X.w X.K X.mg X.base CX0 k f fd ps sp) (hr : Room (k + 1) X.A) (hb : KBn X.K fd ps (n + 1) [] gg gV)
    (hg : Gl X x) (hm : X.mg x = some (.ref C)) (ha : PA X (e :: es) t) (hdb : (x == ("__debug__" : Str)) = false := by decide)
    (he : starEach (e :: es) X.env = (false, eval e X.env) :: starEach es X.env := by rfl) (hpl : (backTo pos (starEach es X.env)).any (·.1) = false := by rfl) :
    PE X (.Call (.Name x p) (e :: es) [] pos) (tMkE C n 0 sp gV t tNil) := by
  refine ⟨fun pins s σ H Q I h => wpAny_Call_Name_kw (ld_glob I hg hm ?_ hdb)⟩
  refine PySem.W.callWith_K (h₀ := X.base) I.ok.mod.kin T.kC (thn (ha.run pos pins s σ H _ I h) ?_) he hpl
  rintro us s1 ⟨vs, H1, I1, r, l1, l2, hz, q⟩
  exact ⟨I1.kIn, run_err (ws := []) (ks := []) T iC tI F hr hb I1 r .nil (congrArg Nat.succ l1) rfl hz q⟩
/-- C(k = v, ..) -/
theorem pe_errK (T : OexC X.K C) (iC : PySem.W.findIn X.K (.ref C) "__init__" = some (some (.ref f))) (tI : PySem.W.typeIn X.K (.ref f) = some (.type "function"))
    (F : FnOk X.prog X.w X.K X.mg X.base CX0 k f fd ps sp) (hr : Room (k + 1) X.A) (hb : KBn X.K fd ps 1 ks gg gV)
    (hg : Gl X x) (hm : X.mg x = some (.ref C)) (hkw : PK X kws tk)
    (hall : (backToKw pos (keywordEach kws X.env)).all (·.1.isSome) = true := by rfl) (hks : (backToKw pos (keywordEach kws X.env)).filterMap (·.1) = ks := by rfl) (hdb : (x == ("__debug__" : Str)) = false := by decide)
    (hpl : ((backTo pos (starEach [] X.env)).any (·.1) || (backToKw pos (keywordEach kws X.env)).any (·.1.isNone)) = false := by rfl) :
    PE X (.Call (.Name x p) [] kws pos) (tMkE C 0 ks.length sp gV tNil tk) := by
  refine ⟨fun pins s σ H Q I h => wpAny_Call_Name_kw (ld_glob I hg hm ?_ hdb)⟩
  refine PySem.W.callWith_KW0 (h₀ := X.base) I.ok.mod.kin T.kC hall ?_ hpl
  refine thn (hkw.run pos pins s σ H _ I h) ?_
  rintro ws s2 ⟨zs, H2, I2, rz, _, l2, hz, q2⟩
  refine ⟨I2.kIn, ?_⟩
  rw [hks]
  exact run_err (us := []) (vs := []) T iC tI F hr hb I2 .nil rz rfl l2 hz q2
end
end SG

set_option Elab.async false
set_option linter.all false
set_option maxRecDepth 100000
set_option maxHeartbeats 4000000
/-! try: body / except X as n: suite, where what was caught is kept as a value behind the suite. -/
namespace SG
open PySem PySem.Spec PyProof.Rows L2
section
variable {X : Cx} {pins : List (Addr × Obj)} {σ : L2.St} {H : Hp} {s : Shared} {a : Addr} {o : Obj} {vs : Array Value}
/-- an error that the heap holds and that nothing tracks is tracked from now on -/
theorem Inv.keepErr {cls : Value} {d : Option Addr} (I : Inv X pins σ H s) (he : s.heap.get? a = some o) (hz : Zc cls d o) (hd : o.data = .fields vs) (hn : H a = none)
    (hL : a ≠ X.env.locals) (h0 : X.s_0.heap.get? a = none) (hp : ∀ p ∈ X.pn ++ pins, p.1 ≠ a) : Inv X pins σ (upd H a (exv a cls d)) s := by
  have other : ∀ {b : Addr} {u : HO}, H b = some u → upd H a (exv a cls d) b = some u := fun {b u} q => (upd_ne (ne_of_none q hn)).trans q
  have old : ∀ {b : Addr} {u : Obj}, X.s_0.heap.get? b = some u → b ≠ a := fun {b u} q e => by
    rw [e, h0] at q
    cases q
  refine ⟨I.ok, I.os, I.bare, ⟨I.base.keep, I.base.slot, ?_, I.base.there, ?_, ?_, ?_⟩, I.loc, I.cell, ?_, ?_, ?_, ?_, I.len⟩
  · intro b u q n hx
    rw [upd_ne (old q)]
    exact I.base.free b u q n hx
  · exact fun b xs q => other (I.base.tups b xs q)
  · exact fun b u w q => other (I.base.frzs b u w q)
  · intro b ps q
    obtain ⟨m, z⟩ := I.base.tbls b ps q
    exact ⟨m, other z⟩
  · rw [upd_ne (Ne.symm hL)]
    exact I.free
  · intro x c e
    have nc : c ≠ a := fun z => by
      obtain ⟨v, oc, q1, q2⟩ := I.cell x c e
      rw [z, he] at q1
      cases q1
      rw [hd] at q2
      cases q2
    rw [upd_ne nc]
    exact I.freeC x c e
  · intro p hm
    obtain ⟨e, n, ne, nf, nd⟩ := I.pin p hm
    exact ⟨e, by rw [upd_ne (hp p hm)]; exact n, ne, nf, nd⟩
  · intro b u q
    by_cases hb : b = a
    · subst hb
      rw [upd_same] at q
      cases q
      exact exv_ok he hz hd
    · rw [upd_ne hb] at q
      exact (I.hok b u q).stay (fun c w' _ z => z) (fun c z => other z) fun c xs z => other z
end
/-- the wish of 'except x as n': slot i is n's; what was caught is kept behind the suite -/
def wKeep (K : PySem.W.Frag) (c : Value) (i : Nat) (ts : Addr → Value → Option Addr → TS) (Wout : WX) (D : Ends) : WX := fun cls d σ H =>
  ∃ b, PySem.W.exmOne K cls c = some b ∧ (b = true → ∀ a, H a = none → ts a cls d
    { nx := fun σ' H' => D.nx (σ'.set i none) (upd H' a (exv a cls d)), rt := fun v H' => D.rt v (upd H' a (exv a cls d)), bk := fun σ' H' => D.bk (σ'.set i none) (upd H' a (exv a cls d)),
      ct := fun σ' H' => D.ct (σ'.set i none) (upd H' a (exv a cls d)) } (σ.set i (some (.ref a))) H) ∧ (b = false → Wout cls d σ H)
section
variable {X : Cx} {x n : Str} {c : Value} {i : Nat} {body suite : List Stmt} {b₀ : Stmt} {np pos pos' : Pos} {tb : WX → TS} {ts : Addr → Value → Option Addr → TS} {Wout : WX}
theorem ps_try_keep (hs : X.stack = X.env :: X.outer) (hf : X.env.frame = some X.env.locals) (hN : X.N.Nodup) (hi : X.N[i]? = some n) (hln : X.env.kindOf n = some .local) (hex : X.ex = []) (hc : Names X x c) (tk : Takes X Wout)
    (hb : ∀ (W : WX) (pn : List (Addr × Obj)) (xe : Value → Shared → Prop), Takes (X.tr pn xe) W → PassesOwn (model X.prog X.w) X.A X.env xe → PSs (X.tr pn xe) body (tb W))
    (hsu : ∀ (a : Addr) (oe : Obj) (cls : Value) (d : Option Addr) (pn : List (Addr × Obj)), Zc cls d oe → (∃ vs, oe.data = .fields vs) → PSs (X.suite a ((a, oe) :: pn)) (b₀ :: suite) (ts a cls d)) :
    PS X (.Try body [.ExceptHandler (some (.Name x np)) (some n) (b₀ :: suite) pos'] [] [] pos) (fun D σ H => tb (wKeep X.K c i ts Wout D) D σ H) := by
  refine ⟨fun pins s σ H D I h => wpAny_Try_except ?_⟩
  have ok := I.ok
  have hfr : X.A.frames = some (X.env :: X.outer) := by rw [ok.frames, hs]
  have hloc : Loc X.env.scope n := .inl hln
  refine wpAny_mono ((hb (wKeep X.K c i ts Wout D) (X.pn ++ pins) (fun e s1 => wpAny (model X.prog X.w) X.A (noteFrame e X.env) (fun _ s2 => wpAny (model X.prog X.w) X.A (setFlight e none) (fun _ s3 =>
    wpAny (model X.prog X.w) X.A (handleBy e X.env [.ExceptHandler (some (.Name x np)) (some n) (b₀ :: suite) pos']) (SP X pins D) X.xe s3) X.xe s2) X.xe s1) ?caught PassesOwn.looking).run [] s σ H D (I.toTry _) h) ?thru (fun e s1 he => he)
  case thru =>
    intro f s1 hsp
    cases f with
    | next =>
      obtain ⟨σ', H', J', q⟩ := hsp
      exact wpAny_execs_nil ⟨σ', H', J'.ofTry ok, q⟩
    | brk =>
      obtain ⟨σ', H', J', q⟩ := hsp
      exact ⟨σ', H', J'.ofTry ok, q⟩
    | cont =>
      obtain ⟨σ', H', J', q⟩ := hsp
      exact ⟨σ', H', J'.ofTry ok, q⟩
    | ret u =>
      obtain ⟨v, σ', H', J', r, q⟩ := hsp
      exact ⟨v, σ', H', J'.ofTry ok, r, q⟩
  case caught =>
    rintro u s' ⟨a, B, sI, pins', σ', H', cls, d, rfl, J', nb, up, sky, na, os, ag, b, hb1, hyes, hno⟩
    have J : Inv X pins σ' H' sI := J'.ofTry ok
    have sky' : Sky B (X.env :: X.outer) a (Zc cls d) X.env.locals s'.heap := hs ▸ sky
    show wpAny (model X.prog X.w) X.A (noteFrame (.ref a) X.env) _ _ _
    refine Sky.land Zc.steady hfr hf sky' ?_
    intro h3 fl3 up3
    have J3 : Inv X pins σ' H' { s' with heap := h3 } := J.landed nb fl3.1 (up.trans up3) os ag
    obtain ⟨oe3, vs3, he3, hz3, hd3⟩ := fl3.there
    have apart : ∀ {h : Heap} {o : Obj} {vs : Array Value}, h.FunFrames B (X.env :: X.outer) → h.get? a = some o → o.data = .fields vs → a ∉ frs (X.env :: X.outer) := by
      intro h o vs ff e dd hm
      obtain ⟨_, o', e', hnf⟩ := ff.mem hm
      rw [e] at e'
      cases e'
      exact hnf _ dd
    have nfr := apart fl3.2.2.1 he3 hd3
    have nL : a ≠ X.env.locals := fun z => nfr (List.mem_filterMap.mpr ⟨X.env, List.mem_cons_self, by rw [hf, z]⟩)
    have nF : a ∉ X.fs := by
      intro hm
      obtain ⟨e, he, q⟩ := List.mem_filterMap.mp hm
      exact nfr (List.mem_filterMap.mpr ⟨e, List.mem_cons_of_mem _ he, q⟩)
    -- it stood nowhere ahead of the body
    have nI : sI.heap.get? a = none := by
      cases e : sI.heap.get? a with
      | none => rfl
      | some u =>
        have z := nb a u e (by rw [hs]; exact nfr)
        rw [fl3.2.1] at z
        cases z
    have n0 : X.s_0.heap.get? a = none := by
      cases e : X.s_0.heap.get? a with
      | none => rfl
      | some u =>
        obtain ⟨u', z⟩ := J.base.there a u e (by rw [hex]; exact fun z => nomatch z)
        rw [nI] at z
        cases z
    have np' : ∀ p ∈ X.pn ++ pins, p.1 ≠ a := by
      intro p hm z
      have q := (J.pin p hm).1
      rw [z, nI] at q
      cases q
    have S3 := J3.suite he3 hd3 na nL nF
    refine wpAny_handleBy_cons (codeAny_handlers_test ?_) (by intro q; cases q)
    have LT : PySem.W.Looks (model X.prog X.w) h3 (typeOf (.ref a)) cls := fun A Q E s k q => wpAny_typeOf_ref (k _ _ he3) (by rw [hz3.1]; exact q)
    have LM := PySem.W.exm_one (M := model X.prog X.w) J3.kIn LT hb1
    have test : ∀ {Q : Value → Shared → Prop} {E : Value → Shared → Prop}, Q c { s' with heap := h3 } → wpAny (model X.prog X.w) (X.A.mark (some (.ref a))) (eval (.Name x np) X.env) Q E { s' with heap := h3 } := by
      intro Q E q
      obtain ⟨hg, hdbg, hm | ⟨hm, hv, hnn⟩⟩ := hc
      · exact ld_glob (X := X.suite a ((a, oe3) :: (X.pn ++ pins))) S3 hg hm q hdbg
      · exact ld_blt (X := X.suite a ((a, oe3) :: (X.pn ++ pins))) S3 hg hm hv q hnn hdbg
    refine test (LM.here ?_)
    cases b with
    | true =>
      refine codeAny_handlers_suite_as (HandSPX.lands_againZ fl3 ?_)
      intro h4 fl4 up4
      have J4 : Inv X pins σ' H' { s' with heap := h4 } := J.landed nb fl4.1 ((up.trans up3).trans up4) os ag
      obtain ⟨oe4, vs4, he4, hz4, hd4⟩ := fl4.there
      have S4 := J4.suite he4 hd4 na nL nF
      refine store_ok (X := X.suite a ((a, oe4) :: (X.pn ++ pins))) (v := .ref a) S4 hN hi hloc rfl (fun s5 S5 => ?_) (.inr hln)
      refine wpAny_mono ((hsu a oe4 cls d (X.pn ++ pins) hz4 ⟨_, hd4⟩).run [] s5 _ H' _ S5 (hyes rfl a na)) ?_ (fun _ _ z => z.elim)
      intro f s6 hsp
      have leave : ∀ {σ6 : L2.St} {H6 : Hp} {Q : Shared → Prop}, Inv (X.suite a ((a, oe4) :: (X.pn ++ pins))) [] σ6 H6 s6 → (∀ s7, Inv X pins (σ6.set i none) (upd H6 a (exv a cls d)) s7 → Q s7) →
          wpAny (model X.prog X.w) X.A (do bindName X.env n .none; unbindBehindTheSuite X.env n pos') (fun _ s7 => Q s7) X.xe s6 := by
        intro σ6 H6 Q S6 hq
        obtain ⟨q1, q2, _⟩ := S6.pin (a, oe4) (List.mem_append_left _ List.mem_cons_self)
        exact gone_ok (Inv.keepErr (S6.unsuite ok) q1 hz4 hd4 q2 nL n0 np') hN hi hln hq
      cases f with
      | next =>
        obtain ⟨σ6, H6, S6, q6⟩ := hsp
        exact leave S6 fun s7 J7 => ⟨_, _, J7, q6⟩
      | brk =>
        obtain ⟨σ6, H6, S6, q6⟩ := hsp
        exact leave S6 fun s7 J7 => ⟨_, _, J7, q6⟩
      | cont =>
        obtain ⟨σ6, H6, S6, q6⟩ := hsp
        exact leave S6 fun s7 J7 => ⟨_, _, J7, q6⟩
      | ret u =>
        obtain ⟨v6, σ6, H6, S6, r6, q6⟩ := hsp
        exact leave S6 fun s7 J7 => ⟨_, _, _, J7, r6, q6⟩
    | false =>
      show wpAny _ X.A (handleBy (.ref a) X.env []) _ _ _
      refine wpAny_handleBy_nil ?_
      obtain ⟨k1, k2, k3, oe, vs, T, oT, ts', he, hz, hd, h1, hr⟩ := id fl3
      unfold PySem.passOn
      refine wpAny_bind (wpAny_field he hd h1 ?_)
      rw [if_neg (show ¬ ((Value.ref T == Value.none) = true) from by simp)]
      have fin : wpAny (model X.prog X.w) X.A (setFlight (.ref a) X.env.frame) (fun _ s4 => wpAny (model X.prog X.w) X.A (throw (.ref a) : Sem Flow) (SP X pins D) X.xe s4) X.xe { s' with heap := h3 } := by
        rw [hf]
        refine HandSPX.setFlight_upZ fl3 fun h4 hh4 up4 => wpAny_throw (tk _ _ ?_)
        exact ⟨a, B, sI, pins, σ', H', cls, d, rfl, J, nb, (up.trans up3).trans up4, .inr (.inr (by rw [hs]; exact hh4)), na, os, ag, hno rfl⟩
      first
        | exact wpAny_bind (wpAny_pure (wpAny_bind fin))
        | exact wpAny_bind fin
end
end SG

set_option Elab.async false
set_option linter.all false
set_option maxRecDepth 100000
set_option maxHeartbeats 4000000
/-! Two lists of the very same things. -/
namespace SG
open PySem PySem.Spec PyProof.Rows L2
/-- equal to itself without a look within -/
def selfV : V → Bool
  | .ref _ => true
  | v => flatB v
theorem eqAt_self {A : Around} {s : Shared} {v : V} {u u' : Value} (r : RelV v u) (r' : RelV v u') (f : selfV v = true) : SeqAt.EqAt A s u u' true := by
  cases v with
  | ref a =>
    cases (show u = Value.ref a from r)
    cases (show u' = Value.ref a from r')
    exact SeqAt.EqAt.same _
  | non => exact eqAt_same r r' rfl
  | bl b => exact eqAt_same r r' rfl
  | int i => exact eqAt_same r r' rfl
  | str x => exact eqAt_same r r' rfl
  | byt x => exact eqAt_same r r' rfl
  | flt x => cases f
  | ty x => cases f
theorem items_self {A : Around} {s : Shared} : ∀ {xs : List V} {us ws : List Value}, xs.all selfV = true → Vals xs us → Vals xs ws → ∀ j (h1 : j < us.length) (h2 : j < ws.length), SeqAt.EqAt A s us[j] ws[j] true
  | [], _, _, _, .nil, .nil, j, h1, _ => absurd h1 (Nat.not_lt_zero j)
  | x :: xs, _, _, hx, .cons a1 b1, .cons a2 b2, 0, _, _ => eqAt_self a1 a2 (by rw [List.all_cons, Bool.and_eq_true] at hx; exact hx.1)
  | x :: xs, _, _, hx, .cons a1 b1, .cons a2 b2, j + 1, h1, h2 =>
    items_self (by rw [List.all_cons, Bool.and_eq_true] at hx; exact hx.2) b1 b2 j (Nat.lt_of_succ_lt_succ h1) (Nat.lt_of_succ_lt_succ h2)
/-- a != b, both lists of the same things -/
def rNeSame (K : PySem.W.Frag) : R2 := fun x y H Q => ∃ p q xs, x = .ref p ∧ y = .ref q ∧ SqL K H p xs ∧ SqL K H q xs ∧ xs.all selfV = true ∧ Q (.bl false) H
theorem op_neSame {X : Cx} (hu : X.A.units < cLine) : OpR X (compareOp .NotEq) (rNeSame X.K) := by
  intro pins s σ H x y v u Q I rx ry h
  obtain ⟨p, q, xs, rfl, rfl, hp, hq, hs, k⟩ := h
  cases (show v = Value.ref p from rx)
  cases (show u = Value.ref q from ry)
  obtain ⟨us, r1, p1, _⟩ := I.list hp
  obtain ⟨ws, r2, p2, _⟩ := I.list hq
  have hsz : us.toArray.size = ws.toArray.size := by rw [List.size_toArray, List.size_toArray, ← r1.length, ← r2.length]
  have z := SeqAt.RcNeAt.lists (A := X.A) (e := fun _ => true) p1.isList p2.isList hsz hu (fun j h1 h2 => by
    have w := items_self (A := X.A.in1) (s := s) hs r1 r2 j (by simpa using h1) (by simpa using h2)
    simpa using w)
  rw [show ((List.range us.toArray.size).all fun _ => true) = true from List.all_eq_true.mpr fun _ _ => rfl] at z
  exact z X.prog X.w _ _ ⟨.bl false, H, I, rfl, k⟩
end SG

set_option Elab.async false
set_option linter.all false
set_option maxRecDepth 100000
set_option maxHeartbeats 4000000
/-! The end of a law whose promise leans on the guards. -/
namespace SG
open PySem PySem.Spec PyProof.Rows L2
/-- of all the heap only the script is tracked, and only where the written part does not hold it -/
def scr (K : PySem.W.Frag) (a : Addr) (o : Obj) (xs : List V) : Hp := fun b => if b = a ∧ K.lookup a = none then some (.frz o (.lst xs)) else none
section
variable {K : PySem.W.Frag} {a b : Addr} {o u : Obj} {xs : List V} {h : Heap}
theorem scr_some {z : HO} (e : scr K a o xs b = some z) : b = a ∧ K.lookup a = none ∧ z = .frz o (.lst xs) := by
  unfold scr at e
  split at e
  · rename_i c
    exact ⟨c.1, c.2, (Option.some.inj e).symm⟩
  · cases e
theorem scr_kept (e : K.lookup b = some u) : scr K a o xs b = none := by
  cases z : scr K a o xs b with
  | none => rfl
  | some y =>
    obtain ⟨rfl, n, _⟩ := scr_some z
    rw [n] at e
    cases e
theorem scr_other (ha : h.get? a = some o) (hb : h.get? b = some u) (ne : u ≠ o) : scr K a o xs b = none := by
  cases z : scr K a o xs b with
  | none => rfl
  | some y =>
    obtain ⟨rfl, _, _⟩ := scr_some z
    rw [ha] at hb
    exact absurd (Option.some.inj hb).symm ne
end
theorem law_callG {P : Program} {w : World} {K : PySem.W.Frag} {mg mb : Str → Option Value} {k : Nat} {fa a : Addr} {fd : FuncData} {x : Str} {sp : Sp} {s₁ : Shared} {vs : List Value} {ns : List Int}
    (inK : K.In s₁.heap) (nG : s₁.heap.Ns mainGlobals mg) (nB : s₁.heap.Ns builtinsNs mb) (eB : ∀ x : Str, x ≠ "__name__" → mb x = bootBuiltins x) (nl : s₁.heap.NoLimit) (ng : s₁.gens = #[])
    (at_a : s₁.heap.get? a = some { cls := .type "list", data := .seq vs.toArray }) (ia : IntsAre vs ns) (le : ns.length ≤ sizeLine) (room : Room k callerA)
    (F : ∀ base : Heap, K.In base → base.Ns mainGlobals mg → FnG P w K mg base CX0 k fa fd [x] sp) (bd : ∀ (s : Shared) (u : Value), BindsTo s fd ⟨[u], []⟩ [(x, u)])
    (ask : ∀ H : Hp, SqL K H a (ns.map V.int) → sp [.ref a] H (fun v _ => v = .bl true) fun _ _ _ => False) :
    codeAny (model P w) callerA (.call (.ref fa) ⟨[.ref a], []⟩) (fun r s' => r = .ok (.ret (.bool true)) ∧ OldK s₁.heap s'.heap ∧ s'.os = s₁.os ∧ AllBare s'.gens) s₁ := by
  have rel := vals_ints ia
  -- what is tracked
  have hok : HOk P w (scr K a { cls := .type "list", data := .seq vs.toArray } (ns.map V.int)) s₁.heap := by
    intro b z e
    obtain ⟨rfl, _, rfl⟩ := scr_some e
    exact ⟨at_a, by rw [List.length_map]; exact le, vs, _, rel, at_a⟩
  have seq : SqL K (scr K a { cls := .type "list", data := .seq vs.toArray } (ns.map V.int)) a (ns.map V.int) := by
    cases e : K.lookup a with
    | none => exact .inl (.inr ⟨{ cls := .type "list", data := .seq vs.toArray }, if_pos ⟨rfl, e⟩⟩)
    | some o =>
      obtain rfl : o = { cls := .type "list", data := .seq vs.toArray } := Option.some.inj ((inK a o e).symm.trans at_a)
      exact .inr ⟨_, vs.toArray, _, e, rfl, rfl, rfl, by rw [List.size_toArray, ia.length]; exact le, by simpa using rel⟩
  have track := ask _ seq
  have frz : ∀ b v, scr K a { cls := .type "list", data := .seq vs.toArray } (ns.map V.int) b = some v → b = a ∧ v = .frz { cls := .type "list", data := .seq vs.toArray } (.lst (ns.map V.int)) := fun b v e => ⟨(scr_some e).1, (scr_some e).2.2⟩
  have far : ∀ {b : Addr} {m : Str → Option Value}, s₁.heap.Ns b m → (hidT s₁.heap (scr K a { cls := .type "list", data := .seq vs.toArray } (ns.map V.int))).Ns b m := by
    rintro b m ⟨o, es, ep, e, d, r⟩
    refine ⟨o, es, ep, hidT_get e (scr_other at_a e fun q => ?_), d, r⟩
    rw [q] at d
    exact nomatch d
  have near : K.In (hidT s₁.heap (scr K a { cls := .type "list", data := .seq vs.toArray } (ns.map V.int))) := fun b o e => hidT_get (inK b o e) (scr_kept e)
  generalize scr K a { cls := .type "list", data := .seq vs.toArray } (ns.map V.int) = H at *
  obtain ⟨mc, c1, c2⟩ := nl
  have env : Env0 P w K mg (hidT s₁.heap H) callerA [] s₁ H :=
    ⟨rfl, ⟨near, far nG, ⟨mb, far nB, eB⟩, mc, far c1, c2⟩, fun b o e => of_hidT e, Nat.le_of_eq (hidT_size _ _), trivial, fun b m => absurd (show b ∈ ([] : List Addr) from m) List.not_mem_nil, hok, .of_eq ng⟩
  refine codeAny_mono ((F _ near (far nG)).run callerA [] s₁ H ⟨[.ref a], []⟩ [.ref a] [.ref a] _ _ rfl room env (bd s₁ (.ref a)) (.cons rfl .nil) track) fun r s' q => ?_
  match r, q with
  | .error _, q => exact False.elim q
  | .ok .next, q => exact False.elim q
  | .ok .brk, q => exact False.elim q
  | .ok .cont, q => exact False.elim q
  | .ok (.ret u), ⟨v, H', os, bare, un, hok', rv, (vt : v = .bl true)⟩ =>
    subst vt
    obtain rfl : u = Value.bool true := rv
    refine ⟨rfl, OldK.of_keep fun b o e => ?_, os, bare⟩
    cases z : H b with
    | none => exact un.keep b o e z (fun m => absurd (show b ∈ ([] : List Addr) from m) List.not_mem_nil) (by simp)
    | some v =>
      obtain ⟨rfl, rfl⟩ := frz b v z
      obtain ⟨y, _⟩ := hok' b _ (un.frzs b _ _ z)
      rw [y, ← e, at_a]
/-- the goal that k_head leaves (case hc) -/
theorem walkG {l : PySem.W.OpenLaw} {n k : Nat} {q : Program} {loose : List Str} {XP : (Str → Option Value) → Heap → Prop} {YP : World → Heap → Prop} {d : DefRec} {K : Params → PySem.W.Frag} {sp : PySem.W.Frag → Sp} {x : Str}
    (most : l.most = some n) (small : n ≤ sizeLine) (nodef : d.params.defaults = []) (room : Room k callerA)
    (inK : ∀ (w : World) (h : Heap), YP w h → (K w.params).In h)
    (F : ∀ (w : World) (mg : Str → Option Value) (fa : Addr) (h : Heap), (K w.params).In h → h.Ns mainGlobals mg → mg d.name = some (.ref fa) →
      ∃ fd : FuncData, (∀ (s : Shared) (u : Value), BindsTo s fd ⟨[u], []⟩ [(x, u)]) ∧ ∀ base : Heap, (K w.params).In base → base.Ns mainGlobals mg → FnG l.prog w (K w.params) mg base CX0 k fa fd [x] (sp (K w.params)))
    (ask : ∀ (K : PySem.W.Frag) (H : Hp) (a : Addr) (ns : List Int), ns.length ≤ n → SqL K H a (ns.map V.int) → sp K [.ref a] H (fun v _ => v = .bl true) fun _ _ _ => False) :
    PySem.W.WalkO q loose XP YP l.row.toRowW d [] (fun f vs => PySem.call f vs) :=
  Att.attach_call most nodef fun w s₀ s₁ mg mb fa o pm cd doc a vs ns G Y ho hd hcd hmg hobj hints hlen hg =>
    let ⟨fd, bd, run⟩ := F w mg fa _ (inK w _ Y) G.T.g hmg
    law_callG (inK w _ Y) G.T.g G.T.b G.T.builtins G.T.nolimit hg hobj hints (Nat.le_trans hlen small) room run bd fun H s => ask _ H a ns hlen s
end SG

set_option Elab.async false
set_option linter.all false
set_option maxRecDepth 100000
set_option maxHeartbeats 4000000
namespace K00
open PySem L2 SG
def top (i : Nat) : Stmt := PySem.Challenge.pw_screwsums_k00_errors_keep_their_fields.main.body.getD i (.Pass ⟨0, 0, 0, 0⟩)
/-- a def of the text, found behind the top -/
structure Df (K : PySem.W.Frag) (mg : Str → Option Value) (x : Str) (st : Stmt) (ps : List Str) where
  f : Addr
  fd : FuncData
  F : Fun K x x st f fd
  m : mg x = some (.ref f)
  k : PySem.W.keepIn K (.ref f) = true
  b : Binds K fd ps []
structure Nm (mg : Str → Option Value) : Prop where
  n_int : mg "int" = none
  n_len : mg "len" = none
  n_abs : mg "abs" = none
  n_str : mg "str" = none
  n_range : mg "range" = none
  n_repr : mg "repr" = none
  n_isinstance : mg "isinstance" = none
  n_bool : mg "bool" = none

abbrev s_is_integer : Stmt := top 13
theorem sc_is_integer : FnScope ["value"] ["value"] (defScope s_is_integer) :=
  ⟨rfl, rfl, rfl, by decide +kernel, rfl, by decide +kernel, by decide +kernel⟩

abbrev s_is_by : Stmt := top 14
theorem sc_is_by : FnScope ["value"] ["value"] (defScope s_is_by) :=
  ⟨rfl, rfl, rfl, by decide +kernel, rfl, by decide +kernel, by decide +kernel⟩

abbrev s_over : Stmt := top 15
theorem sc_over : FnScope ["number", "by", "worth"] ["number", "by"] (defScope s_over) :=
  ⟨rfl, rfl, rfl, by decide +kernel, rfl, by decide +kernel, by decide +kernel⟩

abbrev s_l_bowl : Stmt := top 17
theorem sc_l_bowl : FnScope ["script", "cell"] ["script"] (defScope s_l_bowl) :=
  ⟨rfl, rfl, rfl, by decide +kernel, rfl, by decide +kernel, by decide +kernel⟩

abbrev s_l_dip : Stmt := top 18
theorem sc_l_dip : FnScope ["bowl", "many", "rest", "turn", "cell", "mixed"] ["bowl", "many"] (defScope s_l_dip) :=
  ⟨rfl, rfl, rfl, by decide +kernel, rfl, by decide +kernel, by decide +kernel⟩

abbrev s_l_choose : Stmt := top 19
theorem sc_l_choose : FnScope ["bowl", "some"] ["bowl", "some"] (defScope s_l_choose) :=
  ⟨rfl, rfl, rfl, by decide +kernel, rfl, by decide +kernel, by decide +kernel⟩

abbrev s_l_value : Stmt := top 20
theorem sc_l_value : FnScope ["bowl", "number", "some"] ["bowl"] (defScope s_l_value) :=
  ⟨rfl, rfl, rfl, by decide +kernel, rfl, by decide +kernel, by decide +kernel⟩

abbrev s_l_by_place : Stmt := top 21
theorem sc_l_by_place : FnScope ["at", "value", "other"] ["at", "value", "other"] (defScope s_l_by_place) :=
  ⟨rfl, rfl, rfl, by decide +kernel, rfl, by decide +kernel, by decide +kernel⟩

abbrev s_l_by_name : Stmt := top 22
theorem sc_l_by_name : FnScope ["at", "value", "other", "some"] ["at", "value", "other"] (defScope s_l_by_name) :=
  ⟨rfl, rfl, rfl, by decide +kernel, rfl, by decide +kernel, by decide +kernel⟩

abbrev s_l_flags : Stmt := top 23
theorem sc_l_flags : FnScope ["error", "own", "far"] ["error"] (defScope s_l_flags) :=
  ⟨rfl, rfl, rfl, by decide +kernel, rfl, by decide +kernel, by decide +kernel⟩

abbrev s_l_caught : Stmt := top 24
theorem sc_l_caught : FnScope ["number", "by", "caught", "error"] ["number", "by"] (defScope s_l_caught) :=
  ⟨rfl, rfl, rfl, by decide +kernel, rfl, by decide +kernel, by decide +kernel⟩

abbrev s_law : Stmt := top 25
theorem sc_law : FnScope ["script", "bowl", "at", "value", "other", "due", "flags", "error", "told", "heard", "place"] ["script"] (defScope s_law) :=
  ⟨rfl, rfl, rfl, by decide +kernel, rfl, by decide +kernel, by decide +kernel⟩

/-- the text's defs, found behind the top -/
structure Tx (K : PySem.W.Frag) (mg : Str → Option Value) where
  nm : Nm mg
  d_is_integer : Df K mg "is_integer" s_is_integer ["value"]
  d_is_by : Df K mg "is_by" s_is_by ["value"]
  d_over : Df K mg "over" s_over ["number", "by"]
  d_l_bowl : Df K mg "_law_bowl" s_l_bowl ["script"]
  d_l_dip : Df K mg "_law_dip" s_l_dip ["bowl", "many"]
  d_l_choose : Df K mg "_law_choose" s_l_choose ["bowl", "some"]
  d_l_value : Df K mg "_law_value" s_l_value ["bowl"]
  d_l_by_place : Df K mg "_law_by_place" s_l_by_place ["at", "value", "other"]
  d_l_by_name : Df K mg "_law_by_name" s_l_by_name ["at", "value", "other"]
  d_l_flags : Df K mg "_law_flags" s_l_flags ["error"]
  d_l_caught : Df K mg "_law_caught" s_l_caught ["number", "by"]
  d_law : Df K mg "law" s_law ["script"]

/-! ### what draws -/
/-- the list of three at b: the cells at c, how many were begun, what is left -/
structure Bowl (H : Hp) (b c : Addr) (ns : List Int) (t r : Int) : Prop where
  hb : H b = some (.lst [.ref c, .int t, .int r])
  hc : H c = some (.lst (ns.map V.int))
  ne : b ≠ c
  t0 : 0 ≤ t
  r0 : 0 ≤ r
/-- all but what stands at b is as it was -/
def But (b : Addr) (H H' : Hp) : Prop := ∀ a o, a ≠ b → H a = some o → H' a = some o
theorem But.refl (b : Addr) (H : Hp) : But b H H := fun _ _ _ h => h
theorem But.set {b : Addr} {H H' : Hp} {o : HO} (h : But b H H') : But b H (upd H' b o) := fun a u ne q => by rw [upd_ne ne]; exact h a u ne q
theorem But.new {b p : Addr} {H H' : Hp} {o : HO} (h : But b H H') (hp : H' p = none) : But b H (upd H' p o) := fun a u ne q => by
  rw [upd_ne (ne_of_none (h a u ne q) hp)]; exact h a u ne q
theorem dpInts {K : PySem.W.Frag} {H : Hp} : ∀ ns : List Int, DpAll K H (ns.map V.int) (ns.map PyData.int)
  | [] => .nil
  | n :: ns => .cons (.int n) (dpInts ns)
theorem canInts : ∀ ns : List Int, PyData.canLayAll0 (ns.map PyData.int) = true
  | [] => by simp [PyData.canLayAll0]
  | n :: ns => by simp [PyData.canLayAll0, PyData.canLay0, canInts ns]
theorem depthInts : ∀ ns : List Int, PyData.depthAll (ns.map PyData.int) ≤ 1
  | [] => by simp [PyData.depthAll]
  | n :: ns => by
    have := depthInts ns
    simp only [List.map_cons, PyData.depthAll, PyData.depth]
    omega
theorem shapedInts (ns : List Int) : SeqAt.shaped (.list (ns.map PyData.int)) = true := by
  have h1 := canInts ns
  have h2 := depthInts ns
  unfold SeqAt.shaped
  rw [Bool.and_eq_true]
  refine ⟨by simp [PyData.canLay0, h1], decide_eq_true ?_⟩
  simp only [PyData.depth]
  omega
theorem eqvNil (ns : List Int) : PyData.eqv (.list (ns.map PyData.int)) (.list []) = ns.isEmpty := by
  cases ns <;> simp [PyData.eqv, PyData.eqvAll]
/-- a statement and what stands behind it, by a join of one's own -/
theorem cut {t u : TS} {D : Ends} {σ : L2.St} {H : Hp} (J : L2.St → Hp → Prop) (hu : ∀ σ' H', J σ' H' → u D σ' H') (h : ∀ nx : L2.St → Hp → Prop, (∀ σ' H', J σ' H' → nx σ' H') → t { D with nx := nx } σ H) :
    tSeq t u D σ H := h (u D) hu
theorem pow18 : (10 : Int) ^ ((18 : Int)).toNat = 1000000000000000000 := by decide +kernel
theorem at_ints (ns : List Int) {i : Int} (h0 : 0 ≤ i) (h1 : i < (ns.length : Int)) : ∃ z, atI (ns.map V.int) i = some (.int z) := by
  obtain ⟨k, rfl⟩ := Int.eq_ofNat_of_zero_le h0
  have hk : k < ns.length := by omega
  exact ⟨ns[k], atI_nat (by rw [List.getElem?_map, List.getElem?_eq_getElem hk]; rfl)⟩
/-- behind some draws: at most n more begun, all else as it was -/
structure Aft (n : Int) (H H' : Hp) (b c : Addr) (ns : List Int) (t t' r' : Int) : Prop where
  bowl : Bowl H' b c ns t' r'
  but : But b H H'
  lo : t ≤ t'
  hi : t' ≤ t + n
theorem Aft.trans {n m : Int} {H H1 H2 : Hp} {b c : Addr} {ns : List Int} {t t1 t2 r1 r2 : Int} (x : Aft n H H1 b c ns t t1 r1) (y : Aft m H1 H2 b c ns t1 t2 r2) : Aft (n + m) H H2 b c ns t t2 r2 :=
  ⟨y.bowl, fun a o ne q => y.but a o ne (x.but a o ne q), Int.le_trans x.lo y.lo, by have := x.hi; have := y.hi; omega⟩
theorem Aft.refl {H : Hp} {b c : Addr} {ns : List Int} {t r : Int} (B : Bowl H b c ns t r) : Aft 0 H H b c ns t t r := ⟨B, But.refl b H, Int.le_refl _, by omega⟩
theorem Bowl.same {H H' : Hp} {b c : Addr} {ns : List Int} {t r : Int} (B : Bowl H b c ns t r) (s : Same H H') : Bowl H' b c ns t r := ⟨s _ _ B.hb, s _ _ B.hc, B.ne, B.t0, B.r0⟩
theorem Aft.new {n : Int} {H H' : Hp} {b c p : Addr} {ns : List Int} {t t' r' : Int} {o : HO} (x : Aft n H H' b c ns t t' r') (hp : H' p = none) : Aft n H (upd H' p o) b c ns t t' r' :=
  ⟨x.bowl.same fun a u q => by rw [upd_ne (ne_of_none q hp)]; exact q, x.but.new hp, x.lo, x.hi⟩
theorem Aft.free {n : Int} {H H' : Hp} {b c : Addr} {ns : List Int} {t t' r r' : Int} (B : Bowl H b c ns t r) (x : Aft n H H' b c ns t t' r') {p : Addr} (hp : H' p = none) : H p = none := by
  cases e : H p with
  | none => rfl
  | some o =>
    by_cases hb : p = b
    · rw [hb, x.bowl.hb] at hp; cases hp
    · rw [x.but p o hb e] at hp; cases hp
def spDip : Sp := fun vs H Q _ => ∃ (b c : Addr) (ns : List Int) (t r m : Int), vs = [.ref b, .int m] ∧ 0 < m ∧ m < 2 ^ 40 ∧ Bowl H b c ns t r ∧ t < 2 ^ 20 ∧
  ∀ (v t' r' : Int) (H' : Hp), 0 ≤ v → v < m → Aft 1 H H' b c ns t t' r' → Q (.int v) H'

section
variable {P : Program} {w : World} {K : PySem.W.Frag} {mg : Str → Option Value} {base : Heap}
theorem ok_dip (T : Nm mg) {f : Addr} {fd : FuncData} (F : Fun K "_law_dip" "_law_dip" s_l_dip f fd) : FnOk P w K mg base CX0 1 f fd ["bowl", "many"] spDip := by
  refine F.ok sc_l_dip (fun vs H Q E h => ?_) (fun cdv A outer s H vs Q E hr h => ?_)
  · obtain ⟨b, c, ns, t, r, m, rfl, _⟩ := h
    rfl
  · obtain ⟨b, c, ns, t, r, m, rfl, hm, hm2, B, ht, k0⟩ := h
    have k : ∀ (v t' r' : Int) (H' : Hp), 0 ≤ v → v < m → t ≤ t' → t' ≤ t + 1 → 0 ≤ r' → H' b = some (.lst [.ref c, .int t', .int r']) → But b H H' → Q (.int v) H' :=
      fun v t' r' H' h1 h2 h3 h4 h5 h6 h7 => k0 v t' r' H' h1 h2 ⟨⟨h6, h7 c _ (Ne.symm B.ne) B.hc, B.ne, Int.le_trans B.t0 h3, h5⟩, h7, h3, h4⟩
    refine ⟨_, (pss_cons (ps_if (pt_cmpR op_gt (pe_ix ix_list (pv 0) pe_int (fun _ _ => rfl)) pe_int (nomark _))
  (pss_cons (ps_set (i := 2) sc_l_dip.nd rfl (Or.inl rfl) (pe_callTy call_int1 (by rfl) T.n_int (by decide +kernel) (pa_cons (pe_ix ix_list (pv 0) pe_int (fun _ _ => rfl)) pa_nil)))
  (pss_cons (ps_asg (pe_op op_fdivW (pv 2) (pv 1)) (pg_sub (pv 0) pe_int set_list))
  (pss_one (ps_ret (pe_op op_mod (pe_callTy call_int1 (by rfl) T.n_int (by decide +kernel) (pa_cons (pv 2) pa_nil)) (pv 1))))))
  pss_nil)
  (pss_cons (ps_set (i := 3) sc_l_dip.nd rfl (Or.inl rfl) (pe_ix ix_list (pv 0) pe_int (fun _ _ => rfl)))
  (pss_cons (ps_asg (pe_op op_add (pv 3) pe_int) (pg_sub (pv 0) pe_int set_list))
  (pss_cons (ps_set (i := 4) sc_l_dip.nd rfl (Or.inl rfl) (pe_op op_add (pe_op op_mul pe_int (pv 3)) pe_int))
  (pss_cons (ps_if (pt_cmpR (op_neD hr.units) (pe_ix ix_list (pv 0) pe_int (fun _ _ => rfl)) (pe_lst pa_nil) (nomark _))
  (pss_one (ps_set (i := 4) sc_l_dip.nd rfl (Or.inl rfl) (pe_ix ix_list (pe_ix ix_list (pv 0) pe_int (fun _ _ => rfl)) (pe_op op_mod (pe_callTy call_int1 (by rfl) T.n_int (by decide +kernel) (pa_cons (pv 3) pa_nil)) (pe_callB call_len_seq (by rfl) T.n_len (by decide +kernel) (pa_cons (pe_ix ix_list (pv 0) pe_int (fun _ _ => rfl)) pa_nil))) (fun _ _ => rfl))))
  pss_nil)
  (pss_cons (ps_if (PW.pt (pw_and (pt_cmpR op_lt (pv 3) (pe_callB call_len_seq (by rfl) T.n_len (by decide +kernel) (pa_cons (pe_ix ix_list (pv 0) pe_int (fun _ _ => rfl)) pa_nil)) (nomark _)) (pw_and1 (pt_cmpR op_ge (pe_callB call_abs (by rfl) T.n_abs (by decide +kernel) (pa_cons (pv 4) pa_nil)) (pe_op op_pow pe_int pe_int) (nomark _)))))
  (pss_cons (ps_set (i := 2) sc_l_dip.nd rfl (Or.inl rfl) (pe_op op_add (pe_op op_mul pe_int (pe_op op_sub (pe_callB call_abs (by rfl) T.n_abs (by decide +kernel) (pa_cons (pv 4) pa_nil)) (pe_op op_pow pe_int pe_int))) (pe_callTy call_int1 (by rfl) T.n_int (by decide +kernel) (pa_cons (pe_cmpR op_lt (pv 4) pe_int (nomark _)) pa_nil))))
  (pss_cons (ps_asg (pe_op op_fdivW (pv 2) (pv 1)) (pg_sub (pv 0) pe_int set_list))
  (pss_one (ps_ret (pe_op op_mod (pe_callTy call_int1 (by rfl) T.n_int (by decide +kernel) (pa_cons (pv 2) pa_nil)) (pv 1))))))
  pss_nil)
  (pss_cons (ps_set (i := 5) sc_l_dip.nd rfl (Or.inl rfl) (pe_op op_mod (pe_callTy call_int1 (by rfl) T.n_int (by decide +kernel) (pa_cons (pe_op op_pow (pe_op op_add (pe_op op_add (pe_op op_mod (pe_callTy call_int1 (by rfl) T.n_int (by decide +kernel) (pa_cons (pv 4) pa_nil)) pe_int) (pe_op op_mul pe_int (pv 3))) pe_int) pe_int) pa_nil)) pe_int))
  (pss_cons (ps_set (i := 5) sc_l_dip.nd rfl (Or.inl rfl) (pe_op op_mod (pe_callTy call_int1 (by rfl) T.n_int (by decide +kernel) (pa_cons (pe_op op_pow (pe_op op_add (pe_op op_add (pe_op op_mul (pv 5) (pe_op op_add (pe_op op_mul pe_int (pv 3)) pe_int)) (pe_op op_mul (pe_op op_mul pe_int (pv 3)) (pv 3))) pe_int) pe_int) pa_nil)) pe_int))
  (pss_one (ps_ret (pe_op op_mod (pe_callTy call_int1 (by rfl) T.n_int (by decide +kernel) (pa_cons (pe_op op_fdiv (pv 5) pe_int) pa_nil)) (pv 1)))))))))))), ?_⟩
    refine ⟨_, rfl, b, _, _, _, rfl, rfl, SqL.of B.hb, rfl, _, _, rfl, rfl, _, rfl, ?_⟩
    refine ite2 (fun c1 => ?_) (fun c1 => ?_)
    · have r1 : 0 < r := by simpa using c1
      refine ⟨_, rfl, b, _, _, _, rfl, rfl, SqL.of B.hb, rfl, .inl ⟨_, rfl, ?_⟩⟩
      refine ⟨_, rfl, _, rfl, _, _, rfl, rfl, wide_div hm (b := 41) ?_ (by decide) (by decide), _, rfl, b, _, _, 2, rfl, rfl, B.hb, rfl, ?_⟩
      · omega
      refine ⟨_, rfl, .inl ⟨_, rfl, _, rfl, _, _, rfl, rfl, hm, ?_⟩⟩
      exact k _ _ _ _ (Int.emod_nonneg _ (by omega)) (Int.emod_lt_of_pos _ hm) (by omega) (by omega) (Int.ediv_nonneg (by omega) (by omega)) upd_same (But.refl b H).set
    · refine ⟨_, rfl, b, _, _, _, rfl, rfl, SqL.of B.hb, rfl, ?_⟩
      refine ⟨_, rfl, _, _, rfl, rfl, _, rfl, b, _, _, 1, rfl, rfl, B.hb, rfl, ?_⟩
      refine ⟨_, rfl, _, _, rfl, rfl, .inl ⟨by decide, by decide⟩, _, _, rfl, rfl, ?_⟩
      dsimp only [gName]
      have b1 : But b H (upd H b (.lst [.ref c, .int (t + 1), .int r])) := (But.refl b H).set
      have c1' : (upd H b (.lst [.ref c, .int (t + 1), .int r])) c = some (.lst (ns.map V.int)) := by rw [upd_ne (Ne.symm B.ne)]; exact B.hc
      refine cut (fun σ' H' => ∃ cell : Int, σ' = [some (.ref b), some (.int m), none, some (.int t), some (.int cell), none] ∧ H' b = some (.lst [.ref c, .int (t + 1), .int r]) ∧ But b H H') ?tail ?first
      case first =>
        intro nx hnx
        refine ⟨_, rfl, b, _, _, _, rfl, rfl, SqL.of upd_same, rfl, by decide, fun p hp => ?_⟩
        have cp := ne_of_none c1' hp
        have bp : b ≠ p := ne_of_none (upd_same) hp
        have c2 : (upd (upd H b (.lst [.ref c, .int (t + 1), .int r])) p (.lst [])) c = some (.lst (ns.map V.int)) := by rw [upd_ne cp]; exact c1'
        have b2 : (upd (upd H b (.lst [.ref c, .int (t + 1), .int r])) p (.lst [])) b = some (.lst [.ref c, .int (t + 1), .int r]) := by rw [upd_ne bp]; exact upd_same
        have bb := b1.new hp (o := .lst [])
        refine ⟨_, _, .lst (SqL.of c2) (dpInts ns), .lst (SqL.of upd_same) .nil, shapedInts ns, shapedInts [], _, rfl, ?_⟩
        rw [eqvNil]
        cases ns with
        | nil => exact hnx _ _ ⟨_, rfl, b2, bb⟩
        | cons n0 ns =>
          refine ⟨_, rfl, b, _, _, _, rfl, rfl, SqL.of b2, rfl, _, rfl, .inl ⟨_, rfl, _, rfl, b, _, _, _, rfl, rfl, SqL.of b2, rfl, c, _, rfl, .inl (SqL.of c2), ?_⟩⟩
          have hl : (0 : Int) < (((List.map V.int (n0 :: ns)).length : Nat) : Int) := by rw [List.length_map, List.length_cons]; omega
          have h1 := Int.emod_nonneg t (Int.ne_of_gt hl)
          have h2 := Int.emod_lt_of_pos t hl
          obtain ⟨cell, hcell⟩ := at_ints (n0 :: ns) h1 (by simpa using h2)
          exact ⟨_, _, rfl, rfl, hl, c, _, _, _, rfl, rfl, SqL.of c2, hcell, hnx _ _ ⟨cell, rfl, b2, bb⟩⟩
      case tail =>
        rintro σ' H' ⟨cell, rfl, hb', bb⟩
        have c2 : H' c = some (.lst (ns.map V.int)) := bb c _ (Ne.symm B.ne) B.hc
        refine cut (fun σ' H'' => (∃ x, σ' = [some (.ref b), some (.int m), x, some (.int t), some (.int cell), none]) ∧ H'' = H') ?rest ?great
        case great =>
          intro nx hnx
          refine ⟨_, rfl, _, rfl, b, _, _, _, rfl, rfl, SqL.of hb', rfl, c, _, rfl, .inl (SqL.of c2), _, _, rfl, rfl, _, rfl, ?_⟩
          refine ite2 (fun _ => ?_) (fun _ => ?_)
          · refine ⟨_, rfl, _, rfl, _, _, rfl, rfl, ⟨by decide, by decide, by decide⟩, _, _, rfl, rfl, _, rfl, ?_⟩
            refine ite2 (fun g => ?_) (fun _ => ?_)
            · have hg : (10 : Int) ^ ((18 : Int)).toNat ≤ (if cell < 0 then -cell else cell) := by simpa using g
              refine ⟨_, rfl, _, rfl, _, _, rfl, rfl, ⟨by decide, by decide, by decide⟩, _, _, rfl, rfl, _, _, rfl, rfl, .inl ⟨by decide, by decide⟩, _, rfl, _, _, rfl, rfl, .inr ⟨_, rfl, _, _, rfl, rfl, ?_⟩⟩
              refine ⟨_, rfl, _, rfl, _, _, rfl, rfl, wide_div hm (b := 41) (by omega) (by decide) (by decide), _, rfl, b, _, _, 2, rfl, rfl, hb', rfl, ?_⟩
              refine ⟨_, rfl, .inl ⟨_, rfl, _, rfl, _, _, rfl, rfl, hm, ?_⟩⟩
              refine k _ _ _ _ (Int.emod_nonneg _ (by omega)) (Int.emod_lt_of_pos _ hm) ?_ ?_ (Int.ediv_nonneg ?_ (by omega)) upd_same bb.set
              · omega
              · omega
              · split <;> omega
            · exact hnx _ _ ⟨⟨_, rfl⟩, rfl⟩
          · exact hnx _ _ ⟨⟨_, rfl⟩, rfl⟩
        case rest =>
          rintro σ' H'' ⟨⟨x, rfl⟩, rfl⟩
          have t0 := B.t0
          refine ⟨_, rfl, .inl ⟨_, rfl, _, _, rfl, rfl, (by show (0 : Int) < 2147483563; decide), _, rfl, _, _, rfl, rfl, .inl ⟨by decide, by decide⟩, _, _, rfl, rfl, _, _, rfl, rfl, _, _, rfl, rfl, ⟨by decide, by decide, ?b1⟩, .inl ⟨_, rfl, _, _, rfl, rfl, (by show (0 : Int) < 2147483587; decide), ?r1⟩⟩⟩
          case b1 =>
            have q0 := Int.emod_nonneg cell (by decide : (2147483563 : Int) ≠ 0)
            have q1 := Int.emod_lt_of_pos cell (by decide : (0 : Int) < 2147483563)
            omega
          case r1 =>
            generalize hz : ((cell % 2147483563 + 71641 * t + 8355) ^ ((5 : Int)).toNat) % 2147483587 = z
            have z0 : 0 ≤ z := by rw [← hz]; exact Int.emod_nonneg _ (by decide)
            have z1 : z < 2147483587 := by rw [← hz]; exact Int.emod_lt_of_pos _ (by decide)
            have hmulA : (z * (2 * t + 5099)).natAbs ≤ 2147483587 * 2102251 := by
              rw [Int.natAbs_mul]
              exact Nat.mul_le_mul (by omega) (by omega)
            have hmulB : (104795 * t * t).natAbs ≤ 104795 * 1048576 * 1048576 := by
              rw [Int.natAbs_mul]
              exact Nat.mul_le_mul (by omega) (by omega)
            refine ⟨_, rfl, _, rfl, _, _, rfl, rfl, .inl ⟨by decide, by decide⟩, _, _, rfl, rfl, _, _, rfl, rfl, .inl ⟨by omega, by omega⟩, _, rfl, _, _, rfl, rfl, .inl ⟨by decide, by decide⟩, _, rfl, _, _, rfl, rfl, .inr ⟨by omega, by omega⟩,
              _, _, rfl, rfl, _, _, rfl, rfl, _, _, rfl, rfl, ⟨by decide, by decide, ?b2⟩, .inl ⟨_, rfl, _, _, rfl, rfl, (by show (0 : Int) < 2147483629; decide), ?r2⟩⟩
            case b2 => 
              rw [hz]
              generalize z * (2 * t + 5099) = u1 at hmulA ⊢
              generalize 104795 * t * t = u2 at hmulB ⊢
              omega
            case r2 =>
              refine ⟨_, rfl, _, _, rfl, rfl, ⟨by decide, by decide⟩, .inl ⟨_, rfl, _, rfl, _, _, rfl, rfl, hm, ?_⟩⟩
              exact k _ _ _ _ (Int.emod_nonneg _ (by omega)) (Int.emod_lt_of_pos _ hm) (by omega) (by omega) B.r0 hb' bb
end


theorem cut60 (ns : List Int) : cutV (ns.map V.int) none (some 60) = (ns.take 60).map V.int := by
  unfold cutV
  rw [List.length_map, show ((60 : Int)) = ((60 : Nat) : Int) from rfl, HT.sIx_nat]
  show List.take (min 60 ns.length - 0) (List.drop 0 _) = _
  rw [List.drop_zero, Nat.sub_zero, ← List.map_take]
  congr 1
  rcases Nat.le_total 60 ns.length with h | h
  · rw [Nat.min_eq_left h]
  · rw [Nat.min_eq_right h, List.take_length, List.take_of_length_le h]
def spBowl (K : PySem.W.Frag) : Sp := fun vs H Q _ => ∃ (a : Addr) (ns : List Int), vs = [.ref a] ∧ SqL K H a (ns.map V.int) ∧
  ∀ (H' : Hp) (b c : Addr), Same H H' → H b = none → H c = none → Bowl H' b c (ns.take 60) 0 0 → Q (.ref b) H'
section
variable {P : Program} {w : World} {K : PySem.W.Frag} {mg : Str → Option Value} {base : Heap}
theorem ok_bowl (T : Nm mg) {f : Addr} {fd : FuncData} (F : Fun K "_law_bowl" "_law_bowl" s_l_bowl f fd) : FnOk P w K mg base CX0 1 f fd ["script"] (spBowl K) := by
  refine F.ok sc_l_bowl (fun vs H Q E h => ?_) (fun cdv A outer s H vs Q E hr h => ?_)
  · obtain ⟨a, ns, rfl, _⟩ := h
    rfl
  · obtain ⟨a, ns, rfl, hs, k⟩ := h
    refine ⟨_, (pss_one (ps_ret (pe_lst (pa_cons (pe_lc (own := [("cell", 1)]) (g := (gName 1)) (tt := tYes) rfl sc_l_bowl.nd (pi_list (pe_slice sl_list (pv 0) po_none (po_some pe_int))) (blkOk_by (N := ["script", "cell"]) (sc := defScope s_l_bowl) (by decide +kernel)) (fun _ _ _ _ _ => pg_name (i := 1) sc_l_bowl.nd rfl (Or.inl rfl)) (fun _ _ _ _ _ => pts_nil) (fun _ _ _ _ _ => (pe_callTy call_int1 (by rfl) T.n_int (by decide +kernel) (pa_cons (pv 1) pa_nil)))) (pa_cons pe_int (pa_cons pe_int pa_nil)))))), ?_⟩
    refine ⟨_, rfl, _, rfl, a, _, rfl, hs, fun p hp => ⟨p, rfl, ⟨_, SqL.of upd_same⟩, fun D hD => ?_⟩⟩
    rw [cut60] at hD ⊢
    have pD : p ≠ D := ne_of_none upd_same hD
    have D0 : H D = none := by rw [upd_ne (Ne.symm pD)] at hD; exact hD
    refine lc_list (K := K) (a := p) (xs := (ns.take 60).map V.int) (fun i H' => Same H H' ∧ H' p = some (.lst ((ns.take 60).map V.int)) ∧ H' D = some (.lst (((ns.take 60).take i).map V.int)))
      ⟨fun b o e => ?_, ?_, upd_same⟩ (fun i H' _ ⟨_, q, _⟩ => SqL.of q) ?_ ?_
    · rw [upd_ne (ne_of_none e D0), upd_ne (ne_of_none e hp)]
      exact e
    · rw [upd_ne pD]
      exact upd_same
    · rintro i x H' hx ⟨s0, s1, s2⟩
      rw [List.getElem?_map] at hx
      obtain ⟨z, hz, rfl⟩ := Option.map_eq_some_iff.mp hx
      refine ⟨rfl, _, rfl, .inl ⟨_, rfl, _, s2, ?_, fun b o e => ?_, ?_, ?_⟩⟩
      · rw [List.length_map, List.length_take, List.length_take]
        exact Nat.lt_of_le_of_lt (by omega : _ ≤ 60) (by decide)
      · rw [upd_ne (ne_of_none e D0)]
        exact s0 b o e
      · rw [upd_ne pD]
        exact s1
      · rw [upd_same, List.take_add_one (l := List.take 60 ns) (i := i), hz, List.map_append]
        rfl
    · rintro H' ⟨s0, s1, s2⟩
      rw [List.length_map, List.take_length] at s2
      refine ⟨(by decide : 3 ≤ sizeLine), fun b hb => ?_⟩
      have Db : D ≠ b := ne_of_none s2 hb
      exact k _ b D (fun c o e => by rw [upd_ne (ne_of_none (s0 c o e) hb)]; exact s0 c o e) (s0.free hb) D0
        ⟨upd_same, by rw [upd_ne Db]; exact s2, Ne.symm Db, Int.le_refl _, Int.le_refl _⟩
end
end K00

set_option Elab.async false
set_option linter.all false
set_option maxRecDepth 100000
set_option maxHeartbeats 4000000
namespace K00
open PySem L2 SG
theorem But.seq {K : PySem.W.Frag} {b p : Addr} {H H' : Hp} {xs : List V} (h : But b H H') (ne : p ≠ b) (q : SqL K H p xs) : SqL K H' p xs := by
  rcases q with (q | ⟨o, q⟩) | q
  · exact .inl (.inl (h _ _ ne q))
  · exact .inl (.inr ⟨o, h _ _ ne q⟩)
  · exact .inr q
def spChoose (K : PySem.W.Frag) : Sp := fun vs H Q _ => ∃ (b c : Addr) (ns : List Int) (t r : Int) (p : Addr) (xs : List V), vs = [.ref b, .ref p] ∧ Bowl H b c ns t r ∧ t < 2 ^ 20 ∧
  SqL K H p xs ∧ p ≠ b ∧ 0 < xs.length ∧ xs.length ≤ 1000 ∧ ∀ (v : V) (t' r' : Int) (H' : Hp), v ∈ xs → Aft 1 H H' b c ns t t' r' → Q v H'
section
variable {P : Program} {w : World} {K : PySem.W.Frag} {mg : Str → Option Value} {base : Heap}
theorem ok_choose (T : Tx K mg) {f : Addr} {fd : FuncData} (F : Fun K "_law_choose" "_law_choose" s_l_choose f fd) : FnOk P w K mg base CX0 2 f fd ["bowl", "some"] (spChoose K) := by
  refine F.ok sc_l_choose (fun vs H Q E h => ?_) (fun cdv A outer s H vs Q E hr h => ?_)
  · obtain ⟨b, c, ns, t, r, p, xs, rfl, _⟩ := h
    rfl
  · obtain ⟨b, c, ns, t, r, p, xs, rfl, B, ht, hp, ne, h0, h1, k⟩ := h
    refine ⟨_, (pss_one (ps_ret (pe_ix ix_list (pv 1) (pe_call (ok_dip T.nm T.d_l_dip.F) hr rfl T.d_l_dip.m T.d_l_dip.k T.d_l_dip.b .nil pass0 (pa_cons (pv 0) (pa_cons (pe_callB call_len_seq (by rfl) T.nm.n_len (by decide +kernel) (pa_cons (pv 1) pa_nil)) pa_nil))) (fun _ _ => rfl)))), ?_⟩
    refine ⟨_, rfl, _, rfl, _, rfl, p, _, rfl, .inl hp, b, c, ns, t, r, _, rfl, by omega, by omega, B, ht, fun v t' r' H' v0 v1 x => ?_⟩
    obtain ⟨j, rfl⟩ := Int.eq_ofNat_of_zero_le v0
    have hj : j < xs.length := by omega
    exact ⟨p, xs, _, xs[j], rfl, rfl, x.but.seq ne hp, atI_nat (List.getElem?_eq_getElem hj), k _ t' r' H' (List.getElem_mem hj) x⟩
end
end K00

set_option Elab.async false
set_option linter.all false
set_option maxRecDepth 100000
set_option maxHeartbeats 4000000
namespace K00
open PySem L2 SG
/-! ### values of all kinds -/
structure Nice (d : PyData) : Prop where
  sh : d.showable = true
  lv : d.leavesShort 40 = true
  wt : d.weight ≤ 400
  dp : d.depth ≤ 6
mutual
theorem Dv.same {K : PySem.W.Frag} {H H' : Hp} (s : Same H H') : ∀ (d : PyData) (v : V), Dv K H v d → Dv K H' v d
  | .none, _, h => by cases h; exact .non
  | .bool _, _, h => by cases h; exact .bl _
  | .int _, _, h => by cases h; exact .int _
  | .str _, _, h => by cases h; exact .str _
  | .list ds, _, h => by
    cases h with
    | lst hn hs ha => exact .lst hn (s.seq hs) (Dv.sameAll s ds _ ha)
  | .tuple ds, _, h => by
    cases h with
    | tup hs ha =>
      refine .tup ?_ (Dv.sameAll s ds _ ha)
      rcases hs with (q | ⟨o, q⟩) | q
      · exact .inl (.inl (s _ _ q))
      · exact .inl (.inr ⟨o, s _ _ q⟩)
      · exact .inr q
  | .dict [], _, h => by cases h
  | .dict [(k, d)], _, h => by
    cases h with
    | dic hs hv => exact .dic (s _ _ hs) (Dv.same s d _ hv)
  | .dict (_ :: _ :: _), _, h => by cases h
theorem Dv.sameAll {K : PySem.W.Frag} {H H' : Hp} (s : Same H H') : ∀ (ds : List PyData) (vs : List V), DvAll K H vs ds → DvAll K H' vs ds
  | [], _, h => by cases h; exact .nil
  | d :: ds, _, h => by
    cases h with
    | cons h1 h2 => exact .cons (Dv.same s d _ h1) (Dv.sameAll s ds _ h2)
end
/-- v stands as data in what is tracked away from b -/
def Val (K : PySem.W.Frag) (H : Hp) (b : Addr) (v : V) : Prop := selfV v = true ∧ ∃ (G : Hp) (d : PyData), G b = none ∧ Same G H ∧ Dv K G v d ∧ Nice d
theorem Val.but {K : PySem.W.Frag} {H H' : Hp} {b : Addr} {v : V} (h : Val K H b v) (x : But b H H') : Val K H' b v := by
  obtain ⟨h1, G, d, g0, gs, dv, nc⟩ := h
  refine ⟨h1, G, d, g0, fun a o q => x a o ?_ (gs a o q), dv, nc⟩
  intro e
  rw [e, g0] at q
  cases q
def away (H : Hp) (b : Addr) : Hp := fun a => if a = b then none else H a
theorem away_b (H : Hp) (b : Addr) : away H b b = none := if_pos rfl
theorem away_ne {H : Hp} {a b : Addr} (h : a ≠ b) : away H b a = H a := if_neg h
theorem away_same (H : Hp) (b : Addr) : Same (away H b) H := fun a o q => by
  by_cases e : a = b
  · rw [e, away_b] at q; cases q
  · rw [away_ne e] at q; exact q
theorem Val.mk' {K : PySem.W.Frag} {H : Hp} {b : Addr} {v : V} {d : PyData} (h1 : selfV v = true) (h2 : Dv K (away H b) v d) (h3 : Nice d) : Val K H b v := ⟨h1, _, d, away_b H b, away_same H b, h2, h3⟩
/-- the numbers that are drawn -/
def Mid (i : Int) : Prop := i.natAbs < 10 ^ 21
theorem Mid.log {i : Int} (h : Mid i) : i.natAbs.log2 < 70 := PySem.Flt.log2_lt_of (by decide) (Nat.lt_of_lt_of_le h (by decide))
theorem Mid.len {i : Int} (h : Mid i) : (Str.ofString (toString i)).length ≤ 22 := by
  have e := int_text_length_le10 (k := 21) (by decide) h
  rw [ofString_length]
  exact e
theorem nice_int {i : Int} (h : Mid i) : Nice (.int i) := by
  refine ⟨by simp only [PyData.showable]; exact decide_eq_true (Nat.lt_trans h.log (by decide)), ?_, ?_, by simp [PyData.depth]⟩
  · simp only [PyData.leavesShort, decide_eq_true_eq]
    exact Nat.le_trans (show (Str.ofString (toString i)).length ≤ 22 from h.len) (by decide)
  · simp only [PyData.weight]
    have := h.log
    split <;> omega
theorem nice_text {i : Int} (h : Mid i) : Nice (.str (Str.ofString (toString i))) := by
  refine ⟨by simp [PyData.showable], ?_, ?_, by simp [PyData.depth]⟩
  · simp only [PyData.leavesShort, List.all_eq_true, decide_eq_true_eq]
    intro c hc
    rw [Str.ofString_eq_toList] at hc
    obtain ⟨ch, _, rfl⟩ := List.mem_map.mp (show c ∈ (toString i).toList.map Char.toNat from by simpa using hc)
    exact Nat.lt_of_lt_of_le (ch.val.toNat_lt) (by decide)
  · simp only [PyData.weight]
    exact Nat.le_trans (show (Str.ofString (toString i)).length ≤ 22 from h.len) (by decide)

theorem nice_seq {ds : List PyData} (h1 : PyData.showableAll ds = true) (h2 : PyData.leavesShortAll 40 ds = true) (h3 : PyData.weightAll ds ≤ 400) (h4 : PyData.depthAll ds ≤ 5) :
    Nice (.list ds) ∧ Nice (.tuple ds) := by
  refine ⟨⟨?_, ?_, ?_, ?_⟩, ⟨?_, ?_, ?_, ?_⟩⟩
  all_goals first
    | (simp only [PyData.showable]; exact h1)
    | (simp only [PyData.leavesShort]; exact h2)
    | (simp only [PyData.weight]; exact h3)
    | (simp only [PyData.depth]; omega)
theorem int_wt {i : Int} (h : Mid i) : PyData.weight (.int i) ≤ 70 := by
  have := h.log
  simp only [PyData.weight]
  split <;> omega
theorem ints_nice {ds : List PyData} {i : Int} (h : Mid i) (hd : ds = [.int i] ∨ ds = [.int i, .int 2]) : Nice (.list ds) ∧ Nice (.tuple ds) := by
  have a1 := (nice_int h).sh
  have a2 := (nice_int h).lv
  have a3 := int_wt h
  have b1 : (PyData.int 2).showable = true := (nice_int (by unfold Mid; decide)).sh
  have b2 : (PyData.int 2).leavesShort 40 = true := (nice_int (by unfold Mid; decide)).lv
  have b3 : (PyData.int 2).weight ≤ 70 := int_wt (by unfold Mid; decide)
  rcases hd with rfl | rfl
  · refine nice_seq ?_ ?_ ?_ ?_
    · simp only [PyData.showableAll, a1, Bool.and_self]
    · simp only [PyData.leavesShortAll, a2, Bool.and_self]
    · simp only [PyData.weightAll]; omega
    · simp [PyData.depthAll, PyData.depth]
  · refine nice_seq ?_ ?_ ?_ ?_
    · simp only [PyData.showableAll, a1, b1, Bool.and_self]
    · simp only [PyData.leavesShortAll, a2, b2, Bool.and_self]
    · simp only [PyData.weightAll]; omega
    · simp [PyData.depthAll, PyData.depth]
theorem dict_nice {i : Int} (h : Mid i) : Nice (.dict [(.int i, .list [.int i])]) := by
  have a1 := (nice_int h).sh
  have a2 := (nice_int h).lv
  have a3 := int_wt h
  have L := (ints_nice h (.inl rfl)).1
  have l3 : (PyData.list [.int i]).weight ≤ 71 := by simp only [PyData.weight, PyData.weightAll]; simp only [PyData.weight] at a3; omega
  refine ⟨?_, ?_, ?_, ?_⟩
  · rw [PyData.showable]
    simp only [PyData.showableKv, a1, L.sh, Bool.and_self]
  · rw [PyData.leavesShort]
    simp only [PyData.leavesShortKv, a2, L.lv, Bool.and_self]
  · rw [PyData.weight]
    simp only [PyData.weightKv]
    omega
  · simp [PyData.depth, PyData.depthKv, PyData.depthAll]
theorem deep_nice {i : Int} (h : Mid i) : Nice (.list [.list [.int i], .tuple [.int 1, .list [.int 2]]]) := by
  have L := (ints_nice h (.inl rfl)).1
  have a3 := int_wt h
  have l3 : (PyData.list [.int i]).weight ≤ 71 := by simp only [PyData.weight, PyData.weightAll]; simp only [PyData.weight] at a3; omega
  have T1 : (PyData.tuple [.int 1, .list [.int 2]]).showable = true := by decide +kernel
  have T2 : (PyData.tuple [.int 1, .list [.int 2]]).leavesShort 40 = true := by decide +kernel
  have T3 : (PyData.tuple [.int 1, .list [.int 2]]).weight ≤ 10 := by decide +kernel
  refine (nice_seq ?_ ?_ ?_ ?_).1
  · simp only [PyData.showableAll, L.sh, T1, Bool.and_self]
  · simp only [PyData.leavesShortAll, L.lv, T2, Bool.and_self]
  · simp only [PyData.weightAll]; omega
  · simp [PyData.depthAll, PyData.depth]
theorem alloc {H : Hp} {p : Addr} {o : HO} (hp : H p = none) : Same H (upd H p o) := fun a u q => by
  rw [upd_ne (ne_of_none q hp)]
  exact q
end K00

set_option Elab.async false
set_option linter.all false
set_option maxRecDepth 100000
set_option maxHeartbeats 4000000
namespace K00
open PySem L2 SG
theorem Aft.ext {n : Int} {H H' H'' : Hp} {b c : Addr} {ns : List Int} {t t' r' : Int} (x : Aft n H H' b c ns t t' r') (s : Same H' H'') : Aft n H H'' b c ns t t' r' :=
  ⟨x.bowl.same s, fun a o ne q => s _ _ (x.but a o ne q), x.lo, x.hi⟩
theorem Bowl.apart {H : Hp} {b c p : Addr} {ns : List Int} {t r : Int} (B : Bowl H b c ns t r) (hp : H p = none) : p ≠ b := fun e => by rw [e, B.hb] at hp; cases hp
def spValue (K : PySem.W.Frag) : Sp := fun vs H Q _ => ∃ (b c : Addr) (ns : List Int) (t r : Int), vs = [.ref b] ∧ Bowl H b c ns t r ∧ t < 2 ^ 19 ∧
  ∀ (v : V) (t' r' : Int) (H' : Hp), Val K H' b v → Aft 5 H H' b c ns t t' r' → Q v H'
section
variable {P : Program} {w : World} {K : PySem.W.Frag} {mg : Str → Option Value} {base : Heap}
theorem ok_value (T : Tx K mg) {f : Addr} {fd : FuncData} (F : Fun K "_law_value" "_law_value" s_l_value f fd) : FnOk P w K mg base CX0 3 f fd ["bowl"] (spValue K) := by
  refine F.ok sc_l_value (fun vs H Q E h => ?_) (fun cdv A outer s H vs Q E hr h => ?_)
  · obtain ⟨b, c, ns, t, r, rfl, _⟩ := h
    rfl
  · obtain ⟨b, c, ns, t, r, rfl, B, ht, k⟩ := h
    refine ⟨_, (pss_cons (ps_set (i := 1) sc_l_value.nd rfl (Or.inl rfl) (pe_call (ok_choose T T.d_l_choose.F) hr rfl T.d_l_choose.m T.d_l_choose.k T.d_l_choose.b .nil pass0 (pa_cons (pv 0) (pa_cons (pe_lst (pa_cons (pe_op op_sub (pe_call (ok_dip T.nm T.d_l_dip.F) (hr.mono (by decide)) rfl T.d_l_dip.m T.d_l_dip.k T.d_l_dip.b .nil pass0 (pa_cons (pv 0) (pa_cons pe_int pa_nil))) pe_int) (pa_cons (pe_op op_add (pe_op op_pow pe_int pe_int) (pe_call (ok_dip T.nm T.d_l_dip.F) (hr.mono (by decide)) rfl T.d_l_dip.m T.d_l_dip.k T.d_l_dip.b .nil pass0 (pa_cons (pv 0) (pa_cons pe_int pa_nil)))) (pa_cons (pe_un un_neg (pe_call (ok_dip T.nm T.d_l_dip.F) (hr.mono (by decide)) rfl T.d_l_dip.m T.d_l_dip.k T.d_l_dip.b .nil pass0 (pa_cons (pv 0) (pa_cons pe_int pa_nil)))) pa_nil)))) pa_nil))))
  (pss_cons (ps_set (i := 2) sc_l_value.nd rfl (Or.inl rfl) (pe_lst (pa_cons (pv 1) (pa_cons (pe_callTy call_str_int (by rfl) T.nm.n_str (by decide +kernel) (pa_cons (pv 1) pa_nil)) (pa_cons pe_non (pa_cons pe_bl (pa_cons pe_bl (pa_cons (pe_lstB (pa_cons (pv 1) pa_nil)) (pa_cons (pe_tup (pa_cons (pv 1) (pa_cons pe_int pa_nil))) (pa_cons (pe_disp (pps_cons (pv 1) (pe_lstB (pa_cons (pv 1) pa_nil)) pps_nil) (by rfl) (by rfl) (fun z => by cases z) (by decide)) (pa_cons pe_str (pa_cons (pe_lstB pa_nil) (pa_cons (pe_tup pa_nil) (pa_cons (pe_lstB (pa_cons (pe_lstB (pa_cons (pv 1) pa_nil)) (pa_cons (pe_tup (pa_cons pe_int (pa_cons (pe_lstB (pa_cons pe_int pa_nil)) pa_nil))) pa_nil))) (pa_cons (pe_lstB (pa_cons pe_bl (pa_cons pe_int pa_nil))) (pa_cons pe_str pa_nil))))))))))))))))
  (pss_one (ps_ret (pe_call (ok_choose T T.d_l_choose.F) hr rfl T.d_l_choose.m T.d_l_choose.k T.d_l_choose.b .nil pass0 (pa_cons (pv 0) (pa_cons (pv 2) pa_nil))))))), ?_⟩
    refine ⟨_, rfl, _, rfl, b, c, ns, t, r, _, rfl, by decide, by decide, B, by omega, fun v1 t1 r1 H1 l1 u1 x1 => ?_⟩
    refine ⟨_, _, rfl, rfl, _, _, rfl, rfl, ⟨by decide, by decide, by decide⟩, ?_⟩
    refine ⟨_, rfl, b, c, ns, t1, r1, _, rfl, by decide, by decide, x1.bowl, by have := x1.hi; omega, fun v2 t2 r2 H2 l2 u2 x2 => ?_⟩
    refine ⟨_, _, rfl, rfl, ?_⟩
    refine ⟨_, rfl, b, c, ns, t2, r2, _, rfl, by decide, by decide, x2.bowl, by have := x1.hi; have := x2.hi; omega, fun v3 t3 r3 H3 l3 u3 x3 => ?_⟩
    refine ⟨_, rfl, (by decide : 3 ≤ sizeLine), fun p hp => ?_⟩
    have x123 := (x1.trans x2).trans x3
    have hpb : p ≠ b := fun e => by rw [e, x3.bowl.hb] at hp; cases hp
    have q3 := x123.new hp (o := .lst [.int (v1 - 4), .int (10 ^ ((20 : Int)).toNat + v2), .int (-v3)])
    refine ⟨b, c, ns, t3, r3, p, _, rfl, q3.bowl, by have := q3.hi; omega, SqL.of upd_same, hpb, by show 0 < 3; decide, by show 3 ≤ 1000; decide, fun v4 t4 r4 H4 hv x4 => ?_⟩
    have x4' := q3.trans x4
    obtain ⟨n, rfl, hn⟩ : ∃ n, v4 = .int n ∧ Mid n := by
      have e20 : (10 : Int) ^ ((20 : Int)).toNat = 100000000000000000000 := by decide +kernel
      have m21 : (10 : Nat) ^ 21 = 1000000000000000000000 := by decide +kernel
      have hv' : v4 = .int (v1 - 4) ∨ v4 = .int (10 ^ ((20 : Int)).toNat + v2) ∨ v4 = .int (-v3) := by simpa using hv
      rcases hv' with e | e | e
      · exact ⟨_, e, by unfold Mid; omega⟩
      · exact ⟨_, e, by unfold Mid; rw [e20]; omega⟩
      · exact ⟨_, e, by unfold Mid; omega⟩
    dsimp only [gName]
    refine ⟨_, rfl, _, rfl, _, rfl, Nat.lt_trans hn.log (by decide), _, rfl, (by decide : 1 ≤ sizeLine), fun pa ha a1 => ?_⟩
    have yA := x4'.new ha (o := .lst [.int n])
    have qA : (upd H4 pa (.lst [.int n])) pa = some (.lst [.int n]) := upd_same
    generalize upd H4 pa (.lst [.int n]) = HA at yA qA ⊢
    refine ⟨_, rfl, (by decide : 2 ≤ sizeLine), fun pb hb => ?_⟩
    have yB := yA.new hb (o := .tup [.int n, .int 2])
    have qB : (upd HA pb (.tup [.int n, .int 2])) pb = some (.tup [.int n, .int 2]) := upd_same
    have sB : Same HA (upd HA pb (.tup [.int n, .int 2])) := alloc hb
    generalize upd HA pb (.tup [.int n, .int 2]) = HB at yB qB sB ⊢
    intro pc hc
    have yC := yB.new hc (o := .dK [])
    have sC : Same HB (upd HB pc (.dK [])) := alloc hc
    refine ⟨_, rfl, _, rfl, (by decide : 1 ≤ sizeLine), fun pd hd d1 => ?_⟩
    have cd : pc ≠ pd := ne_of_none upd_same hd
    have hd0 : HB pd = none := by rw [upd_ne (Ne.symm cd)] at hd; exact hd
    refine ⟨by rw [upd_ne cd]; exact upd_same, [(.inl n, .ref pd)], rfl, (by decide : 1 ≤ 15), ?_⟩
    have e0 : upd (upd (upd HB pc (.dK [])) pd (.lst [.int n])) pc (.dK (mergeK [] [(.inl n, .ref pd)])) = upd (upd HB pd (.lst [.int n])) pc (.dK [(.inl n, .ref pd)]) := by
      funext a
      by_cases h1 : a = pc
      · rw [h1, upd_same, upd_same]
        rfl
      · rw [upd_ne h1, upd_ne h1]
        by_cases h2 : a = pd
        · rw [h2, upd_same, upd_same]
        · rw [upd_ne h2, upd_ne h2, upd_ne h1]
    have hc0 : (upd HB pd (.lst [.int n])) pc = none := by rw [upd_ne cd]; exact hc
    have sC : Same HB (upd (upd HB pd (.lst [.int n])) pc (.dK [(.inl n, .ref pd)])) := (alloc hd0).trans (alloc hc0)
    have qC : (upd (upd HB pd (.lst [.int n])) pc (.dK [(.inl n, .ref pd)])) pc = some (.dK [(.inl n, .ref pd)]) := upd_same
    have qD : (upd (upd HB pd (.lst [.int n])) pc (.dK [(.inl n, .ref pd)])) pd = some (.lst [.int n]) := by rw [upd_ne (Ne.symm cd)]; exact upd_same
    rw [e0]
    clear e0 hc0 hd yC
    generalize upd (upd HB pd (.lst [.int n])) pc (.dK [(.inl n, .ref pd)]) = HC at sC qC qD ⊢
    refine ⟨(by decide : 0 ≤ sizeLine), fun pe he e1 => ?_⟩
    have sE := alloc he (o := .lst [])
    have qE : (upd HC pe (.lst [])) pe = some (.lst []) := upd_same
    generalize upd HC pe (.lst []) = HE at sE qE ⊢
    refine ⟨(by decide : 0 ≤ sizeLine), fun pf hf => ?_⟩
    have sF := alloc hf (o := .tup [])
    have qF : (upd HE pf (.tup [])) pf = some (.tup []) := upd_same
    generalize upd HE pf (.tup []) = HF at sF qF ⊢
    refine ⟨_, rfl, (by decide : 1 ≤ sizeLine), fun pg hg g1 => ?_⟩
    have sG := alloc hg (o := .lst [.int n])
    have qG : (upd HF pg (.lst [.int n])) pg = some (.lst [.int n]) := upd_same
    generalize upd HF pg (.lst [.int n]) = HG at sG qG ⊢
    refine ⟨(by decide : 1 ≤ sizeLine), fun ph hh h1 => ?_⟩
    have sH := alloc hh (o := .lst [.int 2])
    have qH : (upd HG ph (.lst [.int 2])) ph = some (.lst [.int 2]) := upd_same
    generalize upd HG ph (.lst [.int 2]) = HH at sH qH ⊢
    refine ⟨(by decide : 2 ≤ sizeLine), fun pi hi => ?_⟩
    have sI := alloc hi (o := .tup [.int 1, .ref ph])
    have qI : (upd HH pi (.tup [.int 1, .ref ph])) pi = some (.tup [.int 1, .ref ph]) := upd_same
    generalize upd HH pi (.tup [.int 1, .ref ph]) = HI at sI qI ⊢
    refine ⟨(by decide : 2 ≤ sizeLine), fun pj hj j1 => ?_⟩
    have sJ := alloc hj (o := .lst [.ref pg, .ref pi])
    have qJ : (upd HI pj (.lst [.ref pg, .ref pi])) pj = some (.lst [.ref pg, .ref pi]) := upd_same
    generalize upd HI pj (.lst [.ref pg, .ref pi]) = HJ at sJ qJ ⊢
    refine ⟨(by decide : 2 ≤ sizeLine), fun pk hk k1 => ?_⟩
    have sK := alloc hk (o := .lst [.bl true, .int 0])
    have qK : (upd HJ pk (.lst [.bl true, .int 0])) pk = some (.lst [.bl true, .int 0]) := upd_same
    generalize upd HJ pk (.lst [.bl true, .int 0]) = HK at sK qK ⊢
    refine ⟨(by decide : 14 ≤ sizeLine), fun pl hl => ?_⟩
    have sAK : Same HA HK := ((((((((sB.trans sC).trans sE).trans sF).trans sG).trans sH).trans sI).trans sJ).trans sK)
    have yK := yA.ext sAK
    have yL := yK.ext (alloc hl (o := .lst [.int n, .str (Str.ofString (toString n)), .non, .bl true, .bl false, .ref pa, .ref pb, .ref pc, .str "", .ref pe, .ref pf, .ref pj, .ref pk, .str "[1]"]))
    dsimp only [gName]
    refine ⟨_, rfl, _, rfl, b, c, ns, t4, r4, pl, _, rfl, yL.bowl, by have := yL.hi; omega, SqL.of upd_same, yK.bowl.apart hl, by show 0 < 14; decide, by show 14 ≤ 1000; decide, fun v t5 r5 H5 hv5 x5 => ?_⟩
    have y5 := yL.trans x5
    refine k v t5 r5 H5 ?_ ⟨y5.bowl, y5.but, y5.lo, by have := y5.hi; omega⟩
    have fin : ∀ {a : Addr} {o : HO}, HK a = some o → o ≠ .lst [.ref c, .int t4, .int r4] → (away H5 b) a = some o := by
      intro a o q ne
      have nb : a ≠ b := ne_of q yK.bowl.hb ne
      rw [away_ne nb]
      exact x5.but a o nb (alloc hl a o q)
    have fA := fin (sAK _ _ qA) (by intro z; cases z)
    have sBK : Same HB HK := ((((((((sC).trans sE).trans sF).trans sG).trans sH).trans sI).trans sJ).trans sK)
    have fB := fin (sBK _ _ qB) (by intro z; cases z)
    have sCK : Same HC HK := (((((((sE).trans sF).trans sG).trans sH).trans sI).trans sJ).trans sK)
    have fC := fin (sCK _ _ qC) (by intro z; cases z)
    have fD := fin (sCK _ _ qD) (by intro z; cases z)
    have sEK : Same HE HK := ((((((sF).trans sG).trans sH).trans sI).trans sJ).trans sK)
    have fE := fin (sEK _ _ qE) (by intro z; cases z)
    have sFK : Same HF HK := (((((sG).trans sH).trans sI).trans sJ).trans sK)
    have fF := fin (sFK _ _ qF) (by intro z; cases z)
    have sGK : Same HG HK := ((((sH).trans sI).trans sJ).trans sK)
    have fG := fin (sGK _ _ qG) (by intro z; cases z)
    have sHK : Same HH HK := (((sI).trans sJ).trans sK)
    have fH := fin (sHK _ _ qH) (by intro z; cases z)
    have sIK : Same HI HK := ((sJ).trans sK)
    have fI := fin (sIK _ _ qI) (by intro z; cases z)
    have fJ := fin (sK _ _ qJ) (by intro z; cases z)
    have fK := fin qK (by intro z; cases z)
    have m2 : Mid 2 := by unfold Mid; decide
    have N := ints_nice hn (.inl rfl)
    have cases_ : v = .int n ∨ v = .str (Str.ofString (toString n)) ∨ v = .non ∨ v = .bl true ∨ v = .bl false ∨ v = .ref pa ∨ v = .ref pb ∨ v = .ref pc ∨ v = .str "" ∨ v = .ref pe ∨ v = .ref pf ∨ v = .ref pj ∨ v = .ref pk ∨ v = .str "[1]" := by
      simpa using hv5
    rcases cases_ with rfl | rfl | rfl | rfl | rfl | rfl | rfl | rfl | rfl | rfl | rfl | rfl | rfl | rfl
    · exact .mk' rfl (.int n) (nice_int hn)
    · exact .mk' rfl (.str _) (nice_text hn)
    · exact .mk' rfl .non ⟨rfl, rfl, by decide, by decide⟩
    · exact .mk' rfl (.bl true) ⟨rfl, rfl, by decide, by decide⟩
    · exact .mk' rfl (.bl false) ⟨rfl, rfl, by decide, by decide⟩
    · exact .mk' rfl (.lst a1 (SqL.of fA) (.cons (.int n) .nil)) N.1
    · exact .mk' rfl (.tup (SqT.of fB) (.cons (.int n) (.cons (.int 2) .nil))) (ints_nice hn (.inr rfl)).2
    · exact .mk' rfl (.dic fC (.lst d1 (SqL.of fD) (.cons (.int n) .nil))) (dict_nice hn)
    · exact .mk' rfl (.str _) ⟨by decide +kernel, by decide +kernel, by decide +kernel, by decide +kernel⟩
    · exact .mk' rfl (.lst e1 (SqL.of fE) .nil) ⟨by decide +kernel, by decide +kernel, by decide +kernel, by decide +kernel⟩
    · exact .mk' rfl (.tup (SqT.of fF) .nil) ⟨by decide +kernel, by decide +kernel, by decide +kernel, by decide +kernel⟩
    · exact .mk' rfl (.lst j1 (SqL.of fJ) (.cons (.lst g1 (SqL.of fG) (.cons (.int n) .nil)) (.cons (.tup (SqT.of fI) (.cons (.int 1) (.cons (.lst h1 (SqL.of fH) (.cons (.int 2) .nil)) .nil))) .nil))) (deep_nice hn)
    · exact .mk' rfl (.lst k1 (SqL.of fK) (.cons (.bl true) (.cons (.int 0) .nil))) ⟨by decide +kernel, by decide +kernel, by decide +kernel, by decide +kernel⟩
    · exact .mk' rfl (.str _) ⟨by decide +kernel, by decide +kernel, by decide +kernel, by decide +kernel⟩
end
end K00

set_option Elab.async false
set_option linter.all false
set_option maxRecDepth 100000
set_option maxHeartbeats 4000000
namespace K00
open PySem L2 SG
/-! ### the errors -/
/-- an error class of the text, found behind the top -/
structure Er (K : PySem.W.Frag) (mg : Str → Option Value) (x q : Str) (st : Stmt) where
  C : Addr
  f : Addr
  fd : FuncData
  F : Fun K "__init__" q st f fd
  m : mg x = some (.ref C)
  O : OexC K C
  X : XfC K C
  E : ExcC K C
  iC : PySem.W.findIn K (.ref C) "__init__" = some (some (.ref f))
  tI : PySem.W.typeIn K (.ref f) = some (.type "function")
/-- __init__ of an error with one field -/
def spIn1 (C : Addr) : Sp := fun vs H Q _ => ∃ (a : Addr) (v : V), vs = [.ref a, v] ∧ H a = some (exo a C none) ∧
  ∀ (d : Addr) (H' : Hp), H d = none → H' a = some (exo a C (some d)) → H' d = some (exd d [("part", v)]) → (∀ b o, b ≠ a → H b = some o → H' b = some o) → Q .non H'
/-- .. with two -/
def spIn2 (C : Addr) : Sp := fun vs H Q _ => ∃ (a : Addr) (v u : V), vs = [.ref a, v, u] ∧ H a = some (exo a C none) ∧
  ∀ (d : Addr) (H' : Hp), H d = none → H' a = some (exo a C (some d)) → H' d = some (exd d [("most", u), ("what", v)]) → (∀ b o, b ≠ a → H b = some o → H' b = some o) → Q .non H'
section
variable {P : Program} {w : World} {K : PySem.W.Frag} {mg : Str → Option Value} {base : Heap}

abbrev i_BadFrame : Stmt := inClass (top 3) 0
theorem si_BadFrame : FnScope ["self", "part"] ["self", "part"] (defScope i_BadFrame) := ⟨rfl, rfl, rfl, by decide +kernel, rfl, by decide +kernel, by decide +kernel⟩
theorem ok_BadFrame (R : Er K mg "BadFrame" "BadFrame.__init__" i_BadFrame) (no : PySem.W.findIn K (.ref R.C) "part" = some none) : FnOk P w K mg base CX0 1 R.f R.fd ["self", "part"] (spIn1 R.C) := by
  refine R.F.ok si_BadFrame (fun vs H Q E h => ?_) (fun cdv A outer s H vs Q E hr h => ?_)
  · obtain ⟨a, v, rfl, _⟩ := h
    rfl
  · obtain ⟨a, v, rfl, ha, k⟩ := h
    refine ⟨_, pss_one (ps_ost (pv 0) (pv 1)), ?_⟩
    refine ⟨_, rfl, _, rfl, a, R.C, rfl, R.O, no, .inl ⟨ha, fun d hd ne => ?_⟩⟩
    exact k d _ hd upd_same (by rw [upd_ne ne]; exact upd_same) fun b o hb q => by rw [upd_ne hb, upd_ne (ne_of_none q hd)]; exact q

abbrev i_BadLead : Stmt := inClass (top 7) 0
theorem si_BadLead : FnScope ["self", "part"] ["self", "part"] (defScope i_BadLead) := ⟨rfl, rfl, rfl, by decide +kernel, rfl, by decide +kernel, by decide +kernel⟩
theorem ok_BadLead (R : Er K mg "BadLead" "BadLead.__init__" i_BadLead) (no : PySem.W.findIn K (.ref R.C) "part" = some none) : FnOk P w K mg base CX0 1 R.f R.fd ["self", "part"] (spIn1 R.C) := by
  refine R.F.ok si_BadLead (fun vs H Q E h => ?_) (fun cdv A outer s H vs Q E hr h => ?_)
  · obtain ⟨a, v, rfl, _⟩ := h
    rfl
  · obtain ⟨a, v, rfl, ha, k⟩ := h
    refine ⟨_, pss_one (ps_ost (pv 0) (pv 1)), ?_⟩
    refine ⟨_, rfl, _, rfl, a, R.C, rfl, R.O, no, .inl ⟨ha, fun d hd ne => ?_⟩⟩
    exact k d _ hd upd_same (by rw [upd_ne ne]; exact upd_same) fun b o hb q => by rw [upd_ne hb, upd_ne (ne_of_none q hd)]; exact q

abbrev i_BadLot : Stmt := inClass (top 6) 0
theorem si_BadLot : FnScope ["self", "part"] ["self", "part"] (defScope i_BadLot) := ⟨rfl, rfl, rfl, by decide +kernel, rfl, by decide +kernel, by decide +kernel⟩
theorem ok_BadLot (R : Er K mg "BadLot" "BadLot.__init__" i_BadLot) (no : PySem.W.findIn K (.ref R.C) "part" = some none) : FnOk P w K mg base CX0 1 R.f R.fd ["self", "part"] (spIn1 R.C) := by
  refine R.F.ok si_BadLot (fun vs H Q E h => ?_) (fun cdv A outer s H vs Q E hr h => ?_)
  · obtain ⟨a, v, rfl, _⟩ := h
    rfl
  · obtain ⟨a, v, rfl, ha, k⟩ := h
    refine ⟨_, pss_one (ps_ost (pv 0) (pv 1)), ?_⟩
    refine ⟨_, rfl, _, rfl, a, R.C, rfl, R.O, no, .inl ⟨ha, fun d hd ne => ?_⟩⟩
    exact k d _ hd upd_same (by rw [upd_ne ne]; exact upd_same) fun b o hb q => by rw [upd_ne hb, upd_ne (ne_of_none q hd)]; exact q

abbrev i_BadMotion : Stmt := inClass (top 4) 0
theorem si_BadMotion : FnScope ["self", "part"] ["self", "part"] (defScope i_BadMotion) := ⟨rfl, rfl, rfl, by decide +kernel, rfl, by decide +kernel, by decide +kernel⟩
theorem ok_BadMotion (R : Er K mg "BadMotion" "BadMotion.__init__" i_BadMotion) (no : PySem.W.findIn K (.ref R.C) "part" = some none) : FnOk P w K mg base CX0 1 R.f R.fd ["self", "part"] (spIn1 R.C) := by
  refine R.F.ok si_BadMotion (fun vs H Q E h => ?_) (fun cdv A outer s H vs Q E hr h => ?_)
  · obtain ⟨a, v, rfl, _⟩ := h
    rfl
  · obtain ⟨a, v, rfl, ha, k⟩ := h
    refine ⟨_, pss_one (ps_ost (pv 0) (pv 1)), ?_⟩
    refine ⟨_, rfl, _, rfl, a, R.C, rfl, R.O, no, .inl ⟨ha, fun d hd ne => ?_⟩⟩
    exact k d _ hd upd_same (by rw [upd_ne ne]; exact upd_same) fun b o hb q => by rw [upd_ne hb, upd_ne (ne_of_none q hd)]; exact q

abbrev i_BadNumber : Stmt := inClass (top 2) 0
theorem si_BadNumber : FnScope ["self", "part"] ["self", "part"] (defScope i_BadNumber) := ⟨rfl, rfl, rfl, by decide +kernel, rfl, by decide +kernel, by decide +kernel⟩
theorem ok_BadNumber (R : Er K mg "BadNumber" "BadNumber.__init__" i_BadNumber) (no : PySem.W.findIn K (.ref R.C) "part" = some none) : FnOk P w K mg base CX0 1 R.f R.fd ["self", "part"] (spIn1 R.C) := by
  refine R.F.ok si_BadNumber (fun vs H Q E h => ?_) (fun cdv A outer s H vs Q E hr h => ?_)
  · obtain ⟨a, v, rfl, _⟩ := h
    rfl
  · obtain ⟨a, v, rfl, ha, k⟩ := h
    refine ⟨_, pss_one (ps_ost (pv 0) (pv 1)), ?_⟩
    refine ⟨_, rfl, _, rfl, a, R.C, rfl, R.O, no, .inl ⟨ha, fun d hd ne => ?_⟩⟩
    exact k d _ hd upd_same (by rw [upd_ne ne]; exact upd_same) fun b o hb q => by rw [upd_ne hb, upd_ne (ne_of_none q hd)]; exact q

abbrev i_BadPaper : Stmt := inClass (top 8) 0
theorem si_BadPaper : FnScope ["self", "part"] ["self", "part"] (defScope i_BadPaper) := ⟨rfl, rfl, rfl, by decide +kernel, rfl, by decide +kernel, by decide +kernel⟩
theorem ok_BadPaper (R : Er K mg "BadPaper" "BadPaper.__init__" i_BadPaper) (no : PySem.W.findIn K (.ref R.C) "part" = some none) : FnOk P w K mg base CX0 1 R.f R.fd ["self", "part"] (spIn1 R.C) := by
  refine R.F.ok si_BadPaper (fun vs H Q E h => ?_) (fun cdv A outer s H vs Q E hr h => ?_)
  · obtain ⟨a, v, rfl, _⟩ := h
    rfl
  · obtain ⟨a, v, rfl, ha, k⟩ := h
    refine ⟨_, pss_one (ps_ost (pv 0) (pv 1)), ?_⟩
    refine ⟨_, rfl, _, rfl, a, R.C, rfl, R.O, no, .inl ⟨ha, fun d hd ne => ?_⟩⟩
    exact k d _ hd upd_same (by rw [upd_ne ne]; exact upd_same) fun b o hb q => by rw [upd_ne hb, upd_ne (ne_of_none q hd)]; exact q

abbrev i_BadSum : Stmt := inClass (top 5) 0
theorem si_BadSum : FnScope ["self", "part"] ["self", "part"] (defScope i_BadSum) := ⟨rfl, rfl, rfl, by decide +kernel, rfl, by decide +kernel, by decide +kernel⟩
theorem ok_BadSum (R : Er K mg "BadSum" "BadSum.__init__" i_BadSum) (no : PySem.W.findIn K (.ref R.C) "part" = some none) : FnOk P w K mg base CX0 1 R.f R.fd ["self", "part"] (spIn1 R.C) := by
  refine R.F.ok si_BadSum (fun vs H Q E h => ?_) (fun cdv A outer s H vs Q E hr h => ?_)
  · obtain ⟨a, v, rfl, _⟩ := h
    rfl
  · obtain ⟨a, v, rfl, ha, k⟩ := h
    refine ⟨_, pss_one (ps_ost (pv 0) (pv 1)), ?_⟩
    refine ⟨_, rfl, _, rfl, a, R.C, rfl, R.O, no, .inl ⟨ha, fun d hd ne => ?_⟩⟩
    exact k d _ hd upd_same (by rw [upd_ne ne]; exact upd_same) fun b o hb q => by rw [upd_ne hb, upd_ne (ne_of_none q hd)]; exact q

abbrev i_Misfit : Stmt := inClass (top 9) 0
theorem si_Misfit : FnScope ["self", "part"] ["self", "part"] (defScope i_Misfit) := ⟨rfl, rfl, rfl, by decide +kernel, rfl, by decide +kernel, by decide +kernel⟩
theorem ok_Misfit (R : Er K mg "Misfit" "Misfit.__init__" i_Misfit) (no : PySem.W.findIn K (.ref R.C) "part" = some none) : FnOk P w K mg base CX0 1 R.f R.fd ["self", "part"] (spIn1 R.C) := by
  refine R.F.ok si_Misfit (fun vs H Q E h => ?_) (fun cdv A outer s H vs Q E hr h => ?_)
  · obtain ⟨a, v, rfl, _⟩ := h
    rfl
  · obtain ⟨a, v, rfl, ha, k⟩ := h
    refine ⟨_, pss_one (ps_ost (pv 0) (pv 1)), ?_⟩
    refine ⟨_, rfl, _, rfl, a, R.C, rfl, R.O, no, .inl ⟨ha, fun d hd ne => ?_⟩⟩
    exact k d _ hd upd_same (by rw [upd_ne ne]; exact upd_same) fun b o hb q => by rw [upd_ne hb, upd_ne (ne_of_none q hd)]; exact q

abbrev i_TooMany : Stmt := inClass (top 10) 0
theorem si_TooMany : FnScope ["self", "what", "most"] ["self", "what", "most"] (defScope i_TooMany) := ⟨rfl, rfl, rfl, by decide +kernel, rfl, by decide +kernel, by decide +kernel⟩
theorem ok_TooMany (R : Er K mg "TooMany" "TooMany.__init__" i_TooMany) (n1 : PySem.W.findIn K (.ref R.C) "what" = some none) (n2 : PySem.W.findIn K (.ref R.C) "most" = some none) :
    FnOk P w K mg base CX0 1 R.f R.fd ["self", "what", "most"] (spIn2 R.C) := by
  refine R.F.ok si_TooMany (fun vs H Q E h => ?_) (fun cdv A outer s H vs Q E hr h => ?_)
  · obtain ⟨a, v, u, rfl, _⟩ := h
    rfl
  · obtain ⟨a, v, u, rfl, ha, k⟩ := h
    refine ⟨_, pss_cons (ps_ost (pv 0) (pv 1)) (pss_one (ps_ost (pv 0) (pv 2))), ?_⟩
    refine ⟨_, rfl, _, rfl, a, R.C, rfl, R.O, n1, .inl ⟨ha, fun d hd ne => ?_⟩⟩
    refine ⟨_, rfl, _, rfl, a, R.C, rfl, R.O, n2, .inr ⟨d, _, upd_same, by rw [upd_ne ne]; exact upd_same, (by show 1 ≤ 900; decide), ?_⟩⟩
    refine k d _ hd (by rw [upd_ne (Ne.symm ne)]; exact upd_same) upd_same fun b o hb q => ?_
    rw [upd_ne (ne_of_none q hd), upd_ne hb, upd_ne (ne_of_none q hd)]
    exact q
/-- how the calls bind -/
theorem kb_pos {x q : Str} {st : Stmt} (R : Er K mg x q st) {ps : List Str} (n : Nat) (h : ∀ (kV doc pm : Value) (an : Option Addr) (cdv ct : Value) (us : List Value), us.length = n + 1 → bindArgs (PySem.W.fnOf "__init__" q (defArgs st) (defBody st) (defScope st) .none kV doc pm an cdv ct) ⟨us, []⟩ = pure (ps.zip us)) :
    KBn K R.fd ps (n + 1) [] (fun us _ => us) (fun vs _ => vs) := by
  obtain ⟨oc, od, kV, doc, pm, an, cdv, ct, osl, e, lk, hcd⟩ := R.F.ex
  refine ⟨fun s us ws _ l1 l2 => ?_, fun r _ => r⟩
  rw [e]
  exact .of_eq (h kV doc pm an cdv ct us l1)
theorem kb_key {x q : Str} {st : Stmt} (R : Er K mg x q st) {ps ks : List Str} (g : {α : Type} → List α → List α) (hg : ∀ {vs : List V} {us : List Value}, Vals vs us → Vals (g vs) (g us))
    (h : ∀ (kV doc pm : Value) (an : Option Addr) (cdv ct : Value) (us ws : List Value), us.length = 1 → ws.length = ks.length → bindArgs (PySem.W.fnOf "__init__" q (defArgs st) (defBody st) (defScope st) .none kV doc pm an cdv ct) ⟨us, ks.zip ws⟩ = pure (ps.zip (us ++ g ws))) :
    KBn K R.fd ps 1 ks (fun us ws => us ++ g ws) (fun vs zs => vs ++ g zs) := by
  obtain ⟨oc, od, kV, doc, pm, an, cdv, ct, osl, e, lk, hcd⟩ := R.F.ex
  refine ⟨fun s us ws _ l1 l2 => ?_, fun r1 r2 => r1.append (hg r2)⟩
  rw [e]
  exact .of_eq (h kV doc pm an cdv ct us ws l1 l2)
theorem kp_BadFrame (R : Er K mg "BadFrame" "BadFrame.__init__" i_BadFrame) : KBn K R.fd ["self", "part"] 2 [] (fun us _ => us) (fun vs _ => vs) :=
  kb_pos R 1 fun _ _ _ _ _ _ us l => match us, l with | [_, _], _ => rfl
theorem kk_BadFrame (R : Er K mg "BadFrame" "BadFrame.__init__" i_BadFrame) : KBn K R.fd ["self", "part"] 1 ["part"] (fun us ws => us ++ ws) (fun vs zs => vs ++ zs) :=
  kb_key R (fun x => x) (fun r => r) fun _ _ _ _ _ _ us ws l1 l2 => match us, ws, l1, l2 with | [_], [_], _, _ => rfl
theorem kp_BadLead (R : Er K mg "BadLead" "BadLead.__init__" i_BadLead) : KBn K R.fd ["self", "part"] 2 [] (fun us _ => us) (fun vs _ => vs) :=
  kb_pos R 1 fun _ _ _ _ _ _ us l => match us, l with | [_, _], _ => rfl
theorem kk_BadLead (R : Er K mg "BadLead" "BadLead.__init__" i_BadLead) : KBn K R.fd ["self", "part"] 1 ["part"] (fun us ws => us ++ ws) (fun vs zs => vs ++ zs) :=
  kb_key R (fun x => x) (fun r => r) fun _ _ _ _ _ _ us ws l1 l2 => match us, ws, l1, l2 with | [_], [_], _, _ => rfl
theorem kp_BadLot (R : Er K mg "BadLot" "BadLot.__init__" i_BadLot) : KBn K R.fd ["self", "part"] 2 [] (fun us _ => us) (fun vs _ => vs) :=
  kb_pos R 1 fun _ _ _ _ _ _ us l => match us, l with | [_, _], _ => rfl
theorem kk_BadLot (R : Er K mg "BadLot" "BadLot.__init__" i_BadLot) : KBn K R.fd ["self", "part"] 1 ["part"] (fun us ws => us ++ ws) (fun vs zs => vs ++ zs) :=
  kb_key R (fun x => x) (fun r => r) fun _ _ _ _ _ _ us ws l1 l2 => match us, ws, l1, l2 with | [_], [_], _, _ => rfl
theorem kp_BadMotion (R : Er K mg "BadMotion" "BadMotion.__init__" i_BadMotion) : KBn K R.fd ["self", "part"] 2 [] (fun us _ => us) (fun vs _ => vs) :=
  kb_pos R 1 fun _ _ _ _ _ _ us l => match us, l with | [_, _], _ => rfl
theorem kk_BadMotion (R : Er K mg "BadMotion" "BadMotion.__init__" i_BadMotion) : KBn K R.fd ["self", "part"] 1 ["part"] (fun us ws => us ++ ws) (fun vs zs => vs ++ zs) :=
  kb_key R (fun x => x) (fun r => r) fun _ _ _ _ _ _ us ws l1 l2 => match us, ws, l1, l2 with | [_], [_], _, _ => rfl
theorem kp_BadNumber (R : Er K mg "BadNumber" "BadNumber.__init__" i_BadNumber) : KBn K R.fd ["self", "part"] 2 [] (fun us _ => us) (fun vs _ => vs) :=
  kb_pos R 1 fun _ _ _ _ _ _ us l => match us, l with | [_, _], _ => rfl
theorem kk_BadNumber (R : Er K mg "BadNumber" "BadNumber.__init__" i_BadNumber) : KBn K R.fd ["self", "part"] 1 ["part"] (fun us ws => us ++ ws) (fun vs zs => vs ++ zs) :=
  kb_key R (fun x => x) (fun r => r) fun _ _ _ _ _ _ us ws l1 l2 => match us, ws, l1, l2 with | [_], [_], _, _ => rfl
theorem kp_BadPaper (R : Er K mg "BadPaper" "BadPaper.__init__" i_BadPaper) : KBn K R.fd ["self", "part"] 2 [] (fun us _ => us) (fun vs _ => vs) :=
  kb_pos R 1 fun _ _ _ _ _ _ us l => match us, l with | [_, _], _ => rfl
theorem kk_BadPaper (R : Er K mg "BadPaper" "BadPaper.__init__" i_BadPaper) : KBn K R.fd ["self", "part"] 1 ["part"] (fun us ws => us ++ ws) (fun vs zs => vs ++ zs) :=
  kb_key R (fun x => x) (fun r => r) fun _ _ _ _ _ _ us ws l1 l2 => match us, ws, l1, l2 with | [_], [_], _, _ => rfl
theorem kp_BadSum (R : Er K mg "BadSum" "BadSum.__init__" i_BadSum) : KBn K R.fd ["self", "part"] 2 [] (fun us _ => us) (fun vs _ => vs) :=
  kb_pos R 1 fun _ _ _ _ _ _ us l => match us, l with | [_, _], _ => rfl
theorem kk_BadSum (R : Er K mg "BadSum" "BadSum.__init__" i_BadSum) : KBn K R.fd ["self", "part"] 1 ["part"] (fun us ws => us ++ ws) (fun vs zs => vs ++ zs) :=
  kb_key R (fun x => x) (fun r => r) fun _ _ _ _ _ _ us ws l1 l2 => match us, ws, l1, l2 with | [_], [_], _, _ => rfl
theorem kp_Misfit (R : Er K mg "Misfit" "Misfit.__init__" i_Misfit) : KBn K R.fd ["self", "part"] 2 [] (fun us _ => us) (fun vs _ => vs) :=
  kb_pos R 1 fun _ _ _ _ _ _ us l => match us, l with | [_, _], _ => rfl
theorem kk_Misfit (R : Er K mg "Misfit" "Misfit.__init__" i_Misfit) : KBn K R.fd ["self", "part"] 1 ["part"] (fun us ws => us ++ ws) (fun vs zs => vs ++ zs) :=
  kb_key R (fun x => x) (fun r => r) fun _ _ _ _ _ _ us ws l1 l2 => match us, ws, l1, l2 with | [_], [_], _, _ => rfl
theorem kp_TooMany (R : Er K mg "TooMany" "TooMany.__init__" i_TooMany) : KBn K R.fd ["self", "what", "most"] 3 [] (fun us _ => us) (fun vs _ => vs) :=
  kb_pos R 2 fun _ _ _ _ _ _ us l => match us, l with | [_, _, _], _ => rfl
theorem kk_TooMany (R : Er K mg "TooMany" "TooMany.__init__" i_TooMany) : KBn K R.fd ["self", "what", "most"] 1 ["most", "what"] (fun us ws => us ++ ws.reverse) (fun vs zs => vs ++ zs.reverse) :=
  kb_key R List.reverse (fun r => r.reverse) fun _ _ _ _ _ _ us ws l1 l2 => match us, ws, l1, l2 with | [_], [_, _], _, _ => rfl
end
/-- all that the text's top has left -/
structure Ty (K : PySem.W.Frag) (mg : Str → Option Value) extends Tx K mg where
  e_BadFrame : Er K mg "BadFrame" "BadFrame.__init__" i_BadFrame
  e_BadLead : Er K mg "BadLead" "BadLead.__init__" i_BadLead
  e_BadLot : Er K mg "BadLot" "BadLot.__init__" i_BadLot
  e_BadMotion : Er K mg "BadMotion" "BadMotion.__init__" i_BadMotion
  e_BadNumber : Er K mg "BadNumber" "BadNumber.__init__" i_BadNumber
  e_BadPaper : Er K mg "BadPaper" "BadPaper.__init__" i_BadPaper
  e_BadSum : Er K mg "BadSum" "BadSum.__init__" i_BadSum
  e_Misfit : Er K mg "Misfit" "Misfit.__init__" i_Misfit
  e_TooMany : Er K mg "TooMany" "TooMany.__init__" i_TooMany
  no_BadFrame : PySem.W.findIn K (.ref e_BadFrame.C) "part" = some none
  no_BadLead : PySem.W.findIn K (.ref e_BadLead.C) "part" = some none
  no_BadLot : PySem.W.findIn K (.ref e_BadLot.C) "part" = some none
  no_BadMotion : PySem.W.findIn K (.ref e_BadMotion.C) "part" = some none
  no_BadNumber : PySem.W.findIn K (.ref e_BadNumber.C) "part" = some none
  no_BadPaper : PySem.W.findIn K (.ref e_BadPaper.C) "part" = some none
  no_BadSum : PySem.W.findIn K (.ref e_BadSum.C) "part" = some none
  no_Misfit : PySem.W.findIn K (.ref e_Misfit.C) "part" = some none
  n1_TooMany : PySem.W.findIn K (.ref e_TooMany.C) "what" = some none
  n2_TooMany : PySem.W.findIn K (.ref e_TooMany.C) "most" = some none
/-- the classes in the order of their numbers -/
def Ty.cs {K : PySem.W.Frag} {mg : Str → Option Value} (T : Ty K mg) : List Addr := [T.e_BadFrame.C, T.e_BadLead.C, T.e_BadLot.C, T.e_BadMotion.C, T.e_BadNumber.C, T.e_BadPaper.C, T.e_BadSum.C, T.e_Misfit.C, T.e_TooMany.C]
def fsOf (i : Nat) (v u : V) : List (Str × V) := if i = 8 then [("most", u), ("what", v)] else [("part", v)]
/-- an error of the class of number i with its fields -/
def ErrAt {K : PySem.W.Frag} {mg : Str → Option Value} (T : Ty K mg) (H : Hp) (a : Addr) (i : Nat) (v u : V) : Prop :=
  ∃ C d, T.cs[i]? = some C ∧ ExAt H a C (some d) ∧ ExD H d (fsOf i v u)
theorem ErrAt.same {K : PySem.W.Frag} {mg : Str → Option Value} {T : Ty K mg} {H H' : Hp} {a : Addr} {i : Nat} {v u : V} (s : Same H H') (h : ErrAt T H a i v u) : ErrAt T H' a i v u := by
  obtain ⟨C, d, h1, h2, h3⟩ := h
  exact ⟨C, d, h1, h2.same (s a), h3.same (s d)⟩
theorem mkSame {H H' : Hp} {a : Addr} {u : HO} (ha : H a = none) (s : ∀ b o, b ≠ a → upd H a u b = some o → H' b = some o) : Same H H' := fun b o q => s b o (ne_of_none q ha) (alloc ha b o q)
def spBy {K : PySem.W.Frag} {mg : Str → Option Value} (T : Ty K mg) : Sp := fun vs H Q _ => ∃ (i : Nat) (v u : V), vs = [.int i, v, u] ∧ i < 9 ∧ ∀ (a : Addr) (H' : Hp), Same H H' → ErrAt T H' a i v u → Q (.ref a) H'
end K00

set_option Elab.async false
set_option linter.all false
set_option maxRecDepth 100000
set_option maxHeartbeats 4000000
namespace K00
open PySem L2 SG
section
variable {P : Program} {w : World} {K : PySem.W.Frag} {mg : Str → Option Value} {base : Heap}
theorem of_self {T : Ty K mg} {H : Hp} {i : Nat} {C a d : Addr} {v u : V} (hC : T.cs[i]? = some C) (ha : H a = some (exo a C (some d))) (hd : H d = some (exd d (fsOf i v u))) : ErrAt T H a i v u :=
  ⟨C, d, hC, .inl ha, .inl hd⟩
theorem ok_by_place (T : Ty K mg) {f : Addr} {fd : FuncData} (F : Fun K "_law_by_place" "_law_by_place" s_l_by_place f fd) : FnOk P w K mg base CX0 3 f fd ["at", "value", "other"] (spBy T) := by
  refine F.ok sc_l_by_place (fun vs H Q E h => ?_) (fun cdv A outer s H vs Q E hr h => ?_)
  · obtain ⟨i, v, u, rfl, _⟩ := h
    rfl
  · obtain ⟨i, v, u, rfl, hi, k⟩ := h
    refine ⟨_, (pss_cons (ps_if (pt_cmpR op_eq (pv 0) pe_int (nomark _))
  (pss_one (ps_ret (pe_err T.e_TooMany.O T.e_TooMany.iC T.e_TooMany.tI (ok_TooMany T.e_TooMany T.n1_TooMany T.n2_TooMany) hr (kp_TooMany T.e_TooMany) rfl T.e_TooMany.m (pa_cons (pv 1) (pa_cons (pv 2) pa_nil)))))
  pss_nil)
  (pss_one (ps_ret (pe_ix ix_list (pe_lst (pa_cons (pe_err T.e_BadFrame.O T.e_BadFrame.iC T.e_BadFrame.tI (ok_BadFrame T.e_BadFrame T.no_BadFrame) hr (kp_BadFrame T.e_BadFrame) rfl T.e_BadFrame.m (pa_cons (pv 1) pa_nil)) (pa_cons (pe_err T.e_BadLead.O T.e_BadLead.iC T.e_BadLead.tI (ok_BadLead T.e_BadLead T.no_BadLead) hr (kp_BadLead T.e_BadLead) rfl T.e_BadLead.m (pa_cons (pv 1) pa_nil)) (pa_cons (pe_err T.e_BadLot.O T.e_BadLot.iC T.e_BadLot.tI (ok_BadLot T.e_BadLot T.no_BadLot) hr (kp_BadLot T.e_BadLot) rfl T.e_BadLot.m (pa_cons (pv 1) pa_nil)) (pa_cons (pe_err T.e_BadMotion.O T.e_BadMotion.iC T.e_BadMotion.tI (ok_BadMotion T.e_BadMotion T.no_BadMotion) hr (kp_BadMotion T.e_BadMotion) rfl T.e_BadMotion.m (pa_cons (pv 1) pa_nil)) (pa_cons (pe_err T.e_BadNumber.O T.e_BadNumber.iC T.e_BadNumber.tI (ok_BadNumber T.e_BadNumber T.no_BadNumber) hr (kp_BadNumber T.e_BadNumber) rfl T.e_BadNumber.m (pa_cons (pv 1) pa_nil)) (pa_cons (pe_err T.e_BadPaper.O T.e_BadPaper.iC T.e_BadPaper.tI (ok_BadPaper T.e_BadPaper T.no_BadPaper) hr (kp_BadPaper T.e_BadPaper) rfl T.e_BadPaper.m (pa_cons (pv 1) pa_nil)) (pa_cons (pe_err T.e_BadSum.O T.e_BadSum.iC T.e_BadSum.tI (ok_BadSum T.e_BadSum T.no_BadSum) hr (kp_BadSum T.e_BadSum) rfl T.e_BadSum.m (pa_cons (pv 1) pa_nil)) (pa_cons (pe_err T.e_Misfit.O T.e_Misfit.iC T.e_Misfit.tI (ok_Misfit T.e_Misfit T.no_Misfit) hr (kp_Misfit T.e_Misfit) rfl T.e_Misfit.m (pa_cons (pv 1) pa_nil)) pa_nil))))))))) (pv 0) (fun _ _ => rfl))))), ?_⟩
    refine ⟨_, rfl, rfl, _, rfl, ?_⟩
    refine ite2 (fun c8 => ?_) (fun c8 => ?_)
    · have e8 : i = 8 := by
        have z : V.int ((i : Nat) : Int) = V.int 8 := of_decide_eq_true c8
        injection z with z
        omega
      subst e8
      refine ⟨_, rfl, _, rfl, rfl, rfl, (by show 2 ≤ 1000; decide), fun a n => ⟨a, _, _, rfl, upd_same, fun d H1 _ qa qd s => ⟨rfl, ?_⟩⟩⟩
      exact k a H1 (mkSame n s) (of_self (by rfl) qa qd)
    have hi8 : i < 8 := by
      rcases Nat.lt_or_ge i 8 with z | z
      · exact z
      · have e : i = 8 := by omega
        exact absurd (by rw [e]; exact decide_eq_true rfl) c8
    refine ⟨_, rfl, rfl, rfl, (by show 1 ≤ 1000; decide), fun a0 n0 => ⟨a0, _, rfl, upd_same, fun d0 H0 _ qa0 qd0 s0 => ⟨rfl, ?_⟩⟩⟩
    have z0 := mkSame n0 s0
    refine ⟨_, rfl, rfl, rfl, (by show 1 ≤ 1000; decide), fun a1 n1 => ⟨a1, _, rfl, upd_same, fun d1 H1 _ qa1 qd1 s1 => ⟨rfl, ?_⟩⟩⟩
    have z1 := mkSame n1 s1
    refine ⟨_, rfl, rfl, rfl, (by show 1 ≤ 1000; decide), fun a2 n2 => ⟨a2, _, rfl, upd_same, fun d2 H2 _ qa2 qd2 s2 => ⟨rfl, ?_⟩⟩⟩
    have z2 := mkSame n2 s2
    refine ⟨_, rfl, rfl, rfl, (by show 1 ≤ 1000; decide), fun a3 n3 => ⟨a3, _, rfl, upd_same, fun d3 H3 _ qa3 qd3 s3 => ⟨rfl, ?_⟩⟩⟩
    have z3 := mkSame n3 s3
    refine ⟨_, rfl, rfl, rfl, (by show 1 ≤ 1000; decide), fun a4 n4 => ⟨a4, _, rfl, upd_same, fun d4 H4 _ qa4 qd4 s4 => ⟨rfl, ?_⟩⟩⟩
    have z4 := mkSame n4 s4
    refine ⟨_, rfl, rfl, rfl, (by show 1 ≤ 1000; decide), fun a5 n5 => ⟨a5, _, rfl, upd_same, fun d5 H5 _ qa5 qd5 s5 => ⟨rfl, ?_⟩⟩⟩
    have z5 := mkSame n5 s5
    refine ⟨_, rfl, rfl, rfl, (by show 1 ≤ 1000; decide), fun a6 n6 => ⟨a6, _, rfl, upd_same, fun d6 H6 _ qa6 qd6 s6 => ⟨rfl, ?_⟩⟩⟩
    have z6 := mkSame n6 s6
    refine ⟨_, rfl, rfl, rfl, (by show 1 ≤ 1000; decide), fun a7 n7 => ⟨a7, _, rfl, upd_same, fun d7 H7 _ qa7 qd7 s7 => ⟨rfl, ?_⟩⟩⟩
    have z7 := mkSame n7 s7
    refine ⟨(by show 8 ≤ sizeLine; decide), fun p hp => ?_⟩
    have zp := alloc hp (o := .lst [.ref a0, .ref a1, .ref a2, .ref a3, .ref a4, .ref a5, .ref a6, .ref a7])
    have qp : (upd H7 p (.lst [.ref a0, .ref a1, .ref a2, .ref a3, .ref a4, .ref a5, .ref a6, .ref a7])) p = some (.lst [.ref a0, .ref a1, .ref a2, .ref a3, .ref a4, .ref a5, .ref a6, .ref a7]) := upd_same
    generalize upd H7 p (.lst [.ref a0, .ref a1, .ref a2, .ref a3, .ref a4, .ref a5, .ref a6, .ref a7]) = HP at zp qp ⊢
    have w8 : Same H HP := (((((((z0.trans z1).trans z2).trans z3).trans z4).trans z5).trans z6).trans z7).trans zp
    have y0 : Same H0 HP := (((((((z1.trans z2).trans z3).trans z4).trans z5).trans z6).trans z7).trans zp)
    have y1 : Same H1 HP := ((((((z2.trans z3).trans z4).trans z5).trans z6).trans z7).trans zp)
    have y2 : Same H2 HP := (((((z3.trans z4).trans z5).trans z6).trans z7).trans zp)
    have y3 : Same H3 HP := ((((z4.trans z5).trans z6).trans z7).trans zp)
    have y4 : Same H4 HP := (((z5.trans z6).trans z7).trans zp)
    have y5 : Same H5 HP := ((z6.trans z7).trans zp)
    have y6 : Same H6 HP := (z7.trans zp)
    have y7 : Same H7 HP := zp
    match i, hi8 with
    | 0, _ => exact ⟨_, rfl, p, _, _, _, rfl, rfl, SqL.of qp, rfl, k a0 HP w8 ((of_self (T := T) (i := 0) (u := u) (by rfl) qa0 qd0).same y0)⟩
    | 1, _ => exact ⟨_, rfl, p, _, _, _, rfl, rfl, SqL.of qp, rfl, k a1 HP w8 ((of_self (T := T) (i := 1) (u := u) (by rfl) qa1 qd1).same y1)⟩
    | 2, _ => exact ⟨_, rfl, p, _, _, _, rfl, rfl, SqL.of qp, rfl, k a2 HP w8 ((of_self (T := T) (i := 2) (u := u) (by rfl) qa2 qd2).same y2)⟩
    | 3, _ => exact ⟨_, rfl, p, _, _, _, rfl, rfl, SqL.of qp, rfl, k a3 HP w8 ((of_self (T := T) (i := 3) (u := u) (by rfl) qa3 qd3).same y3)⟩
    | 4, _ => exact ⟨_, rfl, p, _, _, _, rfl, rfl, SqL.of qp, rfl, k a4 HP w8 ((of_self (T := T) (i := 4) (u := u) (by rfl) qa4 qd4).same y4)⟩
    | 5, _ => exact ⟨_, rfl, p, _, _, _, rfl, rfl, SqL.of qp, rfl, k a5 HP w8 ((of_self (T := T) (i := 5) (u := u) (by rfl) qa5 qd5).same y5)⟩
    | 6, _ => exact ⟨_, rfl, p, _, _, _, rfl, rfl, SqL.of qp, rfl, k a6 HP w8 ((of_self (T := T) (i := 6) (u := u) (by rfl) qa6 qd6).same y6)⟩
    | 7, _ => exact ⟨_, rfl, p, _, _, _, rfl, rfl, SqL.of qp, rfl, k a7 HP w8 ((of_self (T := T) (i := 7) (u := u) (by rfl) qa7 qd7).same y7)⟩
end
end K00

set_option Elab.async false
set_option linter.all false
set_option maxRecDepth 100000
set_option maxHeartbeats 4000000
namespace K00
open PySem L2 SG
section
variable {P : Program} {w : World} {K : PySem.W.Frag} {mg : Str → Option Value} {base : Heap}
theorem ok_by_name (T : Ty K mg) {f : Addr} {fd : FuncData} (F : Fun K "_law_by_name" "_law_by_name" s_l_by_name f fd) : FnOk P w K mg base CX0 3 f fd ["at", "value", "other"] (spBy T) := by
  refine F.ok sc_l_by_name (fun vs H Q E h => ?_) (fun cdv A outer s H vs Q E hr h => ?_)
  · obtain ⟨i, v, u, rfl, _⟩ := h
    rfl
  · obtain ⟨i, v, u, rfl, hi, k⟩ := h
    refine ⟨_, (pss_cons (ps_if (pt_cmpR op_eq (pv 0) pe_int (nomark _))
  (pss_one (ps_ret (pe_errK T.e_TooMany.O T.e_TooMany.iC T.e_TooMany.tI (ok_TooMany T.e_TooMany T.n1_TooMany T.n2_TooMany) hr (kk_TooMany T.e_TooMany) rfl T.e_TooMany.m (pk_cons (pv 2) (pk_cons (pv 1) pk_nil)))))
  pss_nil)
  (pss_cons (ps_set (i := 3) sc_l_by_name.nd rfl (Or.inl rfl) (pe_lst (pa_cons (pe_errK T.e_BadFrame.O T.e_BadFrame.iC T.e_BadFrame.tI (ok_BadFrame T.e_BadFrame T.no_BadFrame) hr (kk_BadFrame T.e_BadFrame) rfl T.e_BadFrame.m (pk_cons (pv 1) pk_nil)) (pa_cons (pe_errK T.e_BadLead.O T.e_BadLead.iC T.e_BadLead.tI (ok_BadLead T.e_BadLead T.no_BadLead) hr (kk_BadLead T.e_BadLead) rfl T.e_BadLead.m (pk_cons (pv 1) pk_nil)) (pa_cons (pe_errK T.e_BadLot.O T.e_BadLot.iC T.e_BadLot.tI (ok_BadLot T.e_BadLot T.no_BadLot) hr (kk_BadLot T.e_BadLot) rfl T.e_BadLot.m (pk_cons (pv 1) pk_nil)) (pa_cons (pe_errK T.e_BadMotion.O T.e_BadMotion.iC T.e_BadMotion.tI (ok_BadMotion T.e_BadMotion T.no_BadMotion) hr (kk_BadMotion T.e_BadMotion) rfl T.e_BadMotion.m (pk_cons (pv 1) pk_nil)) (pa_cons (pe_errK T.e_BadNumber.O T.e_BadNumber.iC T.e_BadNumber.tI (ok_BadNumber T.e_BadNumber T.no_BadNumber) hr (kk_BadNumber T.e_BadNumber) rfl T.e_BadNumber.m (pk_cons (pv 1) pk_nil)) pa_nil)))))))
  (pss_one (ps_ret (pe_ix ix_list (pe_op op_cat (pv 3) (pe_lst (pa_cons (pe_errK T.e_BadPaper.O T.e_BadPaper.iC T.e_BadPaper.tI (ok_BadPaper T.e_BadPaper T.no_BadPaper) hr (kk_BadPaper T.e_BadPaper) rfl T.e_BadPaper.m (pk_cons (pv 1) pk_nil)) (pa_cons (pe_errK T.e_BadSum.O T.e_BadSum.iC T.e_BadSum.tI (ok_BadSum T.e_BadSum T.no_BadSum) hr (kk_BadSum T.e_BadSum) rfl T.e_BadSum.m (pk_cons (pv 1) pk_nil)) (pa_cons (pe_errK T.e_Misfit.O T.e_Misfit.iC T.e_Misfit.tI (ok_Misfit T.e_Misfit T.no_Misfit) hr (kk_Misfit T.e_Misfit) rfl T.e_Misfit.m (pk_cons (pv 1) pk_nil)) pa_nil))))) (pv 0) (fun _ _ => rfl)))))), ?_⟩
    refine ⟨_, rfl, rfl, _, rfl, ?_⟩
    refine ite2 (fun c8 => ?_) (fun c8 => ?_)
    · have e8 : i = 8 := by
        have z : V.int ((i : Nat) : Int) = V.int 8 := of_decide_eq_true c8
        injection z with z
        omega
      subst e8
      refine ⟨_, rfl, _, rfl, rfl, rfl, (by show 0 ≤ 1000; decide), fun a n => ⟨a, _, _, rfl, upd_same, fun d H1 _ qa qd s => ⟨rfl, ?_⟩⟩⟩
      exact k a H1 (mkSame n s) (of_self (by rfl) qa qd)
    have hi8 : i < 8 := by
      rcases Nat.lt_or_ge i 8 with z | z
      · exact z
      · have e : i = 8 := by omega
        exact absurd (by rw [e]; exact decide_eq_true rfl) c8
    refine ⟨_, rfl, rfl, rfl, (by show 0 ≤ 1000; decide), fun a0 n0 => ⟨a0, _, rfl, upd_same, fun d0 H0 _ qa0 qd0 s0 => ⟨rfl, ?_⟩⟩⟩
    have z0 := mkSame n0 s0
    refine ⟨_, rfl, rfl, rfl, (by show 0 ≤ 1000; decide), fun a1 n1 => ⟨a1, _, rfl, upd_same, fun d1 H1 _ qa1 qd1 s1 => ⟨rfl, ?_⟩⟩⟩
    have z1 := mkSame n1 s1
    refine ⟨_, rfl, rfl, rfl, (by show 0 ≤ 1000; decide), fun a2 n2 => ⟨a2, _, rfl, upd_same, fun d2 H2 _ qa2 qd2 s2 => ⟨rfl, ?_⟩⟩⟩
    have z2 := mkSame n2 s2
    refine ⟨_, rfl, rfl, rfl, (by show 0 ≤ 1000; decide), fun a3 n3 => ⟨a3, _, rfl, upd_same, fun d3 H3 _ qa3 qd3 s3 => ⟨rfl, ?_⟩⟩⟩
    have z3 := mkSame n3 s3
    refine ⟨_, rfl, rfl, rfl, (by show 0 ≤ 1000; decide), fun a4 n4 => ⟨a4, _, rfl, upd_same, fun d4 H4 _ qa4 qd4 s4 => ⟨rfl, ?_⟩⟩⟩
    have z4 := mkSame n4 s4
    refine ⟨(by show 5 ≤ sizeLine; decide), fun pA nA => ?_⟩
    have zA := alloc nA (o := .lst [.ref a0, .ref a1, .ref a2, .ref a3, .ref a4])
    have qA : (upd H4 pA (.lst [.ref a0, .ref a1, .ref a2, .ref a3, .ref a4])) pA = some (.lst [.ref a0, .ref a1, .ref a2, .ref a3, .ref a4]) := upd_same
    generalize upd H4 pA (.lst [.ref a0, .ref a1, .ref a2, .ref a3, .ref a4]) = HA at zA qA ⊢
    refine ⟨_, rfl, ?_⟩
    refine ⟨_, rfl, rfl, rfl, (by show 0 ≤ 1000; decide), fun a5 n5 => ⟨a5, _, rfl, upd_same, fun d5 H5 _ qa5 qd5 s5 => ⟨rfl, ?_⟩⟩⟩
    have z5 := mkSame n5 s5
    refine ⟨_, rfl, rfl, rfl, (by show 0 ≤ 1000; decide), fun a6 n6 => ⟨a6, _, rfl, upd_same, fun d6 H6 _ qa6 qd6 s6 => ⟨rfl, ?_⟩⟩⟩
    have z6 := mkSame n6 s6
    refine ⟨_, rfl, rfl, rfl, (by show 0 ≤ 1000; decide), fun a7 n7 => ⟨a7, _, rfl, upd_same, fun d7 H7 _ qa7 qd7 s7 => ⟨rfl, ?_⟩⟩⟩
    have z7 := mkSame n7 s7
    refine ⟨(by show 3 ≤ sizeLine; decide), fun pB nB => ?_⟩
    have zB := alloc nB (o := .lst [.ref a5, .ref a6, .ref a7])
    have qB : (upd H7 pB (.lst [.ref a5, .ref a6, .ref a7])) pB = some (.lst [.ref a5, .ref a6, .ref a7]) := upd_same
    generalize upd H7 pB (.lst [.ref a5, .ref a6, .ref a7]) = HB at zB qB ⊢
    have qA2 := (((z5.trans z6).trans z7).trans zB) _ _ qA
    refine ⟨pA, pB, _, _, rfl, rfl, qA2, qB, (by show 8 ≤ sizeLine; decide), fun pC nC => ?_⟩
    have zC := alloc nC (o := .lst ([.ref a0, .ref a1, .ref a2, .ref a3, .ref a4] ++ [.ref a5, .ref a6, .ref a7]))
    have qC : (upd HB pC (.lst ([.ref a0, .ref a1, .ref a2, .ref a3, .ref a4] ++ [.ref a5, .ref a6, .ref a7]))) pC = some (.lst [.ref a0, .ref a1, .ref a2, .ref a3, .ref a4, .ref a5, .ref a6, .ref a7]) := upd_same
    generalize upd HB pC (.lst ([.ref a0, .ref a1, .ref a2, .ref a3, .ref a4] ++ [.ref a5, .ref a6, .ref a7])) = HC at zC qC ⊢
    have w8 : Same H HC := ((((((((((z0.trans z1).trans z2).trans z3).trans z4).trans zA).trans z5).trans z6).trans z7).trans zB).trans zC)
    have y0 : Same H0 HC := (((((((((z1.trans z2).trans z3).trans z4).trans zA).trans z5).trans z6).trans z7).trans zB).trans zC)
    have y1 : Same H1 HC := ((((((((z2.trans z3).trans z4).trans zA).trans z5).trans z6).trans z7).trans zB).trans zC)
    have y2 : Same H2 HC := (((((((z3.trans z4).trans zA).trans z5).trans z6).trans z7).trans zB).trans zC)
    have y3 : Same H3 HC := ((((((z4.trans zA).trans z5).trans z6).trans z7).trans zB).trans zC)
    have y4 : Same H4 HC := (((((zA.trans z5).trans z6).trans z7).trans zB).trans zC)
    have y5 : Same H5 HC := (((z6.trans z7).trans zB).trans zC)
    have y6 : Same H6 HC := ((z7.trans zB).trans zC)
    have y7 : Same H7 HC := (zB.trans zC)
    match i, hi8 with
    | 0, _ => exact ⟨_, rfl, pC, _, _, _, rfl, rfl, SqL.of qC, rfl, k a0 HC w8 ((of_self (T := T) (i := 0) (u := u) (by rfl) qa0 qd0).same y0)⟩
    | 1, _ => exact ⟨_, rfl, pC, _, _, _, rfl, rfl, SqL.of qC, rfl, k a1 HC w8 ((of_self (T := T) (i := 1) (u := u) (by rfl) qa1 qd1).same y1)⟩
    | 2, _ => exact ⟨_, rfl, pC, _, _, _, rfl, rfl, SqL.of qC, rfl, k a2 HC w8 ((of_self (T := T) (i := 2) (u := u) (by rfl) qa2 qd2).same y2)⟩
    | 3, _ => exact ⟨_, rfl, pC, _, _, _, rfl, rfl, SqL.of qC, rfl, k a3 HC w8 ((of_self (T := T) (i := 3) (u := u) (by rfl) qa3 qd3).same y3)⟩
    | 4, _ => exact ⟨_, rfl, pC, _, _, _, rfl, rfl, SqL.of qC, rfl, k a4 HC w8 ((of_self (T := T) (i := 4) (u := u) (by rfl) qa4 qd4).same y4)⟩
    | 5, _ => exact ⟨_, rfl, pC, _, _, _, rfl, rfl, SqL.of qC, rfl, k a5 HC w8 ((of_self (T := T) (i := 5) (u := u) (by rfl) qa5 qd5).same y5)⟩
    | 6, _ => exact ⟨_, rfl, pC, _, _, _, rfl, rfl, SqL.of qC, rfl, k a6 HC w8 ((of_self (T := T) (i := 6) (u := u) (by rfl) qa6 qd6).same y6)⟩
    | 7, _ => exact ⟨_, rfl, pC, _, _, _, rfl, rfl, SqL.of qC, rfl, k a7 HC w8 ((of_self (T := T) (i := 7) (u := u) (by rfl) qa7 qd7).same y7)⟩
end
end K00

set_option Elab.async false
set_option linter.all false
set_option maxRecDepth 100000
set_option maxHeartbeats 4000000
namespace K00
open PySem L2 SG
/-- of which classes the errors of the class at C are, number i -/
structure RowOk (K : PySem.W.Frag) (cs : List Addr) (CS C : Addr) (i : Nat) : Prop where
  own : ∀ j D, cs[j]? = some D → PySem.W.kitOne K (.ref C) (.ref D) = some (decide (i = j))
  far1 : PySem.W.kitAny K (.ref C) [.type "LookupError", .type "ArithmeticError"] = some false
  far2 : PySem.W.kitAny K (.ref C) [.type "TypeError", .type "RuntimeError"] = some false
  far3 : PySem.W.kitOne K (.ref C) (.type "AttributeError") = some false
  scr : PySem.W.kitOne K (.ref C) (.ref CS) = some true
  val : PySem.W.kitOne K (.ref C) (.type "ValueError") = some true
  ex : ExcC K C
  exm : PySem.W.exmOne K (.ref C) (.ref CS) = some true
structure Tz (K : PySem.W.Frag) (mg : Str → Option Value) extends Ty K mg where
  CS : Addr
  mS : mg "ScrewError" = some (.ref CS)
  nb_LookupError : mg "LookupError" = none
  nb_ArithmeticError : mg "ArithmeticError" = none
  nb_TypeError : mg "TypeError" = none
  nb_RuntimeError : mg "RuntimeError" = none
  nb_AttributeError : mg "AttributeError" = none
  nb_ValueError : mg "ValueError" = none
  aP : Addr
  mP : mg "PRIMES" = some (.ref aP)
  sP : ∀ H, SqT K H aP [.int 2, .int 3, .int 5, .int 7, .int 11, .int 13]
  row : ∀ i C, toTy.cs[i]? = some C → RowOk K toTy.cs CS C i
def flagsOf (i : Nat) : List V := [.bl (decide (i = 0)), .bl (decide (i = 1)), .bl (decide (i = 2)), .bl (decide (i = 3)), .bl (decide (i = 4)), .bl (decide (i = 5)), .bl (decide (i = 6)), .bl (decide (i = 7)), .bl (decide (i = 8)), .bl false, .bl false, .bl false, .bl true, .bl true]
def spFlags {K : PySem.W.Frag} {mg : Str → Option Value} (T : Tz K mg) : Sp := fun vs H Q _ => ∃ (a : Addr) (i : Nat) (v u : V), vs = [.ref a] ∧ ErrAt T.toTy H a i v u ∧
  ∀ (p : Addr) (H' : Hp), Same H H' → H' p = some (.lst (flagsOf i)) → Q (.ref p) H'
section
variable {P : Program} {w : World} {K : PySem.W.Frag} {mg : Str → Option Value} {base : Heap}
theorem ok_flags (T : Tz K mg) {f : Addr} {fd : FuncData} (F : Fun K "_law_flags" "_law_flags" s_l_flags f fd) : FnOk P w K mg base CX0 1 f fd ["error"] (spFlags T) := by
  refine F.ok sc_l_flags (fun vs H Q E h => ?_) (fun cdv A outer s H vs Q E hr h => ?_)
  · obtain ⟨a, i, v, u, rfl, _⟩ := h
    rfl
  · obtain ⟨a, i, v, u, rfl, ⟨C, d, hC, xa, xd⟩, k⟩ := h
    have R := T.row i C hC
    refine ⟨_, (pss_cons (ps_set (i := 1) sc_l_flags.nd rfl (Or.inl rfl) (pe_lst (pa_cons (pe_callB call_isx (by rfl) T.nm.n_isinstance (by decide +kernel) (pa_cons (pv 0) (pa_cons (pe_glob (v := .ref T.e_BadFrame.C) rfl T.e_BadFrame.m rfl) pa_nil))) (pa_cons (pe_callB call_isx (by rfl) T.nm.n_isinstance (by decide +kernel) (pa_cons (pv 0) (pa_cons (pe_glob (v := .ref T.e_BadLead.C) rfl T.e_BadLead.m rfl) pa_nil))) (pa_cons (pe_callB call_isx (by rfl) T.nm.n_isinstance (by decide +kernel) (pa_cons (pv 0) (pa_cons (pe_glob (v := .ref T.e_BadLot.C) rfl T.e_BadLot.m rfl) pa_nil))) (pa_cons (pe_callB call_isx (by rfl) T.nm.n_isinstance (by decide +kernel) (pa_cons (pv 0) (pa_cons (pe_glob (v := .ref T.e_BadMotion.C) rfl T.e_BadMotion.m rfl) pa_nil))) pa_nil))))))
  (pss_cons (ps_set (i := 1) sc_l_flags.nd rfl (Or.inl rfl) (pe_op op_cat (pv 1) (pe_lst (pa_cons (pe_callB call_isx (by rfl) T.nm.n_isinstance (by decide +kernel) (pa_cons (pv 0) (pa_cons (pe_glob (v := .ref T.e_BadNumber.C) rfl T.e_BadNumber.m rfl) pa_nil))) (pa_cons (pe_callB call_isx (by rfl) T.nm.n_isinstance (by decide +kernel) (pa_cons (pv 0) (pa_cons (pe_glob (v := .ref T.e_BadPaper.C) rfl T.e_BadPaper.m rfl) pa_nil))) (pa_cons (pe_callB call_isx (by rfl) T.nm.n_isinstance (by decide +kernel) (pa_cons (pv 0) (pa_cons (pe_glob (v := .ref T.e_BadSum.C) rfl T.e_BadSum.m rfl) pa_nil))) (pa_cons (pe_callB call_isx (by rfl) T.nm.n_isinstance (by decide +kernel) (pa_cons (pv 0) (pa_cons (pe_glob (v := .ref T.e_Misfit.C) rfl T.e_Misfit.m rfl) pa_nil))) (pa_cons (pe_callB call_isx (by rfl) T.nm.n_isinstance (by decide +kernel) (pa_cons (pv 0) (pa_cons (pe_glob (v := .ref T.e_TooMany.C) rfl T.e_TooMany.m rfl) pa_nil))) pa_nil))))))))
  (pss_cons (ps_set (i := 2) sc_l_flags.nd rfl (Or.inl rfl) (pe_lst (pa_cons (pe_callB call_isxT (by rfl) T.nm.n_isinstance (by decide +kernel) (pa_cons (pv 0) (pa_cons (pe_tup (pa_cons (pe_bltn (v := .ty "LookupError") (by rfl) T.nb_LookupError (by decide +kernel) rfl) (pa_cons (pe_bltn (v := .ty "ArithmeticError") (by rfl) T.nb_ArithmeticError (by decide +kernel) rfl) pa_nil))) pa_nil))) (pa_cons (pe_callB call_isxT (by rfl) T.nm.n_isinstance (by decide +kernel) (pa_cons (pv 0) (pa_cons (pe_tup (pa_cons (pe_bltn (v := .ty "TypeError") (by rfl) T.nb_TypeError (by decide +kernel) rfl) (pa_cons (pe_bltn (v := .ty "RuntimeError") (by rfl) T.nb_RuntimeError (by decide +kernel) rfl) pa_nil))) pa_nil))) (pa_cons (pe_callB call_isx (by rfl) T.nm.n_isinstance (by decide +kernel) (pa_cons (pv 0) (pa_cons (pe_bltn (v := .ty "AttributeError") (by rfl) T.nb_AttributeError (by decide +kernel) rfl) pa_nil))) pa_nil)))))
  (pss_one (ps_ret (pe_op op_cat (pe_op op_cat (pv 1) (pv 2)) (pe_lst (pa_cons (pe_callB call_isx (by rfl) T.nm.n_isinstance (by decide +kernel) (pa_cons (pv 0) (pa_cons (pe_glob (v := .ref T.CS) rfl T.mS rfl) pa_nil))) (pa_cons (pe_callB call_isx (by rfl) T.nm.n_isinstance (by decide +kernel) (pa_cons (pv 0) (pa_cons (pe_bltn (v := .ty "ValueError") (by rfl) T.nb_ValueError (by decide +kernel) rfl) pa_nil))) pa_nil))))))))), ?_⟩
    have xf : ∀ {H' : Hp}, Same H H' → ∀ dd, some d = some dd → ∃ fs, ExD H' dd fs := by
      intro H' s dd e
      cases e
      exact ⟨_, xd.same (s d)⟩
    refine ⟨_, rfl, a, C, some d, _, _, _, rfl, xa.same ((Same.refl H) a), xf (Same.refl H), R.ex, .own _, R.own 0 _ (by rfl), ?_⟩
    refine ⟨_, rfl, a, C, some d, _, _, _, rfl, xa.same ((Same.refl H) a), xf (Same.refl H), R.ex, .own _, R.own 1 _ (by rfl), ?_⟩
    refine ⟨_, rfl, a, C, some d, _, _, _, rfl, xa.same ((Same.refl H) a), xf (Same.refl H), R.ex, .own _, R.own 2 _ (by rfl), ?_⟩
    refine ⟨_, rfl, a, C, some d, _, _, _, rfl, xa.same ((Same.refl H) a), xf (Same.refl H), R.ex, .own _, R.own 3 _ (by rfl), ?_⟩
    refine ⟨(by show 4 ≤ sizeLine; decide), fun pA nA => ?_⟩
    have zA := alloc nA (o := .lst [.bl (decide (i = 0)), .bl (decide (i = 1)), .bl (decide (i = 2)), .bl (decide (i = 3))])
    have qA : (upd H pA (.lst [.bl (decide (i = 0)), .bl (decide (i = 1)), .bl (decide (i = 2)), .bl (decide (i = 3))])) pA = some (.lst [.bl (decide (i = 0)), .bl (decide (i = 1)), .bl (decide (i = 2)), .bl (decide (i = 3))]) := upd_same
    generalize upd H pA (.lst [.bl (decide (i = 0)), .bl (decide (i = 1)), .bl (decide (i = 2)), .bl (decide (i = 3))]) = HA at zA qA ⊢
    refine ⟨_, rfl, ?_⟩
    refine ⟨_, rfl, a, C, some d, _, _, _, rfl, xa.same (zA a), xf zA, R.ex, .own _, R.own 4 _ (by rfl), ?_⟩
    refine ⟨_, rfl, a, C, some d, _, _, _, rfl, xa.same (zA a), xf zA, R.ex, .own _, R.own 5 _ (by rfl), ?_⟩
    refine ⟨_, rfl, a, C, some d, _, _, _, rfl, xa.same (zA a), xf zA, R.ex, .own _, R.own 6 _ (by rfl), ?_⟩
    refine ⟨_, rfl, a, C, some d, _, _, _, rfl, xa.same (zA a), xf zA, R.ex, .own _, R.own 7 _ (by rfl), ?_⟩
    refine ⟨_, rfl, a, C, some d, _, _, _, rfl, xa.same (zA a), xf zA, R.ex, .own _, R.own 8 _ (by rfl), ?_⟩
    refine ⟨(by show 5 ≤ sizeLine; decide), fun pB nB => ?_⟩
    have zB := alloc nB (o := .lst [.bl (decide (i = 4)), .bl (decide (i = 5)), .bl (decide (i = 6)), .bl (decide (i = 7)), .bl (decide (i = 8))])
    have qB : (upd HA pB (.lst [.bl (decide (i = 4)), .bl (decide (i = 5)), .bl (decide (i = 6)), .bl (decide (i = 7)), .bl (decide (i = 8))])) pB = some (.lst [.bl (decide (i = 4)), .bl (decide (i = 5)), .bl (decide (i = 6)), .bl (decide (i = 7)), .bl (decide (i = 8))]) := upd_same
    generalize upd HA pB (.lst [.bl (decide (i = 4)), .bl (decide (i = 5)), .bl (decide (i = 6)), .bl (decide (i = 7)), .bl (decide (i = 8))]) = HB at zB qB ⊢
    refine ⟨pA, pB, _, _, rfl, rfl, zB _ _ qA, qB, (by show 9 ≤ sizeLine; decide), fun pC nC => ?_⟩
    have zC := alloc nC (o := .lst ([.bl (decide (i = 0)), .bl (decide (i = 1)), .bl (decide (i = 2)), .bl (decide (i = 3))] ++ [.bl (decide (i = 4)), .bl (decide (i = 5)), .bl (decide (i = 6)), .bl (decide (i = 7)), .bl (decide (i = 8))]))
    have qC : (upd HB pC (.lst ([.bl (decide (i = 0)), .bl (decide (i = 1)), .bl (decide (i = 2)), .bl (decide (i = 3))] ++ [.bl (decide (i = 4)), .bl (decide (i = 5)), .bl (decide (i = 6)), .bl (decide (i = 7)), .bl (decide (i = 8))]))) pC = some (.lst ([.bl (decide (i = 0)), .bl (decide (i = 1)), .bl (decide (i = 2)), .bl (decide (i = 3))] ++ [.bl (decide (i = 4)), .bl (decide (i = 5)), .bl (decide (i = 6)), .bl (decide (i = 7)), .bl (decide (i = 8))])) := upd_same
    generalize upd HB pC (.lst ([.bl (decide (i = 0)), .bl (decide (i = 1)), .bl (decide (i = 2)), .bl (decide (i = 3))] ++ [.bl (decide (i = 4)), .bl (decide (i = 5)), .bl (decide (i = 6)), .bl (decide (i = 7)), .bl (decide (i = 8))])) = HC at zC qC ⊢
    have s3 := (zA.trans zB).trans zC
    refine ⟨_, rfl, (by show 2 ≤ sizeLine; decide), fun pD nD => ?_⟩
    have zD := alloc nD (o := .tup [.ty "LookupError", .ty "ArithmeticError"])
    have qD : (upd HC pD (.tup [.ty "LookupError", .ty "ArithmeticError"])) pD = some (.tup [.ty "LookupError", .ty "ArithmeticError"]) := upd_same
    generalize upd HC pD (.tup [.ty "LookupError", .ty "ArithmeticError"]) = HD at zD qD ⊢
    have sD := s3.trans zD
    refine ⟨a, C, some d, pD, _, _, _, rfl, xa.same (sD a), xf sD, R.ex, qD, .cons (.ty _) (.cons (.ty _) .nil), R.far1, ?_⟩
    refine ⟨_, rfl, (by show 2 ≤ sizeLine; decide), fun pE nE => ?_⟩
    have zE := alloc nE (o := .tup [.ty "TypeError", .ty "RuntimeError"])
    have qE : (upd HD pE (.tup [.ty "TypeError", .ty "RuntimeError"])) pE = some (.tup [.ty "TypeError", .ty "RuntimeError"]) := upd_same
    generalize upd HD pE (.tup [.ty "TypeError", .ty "RuntimeError"]) = HE at zE qE ⊢
    have sE := sD.trans zE
    refine ⟨a, C, some d, pE, _, _, _, rfl, xa.same (sE a), xf sE, R.ex, qE, .cons (.ty _) (.cons (.ty _) .nil), R.far2, ?_⟩
    refine ⟨_, rfl, a, C, some d, _, _, _, rfl, xa.same (sE a), xf sE, R.ex, .ty _, R.far3, ?_⟩
    refine ⟨(by show 3 ≤ sizeLine; decide), fun pF nF => ?_⟩
    have zF := alloc nF (o := .lst [.bl false, .bl false, .bl false])
    have qF : (upd HE pF (.lst [.bl false, .bl false, .bl false])) pF = some (.lst [.bl false, .bl false, .bl false]) := upd_same
    generalize upd HE pF (.lst [.bl false, .bl false, .bl false]) = HF at zF qF ⊢
    refine ⟨_, rfl, _, rfl, pC, pF, _, _, rfl, rfl, ((zD.trans zE).trans zF) _ _ qC, qF, (by show 12 ≤ sizeLine; decide), fun pG nG => ?_⟩
    have zG := alloc nG (o := .lst (([.bl (decide (i = 0)), .bl (decide (i = 1)), .bl (decide (i = 2)), .bl (decide (i = 3))] ++ [.bl (decide (i = 4)), .bl (decide (i = 5)), .bl (decide (i = 6)), .bl (decide (i = 7)), .bl (decide (i = 8))]) ++ [.bl false, .bl false, .bl false]))
    have qG : (upd HF pG (.lst (([.bl (decide (i = 0)), .bl (decide (i = 1)), .bl (decide (i = 2)), .bl (decide (i = 3))] ++ [.bl (decide (i = 4)), .bl (decide (i = 5)), .bl (decide (i = 6)), .bl (decide (i = 7)), .bl (decide (i = 8))]) ++ [.bl false, .bl false, .bl false]))) pG = some (.lst (([.bl (decide (i = 0)), .bl (decide (i = 1)), .bl (decide (i = 2)), .bl (decide (i = 3))] ++ [.bl (decide (i = 4)), .bl (decide (i = 5)), .bl (decide (i = 6)), .bl (decide (i = 7)), .bl (decide (i = 8))]) ++ [.bl false, .bl false, .bl false])) := upd_same
    generalize upd HF pG (.lst (([.bl (decide (i = 0)), .bl (decide (i = 1)), .bl (decide (i = 2)), .bl (decide (i = 3))] ++ [.bl (decide (i = 4)), .bl (decide (i = 5)), .bl (decide (i = 6)), .bl (decide (i = 7)), .bl (decide (i = 8))]) ++ [.bl false, .bl false, .bl false])) = HG at zG qG ⊢
    have sG := (sE.trans zF).trans zG
    refine ⟨_, rfl, a, C, some d, _, _, _, rfl, xa.same (sG a), xf sG, R.ex, .own _, R.scr, ?_⟩
    refine ⟨_, rfl, a, C, some d, _, _, _, rfl, xa.same (sG a), xf sG, R.ex, .ty _, R.val, ?_⟩
    refine ⟨(by show 2 ≤ sizeLine; decide), fun pI nI => ?_⟩
    have zI := alloc nI (o := .lst [.bl true, .bl true])
    have qI : (upd HG pI (.lst [.bl true, .bl true])) pI = some (.lst [.bl true, .bl true]) := upd_same
    generalize upd HG pI (.lst [.bl true, .bl true]) = HI at zI qI ⊢
    refine ⟨pG, pI, _, _, rfl, rfl, zI _ _ qG, qI, (by show 14 ≤ sizeLine; decide), fun pJ nJ => ?_⟩
    exact k pJ _ ((sG.trans zI).trans (alloc nJ)) upd_same
end
end K00

set_option Elab.async false
set_option linter.all false
set_option maxRecDepth 100000
set_option maxHeartbeats 4000000
namespace K00
open PySem L2 SG
def spIsInt : Sp := fun vs H Q _ => ∃ x, vs = [x] ∧ ((x = .non ∧ Q (.bl false) H) ∨ ∃ i, x = .int i ∧ Q (.bl true) H)
def spIsBy : Sp := fun vs H Q _ => vs = [.int 7] ∧ Q (.bl true) H
/-- over(None, 7), over(7 m, 7) -/
def spOver {K : PySem.W.Frag} {mg : Str → Option Value} (T : Tz K mg) : Sp := fun vs H _ E => ∃ x, vs = [x, .int 7] ∧
  ((x = .non ∧ ∀ (d : Addr) (H' : Hp), Same H H' → H' d = some (.xd [("part", .str "number")]) → E (.ref T.e_BadNumber.C) (some d) H') ∨
    ∃ m, x = .int (7 * m) ∧ ∀ (d : Addr) (H' : Hp), Same H H' → H' d = some (.xd [("part", .str "number")]) → E (.ref T.e_Misfit.C) (some d) H')
section
variable {P : Program} {w : World} {K : PySem.W.Frag} {mg : Str → Option Value} {base : Heap}
theorem bi_BadNumber (R : Er K mg "BadNumber" "BadNumber.__init__" i_BadNumber) : Binds K R.fd ["self", "part"] [] := R.F.binds fun _ _ _ _ _ _ us l => match us, l with | [_, _], _ => rfl
theorem bi_Misfit (R : Er K mg "Misfit" "Misfit.__init__" i_Misfit) : Binds K R.fd ["self", "part"] [] := R.F.binds fun _ _ _ _ _ _ us l => match us, l with | [_, _], _ => rfl
theorem ok_is_integer (T : Tz K mg) {f : Addr} {fd : FuncData} (F : Fun K "is_integer" "is_integer" s_is_integer f fd) : FnOk P w K mg base CX0 1 f fd ["value"] spIsInt := by
  refine F.ok sc_is_integer (fun vs H Q E h => ?_) (fun cdv A outer s H vs Q E hr h => ?_)
  · obtain ⟨x, rfl, _⟩ := h
    rfl
  · obtain ⟨x, rfl, h⟩ := h
    refine ⟨_, (pss_one (ps_ret (pe_and (pe_callB call_isi (by rfl) T.nm.n_isinstance (by decide +kernel) (pa_cons (pv 0) (pa_cons (pe_bltn (v := .ty "int") (by rfl) T.nm.n_int (by decide +kernel) rfl) pa_nil))) (pe_one (pe_not (pe_callB call_isi (by rfl) T.nm.n_isinstance (by decide +kernel) (pa_cons (pv 0) (pa_cons (pe_bltn (v := .ty "bool") (by rfl) T.nm.n_bool (by decide +kernel) rfl) pa_nil)))))))), ?_⟩
    rcases h with ⟨rfl, k⟩ | ⟨i, rfl, k⟩
    · refine ⟨_, rfl, _, _, _, _, _, rfl, .ty _, .base .non, kit_ty (r := false) (by decide +kernel), _, rfl, ?_⟩
      exact k
    · refine ⟨_, rfl, _, _, _, _, _, rfl, .ty _, .base (.int i), kit_ty (r := true) (by decide +kernel), _, rfl, ?_⟩
      refine ⟨_, rfl, _, _, _, _, _, rfl, .ty _, .base (.int i), kit_ty (r := false) (by decide +kernel), _, rfl, ?_⟩
      exact k
theorem ok_is_by (T : Tz K mg) {f : Addr} {fd : FuncData} (F : Fun K "is_by" "is_by" s_is_by f fd) : FnOk P w K mg base CX0 2 f fd ["value"] spIsBy := by
  refine F.ok sc_is_by (fun vs H Q E h => ?_) (fun cdv A outer s H vs Q E hr h => ?_)
  · obtain ⟨rfl, _⟩ := h
    rfl
  · obtain ⟨rfl, k⟩ := h
    refine ⟨_, (pss_one (ps_ret (pe_and (pe_call (ok_is_integer T T.d_is_integer.F) hr rfl T.d_is_integer.m T.d_is_integer.k T.d_is_integer.b .nil pass0 (pa_cons (pv 0) pa_nil)) (pe_one (pe_cmpR op_in_seq (pv 0) (pe_glob (v := .ref T.aP) rfl T.mP rfl) (by rfl)))))), ?_⟩
    refine ⟨_, rfl, _, rfl, .inr ⟨_, rfl, _, rfl, ?_⟩⟩
    refine ⟨_, rfl, _, _, rfl, .inr (T.sP H), rfl, by decide, ?_⟩
    exact k
theorem flown {H H2 : Hp} {C a d : Addr} {fs : List (Str × V)} {Q : XK} (ha : H a = none) (hd : upd H a (exo a C none) d = none) (q1 : H2 a = some (exo a C (some d))) (q2 : H2 d = some (exd d fs))
    (s : ∀ b o, b ≠ a → upd H a (exo a C none) b = some o → H2 b = some o) (k : ∀ H', Same H H' → H' d = some (.xd fs) → Q (.ref C) (some d) H') :
    V.non = V.non ∧ ∃ (d : Addr) (fs : List (Str × V)), H2 a = some (exo a C (some d)) ∧ H2 d = some (exd d fs) ∧ H d = none ∧ Q (.ref C) (some d) (upd (del H2 a) d (.xd fs)) := by
  have da : d ≠ a := fun e => by rw [e, upd_same] at hd; cases hd
  have d0 : H d = none := by rw [upd_ne da] at hd; exact hd
  refine ⟨rfl, d, fs, q1, q2, d0, k _ (fun b o q => ?_) upd_same⟩
  have ba := ne_of_none q ha
  rw [upd_ne (ne_of_none q d0), del_ne ba]
  exact s b o ba (alloc ha b o q)
theorem ok_over (T : Tz K mg) {f : Addr} {fd : FuncData} (F : Fun K "over" "over" s_over f fd) : FnOk P w K mg base (L2.CX P w) 3 f fd ["number", "by"] (spOver T) := by
  refine F.okX sc_over (fun vs H Q E h => ?_) (fun cdv A outer s H vs Q E hr h => ?_)
  · obtain ⟨x, rfl, _⟩ := h
    rfl
  · obtain ⟨x, rfl, h⟩ := h
    refine ⟨_, (pss_cons (ps_if (pt_not (pt_val (pe_call (ok_is_integer T T.d_is_integer.F) (hr.mono (by decide)) rfl T.d_is_integer.m T.d_is_integer.k T.d_is_integer.b .nil pass0 (pa_cons (pv 0) pa_nil))))
  (pss_one (ps_raise rfl (takes_of rfl rfl rfl rfl) (pmk_oex T.e_BadNumber.O T.e_BadNumber.iC T.e_BadNumber.tI (ok_BadNumber T.e_BadNumber T.no_BadNumber) (hr.mono (by decide)) (bi_BadNumber T.e_BadNumber) .nil pass0 rfl T.e_BadNumber.m (pa_cons pe_str pa_nil))))
  pss_nil)
  (pss_cons (ps_if (pt_not (pt_val (pe_call (ok_is_by T T.d_is_by.F) (hr.mono (by decide)) rfl T.d_is_by.m T.d_is_by.k T.d_is_by.b .nil pass0 (pa_cons (pv 1) pa_nil))))
  (pss_one (ps_raise rfl (takes_of rfl rfl rfl rfl) (pmk_oex T.e_BadNumber.O T.e_BadNumber.iC T.e_BadNumber.tI (ok_BadNumber T.e_BadNumber T.no_BadNumber) (hr.mono (by decide)) (bi_BadNumber T.e_BadNumber) .nil pass0 rfl T.e_BadNumber.m (pa_cons pe_str pa_nil))))
  pss_nil)
  (pss_cons (ps_if (pt_cmpR op_eq (pe_op op_mod (pv 0) (pv 1)) pe_int (nomark _))
  (pss_one (ps_raise rfl (takes_of rfl rfl rfl rfl) (pmk_oex T.e_Misfit.O T.e_Misfit.iC T.e_Misfit.tI (ok_Misfit T.e_Misfit T.no_Misfit) (hr.mono (by decide)) (bi_Misfit T.e_Misfit) .nil pass0 rfl T.e_Misfit.m (pa_cons pe_str pa_nil))))
  pss_nil)
  (pss_one ps_never)))), ?_⟩
    rcases h with ⟨rfl, k⟩ | ⟨m, rfl, k⟩
    · refine ⟨_, rfl, _, rfl, .inl ⟨rfl, _, rfl, ?_⟩⟩
      refine ⟨(by show 1 ≤ 1000; decide), fun a ha => ⟨a, _, rfl, upd_same, fun d H2 hd q1 q2 s => ?_⟩⟩
      exact flown ha hd q1 q2 s fun H' s1 e1 => k d H' s1 e1
    · refine ⟨_, rfl, _, rfl, .inr ⟨_, rfl, _, rfl, ?_⟩⟩
      refine ⟨_, rfl, rfl, _, rfl, ?_⟩
      refine ⟨_, rfl, _, rfl, _, _, rfl, rfl, (by show (0 : Int) < 7; decide), rfl, _, rfl, ?_⟩
      have e0 : decide (V.int (7 * m % 7) = V.int 0) = true := by rw [Int.mul_emod_right]; rfl
      rw [e0]
      refine ⟨(by show 1 ≤ 1000; decide), fun a ha => ⟨a, _, rfl, upd_same, fun d H2 hd q1 q2 s => ?_⟩⟩
      exact flown ha hd q1 q2 s fun H' s1 e1 => k d H' s1 e1
end
end K00

set_option Elab.async false
set_option linter.all false
set_option maxRecDepth 100000
set_option maxHeartbeats 4000000
namespace K00
open PySem L2 SG
/-- the exception's number, what was asked -/
def spCaught (K : PySem.W.Frag) : Sp := fun vs H Q _ => ∃ (x : V) (i : Nat), vs = [x, .int 7] ∧ ((x = .non ∧ i = 4) ∨ (∃ m, x = .int (7 * m)) ∧ i = 7) ∧
  ∀ (q p : Addr) (H' : Hp), Same H H' → H' q = some (.tup [.ref p, .str "number"]) → H' p = some (.lst (flagsOf i)) → Q (.ref q) H'
section
variable {P : Program} {w : World} {K : PySem.W.Frag} {mg : Str → Option Value} {base : Heap}
def sure (C : Value) (d : Addr) (Q : Hp → Prop) : XK := fun cls dd H => cls = C ∧ dd = some d ∧ Q H
theorem ok_caught (T : Tz K mg) {f : Addr} {fd : FuncData} (F : Fun K "_law_caught" "_law_caught" s_l_caught f fd) : FnOk P w K mg base CX0 4 f fd ["number", "by"] (spCaught K) := by
  refine F.ok sc_l_caught (fun vs H Q E h => ?_) (fun cdv A outer s H vs Q E hr h => ?_)
  · obtain ⟨x, i, rfl, _⟩ := h
    rfl
  · obtain ⟨x, i, rfl, hx, k⟩ := h
    refine ⟨_, (pss_cons (ps_set (i := 2) sc_l_caught.nd rfl (Or.inl rfl) pe_non)
  (pss_cons (ps_try_keep (i := 3) (Wout := fun _ _ _ _ => False) rfl rfl sc_l_caught.nd rfl rfl rfl ⟨rfl, by decide, .inl T.mS⟩ takes0
    (fun W pn xe tk _ => pss_one (ps_expr (pe_callS (ok_over T T.d_over.F) hr rfl T.d_over.m T.d_over.k T.d_over.b (fun σ => passAt tk σ) (pa_cons (pv 0) (pa_cons (pv 1) pa_nil)))))
    (fun a oe cls d pn hz hf => pss_one (ps_set (i := 2) sc_l_caught.nd rfl (Or.inl rfl) (pv 3))))
  (pss_cons (ps_if (pt_val (pe_callB call_isxT (by rfl) T.nm.n_isinstance (by decide +kernel) (pa_cons (pv 2) (pa_cons (pe_tup (pa_cons (pe_glob (v := .ref T.e_BadNumber.C) rfl T.e_BadNumber.m rfl) (pa_cons (pe_glob (v := .ref T.e_Misfit.C) rfl T.e_Misfit.m rfl) pa_nil))) pa_nil))))
  (pss_one (ps_ret (pe_tup (pa_cons (pe_call (ok_flags T T.d_l_flags.F) (hr.mono (by decide)) rfl T.d_l_flags.m T.d_l_flags.k T.d_l_flags.b .nil pass0 (pa_cons (pv 2) pa_nil)) (pa_cons (pe_exf (pv 2)) pa_nil)))))
  pss_nil)
  (pss_one (ps_ret pe_non))))), ?_⟩
    obtain ⟨C, hC, X, no, ka, hsp⟩ : ∃ C, T.cs[i]? = some C ∧ XfC K C ∧ PySem.W.findIn K (.ref C) "part" = some none ∧ PySem.W.kitAny K (.ref C) [.ref T.e_BadNumber.C, .ref T.e_Misfit.C] = some true ∧
        ∀ (H1 : Hp) (Q' : VK) (E' : XK), (∀ (d : Addr) (H' : Hp), Same H1 H' → H' d = some (.xd [("part", .str "number")]) → E' (.ref C) (some d) H') → spOver T [x, .int 7] H1 Q' E' := by
      rcases hx with ⟨e, ei⟩ | ⟨⟨m, e⟩, ei⟩
      · subst e ei
        exact ⟨_, rfl, T.e_BadNumber.X, T.no_BadNumber, kitAny_cons ((T.row 4 _ rfl).own 4 _ rfl) (fun z => nomatch z) (fun _ => rfl), fun H1 Q' E' z => ⟨_, rfl, .inl ⟨rfl, z⟩⟩⟩
      · subst e ei
        exact ⟨_, rfl, T.e_Misfit.X, T.no_Misfit, kitAny_cons ((T.row 7 _ rfl).own 4 _ rfl) (fun _ => kitAny_cons ((T.row 7 _ rfl).own 7 _ rfl) (fun z => nomatch z) (fun _ => rfl)) (fun z => nomatch z), fun H1 Q' E' z => ⟨_, rfl, .inr ⟨m, rfl, z⟩⟩⟩
    have R := T.row i C hC
    refine ⟨_, rfl, _, rfl, ?_⟩
    refine hsp _ (fun _ _ => True) _ fun d H1 s1 q1 => ?_
    refine ⟨true, R.exm, fun _ a na => ?_, fun z => nomatch z⟩
    refine ⟨_, rfl, ?_⟩
    dsimp only [gName]
    have zA := alloc na (o := exv a (.ref C) (some d))
    have qa : (upd H1 a (exv a (.ref C) (some d))) a = some (exv a (.ref C) (some d)) := upd_same
    have qd := zA _ _ q1
    generalize upd H1 a (exv a (.ref C) (some d)) = HA at zA qa qd ⊢
    have xf : ∀ {H' : Hp}, Same HA H' → ∀ dd, some d = some dd → ∃ fs, ExD H' dd fs := by
      intro H' s dd e
      cases e
      exact ⟨_, .inr (s _ _ qd)⟩
    refine ⟨_, rfl, (by show 2 ≤ sizeLine; decide), fun pT nT => ?_⟩
    have zT := alloc nT (o := .tup [.ref T.e_BadNumber.C, .ref T.e_Misfit.C])
    have qT : (upd HA pT (.tup [.ref T.e_BadNumber.C, .ref T.e_Misfit.C])) pT = some (.tup [.ref T.e_BadNumber.C, .ref T.e_Misfit.C]) := upd_same
    generalize upd HA pT (.tup [.ref T.e_BadNumber.C, .ref T.e_Misfit.C]) = HT at zT qT ⊢
    refine ⟨a, C, some d, pT, _, _, _, rfl, .inr (zT _ _ qa), xf zT, R.ex, qT, .cons (.own _) (.cons (.own _) .nil), ka, ?_⟩
    refine ⟨_, rfl, ?_⟩
    refine ⟨_, rfl, ?_⟩
    refine ⟨a, i, .str "number", .non, rfl, ⟨C, d, hC, .inr (zT _ _ qa), ?_⟩, ?_⟩
    · rcases hx with ⟨_, ei⟩ | ⟨_, ei⟩
      · subst ei
        exact .inr (zT _ _ qd)
      · subst ei
        exact .inr (zT _ _ qd)
    intro p H2 s2 qp
    refine ⟨_, rfl, a, C, d, _, _, rfl, .inr (s2 _ _ (zT _ _ qa)), .inr (s2 _ _ (zT _ _ qd)), X, no, rfl, ?_⟩
    refine ⟨(by show 2 ≤ sizeLine; decide), fun q nq => ?_⟩
    exact k q p _ ((((s1.trans zA).trans zT).trans s2).trans (alloc nq)) upd_same (alloc nq _ _ qp)
end
end K00

set_option Elab.async false
set_option linter.all false
set_option maxRecDepth 100000
set_option maxHeartbeats 4000000
namespace K00
open PySem L2 SG
/-- the scope of the last list -/
def scDue : Scope := { kind := .function, names := [(".0", .local), ("at", .cell), ("range", .globalImplicit)], isGenerator := false, isCoroutine := false }
theorem fnG_nox {P : Program} {w : World} {K : PySem.W.Frag} {mg : Str → Option Value} {base : Heap} {k : Nat} {f : Addr} {fd : FuncData} {ps : List Str} {sp : Sp} {x qual : Str} {st : Stmt} {N : List Str} (F : Fun K x qual st f fd) (S : FnScope N ps (defScope st))
    (len : ∀ vs H Q E, sp vs H Q E → vs.length = ps.length)
    (hbody : ∀ (cdv : Value) (A : Around) (outer : List Env) (s : Shared) (H : Hp) (vs : List V) (Q : VK) (E : XK),
      A.guards = some [] → Room k (A.deeper (PyProof.Rows.envOfC qual (defScope st) s.heap.objs.size f cdv)) → sp vs H Q E →
      ∃ t, PSs (cxOf CX0 P w K mg base N qual (defScope st) f cdv A outer s H E).nox (defBody st) t ∧
        t { nx := fun _ H' => Q .non H', rt := Q } (start N vs) H) : FnG P w K mg base CX0 (k + 1) f fd ps sp :=
  fnG_of F S len fun cdv A outer s H vs Q E hg hr h => by
    obtain ⟨t, h1, h2⟩ := hbody cdv A outer s H vs Q E hg hr h
    exact ⟨t, h1.nox, h2⟩
def spLaw (K : PySem.W.Frag) : Sp := fun vs H Q _ => ∃ (a : Addr) (ns : List Int), vs = [.ref a] ∧ SqL K H a (ns.map V.int) ∧ ∀ H', Q (.bl true) H'
/-- the fields of the error of number i, in their order -/
def fv (i : Nat) (v u : V) : List V := if i = 8 then [v, u] else [v]
theorem is8 {i : Nat} (h : decide (V.int (i : Int) = V.int 8) = true) : i = 8 := by
  have z : V.int (i : Int) = V.int 8 := of_decide_eq_true h
  injection z with z
  omega
theorem not8 {i : Nat} (h : ¬ decide (V.int (i : Int) = V.int 8) = true) : ¬ i = 8 := fun e => h (by rw [e]; exact decide_eq_true rfl)
/-- the first n flags -/
def line (i n : Nat) : List V := (List.range n).map fun j => .bl (decide (i = j))
theorem line_len (i n : Nat) : (line i n).length = n := by rw [line, List.length_map, List.length_range]
theorem line_succ (i n : Nat) : line i (n + 1) = line i n ++ [.bl (decide (i = n))] := by
  rw [line, List.range_succ, List.map_append]; rfl
theorem eqIj (i j : Nat) : decide (V.int (j : Int) = V.int (i : Int)) = decide (i = j) := by
  by_cases h : i = j
  · rw [h, decide_eq_true rfl, decide_eq_true rfl]
  · rw [decide_eq_false h, decide_eq_false]
    intro z
    injection z with z
    omega
theorem kinds {K : PySem.W.Frag} {mg : Str → Option Value} (T : Ty K mg) {i : Nat} {C : Addr} (hi : i < 9) (h : T.cs[i]? = some C) :
    XfC K C ∧ (i = 8 → PySem.W.findIn K (.ref C) "what" = some none ∧ PySem.W.findIn K (.ref C) "most" = some none) ∧ (¬ i = 8 → PySem.W.findIn K (.ref C) "part" = some none) := by
  rcases i with _ | _ | _ | _ | _ | _ | _ | _ | _ | i
  · cases h; exact ⟨T.e_BadFrame.X, (fun z => nomatch z), fun _ => T.no_BadFrame⟩
  · cases h; exact ⟨T.e_BadLead.X, (fun z => nomatch z), fun _ => T.no_BadLead⟩
  · cases h; exact ⟨T.e_BadLot.X, (fun z => nomatch z), fun _ => T.no_BadLot⟩
  · cases h; exact ⟨T.e_BadMotion.X, (fun z => nomatch z), fun _ => T.no_BadMotion⟩
  · cases h; exact ⟨T.e_BadNumber.X, (fun z => nomatch z), fun _ => T.no_BadNumber⟩
  · cases h; exact ⟨T.e_BadPaper.X, (fun z => nomatch z), fun _ => T.no_BadPaper⟩
  · cases h; exact ⟨T.e_BadSum.X, (fun z => nomatch z), fun _ => T.no_BadSum⟩
  · cases h; exact ⟨T.e_Misfit.X, (fun z => nomatch z), fun _ => T.no_Misfit⟩
  · cases h; exact ⟨T.e_TooMany.X, fun _ => ⟨T.n1_TooMany, T.n2_TooMany⟩, fun z => absurd rfl z⟩
  · omega
/-- [place == at for place in range(9)] + [False] * 3 + [True] * 2, at standing for i -/
theorem flags_at {y0 y1 y3 y4 y5 y6 y7 y8 y9 y10 : Option V} {H : Hp} {Q : VK} (i : Nat) (k : ∀ (p : Addr) (H' : Hp), Same H H' → H' p = some (.lst (flagsOf i)) → Q (.ref p) H') :
    (tOp rCat (tOp rCat (tLc (iRng1 (tCons (tC (.int 9)) tNil)) (gName 10) tYes (tOp rEq (tVar 10) (tVar 2)) [10]) (tOp rRep (tLst (tCons (tC (.bl false)) tNil)) (tC (.int 3)))) (tOp rRep (tLst (tCons (tC (.bl true)) tNil)) (tC (.int 2))))
      [y0, y1, some (.int (i : Int)), y3, y4, y5, y6, y7, y8, y9, y10] H Q := by
  refine ⟨9, rfl, by decide, by decide, fun D hD => ?_⟩
  refine lc_range (n := 9) (fun j H' => Same H H' ∧ H' D = some (.lst (line i j))) ⟨alloc hD, upd_same⟩ ?_ ?_
  · intro j H' hj ⟨s4, q4⟩
    dsimp only [gName]
    rw [show (0 : Int) + (j : Int) = (j : Int) from Int.zero_add _]
    refine ⟨rfl, ?_⟩
    refine ⟨_, rfl, _, rfl, rfl, _, q4, ?_, ?_⟩
    · rw [line_len]; exact Nat.lt_of_lt_of_le hj (by decide)
    · refine ⟨fun b' o q => ?_, ?_⟩
      · rw [upd_ne (ne_of_none q hD)]; exact s4 b' o q
      · rw [upd_same, line_succ, eqIj]
  rintro H4 ⟨s4, q4⟩
  refine ⟨(by show 1 ≤ sizeLine; decide), fun p1 n1 => ?_⟩
  have z1 := alloc n1 (o := .lst [.bl false])
  have q1 : (upd H4 p1 (.lst [.bl false])) p1 = some (.lst [.bl false]) := upd_same
  generalize upd H4 p1 (.lst [.bl false]) = H5 at z1 q1 ⊢
  refine ⟨p1, 3, _, rfl, rfl, q1, by decide, by decide, by decide, fun p2 n2 => ?_⟩
  have z2 := alloc n2 (o := .lst (List.replicate (3 : Int).toNat [V.bl false]).flatten)
  have q2 : (upd H5 p2 (.lst (List.replicate (3 : Int).toNat [V.bl false]).flatten)) p2 = some (.lst [.bl false, .bl false, .bl false]) := upd_same
  generalize upd H5 p2 (.lst (List.replicate (3 : Int).toNat [V.bl false]).flatten) = H6 at z2 q2 ⊢
  refine ⟨D, p2, _, _, rfl, rfl, z2 _ _ (z1 _ _ q4), q2, (by rw [line_len]; decide), fun p3 n3 => ?_⟩
  have z3 := alloc n3 (o := .lst (line i 9 ++ [.bl false, .bl false, .bl false]))
  have q3 : (upd H6 p3 (.lst (line i 9 ++ [.bl false, .bl false, .bl false]))) p3 = some (.lst (line i 9 ++ [.bl false, .bl false, .bl false])) := upd_same
  generalize upd H6 p3 (.lst (line i 9 ++ [.bl false, .bl false, .bl false])) = H7 at z3 q3 ⊢
  refine ⟨(by show 1 ≤ sizeLine; decide), fun p4 n4 => ?_⟩
  have z4 := alloc n4 (o := .lst [.bl true])
  have q4 : (upd H7 p4 (.lst [.bl true])) p4 = some (.lst [.bl true]) := upd_same
  generalize upd H7 p4 (.lst [.bl true]) = H8 at z4 q4 ⊢
  refine ⟨p4, 2, _, rfl, rfl, q4, by decide, by decide, by decide, fun p5 n5 => ?_⟩
  have z5 := alloc n5 (o := .lst (List.replicate (2 : Int).toNat [V.bl true]).flatten)
  have q5 : (upd H8 p5 (.lst (List.replicate (2 : Int).toNat [V.bl true]).flatten)) p5 = some (.lst [.bl true, .bl true]) := upd_same
  generalize upd H8 p5 (.lst (List.replicate (2 : Int).toNat [V.bl true]).flatten) = H9 at z5 q5 ⊢
  refine ⟨p3, p5, _, _, rfl, rfl, z5 _ _ (z4 _ _ q3), q5, (by rw [List.length_append, line_len]; decide), fun p6 n6 => ?_⟩
  exact k p6 _ ((((((s4.trans z1).trans z2).trans z3).trans z4).trans z5).trans (alloc n6)) upd_same
/-- the flags as data -/
def fb (i : Nat) : List PyData := [.bool (decide (i = 0)), .bool (decide (i = 1)), .bool (decide (i = 2)), .bool (decide (i = 3)), .bool (decide (i = 4)), .bool (decide (i = 5)), .bool (decide (i = 6)), .bool (decide (i = 7)), .bool (decide (i = 8)), .bool false, .bool false, .bool false, .bool true, .bool true]
theorem fbAll {K : PySem.W.Frag} {H : Hp} (i : Nat) : DpAll K H (flagsOf i) (fb i) := by
  unfold flagsOf fb
  repeat (first | exact .nil | refine .cons (.bl _) ?_)
theorem fbDp {K : PySem.W.Frag} {H : Hp} {p : Addr} {i : Nat} (h : H p = some (.lst (flagsOf i))) : Dp K H (.ref p) (.list (fb i)) := .lst (SqL.of h) (fbAll i)
theorem fb_eqv (i : Nat) : PyData.eqv (.list (fb i)) (.list (fb i)) = true := SeqAt.eqv_refl _ (by rfl)
theorem fb_shaped (i : Nat) : SeqAt.shaped (.list (fb i)) = true := by rfl
/-- what is told, as data -/
theorem told_ok {ds : List PyData} (h : ∀ d ∈ ds, Nice d) (hl : ds.length ≤ 2) : (PyData.list ds).showable = true ∧ (PyData.list ds).shown.length ≤ sizeLine ∧ (PyData.list ds).depth ≤ 60 := by
  have key : PyData.showableAll ds = true ∧ PyData.leavesShortAll 40 ds = true ∧ PyData.weightAll ds ≤ 401 * ds.length ∧ PyData.depthAll ds ≤ 6 := by
    clear hl
    induction ds with
    | nil => exact ⟨by simp [PyData.showableAll], by simp [PyData.leavesShortAll], by simp [PyData.weightAll], by simp [PyData.depthAll]⟩
    | cons d ds ih =>
      obtain ⟨i1, i2, i3, i4⟩ := ih fun e m => h e (List.mem_cons_of_mem _ m)
      obtain ⟨n1, n2, n3, n4⟩ := h d List.mem_cons_self
      refine ⟨by rw [PyData.showableAll, n1, i1]; rfl, by rw [PyData.leavesShortAll, n2, i2]; rfl, ?_, ?_⟩
      · rw [PyData.weightAll, List.length_cons]; omega
      · rw [PyData.depthAll]; omega
  obtain ⟨k1, k2, k3, k4⟩ := key
  refine ⟨by rw [PyData.showable]; exact k1, ?_, by rw [PyData.depth]; omega⟩
  refine Nat.le_trans (PyData.shown_le 40 (by decide) _ (by rw [PyData.leavesShort]; exact k2)) ?_
  rw [PyData.weight]
  have e : sizeLine = 16777216 := by decide
  omega
/-- v, u as data -/
theorem fv_dv {K : PySem.W.Frag} {H : Hp} {b : Addr} {i : Nat} {v u : V} (h1 : Val K H b v) (h2 : Val K H b u) :
    (fv i v u).all selfV = true ∧ ∃ ds, DvAll K H (fv i v u) ds ∧ (PyData.list ds).showable = true ∧ (PyData.list ds).shown.length ≤ sizeLine ∧ (PyData.list ds).depth ≤ 60 := by
  obtain ⟨v1, G, d, _, gs, dv, nd⟩ := h1
  obtain ⟨u1, G', d', _, gs', du, nd'⟩ := h2
  unfold fv
  by_cases e : i = 8
  · rw [if_pos e]
    refine ⟨by rw [List.all_cons, List.all_cons, v1, u1]; rfl, [d, d'], .cons (Dv.same gs _ _ dv) (.cons (Dv.same gs' _ _ du) .nil), told_ok (fun z m => ?_) (by show 2 ≤ 2; decide)⟩
    rcases List.mem_cons.mp m with m | m
    · rw [m]; exact nd
    · rw [List.mem_singleton.mp m]; exact nd'
  · rw [if_neg e]
    refine ⟨by rw [List.all_cons, v1]; rfl, [d], .cons (Dv.same gs _ _ dv) .nil, told_ok (fun z m => ?_) (by show 1 ≤ 2; decide)⟩
    rw [List.mem_singleton.mp m]; exact nd
theorem neSelf (x : V) : (!decide (x = x)) = false := by rw [decide_eq_true rfl]; rfl
/-- the last list as it grows -/
def DueAt (D : Addr) : Nat → Hp → Prop
  | 0, H => H D = some (.lst [])
  | 1, H => ∃ d0, H D = some (.lst [.ref d0]) ∧ H d0 = some (.lst (flagsOf 4))
  | _, H => ∃ d0 d1, H D = some (.lst [.ref d0, .ref d1]) ∧ H d0 = some (.lst (flagsOf 4)) ∧ H d1 = some (.lst (flagsOf 7))
def lastD : PyData := .list [.tuple [.list (fb 4), .str "number"], .tuple [.list (fb 7), .str "number"]]
theorem last_eqv : PyData.eqv lastD lastD = true := SeqAt.eqv_refl _ (by decide +kernel)
theorem last_shaped : SeqAt.shaped lastD = true := by decide +kernel

section
variable {P : Program} {w : World} {K : PySem.W.Frag} {mg : Str → Option Value} {base : Heap}
theorem ok_law (T : Tz K mg) {f : Addr} {fd : FuncData} (F : Fun K "law" "law" s_law f fd) : FnG P w K mg base CX0 5 f fd ["script"] (spLaw K) := by
  refine fnG_nox F sc_law (fun vs H Q E h => ?_) (fun cdv A outer s H vs Q E hg0 hr h => ?_)
  · obtain ⟨a, ns, rfl, _⟩ := h
    rfl
  · obtain ⟨a, ns, rfl, hs, k⟩ := h
    have hgd : (A.deeper (PyProof.Rows.envOfC "law" (defScope s_law) s.heap.objs.size f cdv)).guards = some [] := hg0
    refine ⟨_, (pss_cons (ps_set (i := 1) sc_law.nd rfl (Or.inl rfl) (pe_call (ok_bowl T.nm T.d_l_bowl.F) (hr.mono (by decide)) rfl T.d_l_bowl.m T.d_l_bowl.k T.d_l_bowl.b .nil pass0 (pa_cons (pv 0) pa_nil)))
  (pss_cons (ps_for PassesOwn.never rfl (pi_range1 (by rfl) T.nm.n_range (pa_cons pe_int pa_nil)) (pg_name (i := 2) sc_law.nd rfl (Or.inr rfl))
  (pss_cons (ps_par (i := 3) (j := 4) (by rfl) sc_law.nd rfl rfl (by decide) rfl rfl (pa_cons (pe_call (ok_value T.toTx T.d_l_value.F) (hr.mono (by decide)) rfl T.d_l_value.m T.d_l_value.k T.d_l_value.b .nil pass0 (pa_cons (pv 1) pa_nil)) (pa_cons (pe_call (ok_value T.toTx T.d_l_value.F) (hr.mono (by decide)) rfl T.d_l_value.m T.d_l_value.k T.d_l_value.b .nil pass0 (pa_cons (pv 1) pa_nil)) pa_nil)) (by rfl))
  (pss_cons (ps_set (i := 5) sc_law.nd rfl (Or.inl rfl) (pe_ifExp (pt_cmpR op_eq (pv 2) pe_int (nomark _)) (pe_lstB (pa_cons (pv 3) (pa_cons (pv 4) pa_nil))) (pe_lstB (pa_cons (pv 3) pa_nil))))
  (pss_cons (ps_set (i := 6) sc_law.nd rfl (Or.inl rfl) (pe_op op_cat (pe_op op_cat (pe_lc (own := [("place", 10)]) (g := (gName 10)) (tt := tYes) rfl sc_law.nd (pi_range1 (by rfl) T.nm.n_range (pa_cons pe_int pa_nil)) (blkOk_by (N := ["script", "bowl", "at", "value", "other", "due", "flags", "error", "told", "heard", "place"]) (sc := defScope s_law) (by decide +kernel)) (fun _ _ _ _ _ => pg_name (i := 10) sc_law.nd rfl (Or.inl rfl)) (fun _ _ _ _ _ => pts_nil) (fun _ _ _ _ _ => (pe_cmpR op_eq (pv 10) (pv 2) (nomark _)))) (pe_op op_rep (pe_lst (pa_cons pe_bl pa_nil)) pe_int)) (pe_op op_rep (pe_lst (pa_cons pe_bl pa_nil)) pe_int)))
  (pss_one (ps_for PassesOwn.never rfl (pi_tup (pe_tup (pa_cons (pe_call (ok_by_place T.toTy T.d_l_by_place.F) (hr.mono (by decide)) rfl T.d_l_by_place.m T.d_l_by_place.k T.d_l_by_place.b .nil pass0 (pa_cons (pv 2) (pa_cons (pv 3) (pa_cons (pv 4) pa_nil)))) (pa_cons (pe_call (ok_by_name T.toTy T.d_l_by_name.F) (hr.mono (by decide)) rfl T.d_l_by_name.m T.d_l_by_name.k T.d_l_by_name.b .nil pass0 (pa_cons (pv 2) (pa_cons (pv 3) (pa_cons (pv 4) pa_nil)))) pa_nil)))) (pg_name (i := 7) sc_law.nd rfl (Or.inl rfl))
  (pss_cons (ps_set (i := 8) sc_law.nd rfl (Or.inl rfl) (pe_ifExp (pt_cmpR op_eq (pv 2) pe_int (nomark _)) (pe_lstB (pa_cons (pe_exf (pv 7)) (pa_cons (pe_exf (pv 7)) pa_nil))) (pe_lstB (pa_cons (pe_exf (pv 7)) pa_nil))))
  (pss_one (ps_if (PW.pt (pw_or (pt_cmpR (op_neSame (Nat.lt_of_le_of_lt (Nat.le_add_right _ 64) hr.units)) (pv 8) (pv 5) (nomark _)) (pw_or (pt_cmpR op_ne (pe_callB (call_repr hgd hr.units) (by rfl) T.nm.n_repr (by decide +kernel) (pa_cons (pv 8) pa_nil)) (pe_callB (call_repr hgd hr.units) (by rfl) T.nm.n_repr (by decide +kernel) (pa_cons (pv 5) pa_nil)) (nomark _)) (pw_or1 (pt_cmpR (op_neD hr.units) (pe_call (ok_flags T T.d_l_flags.F) (hr.mono (by decide)) rfl T.d_l_flags.m T.d_l_flags.k T.d_l_flags.b .nil pass0 (pa_cons (pv 7) pa_nil)) (pv 6) (nomark _))))))
  (pss_one (ps_ret pe_bl))
  pss_nil)))))))))
  (pss_cons (ps_set (i := 9) sc_law.nd rfl (Or.inl rfl) (pe_lst (pa_cons (pe_call (ok_caught T T.d_l_caught.F) (hr.mono (by decide)) rfl T.d_l_caught.m T.d_l_caught.k T.d_l_caught.b .nil pass0 (pa_cons pe_non (pa_cons pe_int pa_nil))) (pa_cons (pe_call (ok_caught T T.d_l_caught.F) (hr.mono (by decide)) rfl T.d_l_caught.m T.d_l_caught.k T.d_l_caught.b .nil pass0 (pa_cons (pe_op op_mul pe_int (pe_call (ok_dip T.nm T.d_l_dip.F) (hr.mono (by decide)) rfl T.d_l_dip.m T.d_l_dip.k T.d_l_dip.b .nil pass0 (pa_cons (pv 1) (pa_cons pe_int pa_nil)))) (pa_cons pe_int pa_nil))) pa_nil))))
  (pss_cons (ps_setLc (i := 5) (own := [("at", 2)]) (g := (gName 2)) (tt := tYes) rfl sc_law.nd rfl rfl (sw_true rfl rfl (by rfl) (by decide +kernel)) (pi_tup (pe_tup (pa_cons pe_int (pa_cons pe_int pa_nil)))) (blkOk_by (N := ["script", "bowl", "at", "value", "other", "due", "flags", "error", "told", "heard", "place"]) (sc := defScope s_law) (by decide +kernel)) (fun _ _ _ _ _ => pg_name (i := 2) sc_law.nd rfl (Or.inr rfl)) (fun _ _ _ _ _ => pts_nil) (fun _ _ _ _ _ => (pe_op op_cat (pe_op op_cat (pe_lc (own := [("place", 10)]) (g := (gName 10)) (tt := tYes) rfl sc_law.nd (pi_range1 (by rfl) T.nm.n_range (pa_cons pe_int pa_nil)) (blkOk_by (N := ["script", "bowl", "at", "value", "other", "due", "flags", "error", "told", "heard", "place"]) (sc := scDue) (by decide +kernel)) (fun _ _ _ _ _ => pg_name (i := 10) sc_law.nd rfl (Or.inl rfl)) (fun _ _ _ _ _ => pts_nil) (fun _ _ _ _ _ => (pe_cmpR op_eq (pv 10) (pv 2) (nomark _)))) (pe_op op_rep (pe_lst (pa_cons pe_bl pa_nil)) pe_int)) (pe_op op_rep (pe_lst (pa_cons pe_bl pa_nil)) pe_int))))
  (pss_one (ps_ret (pe_cmpR (op_eqD hr.units) (pv 9) (pe_lst (pa_cons (pe_tup (pa_cons (pe_ix ix_list (pv 5) pe_int (fun _ _ => rfl)) (pa_cons pe_str pa_nil))) (pa_cons (pe_tup (pa_cons (pe_ix ix_list (pv 5) pe_int (fun _ _ => rfl)) (pa_cons pe_str pa_nil))) pa_nil))) (nomark _)))))))), ?_⟩
    refine ⟨_, rfl, a, ns, rfl, hs, fun H1 b c s1 hb0 hc0 B => ?_⟩
    dsimp only [gName]
    generalize ns.take 60 = ms at B
    refine cut (fun σ' H' => ∃ x0 x2 x3 x4 x5 x6 x7 x8 x9 x10 t r, σ' = [x0, some (.ref b), x2, x3, x4, x5, x6, x7, x8, x9, x10] ∧ Bowl H' b c ms t r ∧ t ≤ 90) ?_ ?_
    rotate_left
    · intro nx hnx
      refine ⟨9, rfl, by decide, by decide, for_range (n := 9) (fun (i : Nat) σ' H' => ∃ x0 x2 x3 x4 x5 x6 x7 x8 x9 x10 t r, σ' = [x0, some (.ref b), x2, x3, x4, x5, x6, x7, x8, x9, x10] ∧ Bowl H' b c ms t r ∧ t ≤ 10 * (i : Int)) ⟨_, _, _, _, _, _, _, _, _, _, _, _, rfl, B, by decide⟩ ?_ ?_⟩
      rotate_left
      · rintro σ' H' ⟨x0, x2, x3, x4, x5, x6, x7, x8, x9, x10, t, r, e, B', ht⟩
        exact hnx _ _ ⟨x0, x2, x3, x4, x5, x6, x7, x8, x9, x10, t, r, e, B', by omega⟩
      rintro i σ' H0 hi ⟨x0, x2, x3, x4, x5, x6, x7, x8, x9, x10, t, r, rfl, B0, ht⟩
      dsimp only [gName]
      rw [show (0 : Int) + (i : Int) = (i : Int) from Int.zero_add _]
      refine ⟨_, rfl, b, c, ms, t, r, rfl, B0, by omega, fun v t1 r1 H1 V1 x1 => ?_⟩
      refine ⟨_, rfl, b, c, ms, t1, r1, rfl, x1.bowl, by have := x1.hi; omega, fun u t2 r2 H2 V2 x2' => ?_⟩
      have V1 := V1.but x2'.but
      have B2 := x2'.bowl
      have h2 : t2 ≤ 10 * ((i + 1 : Nat) : Int) := by have := x1.hi; have := x2'.hi; omega
      clear x1 x2'
      obtain ⟨sf, ds, Dds, r1', r2', r3'⟩ := fv_dv (i := i) V1 V2
      refine ⟨_, _, rfl, ?_⟩
      -- due
      dsimp only
      refine cut (fun σ' H' => ∃ pd, 1 < pd ∧ σ' = [x0, some (.ref b), some (.int i), some v, some u, some (.ref pd), x6, x7, x8, x9, x10] ∧ Same H2 H' ∧ H' pd = some (.lst (fv i v u))) ?_ ?_
      rotate_left
      · intro ny hny
        refine ⟨_, rfl, rfl, _, rfl, ?_⟩
        refine ite2 (fun c8 => ?_) (fun c8 => ?_)
        · have e8 := is8 c8
          refine ⟨_, rfl, _, rfl, (by show 2 ≤ sizeLine; decide), fun pd np big => ?_⟩
          exact hny _ _ ⟨pd, big, rfl, alloc np, by rw [fv, if_pos e8]; exact upd_same⟩
        · have e8 := not8 c8
          refine ⟨_, rfl, (by show 1 ≤ sizeLine; decide), fun pd np big => ?_⟩
          exact hny _ _ ⟨pd, big, rfl, alloc np, by rw [fv, if_neg e8]; exact upd_same⟩
      rintro σ' H3 ⟨pd, bd, rfl, s3, qd⟩
      -- flags
      refine cut (fun σ' H' => ∃ pf, σ' = [x0, some (.ref b), some (.int i), some v, some u, some (.ref pd), some (.ref pf), x7, x8, x9, x10] ∧ Same H3 H' ∧ H' pf = some (.lst (flagsOf i))) ?_ ?_
      rotate_left
      · intro ny hny
        exact flags_at i fun p H' s q => hny _ _ ⟨p, rfl, s, q⟩
      rintro σ' H4 ⟨pf, rfl, s4, qf⟩
      -- the two errors
      refine ⟨_, rfl, _, rfl, _, rfl, i, v, u, rfl, hi, fun e1 H5 s5 E1 => ?_⟩
      refine ⟨_, rfl, _, rfl, _, rfl, i, v, u, rfl, hi, fun e2 H6 s6 E2 => ?_⟩
      refine ⟨(by show 2 ≤ sizeLine; decide), fun pt nt => ?_⟩
      have zt := alloc nt (o := .tup [.ref e1, .ref e2])
      have qt : (upd H6 pt (.tup [.ref e1, .ref e2])) pt = some (.tup [.ref e1, .ref e2]) := upd_same
      generalize upd H6 pt (.tup [.ref e1, .ref e2]) = HT at zt qt ⊢
      have E1 := (E1.same s6).same zt
      have E2 := E2.same zt
      have sT : Same H2 HT := (((s3.trans s4).trans s5).trans s6).trans zt
      have qd := (((s4.trans s5).trans s6).trans zt) _ _ qd
      have qf := ((s5.trans s6).trans zt) _ _ qf
      clear s3 s4 s5 s6 zt nt
      refine ⟨pt, rfl, ⟨_, SqT.of qt⟩, for_tup (K := K) (a := pt) (xs := [.ref e1, .ref e2]) (fun (j : Nat) σ' H' => ∃ x7 x8, σ' = [x0, some (.ref b), some (.int i), some v, some u, some (.ref pd), some (.ref pf), x7, x8, x9, x10] ∧ Same HT H') ⟨_, _, rfl, Same.refl HT⟩
        (fun _ _ H' _ ⟨_, _, _, s⟩ => SqT.of (s _ _ qt)) ?_ ?_⟩
      rotate_left
      · rintro σ' H' ⟨x7, x8, rfl, s⟩
        exact ⟨_, _, _, _, _, _, _, _, _, _, t2, r2, rfl, B2.same (sT.trans s), h2⟩
      rintro j x σ' H' hx ⟨x7, x8, rfl, s⟩
      obtain ⟨e, rfl, Ee⟩ : ∃ e, x = .ref e ∧ ErrAt T.toTy H' e i v u := by
        rcases j with _ | _ | j
        · cases hx; exact ⟨e1, rfl, E1.same s⟩
        · cases hx; exact ⟨e2, rfl, E2.same s⟩
        · cases hx
      dsimp only [gName]
      -- told
      refine cut (fun σ' H'' => ∃ po, 1 < po ∧ σ' = [x0, some (.ref b), some (.int i), some v, some u, some (.ref pd), some (.ref pf), some (.ref e), some (.ref po), x9, x10] ∧ Same H' H'' ∧ H'' po = some (.lst (fv i v u))) ?_ ?_
      rotate_left
      · intro ny hny
        obtain ⟨C, d, hC, xa, xd⟩ := Ee
        obtain ⟨X, f8, f0⟩ := kinds T.toTy hi hC
        refine ⟨_, rfl, rfl, _, rfl, ?_⟩
        refine ite2 (fun c8 => ?_) (fun c8 => ?_)
        · have e8 := is8 c8
          refine ⟨_, rfl, e, C, d, _, _, rfl, xa, xd, X, (f8 e8).1, (show (fsOf i v u).lookup ("what" : Str) = some v by rw [fsOf, if_pos e8]; rfl), ?_⟩
          refine ⟨_, rfl, e, C, d, _, _, rfl, xa, xd, X, (f8 e8).2, (show (fsOf i v u).lookup ("most" : Str) = some u by rw [fsOf, if_pos e8]; rfl), ?_⟩
          refine ⟨(by show 2 ≤ sizeLine; decide), fun po np big => ?_⟩
          exact hny _ _ ⟨po, big, rfl, alloc np, by rw [fv, if_pos e8]; exact upd_same⟩
        · have e8 := not8 c8
          refine ⟨_, rfl, e, C, d, _, _, rfl, xa, xd, X, f0 e8, (show (fsOf i v u).lookup ("part" : Str) = some v by rw [fsOf, if_neg e8]; rfl), ?_⟩
          refine ⟨(by show 1 ≤ sizeLine; decide), fun po np big => ?_⟩
          exact hny _ _ ⟨po, big, rfl, alloc np, by rw [fv, if_neg e8]; exact upd_same⟩
      rintro σ' H7 ⟨po, bo, rfl, s7, qo⟩
      have qd := s7 _ _ (s _ _ qd)
      have qf := s7 _ _ (s _ _ qf)
      have D7 : DvAll K H7 (fv i v u) ds := Dv.sameAll ((sT.trans s).trans s7) _ _ Dds
      refine ⟨_, rfl, _, rfl, po, pd, fv i v u, rfl, rfl, SqL.of qo, SqL.of qd, sf, _, rfl, ?_⟩
      refine ⟨_, rfl, _, _, rfl, .lst bo (SqL.of qo) D7, r1', r2', r3', _, rfl, _, _, rfl, .lst bd (SqL.of qd) D7, r1', r2', r3', rfl, _, rfl, ?_⟩
      rw [neSelf]
      refine ⟨_, rfl, e, i, v, u, rfl, Ee.same s7, fun pg H8 s8 qg => ?_⟩
      refine ⟨_, rfl, _, _, fbDp qg, fbDp (s8 _ _ qf), fb_shaped i, fb_shaped i, _, rfl, ?_⟩
      rw [fb_eqv]
      exact ⟨_, _, rfl, (s.trans s7).trans s8⟩
    rintro σ' H2 ⟨x0, x2, x3, x4, x5, x6, x7, x8, x9, x10, t, r, rfl, B2, ht⟩
    -- what over lets out
    refine cut (fun σ' H' => ∃ q1 p1 q2 p2 ph, σ' = [x0, some (.ref b), x2, x3, x4, x5, x6, x7, x8, some (.ref ph), x10] ∧ H' ph = some (.lst [.ref q1, .ref q2]) ∧ H' q1 = some (.tup [.ref p1, .str "number"]) ∧ H' p1 = some (.lst (flagsOf 4)) ∧
        H' q2 = some (.tup [.ref p2, .str "number"]) ∧ H' p2 = some (.lst (flagsOf 7))) ?_ ?_
    rotate_left
    · intro ny hny
      refine ⟨.non, 4, rfl, .inl ⟨rfl, rfl⟩, fun q1 p1 H3 s3 e1 f1 => ?_⟩
      have B3 := B2.same s3
      refine ⟨_, rfl, b, c, ms, t, r, _, rfl, by decide, by decide, B3, by omega, fun n t3 r3 H4 l4 u4 x4' => ?_⟩
      have nq : q1 ≠ b := fun e => by rw [e, B3.hb] at e1; cases e1
      have np : p1 ≠ b := fun e => by rw [e, B3.hb] at f1; cases f1
      have e1 := x4'.but _ _ nq e1
      have f1 := x4'.but _ _ np f1
      refine ⟨_, _, rfl, rfl, .inl ⟨by decide, by decide⟩, ?_⟩
      refine ⟨_, 7, rfl, .inr ⟨⟨n, rfl⟩, rfl⟩, fun q2 p2 H5 s5 e2 f2 => ?_⟩
      refine ⟨(by show 2 ≤ sizeLine; decide), fun ph nh => ?_⟩
      have zh := alloc nh (o := .lst [.ref q1, .ref q2])
      exact hny _ _ ⟨q1, p1, q2, p2, ph, rfl, upd_same, zh _ _ (s5 _ _ e1), zh _ _ (s5 _ _ f1), zh _ _ e2, zh _ _ f2⟩
    rintro σ' H3 ⟨q1, p1, q2, p2, ph, rfl, qh, e1, f1, e2, f2⟩
    refine cut (fun σ' H' => ∃ D, σ' = [x0, some (.ref b), x2, x3, x4, some (.ref D), x6, x7, x8, some (.ref ph), x10] ∧ Same H3 H' ∧ DueAt D 2 H') ?_ ?_
    rotate_left
    · intro ny hny
      refine ⟨(by show 2 ≤ sizeLine; decide), fun pq nq => ?_⟩
      have zq := alloc nq (o := .tup [.int 4, .int 7])
      have qq : (upd H3 pq (.tup [.int 4, .int 7])) pq = some (.tup [.int 4, .int 7]) := upd_same
      generalize upd H3 pq (.tup [.int 4, .int 7]) = H4 at zq qq ⊢
      refine ⟨pq, rfl, ⟨_, SqT.of qq⟩, fun D hD => ?_⟩
      refine lc_tup (K := K) (a := pq) (xs := [.int 4, .int 7]) (fun j H' => Same H4 H' ∧ DueAt D j H') ⟨alloc hD, upd_same⟩ (fun _ H' _ ⟨s, _⟩ => SqT.of (s _ _ qq)) ?_ ?_
      · rintro j x H' hx ⟨s, d⟩
        have grow : ∀ {H'' : Hp} {o : HO}, Same H4 H'' → Same H4 (upd H'' D o) := fun {H'' o} s b' o' q => by
          rw [upd_ne (ne_of_none q hD)]; exact s b' o' q
        rcases j with _ | _ | j
        · cases hx
          dsimp only [gName]
          refine ⟨rfl, ?_⟩
          refine flags_at 4 fun p H'' s' q => ?_
          have dD := s' _ _ (show H' D = some (.lst []) from d)
          refine ⟨_, dD, by decide, grow (s.trans s'), p, upd_same, ?_⟩
          rw [upd_ne (fun e => by rw [e, dD] at q; cases q)]
          exact q
        · cases hx
          dsimp only [gName]
          refine ⟨rfl, ?_⟩
          refine flags_at 7 fun p H'' s' q => ?_
          obtain ⟨d0, dD, q0⟩ := d
          have dD := s' _ _ dD
          have q0 := s' _ _ q0
          refine ⟨_, dD, (by show 1 < sizeLine; decide), grow (s.trans s'), d0, p, upd_same, ?_, ?_⟩
          · rw [upd_ne (fun e => by rw [e, dD] at q0; cases q0)]
            exact q0
          · rw [upd_ne (fun e => by rw [e, dD] at q; cases q)]
            exact q
        · cases hx
      · rintro H' ⟨s, d⟩
        exact hny _ _ ⟨D, rfl, zq.trans s, d⟩
    rintro σ' H4 ⟨D, rfl, s4, d0, d1, qD, g0, g1⟩
    have qh := s4 _ _ qh
    have e1 := s4 _ _ e1
    have f1 := s4 _ _ f1
    have e2 := s4 _ _ e2
    have f2 := s4 _ _ f2
    clear s4
    refine ⟨_, rfl, ?_⟩
    refine ⟨_, rfl, D, _, _, _, rfl, rfl, SqL.of qD, rfl, ?_⟩
    refine ⟨(by show 2 ≤ sizeLine; decide), fun pa na => ?_⟩
    have za := alloc na (o := .tup [.ref d0, .str "number"])
    have qa : (upd H4 pa (.tup [.ref d0, .str "number"])) pa = some (.tup [.ref d0, .str "number"]) := upd_same
    generalize upd H4 pa (.tup [.ref d0, .str "number"]) = H5 at za qa ⊢
    refine ⟨_, rfl, D, _, _, _, rfl, rfl, SqL.of (za _ _ qD), rfl, ?_⟩
    refine ⟨(by show 2 ≤ sizeLine; decide), fun pb nb => ?_⟩
    have zb := alloc nb (o := .tup [.ref d1, .str "number"])
    have qb : (upd H5 pb (.tup [.ref d1, .str "number"])) pb = some (.tup [.ref d1, .str "number"]) := upd_same
    generalize upd H5 pb (.tup [.ref d1, .str "number"]) = H6 at zb qb ⊢
    refine ⟨(by show 2 ≤ sizeLine; decide), fun pc nc => ?_⟩
    have zc := alloc nc (o := .lst [.ref pa, .ref pb])
    have s6 := (za.trans zb).trans zc
    have z2 := zb.trans zc
    refine ⟨lastD, lastD, .lst (SqL.of (s6 _ _ qh)) (.cons (.tup (SqT.of (s6 _ _ e1)) (.cons (fbDp (s6 _ _ f1)) (.cons (.str _) .nil))) (.cons (.tup (SqT.of (s6 _ _ e2)) (.cons (fbDp (s6 _ _ f2)) (.cons (.str _) .nil))) .nil)),
      .lst (SqL.of upd_same) (.cons (.tup (SqT.of (z2 _ _ qa)) (.cons (fbDp (s6 _ _ g0)) (.cons (.str _) .nil))) (.cons (.tup (SqT.of (zc _ _ qb)) (.cons (fbDp (s6 _ _ g1)) (.cons (.str _) .nil))) .nil)), last_shaped, last_shaped, ?_⟩
    rw [last_eqv]
    exact k _

end
end K00

set_option Elab.async false
set_option linter.all false
set_option maxRecDepth 100000
set_option maxHeartbeats 0
namespace K00
open PySem L2 SG
theorem own9 {K : PySem.W.Frag} {c : Value} {c0 c1 c2 c3 c4 c5 c6 c7 c8 : Addr} {i : Nat} (h0 : PySem.W.kitOne K c (.ref c0) = some (decide (i = 0))) (h1 : PySem.W.kitOne K c (.ref c1) = some (decide (i = 1))) (h2 : PySem.W.kitOne K c (.ref c2) = some (decide (i = 2)))
    (h3 : PySem.W.kitOne K c (.ref c3) = some (decide (i = 3))) (h4 : PySem.W.kitOne K c (.ref c4) = some (decide (i = 4))) (h5 : PySem.W.kitOne K c (.ref c5) = some (decide (i = 5))) (h6 : PySem.W.kitOne K c (.ref c6) = some (decide (i = 6)))
    (h7 : PySem.W.kitOne K c (.ref c7) = some (decide (i = 7))) (h8 : PySem.W.kitOne K c (.ref c8) = some (decide (i = 8))) : ∀ j D, [c0, c1, c2, c3, c4, c5, c6, c7, c8][j]? = some D → PySem.W.kitOne K c (.ref D) = some (decide (i = j)) := by
  intro j D hD
  rcases j with _ | _ | _ | _ | _ | _ | _ | _ | _ | j
  · cases hD; exact h0
  · cases hD; exact h1
  · cases hD; exact h2
  · cases hD; exact h3
  · cases hD; exact h4
  · cases hD; exact h5
  · cases hD; exact h6
  · cases hD; exact h7
  · cases hD; exact h8
  · cases hD
theorem all_mk {P0 : Program} {w : World} {K : PySem.W.Frag} {h : Heap} {mg : Str → Option Value} {fa CS P C0 C1 C2 C3 C4 C5 C6 C7 C8 fi0 fi1 fi2 fi3 fi4 fi5 fi6 fi7 fi8 f_is_integer f_is_by f_over f_l_bowl f_l_dip f_l_choose f_l_value f_l_by_place f_l_by_name f_l_flags f_l_caught f_law : Addr} {ddP : Option Addr} {itsP : Array Value} {nP : Nat} {slP : Array (Option Value)} (X : K.In h) (G : h.Ns mainGlobals mg) (hfa : mg "law" = some (.ref fa))
    {nm0 q0 : Str} {N0 : Addr} {bs0 bm0 : List Value} {sn0 : List Str} {sub0 : List Value} {ab0 : Bool} {col0 : Option Bool} {dd0 : Option Addr} {m00 m10 m20 m30 m50 : Option Value}
    {odi0 ani0 : Option Addr} {sli0 : Array (Option Value)} {oci0 kVi0 dci0 pmi0 cdi0 cti0 : Value}
    {nm1 q1 : Str} {N1 : Addr} {bs1 bm1 : List Value} {sn1 : List Str} {sub1 : List Value} {ab1 : Bool} {col1 : Option Bool} {dd1 : Option Addr} {m01 m11 m21 m31 m51 : Option Value}
    {odi1 ani1 : Option Addr} {sli1 : Array (Option Value)} {oci1 kVi1 dci1 pmi1 cdi1 cti1 : Value}
    {nm2 q2 : Str} {N2 : Addr} {bs2 bm2 : List Value} {sn2 : List Str} {sub2 : List Value} {ab2 : Bool} {col2 : Option Bool} {dd2 : Option Addr} {m02 m12 m22 m32 m52 : Option Value}
    {odi2 ani2 : Option Addr} {sli2 : Array (Option Value)} {oci2 kVi2 dci2 pmi2 cdi2 cti2 : Value}
    {nm3 q3 : Str} {N3 : Addr} {bs3 bm3 : List Value} {sn3 : List Str} {sub3 : List Value} {ab3 : Bool} {col3 : Option Bool} {dd3 : Option Addr} {m03 m13 m23 m33 m53 : Option Value}
    {odi3 ani3 : Option Addr} {sli3 : Array (Option Value)} {oci3 kVi3 dci3 pmi3 cdi3 cti3 : Value}
    {nm4 q4 : Str} {N4 : Addr} {bs4 bm4 : List Value} {sn4 : List Str} {sub4 : List Value} {ab4 : Bool} {col4 : Option Bool} {dd4 : Option Addr} {m04 m14 m24 m34 m54 : Option Value}
    {odi4 ani4 : Option Addr} {sli4 : Array (Option Value)} {oci4 kVi4 dci4 pmi4 cdi4 cti4 : Value}
    {nm5 q5 : Str} {N5 : Addr} {bs5 bm5 : List Value} {sn5 : List Str} {sub5 : List Value} {ab5 : Bool} {col5 : Option Bool} {dd5 : Option Addr} {m05 m15 m25 m35 m55 : Option Value}
    {odi5 ani5 : Option Addr} {sli5 : Array (Option Value)} {oci5 kVi5 dci5 pmi5 cdi5 cti5 : Value}
    {nm6 q6 : Str} {N6 : Addr} {bs6 bm6 : List Value} {sn6 : List Str} {sub6 : List Value} {ab6 : Bool} {col6 : Option Bool} {dd6 : Option Addr} {m06 m16 m26 m36 m56 : Option Value}
    {odi6 ani6 : Option Addr} {sli6 : Array (Option Value)} {oci6 kVi6 dci6 pmi6 cdi6 cti6 : Value}
    {nm7 q7 : Str} {N7 : Addr} {bs7 bm7 : List Value} {sn7 : List Str} {sub7 : List Value} {ab7 : Bool} {col7 : Option Bool} {dd7 : Option Addr} {m07 m17 m27 m37 m57 : Option Value}
    {odi7 ani7 : Option Addr} {sli7 : Array (Option Value)} {oci7 kVi7 dci7 pmi7 cdi7 cti7 : Value}
    {nm8 q8 : Str} {N8 : Addr} {bs8 bm8 : List Value} {sn8 : List Str} {sub8 : List Value} {ab8 : Bool} {col8 : Option Bool} {dd8 : Option Addr} {m08 m18 m28 m38 m58 : Option Value}
    {odi8 ani8 : Option Addr} {sli8 : Array (Option Value)} {oci8 kVi8 dci8 pmi8 cdi8 cti8 : Value}
    {od_is_integer an_is_integer : Option Addr} {sl_is_integer : Array (Option Value)} {oc_is_integer kV_is_integer dc_is_integer pm_is_integer cd_is_integer ct_is_integer : Value}
    {od_is_by an_is_by : Option Addr} {sl_is_by : Array (Option Value)} {oc_is_by kV_is_by dc_is_by pm_is_by cd_is_by ct_is_by : Value}
    {od_over an_over : Option Addr} {sl_over : Array (Option Value)} {oc_over kV_over dc_over pm_over cd_over ct_over : Value}
    {od_l_bowl an_l_bowl : Option Addr} {sl_l_bowl : Array (Option Value)} {oc_l_bowl kV_l_bowl dc_l_bowl pm_l_bowl cd_l_bowl ct_l_bowl : Value}
    {od_l_dip an_l_dip : Option Addr} {sl_l_dip : Array (Option Value)} {oc_l_dip kV_l_dip dc_l_dip pm_l_dip cd_l_dip ct_l_dip : Value}
    {od_l_choose an_l_choose : Option Addr} {sl_l_choose : Array (Option Value)} {oc_l_choose kV_l_choose dc_l_choose pm_l_choose cd_l_choose ct_l_choose : Value}
    {od_l_value an_l_value : Option Addr} {sl_l_value : Array (Option Value)} {oc_l_value kV_l_value dc_l_value pm_l_value cd_l_value ct_l_value : Value}
    {od_l_by_place an_l_by_place : Option Addr} {sl_l_by_place : Array (Option Value)} {oc_l_by_place kV_l_by_place dc_l_by_place pm_l_by_place cd_l_by_place ct_l_by_place : Value}
    {od_l_by_name an_l_by_name : Option Addr} {sl_l_by_name : Array (Option Value)} {oc_l_by_name kV_l_by_name dc_l_by_name pm_l_by_name cd_l_by_name ct_l_by_name : Value}
    {od_l_flags an_l_flags : Option Addr} {sl_l_flags : Array (Option Value)} {oc_l_flags kV_l_flags dc_l_flags pm_l_flags cd_l_flags ct_l_flags : Value}
    {od_l_caught an_l_caught : Option Addr} {sl_l_caught : Array (Option Value)} {oc_l_caught kV_l_caught dc_l_caught pm_l_caught cd_l_caught ct_l_caught : Value}
    {od_law an_law : Option Addr} {sl_law : Array (Option Value)} {oc_law kV_law dc_law pm_law cd_law ct_law : Value}
    (aS : PySem.W.nsIn K mainGlobals "ScrewError" = some (some (.ref CS)))
    (sS : PySem.W.subIn K (.ref CS) (.type "BaseException") = some true)
    (hS : PySem.W.hasDictIn K CS = true)
    (tS : PySem.W.typeIn K (.ref CS) = some (.type "type"))
    (hn : PySem.W.specialIn K (.builtin "object.__class__") "__get__" = some (some (.builtin "getset_descriptor.__get__")))
    (ht : PySem.W.takesIn K (.builtin "object.__class__") = some true)
    (aP : PySem.W.nsIn K mainGlobals "PRIMES" = some (some (.ref P)))
    (lP : K.lookup P = some ⟨.type "tuple", ddP, .seq itsP nP, slP⟩)
    (zP : itsP.size ≤ sizeLine)
    (vP : Vals [.int 2, .int 3, .int 5, .int 7, .int 11, .int 13] itsP.toList)
    (z_int : PySem.W.nsIn K mainGlobals "int" = some none)
    (z_len : PySem.W.nsIn K mainGlobals "len" = some none)
    (z_abs : PySem.W.nsIn K mainGlobals "abs" = some none)
    (z_str : PySem.W.nsIn K mainGlobals "str" = some none)
    (z_range : PySem.W.nsIn K mainGlobals "range" = some none)
    (z_repr : PySem.W.nsIn K mainGlobals "repr" = some none)
    (z_isinstance : PySem.W.nsIn K mainGlobals "isinstance" = some none)
    (z_bool : PySem.W.nsIn K mainGlobals "bool" = some none)
    (z_LookupError : PySem.W.nsIn K mainGlobals "LookupError" = some none)
    (z_ArithmeticError : PySem.W.nsIn K mainGlobals "ArithmeticError" = some none)
    (z_TypeError : PySem.W.nsIn K mainGlobals "TypeError" = some none)
    (z_RuntimeError : PySem.W.nsIn K mainGlobals "RuntimeError" = some none)
    (z_AttributeError : PySem.W.nsIn K mainGlobals "AttributeError" = some none)
    (z_ValueError : PySem.W.nsIn K mainGlobals "ValueError" = some none)
    (aC0 : PySem.W.nsIn K mainGlobals "BadFrame" = some (some (.ref C0)))
    (xC0 : K.lookup C0 = some (excClassObj nm0 q0 C0 N0 bs0 bm0 true sn0 sub0 ab0 col0 dd0 m00 m10 m20 m30 m50 "ValueError.__new__"))
    (rC0 : PySem.HandSPX.refsVE bm0 = true)
    (saC0 : PySem.W.findIn K (.ref C0) "__setattr__" = some (some (.builtin "object.__setattr__")))
    (exC0 : PySem.W.subIn K (.ref C0) (.type "BaseException") = some true)
    (tyC0 : PySem.W.typeIn K (.ref C0) = some (.type "type"))
    (keC0 : PySem.W.keepIn K (.ref C0) = true)
    (gaC0 : PySem.W.findIn K (.ref C0) "__getattribute__" = some (some (.builtin "BaseException.__getattribute__")))
    (ggC0 : PySem.W.findIn K (.ref C0) "__getattr__" = some none)
    (hdC0 : PySem.W.hasDictIn K C0 = true)
    (haC0 : PySem.W.findIn K (.ref C0) "__class__" = some (some (.builtin "object.__class__")))
    (hmC0 : PySem.W.mroIn K C0 (.type "object") = some true)
    (iCC0 : PySem.W.findIn K (.ref C0) "__init__" = some (some (.ref fi0)))
    (tIC0 : PySem.W.typeIn K (.ref fi0) = some (.type "function"))
    (li0 : K.lookup fi0 = some ⟨oci0, odi0, .func (PySem.W.fnOf "__init__" "BadFrame.__init__" (defArgs i_BadFrame) (defBody i_BadFrame) (defScope i_BadFrame) .none kVi0 dci0 pmi0 ani0 cdi0 cti0), sli0⟩)
    (ci0 : PySem.W.codeIn K cdi0 "BadFrame.__init__" = true)
    (ki0 : PySem.W.keepIn K (.ref fi0) = true)
    (noC0 : PySem.W.findIn K (.ref C0) "part" = some none)
    (aC1 : PySem.W.nsIn K mainGlobals "BadLead" = some (some (.ref C1)))
    (xC1 : K.lookup C1 = some (excClassObj nm1 q1 C1 N1 bs1 bm1 true sn1 sub1 ab1 col1 dd1 m01 m11 m21 m31 m51 "ValueError.__new__"))
    (rC1 : PySem.HandSPX.refsVE bm1 = true)
    (saC1 : PySem.W.findIn K (.ref C1) "__setattr__" = some (some (.builtin "object.__setattr__")))
    (exC1 : PySem.W.subIn K (.ref C1) (.type "BaseException") = some true)
    (tyC1 : PySem.W.typeIn K (.ref C1) = some (.type "type"))
    (keC1 : PySem.W.keepIn K (.ref C1) = true)
    (gaC1 : PySem.W.findIn K (.ref C1) "__getattribute__" = some (some (.builtin "BaseException.__getattribute__")))
    (ggC1 : PySem.W.findIn K (.ref C1) "__getattr__" = some none)
    (hdC1 : PySem.W.hasDictIn K C1 = true)
    (haC1 : PySem.W.findIn K (.ref C1) "__class__" = some (some (.builtin "object.__class__")))
    (hmC1 : PySem.W.mroIn K C1 (.type "object") = some true)
    (iCC1 : PySem.W.findIn K (.ref C1) "__init__" = some (some (.ref fi1)))
    (tIC1 : PySem.W.typeIn K (.ref fi1) = some (.type "function"))
    (li1 : K.lookup fi1 = some ⟨oci1, odi1, .func (PySem.W.fnOf "__init__" "BadLead.__init__" (defArgs i_BadLead) (defBody i_BadLead) (defScope i_BadLead) .none kVi1 dci1 pmi1 ani1 cdi1 cti1), sli1⟩)
    (ci1 : PySem.W.codeIn K cdi1 "BadLead.__init__" = true)
    (ki1 : PySem.W.keepIn K (.ref fi1) = true)
    (noC1 : PySem.W.findIn K (.ref C1) "part" = some none)
    (aC2 : PySem.W.nsIn K mainGlobals "BadLot" = some (some (.ref C2)))
    (xC2 : K.lookup C2 = some (excClassObj nm2 q2 C2 N2 bs2 bm2 true sn2 sub2 ab2 col2 dd2 m02 m12 m22 m32 m52 "ValueError.__new__"))
    (rC2 : PySem.HandSPX.refsVE bm2 = true)
    (saC2 : PySem.W.findIn K (.ref C2) "__setattr__" = some (some (.builtin "object.__setattr__")))
    (exC2 : PySem.W.subIn K (.ref C2) (.type "BaseException") = some true)
    (tyC2 : PySem.W.typeIn K (.ref C2) = some (.type "type"))
    (keC2 : PySem.W.keepIn K (.ref C2) = true)
    (gaC2 : PySem.W.findIn K (.ref C2) "__getattribute__" = some (some (.builtin "BaseException.__getattribute__")))
    (ggC2 : PySem.W.findIn K (.ref C2) "__getattr__" = some none)
    (hdC2 : PySem.W.hasDictIn K C2 = true)
    (haC2 : PySem.W.findIn K (.ref C2) "__class__" = some (some (.builtin "object.__class__")))
    (hmC2 : PySem.W.mroIn K C2 (.type "object") = some true)
    (iCC2 : PySem.W.findIn K (.ref C2) "__init__" = some (some (.ref fi2)))
    (tIC2 : PySem.W.typeIn K (.ref fi2) = some (.type "function"))
    (li2 : K.lookup fi2 = some ⟨oci2, odi2, .func (PySem.W.fnOf "__init__" "BadLot.__init__" (defArgs i_BadLot) (defBody i_BadLot) (defScope i_BadLot) .none kVi2 dci2 pmi2 ani2 cdi2 cti2), sli2⟩)
    (ci2 : PySem.W.codeIn K cdi2 "BadLot.__init__" = true)
    (ki2 : PySem.W.keepIn K (.ref fi2) = true)
    (noC2 : PySem.W.findIn K (.ref C2) "part" = some none)
    (aC3 : PySem.W.nsIn K mainGlobals "BadMotion" = some (some (.ref C3)))
    (xC3 : K.lookup C3 = some (excClassObj nm3 q3 C3 N3 bs3 bm3 true sn3 sub3 ab3 col3 dd3 m03 m13 m23 m33 m53 "ValueError.__new__"))
    (rC3 : PySem.HandSPX.refsVE bm3 = true)
    (saC3 : PySem.W.findIn K (.ref C3) "__setattr__" = some (some (.builtin "object.__setattr__")))
    (exC3 : PySem.W.subIn K (.ref C3) (.type "BaseException") = some true)
    (tyC3 : PySem.W.typeIn K (.ref C3) = some (.type "type"))
    (keC3 : PySem.W.keepIn K (.ref C3) = true)
    (gaC3 : PySem.W.findIn K (.ref C3) "__getattribute__" = some (some (.builtin "BaseException.__getattribute__")))
    (ggC3 : PySem.W.findIn K (.ref C3) "__getattr__" = some none)
    (hdC3 : PySem.W.hasDictIn K C3 = true)
    (haC3 : PySem.W.findIn K (.ref C3) "__class__" = some (some (.builtin "object.__class__")))
    (hmC3 : PySem.W.mroIn K C3 (.type "object") = some true)
    (iCC3 : PySem.W.findIn K (.ref C3) "__init__" = some (some (.ref fi3)))
    (tIC3 : PySem.W.typeIn K (.ref fi3) = some (.type "function"))
    (li3 : K.lookup fi3 = some ⟨oci3, odi3, .func (PySem.W.fnOf "__init__" "BadMotion.__init__" (defArgs i_BadMotion) (defBody i_BadMotion) (defScope i_BadMotion) .none kVi3 dci3 pmi3 ani3 cdi3 cti3), sli3⟩)
    (ci3 : PySem.W.codeIn K cdi3 "BadMotion.__init__" = true)
    (ki3 : PySem.W.keepIn K (.ref fi3) = true)
    (noC3 : PySem.W.findIn K (.ref C3) "part" = some none)
    (aC4 : PySem.W.nsIn K mainGlobals "BadNumber" = some (some (.ref C4)))
    (xC4 : K.lookup C4 = some (excClassObj nm4 q4 C4 N4 bs4 bm4 true sn4 sub4 ab4 col4 dd4 m04 m14 m24 m34 m54 "ValueError.__new__"))
    (rC4 : PySem.HandSPX.refsVE bm4 = true)
    (saC4 : PySem.W.findIn K (.ref C4) "__setattr__" = some (some (.builtin "object.__setattr__")))
    (exC4 : PySem.W.subIn K (.ref C4) (.type "BaseException") = some true)
    (tyC4 : PySem.W.typeIn K (.ref C4) = some (.type "type"))
    (keC4 : PySem.W.keepIn K (.ref C4) = true)
    (gaC4 : PySem.W.findIn K (.ref C4) "__getattribute__" = some (some (.builtin "BaseException.__getattribute__")))
    (ggC4 : PySem.W.findIn K (.ref C4) "__getattr__" = some none)
    (hdC4 : PySem.W.hasDictIn K C4 = true)
    (haC4 : PySem.W.findIn K (.ref C4) "__class__" = some (some (.builtin "object.__class__")))
    (hmC4 : PySem.W.mroIn K C4 (.type "object") = some true)
    (iCC4 : PySem.W.findIn K (.ref C4) "__init__" = some (some (.ref fi4)))
    (tIC4 : PySem.W.typeIn K (.ref fi4) = some (.type "function"))
    (li4 : K.lookup fi4 = some ⟨oci4, odi4, .func (PySem.W.fnOf "__init__" "BadNumber.__init__" (defArgs i_BadNumber) (defBody i_BadNumber) (defScope i_BadNumber) .none kVi4 dci4 pmi4 ani4 cdi4 cti4), sli4⟩)
    (ci4 : PySem.W.codeIn K cdi4 "BadNumber.__init__" = true)
    (ki4 : PySem.W.keepIn K (.ref fi4) = true)
    (noC4 : PySem.W.findIn K (.ref C4) "part" = some none)
    (aC5 : PySem.W.nsIn K mainGlobals "BadPaper" = some (some (.ref C5)))
    (xC5 : K.lookup C5 = some (excClassObj nm5 q5 C5 N5 bs5 bm5 true sn5 sub5 ab5 col5 dd5 m05 m15 m25 m35 m55 "ValueError.__new__"))
    (rC5 : PySem.HandSPX.refsVE bm5 = true)
    (saC5 : PySem.W.findIn K (.ref C5) "__setattr__" = some (some (.builtin "object.__setattr__")))
    (exC5 : PySem.W.subIn K (.ref C5) (.type "BaseException") = some true)
    (tyC5 : PySem.W.typeIn K (.ref C5) = some (.type "type"))
    (keC5 : PySem.W.keepIn K (.ref C5) = true)
    (gaC5 : PySem.W.findIn K (.ref C5) "__getattribute__" = some (some (.builtin "BaseException.__getattribute__")))
    (ggC5 : PySem.W.findIn K (.ref C5) "__getattr__" = some none)
    (hdC5 : PySem.W.hasDictIn K C5 = true)
    (haC5 : PySem.W.findIn K (.ref C5) "__class__" = some (some (.builtin "object.__class__")))
    (hmC5 : PySem.W.mroIn K C5 (.type "object") = some true)
    (iCC5 : PySem.W.findIn K (.ref C5) "__init__" = some (some (.ref fi5)))
    (tIC5 : PySem.W.typeIn K (.ref fi5) = some (.type "function"))
    (li5 : K.lookup fi5 = some ⟨oci5, odi5, .func (PySem.W.fnOf "__init__" "BadPaper.__init__" (defArgs i_BadPaper) (defBody i_BadPaper) (defScope i_BadPaper) .none kVi5 dci5 pmi5 ani5 cdi5 cti5), sli5⟩)
    (ci5 : PySem.W.codeIn K cdi5 "BadPaper.__init__" = true)
    (ki5 : PySem.W.keepIn K (.ref fi5) = true)
    (noC5 : PySem.W.findIn K (.ref C5) "part" = some none)
    (aC6 : PySem.W.nsIn K mainGlobals "BadSum" = some (some (.ref C6)))
    (xC6 : K.lookup C6 = some (excClassObj nm6 q6 C6 N6 bs6 bm6 true sn6 sub6 ab6 col6 dd6 m06 m16 m26 m36 m56 "ValueError.__new__"))
    (rC6 : PySem.HandSPX.refsVE bm6 = true)
    (saC6 : PySem.W.findIn K (.ref C6) "__setattr__" = some (some (.builtin "object.__setattr__")))
    (exC6 : PySem.W.subIn K (.ref C6) (.type "BaseException") = some true)
    (tyC6 : PySem.W.typeIn K (.ref C6) = some (.type "type"))
    (keC6 : PySem.W.keepIn K (.ref C6) = true)
    (gaC6 : PySem.W.findIn K (.ref C6) "__getattribute__" = some (some (.builtin "BaseException.__getattribute__")))
    (ggC6 : PySem.W.findIn K (.ref C6) "__getattr__" = some none)
    (hdC6 : PySem.W.hasDictIn K C6 = true)
    (haC6 : PySem.W.findIn K (.ref C6) "__class__" = some (some (.builtin "object.__class__")))
    (hmC6 : PySem.W.mroIn K C6 (.type "object") = some true)
    (iCC6 : PySem.W.findIn K (.ref C6) "__init__" = some (some (.ref fi6)))
    (tIC6 : PySem.W.typeIn K (.ref fi6) = some (.type "function"))
    (li6 : K.lookup fi6 = some ⟨oci6, odi6, .func (PySem.W.fnOf "__init__" "BadSum.__init__" (defArgs i_BadSum) (defBody i_BadSum) (defScope i_BadSum) .none kVi6 dci6 pmi6 ani6 cdi6 cti6), sli6⟩)
    (ci6 : PySem.W.codeIn K cdi6 "BadSum.__init__" = true)
    (ki6 : PySem.W.keepIn K (.ref fi6) = true)
    (noC6 : PySem.W.findIn K (.ref C6) "part" = some none)
    (aC7 : PySem.W.nsIn K mainGlobals "Misfit" = some (some (.ref C7)))
    (xC7 : K.lookup C7 = some (excClassObj nm7 q7 C7 N7 bs7 bm7 true sn7 sub7 ab7 col7 dd7 m07 m17 m27 m37 m57 "ValueError.__new__"))
    (rC7 : PySem.HandSPX.refsVE bm7 = true)
    (saC7 : PySem.W.findIn K (.ref C7) "__setattr__" = some (some (.builtin "object.__setattr__")))
    (exC7 : PySem.W.subIn K (.ref C7) (.type "BaseException") = some true)
    (tyC7 : PySem.W.typeIn K (.ref C7) = some (.type "type"))
    (keC7 : PySem.W.keepIn K (.ref C7) = true)
    (gaC7 : PySem.W.findIn K (.ref C7) "__getattribute__" = some (some (.builtin "BaseException.__getattribute__")))
    (ggC7 : PySem.W.findIn K (.ref C7) "__getattr__" = some none)
    (hdC7 : PySem.W.hasDictIn K C7 = true)
    (haC7 : PySem.W.findIn K (.ref C7) "__class__" = some (some (.builtin "object.__class__")))
    (hmC7 : PySem.W.mroIn K C7 (.type "object") = some true)
    (iCC7 : PySem.W.findIn K (.ref C7) "__init__" = some (some (.ref fi7)))
    (tIC7 : PySem.W.typeIn K (.ref fi7) = some (.type "function"))
    (li7 : K.lookup fi7 = some ⟨oci7, odi7, .func (PySem.W.fnOf "__init__" "Misfit.__init__" (defArgs i_Misfit) (defBody i_Misfit) (defScope i_Misfit) .none kVi7 dci7 pmi7 ani7 cdi7 cti7), sli7⟩)
    (ci7 : PySem.W.codeIn K cdi7 "Misfit.__init__" = true)
    (ki7 : PySem.W.keepIn K (.ref fi7) = true)
    (noC7 : PySem.W.findIn K (.ref C7) "part" = some none)
    (aC8 : PySem.W.nsIn K mainGlobals "TooMany" = some (some (.ref C8)))
    (xC8 : K.lookup C8 = some (excClassObj nm8 q8 C8 N8 bs8 bm8 true sn8 sub8 ab8 col8 dd8 m08 m18 m28 m38 m58 "ValueError.__new__"))
    (rC8 : PySem.HandSPX.refsVE bm8 = true)
    (saC8 : PySem.W.findIn K (.ref C8) "__setattr__" = some (some (.builtin "object.__setattr__")))
    (exC8 : PySem.W.subIn K (.ref C8) (.type "BaseException") = some true)
    (tyC8 : PySem.W.typeIn K (.ref C8) = some (.type "type"))
    (keC8 : PySem.W.keepIn K (.ref C8) = true)
    (gaC8 : PySem.W.findIn K (.ref C8) "__getattribute__" = some (some (.builtin "BaseException.__getattribute__")))
    (ggC8 : PySem.W.findIn K (.ref C8) "__getattr__" = some none)
    (hdC8 : PySem.W.hasDictIn K C8 = true)
    (haC8 : PySem.W.findIn K (.ref C8) "__class__" = some (some (.builtin "object.__class__")))
    (hmC8 : PySem.W.mroIn K C8 (.type "object") = some true)
    (iCC8 : PySem.W.findIn K (.ref C8) "__init__" = some (some (.ref fi8)))
    (tIC8 : PySem.W.typeIn K (.ref fi8) = some (.type "function"))
    (li8 : K.lookup fi8 = some ⟨oci8, odi8, .func (PySem.W.fnOf "__init__" "TooMany.__init__" (defArgs i_TooMany) (defBody i_TooMany) (defScope i_TooMany) .none kVi8 dci8 pmi8 ani8 cdi8 cti8), sli8⟩)
    (ci8 : PySem.W.codeIn K cdi8 "TooMany.__init__" = true)
    (ki8 : PySem.W.keepIn K (.ref fi8) = true)
    (n1C8 : PySem.W.findIn K (.ref C8) "what" = some none)
    (n2C8 : PySem.W.findIn K (.ref C8) "most" = some none)
    (o0_0 : PySem.W.kitOne K (.ref C0) (.ref C0) = some true)
    (o0_1 : PySem.W.kitOne K (.ref C0) (.ref C1) = some false)
    (o0_2 : PySem.W.kitOne K (.ref C0) (.ref C2) = some false)
    (o0_3 : PySem.W.kitOne K (.ref C0) (.ref C3) = some false)
    (o0_4 : PySem.W.kitOne K (.ref C0) (.ref C4) = some false)
    (o0_5 : PySem.W.kitOne K (.ref C0) (.ref C5) = some false)
    (o0_6 : PySem.W.kitOne K (.ref C0) (.ref C6) = some false)
    (o0_7 : PySem.W.kitOne K (.ref C0) (.ref C7) = some false)
    (o0_8 : PySem.W.kitOne K (.ref C0) (.ref C8) = some false)
    (p1_0 : PySem.W.kitAny K (.ref C0) [.type "LookupError", .type "ArithmeticError"] = some false)
    (p2_0 : PySem.W.kitAny K (.ref C0) [.type "TypeError", .type "RuntimeError"] = some false)
    (p3_0 : PySem.W.kitOne K (.ref C0) (.type "AttributeError") = some false)
    (p4_0 : PySem.W.kitOne K (.ref C0) (.ref CS) = some true)
    (p5_0 : PySem.W.kitOne K (.ref C0) (.type "ValueError") = some true)
    (p6_0 : PySem.W.subIn K (.ref C0) (.ref CS) = some true)
    (o1_0 : PySem.W.kitOne K (.ref C1) (.ref C0) = some false)
    (o1_1 : PySem.W.kitOne K (.ref C1) (.ref C1) = some true)
    (o1_2 : PySem.W.kitOne K (.ref C1) (.ref C2) = some false)
    (o1_3 : PySem.W.kitOne K (.ref C1) (.ref C3) = some false)
    (o1_4 : PySem.W.kitOne K (.ref C1) (.ref C4) = some false)
    (o1_5 : PySem.W.kitOne K (.ref C1) (.ref C5) = some false)
    (o1_6 : PySem.W.kitOne K (.ref C1) (.ref C6) = some false)
    (o1_7 : PySem.W.kitOne K (.ref C1) (.ref C7) = some false)
    (o1_8 : PySem.W.kitOne K (.ref C1) (.ref C8) = some false)
    (p1_1 : PySem.W.kitAny K (.ref C1) [.type "LookupError", .type "ArithmeticError"] = some false)
    (p2_1 : PySem.W.kitAny K (.ref C1) [.type "TypeError", .type "RuntimeError"] = some false)
    (p3_1 : PySem.W.kitOne K (.ref C1) (.type "AttributeError") = some false)
    (p4_1 : PySem.W.kitOne K (.ref C1) (.ref CS) = some true)
    (p5_1 : PySem.W.kitOne K (.ref C1) (.type "ValueError") = some true)
    (p6_1 : PySem.W.subIn K (.ref C1) (.ref CS) = some true)
    (o2_0 : PySem.W.kitOne K (.ref C2) (.ref C0) = some false)
    (o2_1 : PySem.W.kitOne K (.ref C2) (.ref C1) = some false)
    (o2_2 : PySem.W.kitOne K (.ref C2) (.ref C2) = some true)
    (o2_3 : PySem.W.kitOne K (.ref C2) (.ref C3) = some false)
    (o2_4 : PySem.W.kitOne K (.ref C2) (.ref C4) = some false)
    (o2_5 : PySem.W.kitOne K (.ref C2) (.ref C5) = some false)
    (o2_6 : PySem.W.kitOne K (.ref C2) (.ref C6) = some false)
    (o2_7 : PySem.W.kitOne K (.ref C2) (.ref C7) = some false)
    (o2_8 : PySem.W.kitOne K (.ref C2) (.ref C8) = some false)
    (p1_2 : PySem.W.kitAny K (.ref C2) [.type "LookupError", .type "ArithmeticError"] = some false)
    (p2_2 : PySem.W.kitAny K (.ref C2) [.type "TypeError", .type "RuntimeError"] = some false)
    (p3_2 : PySem.W.kitOne K (.ref C2) (.type "AttributeError") = some false)
    (p4_2 : PySem.W.kitOne K (.ref C2) (.ref CS) = some true)
    (p5_2 : PySem.W.kitOne K (.ref C2) (.type "ValueError") = some true)
    (p6_2 : PySem.W.subIn K (.ref C2) (.ref CS) = some true)
    (o3_0 : PySem.W.kitOne K (.ref C3) (.ref C0) = some false)
    (o3_1 : PySem.W.kitOne K (.ref C3) (.ref C1) = some false)
    (o3_2 : PySem.W.kitOne K (.ref C3) (.ref C2) = some false)
    (o3_3 : PySem.W.kitOne K (.ref C3) (.ref C3) = some true)
    (o3_4 : PySem.W.kitOne K (.ref C3) (.ref C4) = some false)
    (o3_5 : PySem.W.kitOne K (.ref C3) (.ref C5) = some false)
    (o3_6 : PySem.W.kitOne K (.ref C3) (.ref C6) = some false)
    (o3_7 : PySem.W.kitOne K (.ref C3) (.ref C7) = some false)
    (o3_8 : PySem.W.kitOne K (.ref C3) (.ref C8) = some false)
    (p1_3 : PySem.W.kitAny K (.ref C3) [.type "LookupError", .type "ArithmeticError"] = some false)
    (p2_3 : PySem.W.kitAny K (.ref C3) [.type "TypeError", .type "RuntimeError"] = some false)
    (p3_3 : PySem.W.kitOne K (.ref C3) (.type "AttributeError") = some false)
    (p4_3 : PySem.W.kitOne K (.ref C3) (.ref CS) = some true)
    (p5_3 : PySem.W.kitOne K (.ref C3) (.type "ValueError") = some true)
    (p6_3 : PySem.W.subIn K (.ref C3) (.ref CS) = some true)
    (o4_0 : PySem.W.kitOne K (.ref C4) (.ref C0) = some false)
    (o4_1 : PySem.W.kitOne K (.ref C4) (.ref C1) = some false)
    (o4_2 : PySem.W.kitOne K (.ref C4) (.ref C2) = some false)
    (o4_3 : PySem.W.kitOne K (.ref C4) (.ref C3) = some false)
    (o4_4 : PySem.W.kitOne K (.ref C4) (.ref C4) = some true)
    (o4_5 : PySem.W.kitOne K (.ref C4) (.ref C5) = some false)
    (o4_6 : PySem.W.kitOne K (.ref C4) (.ref C6) = some false)
    (o4_7 : PySem.W.kitOne K (.ref C4) (.ref C7) = some false)
    (o4_8 : PySem.W.kitOne K (.ref C4) (.ref C8) = some false)
    (p1_4 : PySem.W.kitAny K (.ref C4) [.type "LookupError", .type "ArithmeticError"] = some false)
    (p2_4 : PySem.W.kitAny K (.ref C4) [.type "TypeError", .type "RuntimeError"] = some false)
    (p3_4 : PySem.W.kitOne K (.ref C4) (.type "AttributeError") = some false)
    (p4_4 : PySem.W.kitOne K (.ref C4) (.ref CS) = some true)
    (p5_4 : PySem.W.kitOne K (.ref C4) (.type "ValueError") = some true)
    (p6_4 : PySem.W.subIn K (.ref C4) (.ref CS) = some true)
    (o5_0 : PySem.W.kitOne K (.ref C5) (.ref C0) = some false)
    (o5_1 : PySem.W.kitOne K (.ref C5) (.ref C1) = some false)
    (o5_2 : PySem.W.kitOne K (.ref C5) (.ref C2) = some false)
    (o5_3 : PySem.W.kitOne K (.ref C5) (.ref C3) = some false)
    (o5_4 : PySem.W.kitOne K (.ref C5) (.ref C4) = some false)
    (o5_5 : PySem.W.kitOne K (.ref C5) (.ref C5) = some true)
    (o5_6 : PySem.W.kitOne K (.ref C5) (.ref C6) = some false)
    (o5_7 : PySem.W.kitOne K (.ref C5) (.ref C7) = some false)
    (o5_8 : PySem.W.kitOne K (.ref C5) (.ref C8) = some false)
    (p1_5 : PySem.W.kitAny K (.ref C5) [.type "LookupError", .type "ArithmeticError"] = some false)
    (p2_5 : PySem.W.kitAny K (.ref C5) [.type "TypeError", .type "RuntimeError"] = some false)
    (p3_5 : PySem.W.kitOne K (.ref C5) (.type "AttributeError") = some false)
    (p4_5 : PySem.W.kitOne K (.ref C5) (.ref CS) = some true)
    (p5_5 : PySem.W.kitOne K (.ref C5) (.type "ValueError") = some true)
    (p6_5 : PySem.W.subIn K (.ref C5) (.ref CS) = some true)
    (o6_0 : PySem.W.kitOne K (.ref C6) (.ref C0) = some false)
    (o6_1 : PySem.W.kitOne K (.ref C6) (.ref C1) = some false)
    (o6_2 : PySem.W.kitOne K (.ref C6) (.ref C2) = some false)
    (o6_3 : PySem.W.kitOne K (.ref C6) (.ref C3) = some false)
    (o6_4 : PySem.W.kitOne K (.ref C6) (.ref C4) = some false)
    (o6_5 : PySem.W.kitOne K (.ref C6) (.ref C5) = some false)
    (o6_6 : PySem.W.kitOne K (.ref C6) (.ref C6) = some true)
    (o6_7 : PySem.W.kitOne K (.ref C6) (.ref C7) = some false)
    (o6_8 : PySem.W.kitOne K (.ref C6) (.ref C8) = some false)
    (p1_6 : PySem.W.kitAny K (.ref C6) [.type "LookupError", .type "ArithmeticError"] = some false)
    (p2_6 : PySem.W.kitAny K (.ref C6) [.type "TypeError", .type "RuntimeError"] = some false)
    (p3_6 : PySem.W.kitOne K (.ref C6) (.type "AttributeError") = some false)
    (p4_6 : PySem.W.kitOne K (.ref C6) (.ref CS) = some true)
    (p5_6 : PySem.W.kitOne K (.ref C6) (.type "ValueError") = some true)
    (p6_6 : PySem.W.subIn K (.ref C6) (.ref CS) = some true)
    (o7_0 : PySem.W.kitOne K (.ref C7) (.ref C0) = some false)
    (o7_1 : PySem.W.kitOne K (.ref C7) (.ref C1) = some false)
    (o7_2 : PySem.W.kitOne K (.ref C7) (.ref C2) = some false)
    (o7_3 : PySem.W.kitOne K (.ref C7) (.ref C3) = some false)
    (o7_4 : PySem.W.kitOne K (.ref C7) (.ref C4) = some false)
    (o7_5 : PySem.W.kitOne K (.ref C7) (.ref C5) = some false)
    (o7_6 : PySem.W.kitOne K (.ref C7) (.ref C6) = some false)
    (o7_7 : PySem.W.kitOne K (.ref C7) (.ref C7) = some true)
    (o7_8 : PySem.W.kitOne K (.ref C7) (.ref C8) = some false)
    (p1_7 : PySem.W.kitAny K (.ref C7) [.type "LookupError", .type "ArithmeticError"] = some false)
    (p2_7 : PySem.W.kitAny K (.ref C7) [.type "TypeError", .type "RuntimeError"] = some false)
    (p3_7 : PySem.W.kitOne K (.ref C7) (.type "AttributeError") = some false)
    (p4_7 : PySem.W.kitOne K (.ref C7) (.ref CS) = some true)
    (p5_7 : PySem.W.kitOne K (.ref C7) (.type "ValueError") = some true)
    (p6_7 : PySem.W.subIn K (.ref C7) (.ref CS) = some true)
    (o8_0 : PySem.W.kitOne K (.ref C8) (.ref C0) = some false)
    (o8_1 : PySem.W.kitOne K (.ref C8) (.ref C1) = some false)
    (o8_2 : PySem.W.kitOne K (.ref C8) (.ref C2) = some false)
    (o8_3 : PySem.W.kitOne K (.ref C8) (.ref C3) = some false)
    (o8_4 : PySem.W.kitOne K (.ref C8) (.ref C4) = some false)
    (o8_5 : PySem.W.kitOne K (.ref C8) (.ref C5) = some false)
    (o8_6 : PySem.W.kitOne K (.ref C8) (.ref C6) = some false)
    (o8_7 : PySem.W.kitOne K (.ref C8) (.ref C7) = some false)
    (o8_8 : PySem.W.kitOne K (.ref C8) (.ref C8) = some true)
    (p1_8 : PySem.W.kitAny K (.ref C8) [.type "LookupError", .type "ArithmeticError"] = some false)
    (p2_8 : PySem.W.kitAny K (.ref C8) [.type "TypeError", .type "RuntimeError"] = some false)
    (p3_8 : PySem.W.kitOne K (.ref C8) (.type "AttributeError") = some false)
    (p4_8 : PySem.W.kitOne K (.ref C8) (.ref CS) = some true)
    (p5_8 : PySem.W.kitOne K (.ref C8) (.type "ValueError") = some true)
    (p6_8 : PySem.W.subIn K (.ref C8) (.ref CS) = some true)
    (a_is_integer : PySem.W.nsIn K mainGlobals "is_integer" = some (some (.ref f_is_integer)))
    (l_is_integer : K.lookup f_is_integer = some ⟨oc_is_integer, od_is_integer, .func (PySem.W.fnOf "is_integer" "is_integer" (defArgs s_is_integer) (defBody s_is_integer) (defScope s_is_integer) .none kV_is_integer dc_is_integer pm_is_integer an_is_integer cd_is_integer ct_is_integer), sl_is_integer⟩)
    (c_is_integer : PySem.W.codeIn K cd_is_integer "is_integer" = true)
    (k_is_integer : PySem.W.keepIn K (.ref f_is_integer) = true)
    (a_is_by : PySem.W.nsIn K mainGlobals "is_by" = some (some (.ref f_is_by)))
    (l_is_by : K.lookup f_is_by = some ⟨oc_is_by, od_is_by, .func (PySem.W.fnOf "is_by" "is_by" (defArgs s_is_by) (defBody s_is_by) (defScope s_is_by) .none kV_is_by dc_is_by pm_is_by an_is_by cd_is_by ct_is_by), sl_is_by⟩)
    (c_is_by : PySem.W.codeIn K cd_is_by "is_by" = true)
    (k_is_by : PySem.W.keepIn K (.ref f_is_by) = true)
    (a_over : PySem.W.nsIn K mainGlobals "over" = some (some (.ref f_over)))
    (l_over : K.lookup f_over = some ⟨oc_over, od_over, .func (PySem.W.fnOf "over" "over" (defArgs s_over) (defBody s_over) (defScope s_over) .none kV_over dc_over pm_over an_over cd_over ct_over), sl_over⟩)
    (c_over : PySem.W.codeIn K cd_over "over" = true)
    (k_over : PySem.W.keepIn K (.ref f_over) = true)
    (a_l_bowl : PySem.W.nsIn K mainGlobals "_law_bowl" = some (some (.ref f_l_bowl)))
    (l_l_bowl : K.lookup f_l_bowl = some ⟨oc_l_bowl, od_l_bowl, .func (PySem.W.fnOf "_law_bowl" "_law_bowl" (defArgs s_l_bowl) (defBody s_l_bowl) (defScope s_l_bowl) .none kV_l_bowl dc_l_bowl pm_l_bowl an_l_bowl cd_l_bowl ct_l_bowl), sl_l_bowl⟩)
    (c_l_bowl : PySem.W.codeIn K cd_l_bowl "_law_bowl" = true)
    (k_l_bowl : PySem.W.keepIn K (.ref f_l_bowl) = true)
    (a_l_dip : PySem.W.nsIn K mainGlobals "_law_dip" = some (some (.ref f_l_dip)))
    (l_l_dip : K.lookup f_l_dip = some ⟨oc_l_dip, od_l_dip, .func (PySem.W.fnOf "_law_dip" "_law_dip" (defArgs s_l_dip) (defBody s_l_dip) (defScope s_l_dip) .none kV_l_dip dc_l_dip pm_l_dip an_l_dip cd_l_dip ct_l_dip), sl_l_dip⟩)
    (c_l_dip : PySem.W.codeIn K cd_l_dip "_law_dip" = true)
    (k_l_dip : PySem.W.keepIn K (.ref f_l_dip) = true)
    (a_l_choose : PySem.W.nsIn K mainGlobals "_law_choose" = some (some (.ref f_l_choose)))
    (l_l_choose : K.lookup f_l_choose = some ⟨oc_l_choose, od_l_choose, .func (PySem.W.fnOf "_law_choose" "_law_choose" (defArgs s_l_choose) (defBody s_l_choose) (defScope s_l_choose) .none kV_l_choose dc_l_choose pm_l_choose an_l_choose cd_l_choose ct_l_choose), sl_l_choose⟩)
    (c_l_choose : PySem.W.codeIn K cd_l_choose "_law_choose" = true)
    (k_l_choose : PySem.W.keepIn K (.ref f_l_choose) = true)
    (a_l_value : PySem.W.nsIn K mainGlobals "_law_value" = some (some (.ref f_l_value)))
    (l_l_value : K.lookup f_l_value = some ⟨oc_l_value, od_l_value, .func (PySem.W.fnOf "_law_value" "_law_value" (defArgs s_l_value) (defBody s_l_value) (defScope s_l_value) .none kV_l_value dc_l_value pm_l_value an_l_value cd_l_value ct_l_value), sl_l_value⟩)
    (c_l_value : PySem.W.codeIn K cd_l_value "_law_value" = true)
    (k_l_value : PySem.W.keepIn K (.ref f_l_value) = true)
    (a_l_by_place : PySem.W.nsIn K mainGlobals "_law_by_place" = some (some (.ref f_l_by_place)))
    (l_l_by_place : K.lookup f_l_by_place = some ⟨oc_l_by_place, od_l_by_place, .func (PySem.W.fnOf "_law_by_place" "_law_by_place" (defArgs s_l_by_place) (defBody s_l_by_place) (defScope s_l_by_place) .none kV_l_by_place dc_l_by_place pm_l_by_place an_l_by_place cd_l_by_place ct_l_by_place), sl_l_by_place⟩)
    (c_l_by_place : PySem.W.codeIn K cd_l_by_place "_law_by_place" = true)
    (k_l_by_place : PySem.W.keepIn K (.ref f_l_by_place) = true)
    (a_l_by_name : PySem.W.nsIn K mainGlobals "_law_by_name" = some (some (.ref f_l_by_name)))
    (l_l_by_name : K.lookup f_l_by_name = some ⟨oc_l_by_name, od_l_by_name, .func (PySem.W.fnOf "_law_by_name" "_law_by_name" (defArgs s_l_by_name) (defBody s_l_by_name) (defScope s_l_by_name) .none kV_l_by_name dc_l_by_name pm_l_by_name an_l_by_name cd_l_by_name ct_l_by_name), sl_l_by_name⟩)
    (c_l_by_name : PySem.W.codeIn K cd_l_by_name "_law_by_name" = true)
    (k_l_by_name : PySem.W.keepIn K (.ref f_l_by_name) = true)
    (a_l_flags : PySem.W.nsIn K mainGlobals "_law_flags" = some (some (.ref f_l_flags)))
    (l_l_flags : K.lookup f_l_flags = some ⟨oc_l_flags, od_l_flags, .func (PySem.W.fnOf "_law_flags" "_law_flags" (defArgs s_l_flags) (defBody s_l_flags) (defScope s_l_flags) .none kV_l_flags dc_l_flags pm_l_flags an_l_flags cd_l_flags ct_l_flags), sl_l_flags⟩)
    (c_l_flags : PySem.W.codeIn K cd_l_flags "_law_flags" = true)
    (k_l_flags : PySem.W.keepIn K (.ref f_l_flags) = true)
    (a_l_caught : PySem.W.nsIn K mainGlobals "_law_caught" = some (some (.ref f_l_caught)))
    (l_l_caught : K.lookup f_l_caught = some ⟨oc_l_caught, od_l_caught, .func (PySem.W.fnOf "_law_caught" "_law_caught" (defArgs s_l_caught) (defBody s_l_caught) (defScope s_l_caught) .none kV_l_caught dc_l_caught pm_l_caught an_l_caught cd_l_caught ct_l_caught), sl_l_caught⟩)
    (c_l_caught : PySem.W.codeIn K cd_l_caught "_law_caught" = true)
    (k_l_caught : PySem.W.keepIn K (.ref f_l_caught) = true)
    (a_law : PySem.W.nsIn K mainGlobals "law" = some (some (.ref f_law)))
    (l_law : K.lookup f_law = some ⟨oc_law, od_law, .func (PySem.W.fnOf "law" "law" (defArgs s_law) (defBody s_law) (defScope s_law) .none kV_law dc_law pm_law an_law cd_law ct_law), sl_law⟩)
    (c_law : PySem.W.codeIn K cd_law "law" = true)
    (k_law : PySem.W.keepIn K (.ref f_law) = true)
    : ∃ fd : FuncData, (∀ (s : Shared) (v : Value), BindsTo s fd ⟨[v], []⟩ [("script", v)]) ∧ ∀ base : Heap, K.In base → base.Ns mainGlobals mg → FnG P0 w K mg base CX0 5 fa fd ["script"] (spLaw K) := by
  have e := hfa.symm.trans (PySem.W.mg_of X G a_law)
  cases e
  have E0 : ExcC K C0 := ⟨gaC0, ggC0, exC0, hdC0, haC0, hn, ht, hmC0⟩
  let R0 : Er K mg "BadFrame" "BadFrame.__init__" i_BadFrame := { C := C0, f := fi0, fd := _, F := fun_mk (st := i_BadFrame) li0 ci0 ki0, m := PySem.W.mg_of X G aC0, O := ⟨⟨_, _, _, _, _, _, _, _, _, _, _, _, _, _, _, xC0, rC0⟩, saC0, exC0, tyC0, keC0⟩, X := ⟨gaC0, ggC0, exC0, hdC0⟩, E := E0, iC := iCC0, tI := tIC0 }
  have E1 : ExcC K C1 := ⟨gaC1, ggC1, exC1, hdC1, haC1, hn, ht, hmC1⟩
  let R1 : Er K mg "BadLead" "BadLead.__init__" i_BadLead := { C := C1, f := fi1, fd := _, F := fun_mk (st := i_BadLead) li1 ci1 ki1, m := PySem.W.mg_of X G aC1, O := ⟨⟨_, _, _, _, _, _, _, _, _, _, _, _, _, _, _, xC1, rC1⟩, saC1, exC1, tyC1, keC1⟩, X := ⟨gaC1, ggC1, exC1, hdC1⟩, E := E1, iC := iCC1, tI := tIC1 }
  have E2 : ExcC K C2 := ⟨gaC2, ggC2, exC2, hdC2, haC2, hn, ht, hmC2⟩
  let R2 : Er K mg "BadLot" "BadLot.__init__" i_BadLot := { C := C2, f := fi2, fd := _, F := fun_mk (st := i_BadLot) li2 ci2 ki2, m := PySem.W.mg_of X G aC2, O := ⟨⟨_, _, _, _, _, _, _, _, _, _, _, _, _, _, _, xC2, rC2⟩, saC2, exC2, tyC2, keC2⟩, X := ⟨gaC2, ggC2, exC2, hdC2⟩, E := E2, iC := iCC2, tI := tIC2 }
  have E3 : ExcC K C3 := ⟨gaC3, ggC3, exC3, hdC3, haC3, hn, ht, hmC3⟩
  let R3 : Er K mg "BadMotion" "BadMotion.__init__" i_BadMotion := { C := C3, f := fi3, fd := _, F := fun_mk (st := i_BadMotion) li3 ci3 ki3, m := PySem.W.mg_of X G aC3, O := ⟨⟨_, _, _, _, _, _, _, _, _, _, _, _, _, _, _, xC3, rC3⟩, saC3, exC3, tyC3, keC3⟩, X := ⟨gaC3, ggC3, exC3, hdC3⟩, E := E3, iC := iCC3, tI := tIC3 }
  have E4 : ExcC K C4 := ⟨gaC4, ggC4, exC4, hdC4, haC4, hn, ht, hmC4⟩
  let R4 : Er K mg "BadNumber" "BadNumber.__init__" i_BadNumber := { C := C4, f := fi4, fd := _, F := fun_mk (st := i_BadNumber) li4 ci4 ki4, m := PySem.W.mg_of X G aC4, O := ⟨⟨_, _, _, _, _, _, _, _, _, _, _, _, _, _, _, xC4, rC4⟩, saC4, exC4, tyC4, keC4⟩, X := ⟨gaC4, ggC4, exC4, hdC4⟩, E := E4, iC := iCC4, tI := tIC4 }
  have E5 : ExcC K C5 := ⟨gaC5, ggC5, exC5, hdC5, haC5, hn, ht, hmC5⟩
  let R5 : Er K mg "BadPaper" "BadPaper.__init__" i_BadPaper := { C := C5, f := fi5, fd := _, F := fun_mk (st := i_BadPaper) li5 ci5 ki5, m := PySem.W.mg_of X G aC5, O := ⟨⟨_, _, _, _, _, _, _, _, _, _, _, _, _, _, _, xC5, rC5⟩, saC5, exC5, tyC5, keC5⟩, X := ⟨gaC5, ggC5, exC5, hdC5⟩, E := E5, iC := iCC5, tI := tIC5 }
  have E6 : ExcC K C6 := ⟨gaC6, ggC6, exC6, hdC6, haC6, hn, ht, hmC6⟩
  let R6 : Er K mg "BadSum" "BadSum.__init__" i_BadSum := { C := C6, f := fi6, fd := _, F := fun_mk (st := i_BadSum) li6 ci6 ki6, m := PySem.W.mg_of X G aC6, O := ⟨⟨_, _, _, _, _, _, _, _, _, _, _, _, _, _, _, xC6, rC6⟩, saC6, exC6, tyC6, keC6⟩, X := ⟨gaC6, ggC6, exC6, hdC6⟩, E := E6, iC := iCC6, tI := tIC6 }
  have E7 : ExcC K C7 := ⟨gaC7, ggC7, exC7, hdC7, haC7, hn, ht, hmC7⟩
  let R7 : Er K mg "Misfit" "Misfit.__init__" i_Misfit := { C := C7, f := fi7, fd := _, F := fun_mk (st := i_Misfit) li7 ci7 ki7, m := PySem.W.mg_of X G aC7, O := ⟨⟨_, _, _, _, _, _, _, _, _, _, _, _, _, _, _, xC7, rC7⟩, saC7, exC7, tyC7, keC7⟩, X := ⟨gaC7, ggC7, exC7, hdC7⟩, E := E7, iC := iCC7, tI := tIC7 }
  have E8 : ExcC K C8 := ⟨gaC8, ggC8, exC8, hdC8, haC8, hn, ht, hmC8⟩
  let R8 : Er K mg "TooMany" "TooMany.__init__" i_TooMany := { C := C8, f := fi8, fd := _, F := fun_mk (st := i_TooMany) li8 ci8 ki8, m := PySem.W.mg_of X G aC8, O := ⟨⟨_, _, _, _, _, _, _, _, _, _, _, _, _, _, _, xC8, rC8⟩, saC8, exC8, tyC8, keC8⟩, X := ⟨gaC8, ggC8, exC8, hdC8⟩, E := E8, iC := iCC8, tI := tIC8 }
  let T0 : Tx K mg := { nm := { n_int := PySem.W.mg_none_of X G z_int, n_len := PySem.W.mg_none_of X G z_len, n_abs := PySem.W.mg_none_of X G z_abs, n_str := PySem.W.mg_none_of X G z_str, n_range := PySem.W.mg_none_of X G z_range, n_repr := PySem.W.mg_none_of X G z_repr, n_isinstance := PySem.W.mg_none_of X G z_isinstance, n_bool := PySem.W.mg_none_of X G z_bool }, d_is_integer := { f := _, fd := _, F := fun_mk (st := s_is_integer) l_is_integer c_is_integer k_is_integer, m := PySem.W.mg_of X G a_is_integer, k := k_is_integer, b := (fun_mk (st := s_is_integer) l_is_integer c_is_integer k_is_integer).binds (ps := ["value"]) (fun _ _ _ _ _ _ us hl => match us, hl with | [_], _ => rfl) }, d_is_by := { f := _, fd := _, F := fun_mk (st := s_is_by) l_is_by c_is_by k_is_by, m := PySem.W.mg_of X G a_is_by, k := k_is_by, b := (fun_mk (st := s_is_by) l_is_by c_is_by k_is_by).binds (ps := ["value"]) (fun _ _ _ _ _ _ us hl => match us, hl with | [_], _ => rfl) }, d_over := { f := _, fd := _, F := fun_mk (st := s_over) l_over c_over k_over, m := PySem.W.mg_of X G a_over, k := k_over, b := (fun_mk (st := s_over) l_over c_over k_over).binds (ps := ["number", "by"]) (fun _ _ _ _ _ _ us hl => match us, hl with | [_, _], _ => rfl) }, d_l_bowl := { f := _, fd := _, F := fun_mk (st := s_l_bowl) l_l_bowl c_l_bowl k_l_bowl, m := PySem.W.mg_of X G a_l_bowl, k := k_l_bowl, b := (fun_mk (st := s_l_bowl) l_l_bowl c_l_bowl k_l_bowl).binds (ps := ["script"]) (fun _ _ _ _ _ _ us hl => match us, hl with | [_], _ => rfl) }, d_l_dip := { f := _, fd := _, F := fun_mk (st := s_l_dip) l_l_dip c_l_dip k_l_dip, m := PySem.W.mg_of X G a_l_dip, k := k_l_dip, b := (fun_mk (st := s_l_dip) l_l_dip c_l_dip k_l_dip).binds (ps := ["bowl", "many"]) (fun _ _ _ _ _ _ us hl => match us, hl with | [_, _], _ => rfl) }, d_l_choose := { f := _, fd := _, F := fun_mk (st := s_l_choose) l_l_choose c_l_choose k_l_choose, m := PySem.W.mg_of X G a_l_choose, k := k_l_choose, b := (fun_mk (st := s_l_choose) l_l_choose c_l_choose k_l_choose).binds (ps := ["bowl", "some"]) (fun _ _ _ _ _ _ us hl => match us, hl with | [_, _], _ => rfl) }, d_l_value := { f := _, fd := _, F := fun_mk (st := s_l_value) l_l_value c_l_value k_l_value, m := PySem.W.mg_of X G a_l_value, k := k_l_value, b := (fun_mk (st := s_l_value) l_l_value c_l_value k_l_value).binds (ps := ["bowl"]) (fun _ _ _ _ _ _ us hl => match us, hl with | [_], _ => rfl) }, d_l_by_place := { f := _, fd := _, F := fun_mk (st := s_l_by_place) l_l_by_place c_l_by_place k_l_by_place, m := PySem.W.mg_of X G a_l_by_place, k := k_l_by_place, b := (fun_mk (st := s_l_by_place) l_l_by_place c_l_by_place k_l_by_place).binds (ps := ["at", "value", "other"]) (fun _ _ _ _ _ _ us hl => match us, hl with | [_, _, _], _ => rfl) }, d_l_by_name := { f := _, fd := _, F := fun_mk (st := s_l_by_name) l_l_by_name c_l_by_name k_l_by_name, m := PySem.W.mg_of X G a_l_by_name, k := k_l_by_name, b := (fun_mk (st := s_l_by_name) l_l_by_name c_l_by_name k_l_by_name).binds (ps := ["at", "value", "other"]) (fun _ _ _ _ _ _ us hl => match us, hl with | [_, _, _], _ => rfl) }, d_l_flags := { f := _, fd := _, F := fun_mk (st := s_l_flags) l_l_flags c_l_flags k_l_flags, m := PySem.W.mg_of X G a_l_flags, k := k_l_flags, b := (fun_mk (st := s_l_flags) l_l_flags c_l_flags k_l_flags).binds (ps := ["error"]) (fun _ _ _ _ _ _ us hl => match us, hl with | [_], _ => rfl) }, d_l_caught := { f := _, fd := _, F := fun_mk (st := s_l_caught) l_l_caught c_l_caught k_l_caught, m := PySem.W.mg_of X G a_l_caught, k := k_l_caught, b := (fun_mk (st := s_l_caught) l_l_caught c_l_caught k_l_caught).binds (ps := ["number", "by"]) (fun _ _ _ _ _ _ us hl => match us, hl with | [_, _], _ => rfl) }, d_law := { f := _, fd := _, F := fun_mk (st := s_law) l_law c_law k_law, m := PySem.W.mg_of X G a_law, k := k_law, b := (fun_mk (st := s_law) l_law c_law k_law).binds (ps := ["script"]) (fun _ _ _ _ _ _ us hl => match us, hl with | [_], _ => rfl) } }
  let T1 : Ty K mg := { toTx := T0, e_BadFrame := R0, e_BadLead := R1, e_BadLot := R2, e_BadMotion := R3, e_BadNumber := R4, e_BadPaper := R5, e_BadSum := R6, e_Misfit := R7, e_TooMany := R8, no_BadFrame := noC0, no_BadLead := noC1, no_BadLot := noC2, no_BadMotion := noC3, no_BadNumber := noC4, no_BadPaper := noC5, no_BadSum := noC6, no_Misfit := noC7, n1_TooMany := n1C8, n2_TooMany := n2C8 }
  have W0 : RowOk K T1.cs CS C0 0 := { own := own9 o0_0 o0_1 o0_2 o0_3 o0_4 o0_5 o0_6 o0_7 o0_8, far1 := p1_0, far2 := p2_0, far3 := p3_0, scr := p4_0, val := p5_0, ex := E0, exm := PySem.W.exm_ref sS hS tS p6_0 }
  have W1 : RowOk K T1.cs CS C1 1 := { own := own9 o1_0 o1_1 o1_2 o1_3 o1_4 o1_5 o1_6 o1_7 o1_8, far1 := p1_1, far2 := p2_1, far3 := p3_1, scr := p4_1, val := p5_1, ex := E1, exm := PySem.W.exm_ref sS hS tS p6_1 }
  have W2 : RowOk K T1.cs CS C2 2 := { own := own9 o2_0 o2_1 o2_2 o2_3 o2_4 o2_5 o2_6 o2_7 o2_8, far1 := p1_2, far2 := p2_2, far3 := p3_2, scr := p4_2, val := p5_2, ex := E2, exm := PySem.W.exm_ref sS hS tS p6_2 }
  have W3 : RowOk K T1.cs CS C3 3 := { own := own9 o3_0 o3_1 o3_2 o3_3 o3_4 o3_5 o3_6 o3_7 o3_8, far1 := p1_3, far2 := p2_3, far3 := p3_3, scr := p4_3, val := p5_3, ex := E3, exm := PySem.W.exm_ref sS hS tS p6_3 }
  have W4 : RowOk K T1.cs CS C4 4 := { own := own9 o4_0 o4_1 o4_2 o4_3 o4_4 o4_5 o4_6 o4_7 o4_8, far1 := p1_4, far2 := p2_4, far3 := p3_4, scr := p4_4, val := p5_4, ex := E4, exm := PySem.W.exm_ref sS hS tS p6_4 }
  have W5 : RowOk K T1.cs CS C5 5 := { own := own9 o5_0 o5_1 o5_2 o5_3 o5_4 o5_5 o5_6 o5_7 o5_8, far1 := p1_5, far2 := p2_5, far3 := p3_5, scr := p4_5, val := p5_5, ex := E5, exm := PySem.W.exm_ref sS hS tS p6_5 }
  have W6 : RowOk K T1.cs CS C6 6 := { own := own9 o6_0 o6_1 o6_2 o6_3 o6_4 o6_5 o6_6 o6_7 o6_8, far1 := p1_6, far2 := p2_6, far3 := p3_6, scr := p4_6, val := p5_6, ex := E6, exm := PySem.W.exm_ref sS hS tS p6_6 }
  have W7 : RowOk K T1.cs CS C7 7 := { own := own9 o7_0 o7_1 o7_2 o7_3 o7_4 o7_5 o7_6 o7_7 o7_8, far1 := p1_7, far2 := p2_7, far3 := p3_7, scr := p4_7, val := p5_7, ex := E7, exm := PySem.W.exm_ref sS hS tS p6_7 }
  have W8 : RowOk K T1.cs CS C8 8 := { own := own9 o8_0 o8_1 o8_2 o8_3 o8_4 o8_5 o8_6 o8_7 o8_8, far1 := p1_8, far2 := p2_8, far3 := p3_8, scr := p4_8, val := p5_8, ex := E8, exm := PySem.W.exm_ref sS hS tS p6_8 }
  have row : ∀ i C, T1.cs[i]? = some C → RowOk K T1.cs CS C i := by
    intro i C hC
    rcases i with _ | _ | _ | _ | _ | _ | _ | _ | _ | i
    · cases hC; exact W0
    · cases hC; exact W1
    · cases hC; exact W2
    · cases hC; exact W3
    · cases hC; exact W4
    · cases hC; exact W5
    · cases hC; exact W6
    · cases hC; exact W7
    · cases hC; exact W8
    · cases hC
  let T : Tz K mg := { toTy := T1, CS := CS, mS := PySem.W.mg_of X G aS, nb_LookupError := PySem.W.mg_none_of X G z_LookupError, nb_ArithmeticError := PySem.W.mg_none_of X G z_ArithmeticError, nb_TypeError := PySem.W.mg_none_of X G z_TypeError, nb_RuntimeError := PySem.W.mg_none_of X G z_RuntimeError, nb_AttributeError := PySem.W.mg_none_of X G z_AttributeError, nb_ValueError := PySem.W.mg_none_of X G z_ValueError, aP := P, mP := PySem.W.mg_of X G aP, sP := fun _ => .inr ⟨_, itsP, nP, lP, rfl, rfl, zP, vP⟩, row := row }
  exact ⟨_, fun s v => .of_eq rfl, fun base _ _ => ok_law T T.d_law.F⟩
end K00
open PySem PySem.W PyProof.Rows in
set_option maxRecDepth 100000 in
set_option maxHeartbeats 0 in
theorem PySem.Challenge.cw_screwsums_k00_errors_keep_their_fields_holds : PySem.Challenge.rw_screwsums_k00_errors_keep_their_fields.Holds := by
  w_on; o_law; k_head; (case hw => w_witness2)
  k_fill
  refine SG.walkG (l := PySem.Challenge.rw_screwsums_k00_errors_keep_their_fields) (n := 63) (k := 5) (x := "script") (sp := K00.spLaw) rfl (by decide) rfl ⟨rfl, by decide, by decide⟩ (fun w h Y => PySem.W.kIn_of Y) ?F (fun _ _ a ns _ hS => ⟨a, ns, rfl, hS, fun _ => rfl⟩)
  case F =>
    intro w mg fa h KX G hmg
    refine' K00.all_mk KX G hmg ?aS ?sS ?hS ?tS ?hn ?ht ?aP ?lP ?zP ?vP ?z_int ?z_len ?z_abs ?z_str ?z_range ?z_repr ?z_isinstance ?z_bool ?z_LookupError ?z_ArithmeticError ?z_TypeError ?z_RuntimeError ?z_AttributeError ?z_ValueError ?aC0 ?xC0 ?rC0 ?saC0 ?exC0 ?tyC0 ?keC0 ?gaC0 ?ggC0 ?hdC0 ?haC0 ?hmC0 ?iCC0 ?tIC0 ?li0 ?ci0 ?ki0 ?noC0 ?aC1 ?xC1 ?rC1 ?saC1 ?exC1 ?tyC1 ?keC1 ?gaC1 ?ggC1 ?hdC1 ?haC1 ?hmC1 ?iCC1 ?tIC1 ?li1 ?ci1 ?ki1 ?noC1 ?aC2 ?xC2 ?rC2 ?saC2 ?exC2 ?tyC2 ?keC2 ?gaC2 ?ggC2 ?hdC2 ?haC2 ?hmC2 ?iCC2 ?tIC2 ?li2 ?ci2 ?ki2 ?noC2 ?aC3 ?xC3 ?rC3 ?saC3 ?exC3 ?tyC3 ?keC3 ?gaC3 ?ggC3 ?hdC3 ?haC3 ?hmC3 ?iCC3 ?tIC3 ?li3 ?ci3 ?ki3 ?noC3 ?aC4 ?xC4 ?rC4 ?saC4 ?exC4 ?tyC4 ?keC4 ?gaC4 ?ggC4 ?hdC4 ?haC4 ?hmC4 ?iCC4 ?tIC4 ?li4 ?ci4 ?ki4 ?noC4 ?aC5 ?xC5 ?rC5 ?saC5 ?exC5 ?tyC5 ?keC5 ?gaC5 ?ggC5 ?hdC5 ?haC5 ?hmC5 ?iCC5 ?tIC5 ?li5 ?ci5 ?ki5 ?noC5 ?aC6 ?xC6 ?rC6 ?saC6 ?exC6 ?tyC6 ?keC6 ?gaC6 ?ggC6 ?hdC6 ?haC6 ?hmC6 ?iCC6 ?tIC6 ?li6 ?ci6 ?ki6 ?noC6 ?aC7 ?xC7 ?rC7 ?saC7 ?exC7 ?tyC7 ?keC7 ?gaC7 ?ggC7 ?hdC7 ?haC7 ?hmC7 ?iCC7 ?tIC7 ?li7 ?ci7 ?ki7 ?noC7 ?aC8 ?xC8 ?rC8 ?saC8 ?exC8 ?tyC8 ?keC8 ?gaC8 ?ggC8 ?hdC8 ?haC8 ?hmC8 ?iCC8 ?tIC8 ?li8 ?ci8 ?ki8 ?n1C8 ?n2C8 ?o0_0 ?o0_1 ?o0_2 ?o0_3 ?o0_4 ?o0_5 ?o0_6 ?o0_7 ?o0_8 ?p1_0 ?p2_0 ?p3_0 ?p4_0 ?p5_0 ?p6_0 ?o1_0 ?o1_1 ?o1_2 ?o1_3 ?o1_4 ?o1_5 ?o1_6 ?o1_7 ?o1_8 ?p1_1 ?p2_1 ?p3_1 ?p4_1 ?p5_1 ?p6_1 ?o2_0 ?o2_1 ?o2_2 ?o2_3 ?o2_4 ?o2_5 ?o2_6 ?o2_7 ?o2_8 ?p1_2 ?p2_2 ?p3_2 ?p4_2 ?p5_2 ?p6_2 ?o3_0 ?o3_1 ?o3_2 ?o3_3 ?o3_4 ?o3_5 ?o3_6 ?o3_7 ?o3_8 ?p1_3 ?p2_3 ?p3_3 ?p4_3 ?p5_3 ?p6_3 ?o4_0 ?o4_1 ?o4_2 ?o4_3 ?o4_4 ?o4_5 ?o4_6 ?o4_7 ?o4_8 ?p1_4 ?p2_4 ?p3_4 ?p4_4 ?p5_4 ?p6_4 ?o5_0 ?o5_1 ?o5_2 ?o5_3 ?o5_4 ?o5_5 ?o5_6 ?o5_7 ?o5_8 ?p1_5 ?p2_5 ?p3_5 ?p4_5 ?p5_5 ?p6_5 ?o6_0 ?o6_1 ?o6_2 ?o6_3 ?o6_4 ?o6_5 ?o6_6 ?o6_7 ?o6_8 ?p1_6 ?p2_6 ?p3_6 ?p4_6 ?p5_6 ?p6_6 ?o7_0 ?o7_1 ?o7_2 ?o7_3 ?o7_4 ?o7_5 ?o7_6 ?o7_7 ?o7_8 ?p1_7 ?p2_7 ?p3_7 ?p4_7 ?p5_7 ?p6_7 ?o8_0 ?o8_1 ?o8_2 ?o8_3 ?o8_4 ?o8_5 ?o8_6 ?o8_7 ?o8_8 ?p1_8 ?p2_8 ?p3_8 ?p4_8 ?p5_8 ?p6_8 ?a_is_integer ?l_is_integer ?c_is_integer ?k_is_integer ?a_is_by ?l_is_by ?c_is_by ?k_is_by ?a_over ?l_over ?c_over ?k_over ?a_l_bowl ?l_l_bowl ?c_l_bowl ?k_l_bowl ?a_l_dip ?l_l_dip ?c_l_dip ?k_l_dip ?a_l_choose ?l_l_choose ?c_l_choose ?k_l_choose ?a_l_value ?l_l_value ?c_l_value ?k_l_value ?a_l_by_place ?l_l_by_place ?c_l_by_place ?k_l_by_place ?a_l_by_name ?l_l_by_name ?c_l_by_name ?k_l_by_name ?a_l_flags ?l_l_flags ?c_l_flags ?k_l_flags ?a_l_caught ?l_l_caught ?c_l_caught ?k_l_caught ?a_law ?l_law ?c_law ?k_law
    (case aS => k_is)
    (case sS => k_is)
    (case hS => k_is)
    (case tS => k_is)
    (case hn => k_is)
    (case ht => k_is)
    (case aP => k_is)
    (case lP => k_is)
    (case zP => (decide +kernel))
    (case vP => exact .cons ⟨_, rfl⟩ (.cons ⟨_, rfl⟩ (.cons ⟨_, rfl⟩ (.cons ⟨_, rfl⟩ (.cons ⟨_, rfl⟩ (.cons ⟨_, rfl⟩ .nil))))))
    (case z_int => k_is)
    (case z_len => k_is)
    (case z_abs => k_is)
    (case z_str => k_is)
    (case z_range => k_is)
    (case z_repr => k_is)
    (case z_isinstance => k_is)
    (case z_bool => k_is)
    (case z_LookupError => k_is)
    (case z_ArithmeticError => k_is)
    (case z_TypeError => k_is)
    (case z_RuntimeError => k_is)
    (case z_AttributeError => k_is)
    (case z_ValueError => k_is)
    (case aC0 => k_is)
    (case xC0 => k_is)
    (case rC0 => (decide +kernel))
    (case saC0 => k_is)
    (case exC0 => k_is)
    (case tyC0 => k_is)
    (case keC0 => k_is)
    (case gaC0 => k_is)
    (case ggC0 => k_is)
    (case hdC0 => k_is)
    (case haC0 => k_is)
    (case hmC0 => k_is)
    (case iCC0 => k_is)
    (case tIC0 => k_is)
    (case li0 => k_is)
    (case ci0 => k_is)
    (case ki0 => k_is)
    (case noC0 => k_is)
    (case aC1 => k_is)
    (case xC1 => k_is)
    (case rC1 => (decide +kernel))
    (case saC1 => k_is)
    (case exC1 => k_is)
    (case tyC1 => k_is)
    (case keC1 => k_is)
    (case gaC1 => k_is)
    (case ggC1 => k_is)
    (case hdC1 => k_is)
    (case haC1 => k_is)
    (case hmC1 => k_is)
    (case iCC1 => k_is)
    (case tIC1 => k_is)
    (case li1 => k_is)
    (case ci1 => k_is)
    (case ki1 => k_is)
    (case noC1 => k_is)
    (case aC2 => k_is)
    (case xC2 => k_is)
    (case rC2 => (decide +kernel))
    (case saC2 => k_is)
    (case exC2 => k_is)
    (case tyC2 => k_is)
    (case keC2 => k_is)
    (case gaC2 => k_is)
    (case ggC2 => k_is)
    (case hdC2 => k_is)
    (case haC2 => k_is)
    (case hmC2 => k_is)
    (case iCC2 => k_is)
    (case tIC2 => k_is)
    (case li2 => k_is)
    (case ci2 => k_is)
    (case ki2 => k_is)
    (case noC2 => k_is)
    (case aC3 => k_is)
    (case xC3 => k_is)
    (case rC3 => (decide +kernel))
    (case saC3 => k_is)
    (case exC3 => k_is)
    (case tyC3 => k_is)
    (case keC3 => k_is)
    (case gaC3 => k_is)
    (case ggC3 => k_is)
    (case hdC3 => k_is)
    (case haC3 => k_is)
    (case hmC3 => k_is)
    (case iCC3 => k_is)
    (case tIC3 => k_is)
    (case li3 => k_is)
    (case ci3 => k_is)
    (case ki3 => k_is)
    (case noC3 => k_is)
    (case aC4 => k_is)
    (case xC4 => k_is)
    (case rC4 => (decide +kernel))
    (case saC4 => k_is)
    (case exC4 => k_is)
    (case tyC4 => k_is)
    (case keC4 => k_is)
    (case gaC4 => k_is)
    (case ggC4 => k_is)
    (case hdC4 => k_is)
    (case haC4 => k_is)
    (case hmC4 => k_is)
    (case iCC4 => k_is)
    (case tIC4 => k_is)
    (case li4 => k_is)
    (case ci4 => k_is)
    (case ki4 => k_is)
    (case noC4 => k_is)
    (case aC5 => k_is)
    (case xC5 => k_is)
    (case rC5 => (decide +kernel))
    (case saC5 => k_is)
    (case exC5 => k_is)
    (case tyC5 => k_is)
    (case keC5 => k_is)
    (case gaC5 => k_is)
    (case ggC5 => k_is)
    (case hdC5 => k_is)
    (case haC5 => k_is)
    (case hmC5 => k_is)
    (case iCC5 => k_is)
    (case tIC5 => k_is)
    (case li5 => k_is)
    (case ci5 => k_is)
    (case ki5 => k_is)
    (case noC5 => k_is)
    (case aC6 => k_is)
    (case xC6 => k_is)
    (case rC6 => (decide +kernel))
    (case saC6 => k_is)
    (case exC6 => k_is)
    (case tyC6 => k_is)
    (case keC6 => k_is)
    (case gaC6 => k_is)
    (case ggC6 => k_is)
    (case hdC6 => k_is)
    (case haC6 => k_is)
    (case hmC6 => k_is)
    (case iCC6 => k_is)
    (case tIC6 => k_is)
    (case li6 => k_is)
    (case ci6 => k_is)
    (case ki6 => k_is)
    (case noC6 => k_is)
    (case aC7 => k_is)
    (case xC7 => k_is)
    (case rC7 => (decide +kernel))
    (case saC7 => k_is)
    (case exC7 => k_is)
    (case tyC7 => k_is)
    (case keC7 => k_is)
    (case gaC7 => k_is)
    (case ggC7 => k_is)
    (case hdC7 => k_is)
    (case haC7 => k_is)
    (case hmC7 => k_is)
    (case iCC7 => k_is)
    (case tIC7 => k_is)
    (case li7 => k_is)
    (case ci7 => k_is)
    (case ki7 => k_is)
    (case noC7 => k_is)
    (case aC8 => k_is)
    (case xC8 => k_is)
    (case rC8 => (decide +kernel))
    (case saC8 => k_is)
    (case exC8 => k_is)
    (case tyC8 => k_is)
    (case keC8 => k_is)
    (case gaC8 => k_is)
    (case ggC8 => k_is)
    (case hdC8 => k_is)
    (case haC8 => k_is)
    (case hmC8 => k_is)
    (case iCC8 => k_is)
    (case tIC8 => k_is)
    (case li8 => k_is)
    (case ci8 => k_is)
    (case ki8 => k_is)
    (case n1C8 => k_is)
    (case n2C8 => k_is)
    (case o0_0 => kit_is)
    (case o0_1 => kit_is)
    (case o0_2 => kit_is)
    (case o0_3 => kit_is)
    (case o0_4 => kit_is)
    (case o0_5 => kit_is)
    (case o0_6 => kit_is)
    (case o0_7 => kit_is)
    (case o0_8 => kit_is)
    (case p1_0 => kit_is)
    (case p2_0 => kit_is)
    (case p3_0 => kit_is)
    (case p4_0 => kit_is)
    (case p5_0 => kit_is)
    (case p6_0 => k_is)
    (case o1_0 => kit_is)
    (case o1_1 => kit_is)
    (case o1_2 => kit_is)
    (case o1_3 => kit_is)
    (case o1_4 => kit_is)
    (case o1_5 => kit_is)
    (case o1_6 => kit_is)
    (case o1_7 => kit_is)
    (case o1_8 => kit_is)
    (case p1_1 => kit_is)
    (case p2_1 => kit_is)
    (case p3_1 => kit_is)
    (case p4_1 => kit_is)
    (case p5_1 => kit_is)
    (case p6_1 => k_is)
    (case o2_0 => kit_is)
    (case o2_1 => kit_is)
    (case o2_2 => kit_is)
    (case o2_3 => kit_is)
    (case o2_4 => kit_is)
    (case o2_5 => kit_is)
    (case o2_6 => kit_is)
    (case o2_7 => kit_is)
    (case o2_8 => kit_is)
    (case p1_2 => kit_is)
    (case p2_2 => kit_is)
    (case p3_2 => kit_is)
    (case p4_2 => kit_is)
    (case p5_2 => kit_is)
    (case p6_2 => k_is)
    (case o3_0 => kit_is)
    (case o3_1 => kit_is)
    (case o3_2 => kit_is)
    (case o3_3 => kit_is)
    (case o3_4 => kit_is)
    (case o3_5 => kit_is)
    (case o3_6 => kit_is)
    (case o3_7 => kit_is)
    (case o3_8 => kit_is)
    (case p1_3 => kit_is)
    (case p2_3 => kit_is)
    (case p3_3 => kit_is)
    (case p4_3 => kit_is)
    (case p5_3 => kit_is)
    (case p6_3 => k_is)
    (case o4_0 => kit_is)
    (case o4_1 => kit_is)
    (case o4_2 => kit_is)
    (case o4_3 => kit_is)
    (case o4_4 => kit_is)
    (case o4_5 => kit_is)
    (case o4_6 => kit_is)
    (case o4_7 => kit_is)
    (case o4_8 => kit_is)
    (case p1_4 => kit_is)
    (case p2_4 => kit_is)
    (case p3_4 => kit_is)
    (case p4_4 => kit_is)
    (case p5_4 => kit_is)
    (case p6_4 => k_is)
    (case o5_0 => kit_is)
    (case o5_1 => kit_is)
    (case o5_2 => kit_is)
    (case o5_3 => kit_is)
    (case o5_4 => kit_is)
    (case o5_5 => kit_is)
    (case o5_6 => kit_is)
    (case o5_7 => kit_is)
    (case o5_8 => kit_is)
    (case p1_5 => kit_is)
    (case p2_5 => kit_is)
    (case p3_5 => kit_is)
    (case p4_5 => kit_is)
    (case p5_5 => kit_is)
    (case p6_5 => k_is)
    (case o6_0 => kit_is)
    (case o6_1 => kit_is)
    (case o6_2 => kit_is)
    (case o6_3 => kit_is)
    (case o6_4 => kit_is)
    (case o6_5 => kit_is)
    (case o6_6 => kit_is)
    (case o6_7 => kit_is)
    (case o6_8 => kit_is)
    (case p1_6 => kit_is)
    (case p2_6 => kit_is)
    (case p3_6 => kit_is)
    (case p4_6 => kit_is)
    (case p5_6 => kit_is)
    (case p6_6 => k_is)
    (case o7_0 => kit_is)
    (case o7_1 => kit_is)
    (case o7_2 => kit_is)
    (case o7_3 => kit_is)
    (case o7_4 => kit_is)
    (case o7_5 => kit_is)
    (case o7_6 => kit_is)
    (case o7_7 => kit_is)
    (case o7_8 => kit_is)
    (case p1_7 => kit_is)
    (case p2_7 => kit_is)
    (case p3_7 => kit_is)
    (case p4_7 => kit_is)
    (case p5_7 => kit_is)
    (case p6_7 => k_is)
    (case o8_0 => kit_is)
    (case o8_1 => kit_is)
    (case o8_2 => kit_is)
    (case o8_3 => kit_is)
    (case o8_4 => kit_is)
    (case o8_5 => kit_is)
    (case o8_6 => kit_is)
    (case o8_7 => kit_is)
    (case o8_8 => kit_is)
    (case p1_8 => kit_is)
    (case p2_8 => kit_is)
    (case p3_8 => kit_is)
    (case p4_8 => kit_is)
    (case p5_8 => kit_is)
    (case p6_8 => k_is)
    (case a_is_integer => k_is)
    (case l_is_integer => k_is)
    (case c_is_integer => k_is)
    (case k_is_integer => k_is)
    (case a_is_by => k_is)
    (case l_is_by => k_is)
    (case c_is_by => k_is)
    (case k_is_by => k_is)
    (case a_over => k_is)
    (case l_over => k_is)
    (case c_over => k_is)
    (case k_over => k_is)
    (case a_l_bowl => k_is)
    (case l_l_bowl => k_is)
    (case c_l_bowl => k_is)
    (case k_l_bowl => k_is)
    (case a_l_dip => k_is)
    (case l_l_dip => k_is)
    (case c_l_dip => k_is)
    (case k_l_dip => k_is)
    (case a_l_choose => k_is)
    (case l_l_choose => k_is)
    (case c_l_choose => k_is)
    (case k_l_choose => k_is)
    (case a_l_value => k_is)
    (case l_l_value => k_is)
    (case c_l_value => k_is)
    (case k_l_value => k_is)
    (case a_l_by_place => k_is)
    (case l_l_by_place => k_is)
    (case c_l_by_place => k_is)
    (case k_l_by_place => k_is)
    (case a_l_by_name => k_is)
    (case l_l_by_name => k_is)
    (case c_l_by_name => k_is)
    (case k_l_by_name => k_is)
    (case a_l_flags => k_is)
    (case l_l_flags => k_is)
    (case c_l_flags => k_is)
    (case k_l_flags => k_is)
    (case a_l_caught => k_is)
    (case l_l_caught => k_is)
    (case c_l_caught => k_is)
    (case k_l_caught => k_is)
    (case a_law => k_is)
    (case l_law => k_is)
    (case c_law => k_is)
    (case k_law => k_is)
