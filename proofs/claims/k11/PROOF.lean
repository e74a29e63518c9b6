import PyProof.Rows.All
import Wide.All
import OpenK.AllK
import Wide.FinOn
import HandS.ForMost
import HandS.EndBits
import HandS.Wide
import HandS.Exc
import HandS.ExcOwn
import KE.KIsAll
import HandS.ExcInit
import HandS.ExcIs
import HandS.ExcField
import HandS.ExcValue
import HandS.IsInst
import HandS.Defaults
import HandS.MakeKwOnly
import HandS.More
import PySem.Challenge.RW_screwsums_k11_papers_of_goals_bent
import HandS.Walk
import HandS.Gcd
import PyProof.IsiBase
import HandS.Star
import HandS.WordsExc
import HandS.Zip
import KE.KDictZip
import KE.KStar
import HandS.Style
import HandS.Lambda
import HandS.EndTab
import KE.KNestM
import KE.KLam
import KE.RegKIsAll
set_option Elab.async false
set_option linter.all false
set_option maxRecDepth 100000
set_option maxHeartbeats 4000000
/-! A def whose promise may lean on this: no builtin that guards itself (a repr of a list, say) is at work around it. -/
namespace SG
open PySem PySem.Spec PyProof.Rows L2

/-- as L2's FnOk, where nothing guarded runs around -/
structure FnG (P : Program) (w : World) (K : PySem.W.Frag) (mg : Str → Option Value) (base : Heap)
    (CX : CXT) (k : Nat) (f : Addr) (fd : FuncData) (ps : List Str) (sp : Sp) : Prop where
  len : ∀ vs H Q E, sp vs H Q E → vs.length = ps.length
  run : ∀ (A : Around) (outer : List Env) (s : Shared) (H : Hp) (args : Args) (us : List Value) (vs : List V) (Q : VK) (E : XK),
    A.guards = some [] → Room k A → Env0 P w K mg base A outer s H → BindsTo s fd args (ps.zip us) → Vals vs us →
    sp vs H Q E → codeAny (model P w) A (.call (.ref f) args) (CR CX outer P w H s Q E) s

section
variable {P : Program} {w : World} {K : PySem.W.Frag} {mg : Str → Option Value} {base : Heap}
  {CX : CXT} {k : Nat} {f : Addr} {fd : FuncData} {ps : List Str} {sp : Sp}
theorem FnG.of (F : FnOk P w K mg base CX k f fd ps sp) : FnG P w K mg base CX k f fd ps sp :=
  ⟨F.len, fun A o s H a us vs Q E _ hr => F.run A o s H a us vs Q E hr⟩
theorem FnG.mono {j : Nat} (F : FnG P w K mg base CX j f fd ps sp) (h : j ≤ k) : FnG P w K mg base CX k f fd ps sp :=
  ⟨F.len, fun A o s H a us vs Q E hg hr => F.run A o s H a us vs Q E hg (hr.mono h)⟩

/-- from a def's text to its promise, the guards handed to the body -/
theorem fnG_of {x qual : Str} {st : Stmt} {N : List Str} (F : Fun K x qual st f fd) (S : FnScope N ps (defScope st))
    (len : ∀ vs H Q E, sp vs H Q E → vs.length = ps.length)
    (hbody : ∀ (cdv : Value) (A : Around) (outer : List Env) (s : Shared) (H : Hp) (vs : List V) (Q : VK) (E : XK),
      A.guards = some [] → Room k (A.deeper (envOfC qual (defScope st) s.heap.objs.size f cdv)) → sp vs H Q E →
      ∃ t, PSs (cxOf CX P w K mg base N qual (defScope st) f cdv A outer s H E) (defBody st) t ∧
        t { nx := fun _ H' => Q .non H', rt := Q } (start N vs) H) :
    FnG P w K mg base CX (k + 1) f fd ps sp := by
  obtain ⟨oc, od, kV, doc, pm, an, cdv, ct, osl, rfl, lk, hcd⟩ := F.ex
  refine ⟨len, ?_⟩
  intro A outer s H args us vs Q E hgd hr e0 hb r hsp
  have hlen := len _ _ _ _ hsp
  have old : ∀ b o, base.get? b = some o → s.heap.get? b = some o := fun b o e => (e0.bs b o e).1
  have KX : K.In s.heap := e0.mod.kin.keeps old
  have lim : s.heap.NoLimit := e0.mod.nolimit.keeps old
  refine codeAny_call_function hr.depth (KX _ _ lk) rfl S.co S.gen rfl (PySem.W.codeRec_of KX hcd) (hb _ _ _ _ ?_)
  refine wpAny_newFunctionEnv_cells S.kind ?_ ?_
  · rintro ⟨n, v⟩ hy
    rcases S.par n (List.of_mem_zip hy).1 with q | q
    · exact .inl q
    · exact .inr ⟨q, PySem.W.cellsFrom_some _ _ _ (.inl q)⟩
  · intro env he s1 x
    subst he
    refine ⟨lim.keeps x.toInCall.keep, codeAny_func ?_⟩
    obtain ⟨t, ht, hq⟩ := hbody cdv A outer s H vs Q E hgd (hr.deeper _) hsp
    have I := inv_start (CX := CX) (E := E) S hr.hd e0 hlen r x
    refine wpAny_mono (ht.run [] s1 (start N vs) H _ I hq) ?_ (fun e s' hs => hs)
    intro fl s' hs
    cases fl with
    | ret u =>
      obtain ⟨v, σ', H', J, rv, q⟩ := hs
      exact ⟨v, H', J.os, J.bare, J.base, J.hok, rv, q⟩
    | next =>
      obtain ⟨σ', H', J, q⟩ := hs
      exact ⟨V.non, H', J.os, J.bare, J.base, J.hok, rfl, q⟩
    | brk =>
      obtain ⟨_, _, _, q⟩ := hs
      exact q.elim
    | cont =>
      obtain ⟨_, _, _, q⟩ := hs
      exact q.elim
end

section
variable {X : Cx} {CX : CXT} {k : Nat} {f : Addr} {fd : FuncData} {ps : List Str} {sp : Sp} {dvs : List V} {ds : List Value} {E : XK}
  {x : Str} {p pos : Pos} {e : Expr} {es : List Expr} {t : TA}
theorem run_g {pins : List (Addr × Obj)} {σ : L2.St} {H : Hp} {s : Shared} {Q : VK} {us : List Value} {vs : List V}
    (F : FnG X.prog X.w X.K X.mg X.base CX k f fd ps sp) (hg : X.A.guards = some []) (hr : Room k X.A) (hb : Binds X.K fd ps ds)
    (hd : Vals dvs ds) (hx : Passes CX X E) (I : Inv X pins σ H s) (r : Vals vs us) (h : sp (vs ++ dvs) H Q E) :
    wpAny (model X.prog X.w) X.A (call (.ref f) us) (EP X pins σ Q) X.xe s := by
  have r2 : Vals (vs ++ dvs) (us ++ ds) := r.append hd
  have hl : (us ++ ds).length = ps.length := r2.length.symm.trans (F.len _ _ _ _ h)
  refine wpAny_call (codeAny_mono (F.run X.A X.stack s H ⟨us, []⟩ _ _ Q E hg hr I.env0 (hb s us I.kIn hl) r2 h) ?_)
  intro r s' hq
  cases r with
  | error e => exact hx pins σ H s e s' I hq
  | ok fl => cases fl with
    | ret u => exact I.after hq
    | next => exact hq.elim
    | brk => exact hq.elim
    | cont => exact hq.elim
/-- f(e, ..), f's promise leaning on the guards -/
theorem pe_callG (F : FnG X.prog X.w X.K X.mg X.base CX k f fd ps sp) (hgd : X.A.guards = some []) (hr : Room k X.A) (hg : Gl X x)
    (hm : X.mg x = some (.ref f)) (hk : PySem.W.keepIn X.K (.ref f) = true) (hb : Binds X.K fd ps ds) (hd : Vals dvs ds) (hx : Passes CX X E)
    (ha : PA X (e :: es) t) (hdb : (x == ("__debug__" : Str)) = false := by decide)
    (he : starEach (e :: es) X.env = (false, eval e X.env) :: starEach es X.env := by rfl)
    (hpl : (backTo pos (starEach es X.env)).any (·.1) = false := by rfl) :
    PE X (.Call (.Name x p) (e :: es) [] pos) (tCall sp dvs E t) := by
  refine ⟨fun pins s σ H Q I h => wpAny_Call_Name_kw (ld_glob I hg hm ?_ hdb)⟩
  refine PySem.W.callWith_K (h₀ := X.base) I.ok.mod.kin hk ?_ he hpl
  refine thn (ha.run pos pins s σ H _ I h) ?_
  rintro us s1 ⟨vs, H1, I1, r, q⟩
  exact ⟨I1.kIn, run_g F hgd hr hb hd hx I1 r q⟩
end

/-! ### repr of data: None, bools, ints, texts, lists, tuples, dicts of these -/
mutual
/-- what stands at a value, as data -/
inductive Dv (K : PySem.W.Frag) (H : Hp) : V → PyData → Prop
  | non : Dv K H .non .none
  | bl (b : Bool) : Dv K H (.bl b) (.bool b)
  | int (i : Int) : Dv K H (.int i) (.int i)
  | str (x : Str) : Dv K H (.str x) (.str x)
  | lst {a : Addr} {xs : List V} {ds : List PyData} : 1 < a → SqL K H a xs → DvAll K H xs ds → Dv K H (.ref a) (.list ds)
  | tup {a : Addr} {xs : List V} {ds : List PyData} : SqT K H a xs → DvAll K H xs ds → Dv K H (.ref a) (.tuple ds)
  | dic {a : Addr} {k : Int} {v : V} {d : PyData} : H a = some (.dK [(.inl k, v)]) → Dv K H v d → Dv K H (.ref a) (.dict [(.int k, d)])
inductive DvAll (K : PySem.W.Frag) (H : Hp) : List V → List PyData → Prop
  | nil : DvAll K H [] []
  | cons {v : V} {vs : List V} {d : PyData} {ds : List PyData} : Dv K H v d → DvAll K H vs ds → DvAll K H (v :: vs) (d :: ds)
end

section
variable {X : Cx} {pins : List (Addr × Obj)} {σ : L2.St} {H : Hp} {s : Shared}
mutual
theorem Dv.reads (I : Inv X pins σ H s) : ∀ (d : PyData) (v : V) (u : Value), Dv X.K H v d → RelV v u → ∃ as, Reads s.heap u d as ∧ sysModules ∉ as
  | .none, _, _, h, r => by
    cases h; cases r
    exact ⟨_, .none, List.not_mem_nil⟩
  | .bool b, _, _, h, r => by
    cases h; cases r
    exact ⟨_, .bool b, List.not_mem_nil⟩
  | .int i, _, _, h, r => by
    cases h
    obtain ⟨t, rfl⟩ := r
    exact ⟨_, .int i t, List.not_mem_nil⟩
  | .str x, _, _, h, r => by
    cases h
    obtain ⟨t, rfl⟩ := r
    exact ⟨_, .str x t, List.not_mem_nil⟩
  | .list ds, _, _, h, r => by
    cases h with
    | lst hn hs ha =>
      cases r
      obtain ⟨its, rv, ⟨o, n, ho, hc, _, hd⟩, _⟩ := I.list hs
      obtain ⟨as, hr, hm⟩ := Dv.readsAll I ds _ its ha rv
      refine ⟨_, .list ho hc hd hr, fun z => ?_⟩
      rcases List.mem_cons.mp z with e | z
      · rw [← e] at hn; exact absurd hn (by decide)
      · exact hm z
  | .tuple ds, _, _, h, r => by
    cases h with
    | tup hs ha =>
      cases r
      obtain ⟨its, rv, ⟨o, ho, hc, n, hd⟩, _⟩ := I.tuple hs
      obtain ⟨as, hr, hm⟩ := Dv.readsAll I ds _ its ha rv
      exact ⟨_, .tuple ho hc hd hr, hm⟩
  | .dict [], _, _, h, _ => by cases h
  | .dict [(.int n, d)], _, _, h, r => by
    cases h with
    | dic hs hv =>
      cases r
      obtain ⟨_, hsm, vs, kv, o, es, ep, ho, hx, hd, _, hp, hnd⟩ := dk_of I.hok hs
      clear hnd
      match vs, kv with
      | [(q1, q2)], .cons qq .nil =>
        obtain ⟨e1, rv⟩ := qq
        obtain ⟨l⟩ := es
        have hp' : Pairs (mixKind X.prog X.w) l [(q1, q2)] := hp
        cases hp' with
        | @cons e0 _ _ _ k1 k2 k3 =>
          cases k3
          have e1' : Sum.inl _ = q1 := e1
          subst e1'
          have hk : keyIs (.inl _) e0.key = true := k1
          obtain ⟨i, t, z1, z2⟩ | ⟨x, t, z1, z2⟩ := keyIs_shape hk
          · cases z1
            have k2' : e0.val = q2 := k2
            obtain ⟨as, hr, hm⟩ := Dv.reads I d _ _ hv rv
            have f1 : Reads s.heap e0.key (PyData.int n) [] := by
              rw [z2]; exact .int n t
            have f2 : Reads s.heap e0.val d as := k2'.symm ▸ hr
            refine ⟨_, .dict ho hx.1 hd (.cons f1 .nil) (.cons f2 .nil), fun z => ?_⟩
            rw [List.append_nil, List.append_nil] at z
            rcases List.mem_cons.mp z with e | z'
            · rw [← e] at hsm; exact absurd hsm (by decide)
            · exact hm z'
          · cases z1
  | .dict [(.none, _)], _, _, h, _ => by cases h
  | .dict [(.bool _, _)], _, _, h, _ => by cases h
  | .dict [(.str _, _)], _, _, h, _ => by cases h
  | .dict [(.list _, _)], _, _, h, _ => by cases h
  | .dict [(.tuple _, _)], _, _, h, _ => by cases h
  | .dict [(.dict _, _)], _, _, h, _ => by cases h
  | .dict (_ :: _ :: _), _, _, h, _ => by cases h
theorem Dv.readsAll (I : Inv X pins σ H s) : ∀ (ds : List PyData) (vs : List V) (us : List Value), DvAll X.K H vs ds → Vals vs us → ∃ as, ReadsAll s.heap us ds as ∧ sysModules ∉ as
  | [], _, _, h, r => by
    cases h; cases r
    exact ⟨_, .nil, List.not_mem_nil⟩
  | d :: ds, _, _, h, r => by
    cases h with
    | cons h1 h2 =>
      cases r with
      | cons r1 r2 =>
        obtain ⟨as, q1, m1⟩ := Dv.reads I d _ _ h1 r1
        obtain ⟨bs, q2, m2⟩ := Dv.readsAll I ds _ _ h2 r2
        exact ⟨_, .cons q1 q2, fun z => (List.mem_append.mp z).elim m1 m2⟩
end
end
/-- repr(v), v data -/
def rRepr (K : PySem.W.Frag) : List V → Hp → VK → Prop := fun xs H Q =>
  ∃ v d, xs = [v] ∧ Dv K H v d ∧ d.showable = true ∧ d.shown.length ≤ sizeLine ∧ d.depth ≤ 60 ∧ Q (.str d.shown) H
theorem call_repr {X : Cx} (hg : X.A.guards = some []) (hu : X.A.units + 64 < cLine) : CallR X (.builtin "repr") (rRepr X.K) := by
  intro pins s σ H xs us Q I r h
  obtain ⟨v, d, rfl, hv, h1, h2, h3, q⟩ := h
  obtain ⟨u, rfl, ru⟩ := vals1 r
  obtain ⟨as, hr, hm⟩ := Dv.reads I d v u hv ru
  have big : ∀ {a : Addr}, u = .ref a → wpAny (model X.prog X.w) X.A (call (.builtin "repr") [u]) (EP X pins σ Q) X.xe s := by
    intro a e
    subst e
    exact repr_of_reads' hr h1 (fun _ => hm) hg (by omega) (fun _ _ e => e) (fun h' t tk k => ⟨.str d.shown, H, I.kept k, ⟨_, rfl⟩, q⟩) h2
  cases hr with
  | none => exact PySem.P.repr_of_none ⟨.str _, H, I.tok _, ⟨_, rfl⟩, by simpa only [PyData.shown] using q⟩
  | bool b => exact PySem.P.repr_of_bool ⟨.str _, H, I.tok _, ⟨_, rfl⟩, by simpa only [PyData.shown] using q⟩
  | int i t => exact PySem.P.repr_of_int (by simpa [PyData.showable] using h1) ⟨.str _, H, I.tok _, ⟨_, rfl⟩, by simpa only [PyData.shown] using q⟩
  | str x t => exact PySem.P.repr_of_str ⟨.str _, H, I.tok _, ⟨_, rfl⟩, by simpa only [PyData.shown] using q⟩ (by simpa only [PyData.shown] using h2)
  | list _ _ _ _ => exact big rfl
  | tuple _ _ _ _ => exact big rfl
  | dict _ _ _ _ _ => exact big rfl

/-- a list of written items, its place told to lie behind sys.modules -/
def tLstB (t : TA) : TE := fun σ H Q => t σ H fun xs H1 => xs.length ≤ sizeLine ∧ ∀ p, H1 p = none → 1 < p → Q (.ref p) (upd H1 p (.lst xs))
theorem pe_lstB {X : Cx} {es : List Expr} {t : TA} {pos : Pos} (h : PA X es t) : PE X (.List es pos) (tLstB t) := by
  refine ⟨fun pins s σ H Q I hq => wpAny_List_spliced (thn (h.run pos pins s σ H _ I hq) ?_)⟩
  rintro us s1 ⟨xs, H1, I1, r, z, q⟩
  refine ⟨r.length ▸ z, ?_⟩
  have hf := I1.hok.fresh (Nat.le_refl s1.heap.objs.size)
  have big : 1 < s1.heap.objs.size := I1.big
  refine ⟨.ref s1.heap.objs.size, upd H1 s1.heap.objs.size (.lst xs), I1.laid (t' := s1.toks) (fun b u e => Heap.get?_push_of_some _ e) (Nat.le_refl _) ?_, rfl, q _ hf big⟩
  exact ⟨z, us, 0, r, Heap.get?_push_size _ rfl⟩
end SG

set_option Elab.async false
set_option linter.all false
set_option maxRecDepth 100000
set_option maxHeartbeats 4000000
/-! Errors of the program's own classes as values: made by a call, kept behind an except suite, asked for their class and their fields. -/
namespace SG
open PySem PySem.Spec PyProof.Rows L2

/-! ### an error object, whatever its record holds -/
def exv (e : Addr) (cls : Value) (d : Option Addr) : HO := .ext fun h => ∃ (o : Obj) (vs : Array Value), h.get? e = some o ∧ Zc cls d o ∧ o.data = .fields vs
theorem exv_ok {P : Program} {w : World} {H : Hp} {h : Heap} {e : Addr} {cls : Value} {d : Option Addr} {o : Obj} {vs : Array Value}
    (he : h.get? e = some o) (hz : Zc cls d o) (hd : o.data = .fields vs) : ObjOk P w H h e (exv e cls d) := by
  refine ⟨⟨o, vs, he, hz, hd⟩, ⟨o, he⟩, ?_⟩
  rintro h1 h2 ⟨o', v', q, r⟩ k
  exact ⟨o', v', k _ q, r⟩
theorem exv_at {P : Program} {w : World} {H : Hp} {h : Heap} {e : Addr} {cls : Value} {d : Option Addr} (ok : HOk P w H h) (q : H e = some (exv e cls d)) :
    ∃ (o : Obj) (vs : Array Value), h.get? e = some o ∧ Zc cls d o ∧ o.data = .fields vs := by
  have x : ObjOk P w H h e (.ext fun h => ∃ (o : Obj) (vs : Array Value), h.get? e = some o ∧ Zc cls d o ∧ o.data = .fields vs) := ok e _ q
  exact x.1
/-- an error of the class at C stands at e, its dict at d: as it was made, or behind a try -/
def ExAt (H : Hp) (e C : Addr) (d : Option Addr) : Prop := H e = some (exo e C d) ∨ H e = some (exv e (.ref C) d)
theorem ExAt.get {P : Program} {w : World} {H : Hp} {h : Heap} {e C : Addr} {d : Option Addr} (x : ExAt H e C d) (ok : HOk P w H h) :
    ∃ (o : Obj) (vs : Array Value), h.get? e = some o ∧ Zc (.ref C) d o ∧ o.data = .fields vs := by
  rcases x with x | x
  · obtain ⟨t, q⟩ := exo_at ok x
    exact ⟨_, _, q, ⟨rfl, rfl⟩, rfl⟩
  · exact exv_at ok x
theorem ExAt.there {H : Hp} {e C : Addr} {d : Option Addr} (x : ExAt H e C d) : ∃ o, H e = some o := x.elim (fun q => ⟨_, q⟩) fun q => ⟨_, q⟩
theorem ExAt.same {H H' : Hp} {e C : Addr} {d : Option Addr} (s : ∀ o, H e = some o → H' e = some o) (x : ExAt H e C d) : ExAt H' e C d := x.imp (s _) (s _)
/-- its fields stand at d -/
def ExD (H : Hp) (d : Addr) (fs : List (Str × V)) : Prop := H d = some (exd d fs) ∨ H d = some (.xd fs)
theorem ExD.get {P : Program} {w : World} {H : Hp} {h : Heap} {d : Addr} {fs : List (Str × V)} (x : ExD H d fs) (ok : HOk P w H h) :
    ∃ mA, h.Ns1 d mA ∧ ∀ f, RelO (fs.lookup f) (mA f) := by
  rcases x with x | x
  · exact exd_at ok x
  · exact ok d _ x
theorem ExD.same {H H' : Hp} {d : Addr} {fs : List (Str × V)} (s : ∀ o, H d = some o → H' d = some o) (x : ExD H d fs) : ExD H' d fs := x.imp (s _) (s _)

/-! ### isinstance -/
section
variable {prog : Program} {w : World} {A : Around} {E : Value → Shared → Prop} {s : Shared} {K : PySem.W.Frag} {x D : Addr} {ox : Obj} {od : Option Obj}
open PySem.W PySem.Calls in
theorem found_class {attr g : Value} {name : Str} (hc : (clsIn K D).isSome = true) (ha : findIn K (.ref D) name = some (some attr))
    (hg : specialIn K attr "__get__" = some (some g)) (ht : takesIn K attr = some true) : findObj K D od name = some (.bind g attr) := by
  cases hcd : clsIn K D with
  | none =>
    rw [hcd] at hc
    cases hc
  | some cd =>
    unfold findObj
    rw [hcd, Option.bind_some, ha, Option.bind_some]
    simp [hg, ht]
open PySem.W PySem.Calls in
theorem ask_class {Q : Option Value → Shared → Prop} (C : ExcC K D) (X : K.In s.heap) (I : PySem.W.InstAt s.heap x ox D od)
    (h : Q (some (.ref D)) { s with toks := s.toks + 1 }) : wpAny (model prog w) A (getAttr? (.ref x) "__class__") Q E s := by
  have some_cls : (clsIn K D).isSome = true := by
    obtain ⟨cd, hc, _⟩ := any_some C.hd
    rw [hc]; rfl
  have hf := found_class (od := od) some_cls C.ha C.hn C.ht
  obtain ⟨hp, g, d, t, os⟩ := s
  have aT := I.type (M := model prog w)
  have aG := looks_findIn (M := model prog w) X C.hg
  have aA := looks_findIn (M := model prog w) X C.hk
  have aF := looks_find (M := model prog w) X I hf
  have base : Looks (model prog w) hp (isInstance (.ref x) (.type "BaseException")) true := aT.andThen (looks_subIn X C.hs)
  have notObj : (Value.builtin "BaseException.__getattribute__" == Value.builtin "object.__getattribute__") = false := by decide +kernel
  have notObj' : (onTheHeap (Value.ref D) && Value.builtin "BaseException.__getattribute__" == Value.builtin "object.__getattribute__") = false := by
    rw [notObj]; rfl
  unfold getAttr? getAttrBy? getAttrBy
  refine wpAny_bind (wpAny_mkText (wpAny_bind (wpAny_attempt (wpAny_holding (wpAny_bind (aT.at (wpAny_bind (aG.at ?_))))))))
  show wpAny _ _ (if (onTheHeap (Value.ref D) && Value.builtin "BaseException.__getattribute__" == Value.builtin "object.__getattribute__") = true then _ else _) _ _ _
  rw [notObj', if_neg Bool.false_ne_true]
  unfold getAttrByItsOwn hookBefore
  refine wpAny_bind ?_
  rw [if_pos (show onTheHeap (Value.ref D) = true from rfl)]
  refine aA.at (wpAny_bind (wpAny_attempt (wpAny_holding ?_)))
  unfold callGetattribute
  rw [show (false && onTheHeap (Value.builtin "BaseException.__getattribute__")) = false from rfl, if_neg Bool.false_ne_true]
  unfold boundAndCalled
  rw [PySem.F.excAttr_ValueError.ga.bind (.ref x)]
  refine wpAny_bind (wpAny_pure ?_)
  show wpAny _ _ (call (.builtin "BaseException.__getattribute__") [.ref x, .str "__class__" t]) _ _ _
  refine wpAny_call (codeAny_call_builtin PySem.F.excAttr_ValueError.ga.plain PySem.F.entry_bexc_ga ?_)
  refine @check_slot (model prog w) _ _ ⟨hp, g, d, t + 1, os⟩ "BaseException.__getattribute__" "BaseException" "__getattribute__" (.ref x) [.str "__class__" t] [] _ (by decide +kernel) (by decide +kernel) base (PySem.F.args_bexc_ga (.ref x) (.str "__class__" t)) ?_
  unfold Builtin.«object.__getattribute__»
  refine wpAny_bind (wpAny_of_eq (a := ((Value.ref x : Value), [Value.str "__class__" t])) (by first | rfl | (simp only [slotArgs]; rfl)) ?_)
  refine wpAny_bind (wpAny_pure (wpAny_bind (aT.at (wpAny_bind (aF.at ?_)))))
  show wpAny _ _ (holding [Value.builtin "object.__class__"] (call (.builtin "getset_descriptor.__get__") [.builtin "object.__class__", .ref x, .ref D]) >>= ret) _ _ _
  refine wpAny_bind (wpAny_holding (wpAny_call (class_get (s := ⟨hp, g, d, t + 1, os⟩) (ox := ox) (od := od) X I C.hm ?_)))
  refine wpAny_pure ?_
  show wpAny _ _ (handedOut (.ref D)) _ _ _
  rw [handedOut_of (v := .ref D) rfl]
  first
    | exact wpAny_pure (wpAny_pure h)
    | exact wpAny_pure h
    | exact wpAny_pure (wpAny_bind (wpAny_pure (wpAny_pure h)))
open PySem.W PySem.Calls in
theorem kit_err (C : ExcC K D) : KitX K (.ref x) (.ref D) (fun h => PySem.W.InstAt h x ox D od) where
  ty := fun _ _ _ I => I.type
  it := by
    intro M h X _
    obtain ⟨cd, hc, _⟩ := any_some C.hd
    unfold clsIn at hc
    split at hc
    · rename_i c' d' cd' sl' ho
      intro A' Q' E' s' k q
      unfold isType loadHead
      exact wpAny_bind (wpAny_loadPart (k _ _ (X _ _ ho)) (wpAny_pure q))
    · cases hc
  ne := by
    intro h tp dd its n sl X htp
    obtain ⟨cd, hc, _⟩ := any_some C.hd
    cases e : (Value.ref D == Value.ref tp) with
    | false => rfl
    | true =>
      have e' : D = tp := Value.ref.inj (beq_iff_eq.mp e)
      subst e'
      unfold clsIn at hc
      split at hc
      · rename_i c' d' cd' sl' ho
        cases (X _ _ ho).symm.trans htp
      · cases hc
  ca := fun X I k => ask_class C X I k
end
section
variable {X : Cx}
theorem inst_of {pins : List (Addr × Obj)} {σ : L2.St} {H : Hp} {s : Shared} {a C : Addr} {d : Option Addr} (I : Inv X pins σ H s) (x : ExAt H a C d)
    (hd : ∀ dd, d = some dd → ∃ fs, ExD H dd fs) : ∃ (o : Obj) (od : Option Obj), PySem.W.InstAt s.heap a o C od := by
  obtain ⟨o, vs, he, ⟨z1, z2⟩, hv⟩ := x.get I.hok
  have no : PySem.W.notCls o = true := by
    unfold PySem.W.notCls
    rw [hv] <;> rfl
  cases d with
  | none => exact ⟨o, none, he, z1, no, by rw [z2]; trivial⟩
  | some dd =>
    obtain ⟨fs, q⟩ := hd dd rfl
    obtain ⟨mA, ⟨od, es, ep, h1, _⟩, _⟩ := q.get I.hok
    exact ⟨o, some od, he, z1, no, by rw [z2]; exact h1⟩
/-- isinstance(e, c) of an error e, c a class -/
def rIsx (K : PySem.W.Frag) : List V → Hp → VK → Prop := fun xs H Q => ∃ (a C : Addr) (d : Option Addr) (c : V) (u : Value) (b : Bool),
  xs = [.ref a, c] ∧ ExAt H a C d ∧ (∀ dd, d = some dd → ∃ fs, ExD H dd fs) ∧ ExcC K C ∧ ClsV c u ∧ PySem.W.kitOne K (.ref C) u = some b ∧ Q (.bl b) H
theorem call_isx : CallR X (.builtin "isinstance") (rIsx X.K) := by
  intro pins s σ H xs us Q I r h
  obtain ⟨a, C, d, c, u, b, rfl, hx, hd, T, k, e, q⟩ := h
  obtain ⟨u1, u2, rfl, r1, r2⟩ := vals2 r
  cases (show u1 = Value.ref a from r1)
  cases k.eq r2
  obtain ⟨o, od, J⟩ := inst_of I hx hd
  exact PySem.W.kia_one (kit_err T) I.kIn J e (fun z => nomatch z) fun tk => ⟨.bl b, H, I.tok tk, rfl, q⟩
/-- isinstance(e, (c, ..)) of an error e, the tuple tracked -/
def rIsxT (K : PySem.W.Frag) : List V → Hp → VK → Prop := fun xs H Q => ∃ (a C : Addr) (d : Option Addr) (tp : Addr) (cs : List V) (us : List Value) (b : Bool),
  xs = [.ref a, .ref tp] ∧ ExAt H a C d ∧ (∀ dd, d = some dd → ∃ fs, ExD H dd fs) ∧ ExcC K C ∧ H tp = some (.tup cs) ∧ Paired ClsV cs us ∧ PySem.W.kitAny K (.ref C) us = some b ∧ Q (.bl b) H
theorem call_isxT : CallR X (.builtin "isinstance") (rIsxT X.K) := by
  intro pins s σ H xs us Q I r h
  obtain ⟨a, C, d, tp, cs, ws, b, rfl, hx, hd, T, ht, k, e, q⟩ := h
  obtain ⟨u1, u2, rfl, r1, r2⟩ := vals2 r
  cases (show u1 = Value.ref a from r1)
  cases (show u2 = Value.ref tp from r2)
  obtain ⟨o, od, J⟩ := inst_of I hx hd
  obtain ⟨_, its, rv, ot, h1, h2, n, h3⟩ := (show ObjOk X.prog X.w H s.heap tp (.tup cs) from I.hok tp _ ht)
  cases ClsV.all k rv
  obtain ⟨oc, od', dt, sl⟩ := ot
  dsimp only at h2 h3
  subst h2 h3
  exact PySem.W.kia_tup (kit_err T) I.kIn J h1 e (fun z => nomatch z) fun tk => ⟨.bl b, H, I.tok tk, rfl, q⟩
/-- e.f of an error e -/
def tExf (K : PySem.W.Frag) (f : Str) (te : TE) : TE := fun σ H Q => te σ H fun x H1 => ∃ (a C d : Addr) (fs : List (Str × V)) (v : V),
  x = .ref a ∧ ExAt H1 a C (some d) ∧ ExD H1 d fs ∧ XfC K C ∧ PySem.W.findIn K (.ref C) f = some none ∧ fs.lookup f = some v ∧ Q v H1
theorem pe_exf {e : Expr} {te : TE} {pos : Pos} {f : Str} (he : PE X e te) (hb : attributeBase e f X.env (eval e X.env) = eval e X.env := by rfl) :
    PE X (.Attribute e f pos) (tExf X.K f te) := by
  refine ⟨fun pins s σ H Q I h => attr_of hb (thn (he.run pins s σ H _ I h) ?_)⟩
  rintro u s1 ⟨x, H1, I1, rx, a, C, d, fs, v, rfl, ha, hd, T, hno, l, q⟩
  obtain rfl : u = Value.ref a := rx
  obtain ⟨o, vs, hg, ⟨z1, z2⟩, hv⟩ := ha.get I1.hok
  obtain ⟨mA, hns, hr⟩ := hd.get I1.hok
  obtain ⟨od, ho, hl⟩ := lookIn_ns hns
  obtain ⟨u, hu, ru⟩ := RelO.some_of (v := v) (o := mA f) (by rw [← l]; exact hr f)
  have J : PySem.W.InstAt s1.heap a o C (some od) := ⟨hg, z1, by unfold PySem.W.notCls; rw [hv] <;> rfl, by rw [z2]; exact ho⟩
  exact HandSPX.exc_get I1.kIn J T.ga T.gg T.exC (PySem.W.findObj_own T.hdC hno rfl (by rw [hl, hu])) (handed_of ru) ⟨v, H1, I1.tok _, ru, q⟩
end
end SG

set_option Elab.async false
set_option linter.all false
set_option maxRecDepth 100000
set_option maxHeartbeats 4000000
/-! An own error class called, with keywords or without: what is made is a value. -/
namespace PySem
namespace SGE
open Builtin Builtin.ObjectAttr HandSPX
section
variable {M : Model} {prog : Program} {w : World} {A : Around} {E : Value → Shared → Prop} {R : Result → Shared → Prop}
  {h : Heap} {g : Array GenState} {d : Drawn} {t : Nat} {os : OsState} {nm q : Str} {C N : Addr} {bs bm bmB : List Value} {hdct : Bool}
  {sn : List Str} {sub : List Value} {ab : Bool} {col : Option Bool} {dd : Option Addr} {k0 k1 k2 k3 k5 : Option Value} {B newId initId : String}
  {rest : List Value} {kw : List (Str × Value)}
theorem new_checked {Q : Unit → Shared → Prop} (F : ExcBaseFacts B newId initId bmB) (hT : ∀ X : String, bm.contains (.type X) = bmB.contains (.type X))
    (hC : h.get? C = some (excClassObj nm q C N bs bm hdct sn sub ab col dd k0 k1 k2 k3 k5 newId)) (hq : Q () ⟨h, g, d, t, os⟩) :
    wpAny M A (checkBuiltinCall newId ⟨.ref C :: rest, kw⟩) Q E ⟨h, g, d, t, os⟩ := by
  have below : (Value.ref C :: bm).contains (.type B) = true := by rw [List.contains_cons, hT, F.hasB, Bool.or_true]
  have lone := F.noStar
  simp only [checkBuiltinCall, F.newKind, F.newSplit, F.newRow]
  repeat (first | refine wpAny_loadPart_at hC ?_ | (refine wpAny_isSubtype_exc hC ?_; rw [below]) | refine wpAny_staticBase_exc hC ?_ | refine wpAny_madeBy_exc hC ?_ | simp only [bne_self_eq_false, Bool.false_eq_true, if_false] | wp_step)
  exact hq
theorem new_run (F : ExcBaseFacts B newId initId bmB) (hT : ∀ X : String, bm.contains (.type X) = bmB.contains (.type X))
    (hC : h.get? C = some (excClassObj nm q C N bs bm hdct sn sub ab col dd k0 k1 k2 k3 k5 newId)) (hrest : rest.length ≤ sizeLine)
    (hq : R (.ok (.ret (.ref (h.objs.size + 1)))) ⟨(h.push (PySem.W.kdv_tup rest)).push (excO C h.objs.size), g, d, t, os⟩) :
    codeAny (model prog w) A (.builtin newId ⟨.ref C :: rest, kw⟩) R ⟨h, g, d, t, os⟩ := by
  have ends := F.ends
  have cB : (Value.ref C :: bm).contains (.type B) = true := by rw [List.contains_cons, hT, F.hasB, Bool.or_true]
  have cA : (Value.ref C :: bm).contains (.type "AttributeError") = false := by rw [List.contains_cons, hT, F.noAttr]; rfl
  have cN : (Value.ref C :: bm).contains (.type "NameError") = false := by rw [List.contains_cons, hT, F.noName]; rfl
  refine codeAny_builtinAt F.entry ?_
  unfold Builtin.«BaseException.__new__»
  refine wpAt_bind ?_
  show wpAt _ _ _ (stack >>= _) _ _ _
  refine wpAt_bind (wpAt_stack fun p below => wpAt_of_wpAny ?_)
  wp_walk
  refine wpAt_of_wpAny ?_
  rw [F.owner]
  repeat (first | with_reducible refine wpAny_madeHere_exc F.canon hC ?_ | with_reducible refine wpAny_loadPart_at hC ?_ | (with_reducible refine wpAny_isSubtype_exc hC ?_; first | rw [cB] | rw [cA] | rw [cN]) | wp_step)
  show R _ _
  rw [Heap.size_push]
  exact hq
theorem type_call_run {fI : Addr} {Q : Fin → Shared → Prop} (F : ExcBaseFacts B newId initId bmB) (hT : ∀ X : String, bm.contains (.type X) = bmB.contains (.type X))
    (hC : h.get? C = some (excClassObj nm q C N bs bm hdct sn sub ab col dd k0 k1 k2 k3 k5 newId)) (hrest : rest.length ≤ sizeLine)
    (hi : W.Looks (model prog w) h (typeLookup (.ref C) "__init__") (some (.ref fI))) (hb : ∀ self, W.Looks (model prog w) h (bindSpecial (.ref fI) self) (.ref fI, [self]))
    (hq : codeAny (model prog w) A (.call (.ref fI) ⟨.ref (h.objs.size + 1) :: rest, kw⟩)
      (fun r s' => match r with | .ok (.ret v) => v = .none ∧ Q (.done (.ret (.ref (h.objs.size + 1)))) s' | .ok _ => False | .error e => E e s')
      ⟨(h.push (PySem.W.kdv_tup rest)).push (excO C h.objs.size), g, d, t, os⟩) :
    wpAny (model prog w) A (Builtin.«type.__call__» ⟨.ref C :: rest, kw⟩) Q E ⟨h, g, d, t, os⟩ := by
  repeat (first | with_reducible refine wpAny_loadPart_at hC ?_ | with_reducible refine wpAny_madeBy_exc hC ?_ | wp_step)
  refine codeAny_call_builtin_code (Code.quiet_builtin _ F.quiet) (new_checked F hT hC ?_)
  refine new_run F hT hC hrest ?_
  show wpAny _ _ _ _ _ _
  have k : ∀ b o, h.get? b = some o → ((h.push (PySem.W.kdv_tup rest)).push (excO C h.objs.size)).get? b = some o :=
    fun b o e => Heap.get?_push_of_some _ (Heap.get?_push_of_some _ e)
  have hC2 := k _ _ hC
  have got : ((h.push (PySem.W.kdv_tup rest)).push (excO C h.objs.size)).get? (h.objs.size + 1) = some (excO C h.objs.size) := by heap_get
  have selfIn : (Value.ref C :: bm).contains (.ref C) = true := by simp
  have i2 := hi.keeps k
  have b2 := (hb (.ref (h.objs.size + 1))).keeps k
  unfold isInstance
  repeat (first | with_reducible refine wpAny_loadPart_at got ?_ | (with_reducible refine wpAny_isSubtype_exc hC2 ?_; rw [selfIn]) | wp_step)
  show wpAny _ _ (typeLookup (.ref C) _) _ _ _
  refine i2.at (wpAny_holding (wpAny_bind (b2.at ?_)))
  refine wpAny_bind (wpAny_call (codeAny_mono hq ?_))
  intro r s' z
  rcases r with e | (v | _ | _ | _) <;> first | exact z | exact z.elim | skip
  obtain ⟨rfl, z⟩ := z
  first
    | exact wpAny_pure (wpAny_pure z)
    | (wp_walk; exact z)
theorem tc_checked {M : Model} {Q : Unit → Shared → Prop} (hC : h.get? C = some (excClassObj nm q C N bs bm hdct sn sub ab col dd k0 k1 k2 k3 k5 newId))
    (hq : Q () ⟨h, g, d, t, os⟩) : wpAny M A (checkBuiltinCall "type.__call__" ⟨.ref C :: rest, kw⟩) Q E ⟨h, g, d, t, os⟩ := by
  have f3 := tc_sub
  have hT : (⟨h, g, d, t, os⟩ : Shared).TypeIs (.ref C) "type" := ⟨_, hC, rfl⟩
  simp only [checkBuiltinCall, tc_kind, tc_split]
  repeat (any_goals (first | assumption | with_reducible refine wpAny_loadPart_at hC ?_ | with_reducible refine wpAny_onRaise ?_ | with_reducible refine wpAny_map ?_ | wp_step))
theorem call_run {fI : Addr} (F : ExcBaseFacts B newId initId bmB) (hT : ∀ X : String, bm.contains (.type X) = bmB.contains (.type X))
    (hC : h.get? C = some (excClassObj nm q C N bs bm hdct sn sub ab col dd k0 k1 k2 k3 k5 newId)) (hrest : rest.length ≤ sizeLine)
    (hi : W.Looks (model prog w) h (typeLookup (.ref C) "__init__") (some (.ref fI))) (hb : ∀ self, W.Looks (model prog w) h (bindSpecial (.ref fI) self) (.ref fI, [self]))
    (hq : codeAny (model prog w) (A.under (.builtin "type.__call__" ⟨.ref C :: rest, kw⟩)) (.call (.ref fI) ⟨.ref (h.objs.size + 1) :: rest, kw⟩) (W.InitBack (h.objs.size + 1) R)
      ⟨(h.push (PySem.W.kdv_tup rest)).push (excO C h.objs.size), g, d, t, os⟩) :
    codeAny (model prog w) A (.call (.ref C) ⟨rest, kw⟩) R ⟨h, g, d, t, os⟩ := by
  have f1 := tc_lookup
  have f2 := tc_bind (.ref C)
  have hTy : (⟨h, g, d, t, os⟩ : Shared).TypeIs (.ref C) "type" := ⟨_, hC, rfl⟩
  refine codeAny_of_tree ?_
  show wpAny _ _ (callAny (.ref C) _) _ _ _
  repeat (any_goals (first | assumption | with_reducible refine wpAny_loadPart_at hC ?_ | wp_step))
  refine ⟨rfl, ?_⟩
  refine codeAny_call_builtin_at (Code.quiet_builtin _ (by decide +kernel)) entry_typeCall (tc_checked hC (type_call_run F hT hC hrest hi hb ?_))
  refine codeAny_mono hq fun r s' z => ?_
  rcases r with e | (v | _ | _ | _) <;> exact z
end
end SGE
end PySem

namespace SG
open PySem PySem.Spec PyProof.Rows L2
/-- C(e, ..): the values given, then __init__ over the new error -/
def tMkE (C : Addr) (n m : Nat) (sp : Sp) (gV : List V → List V → List V) (t tk : TA) : TE := fun σ H Q => t σ H fun vs H1 => tk σ H1 fun zs H2 =>
  vs.length = n ∧ zs.length = m ∧ vs.length ≤ 1000 ∧ ∀ a, H2 a = none →
  sp (gV (.ref a :: vs) zs) (upd H2 a (exo a C none)) (fun v H3 => v = .non ∧ Q (.ref a) H3) E0
section
variable {X : Cx} {k n : Nat} {f C : Addr} {fd : FuncData} {ps ks : List Str} {sp : Sp} {x : Str} {p pos : Pos} {e : Expr} {es : List Expr} {kws : List Keyword} {t tk : TA}
  {gg : List Value → List Value → List Value} {gV : List V → List V → List V}
theorem run_err {pins : List (Addr × Obj)} {σ : L2.St} {H : Hp} {s : Shared} {Q : VK} {us ws : List Value} {vs zs : List V} (T : OexC X.K C)
    (iC : PySem.W.findIn X.K (.ref C) "__init__" = some (some (.ref f))) (tI : PySem.W.typeIn X.K (.ref f) = some (.type "function"))
    (F : FnOk X.prog X.w X.K X.mg X.base CX0 k f fd ps sp) (hr : Room (k + 1) X.A) (hb : KBn X.K fd ps n ks gg gV)
    (I : Inv X pins σ H s) (r : Vals vs us) (rz : Vals zs ws) (l1 : vs.length + 1 = n) (l2 : zs.length = ks.length) (hz : vs.length ≤ 1000)
    (h : ∀ a, H a = none → sp (gV (.ref a :: vs) zs) (upd H a (exo a C none)) (fun v H3 => v = .non ∧ Q (.ref a) H3) E0) :
    wpAny (model X.prog X.w) X.A (call (.ref C) us (ks.zip ws)) (EP X pins σ Q) X.xe s := by
  obtain ⟨nm, q, N, bs, bm, sn, sub, ab, col, dd, k0, k1, k2, k3, k5, hC, hbm⟩ := T.cls
  obtain ⟨hp, g, dr, tk, os⟩ := s
  have hsz : hp.objs.size ≤ hp.objs.size + 1 := Nat.le_succ _
  have hq := h (hp.objs.size + 1) (I.hok.fresh hsz)
  have keeps : ∀ b o, hp.get? b = some o → ((hp.push (PySem.W.kdv_tup us)).push (PySem.HandSPX.excO C hp.objs.size)).get? b = some o :=
    fun b o e => Heap.get?_push_of_some _ (Heap.get?_push_of_some _ e)
  have got : ((hp.push (PySem.W.kdv_tup us)).push (PySem.HandSPX.excO C hp.objs.size)).get? (hp.objs.size + 1) = some (PySem.HandSPX.excO C hp.objs.size) := by heap_get
  have I2 : Inv X pins σ (upd H (hp.objs.size + 1) (exo (hp.objs.size + 1) C none)) ⟨(hp.push (PySem.W.kdv_tup us)).push (PySem.HandSPX.excO C hp.objs.size), g, dr, tk, os⟩ :=
    I.laid (t' := tk) (a := hp.objs.size + 1) (h' := (hp.push (PySem.W.kdv_tup us)).push (PySem.HandSPX.excO C hp.objs.size)) keeps hsz (exo_ok got)
  have r1 : Vals (V.ref (hp.objs.size + 1) :: vs) (Value.ref (hp.objs.size + 1) :: us) := .cons rfl r
  have r2 := hb.rel r1 rz
  have hus : us.length ≤ sizeLine := by
    rw [← Paired.length r, sizeLine_eq]
    omega
  have n1 : (Value.ref (hp.objs.size + 1) :: us).length = n := r1.length.symm.trans l1
  refine wpAny_call (PySem.SGE.call_run PySem.F.excBase_ValueError (fun Y => PySem.HandSPX.refsVE_contains Y bm hbm) (I.kIn _ _ hC) hus (PySem.W.looks_findIn I.kIn iC) (fun self => PySem.W.bind_fn I.kIn self tI)
    (codeAny_mono (F.run _ X.stack _ _ ⟨Value.ref (hp.objs.size + 1) :: us, ks.zip ws⟩ (gg (Value.ref (hp.objs.size + 1) :: us) ws) _ _ E0 (hr.make C us (ks.zip ws)) (I2.env0.make C us (ks.zip ws))
      (hb.to _ (Value.ref (hp.objs.size + 1) :: us) ws I2.kIn n1 (rz.length.symm.trans l2)) r2 hq) ?_))
  intro r s' hq'
  cases r with
  | error e => exact hq'.elim
  | ok fl => cases fl with
    | ret u =>
      obtain ⟨v, H', I3, rv, ev, q3⟩ := I2.after hq'
      subst ev
      exact ⟨rv, V.ref (hp.objs.size + 1), H', I3, rfl, q3⟩
    | next => exact hq'.elim
    | brk => exact hq'.elim
    | cont => exact hq'.elim
/-- C(e, ..) -/
theorem pe_err (T : OexC X.K C) (iC : PySem.W.findIn X.K (.ref C) "__init__" = some (some (.ref f))) (tI : PySem.W.typeIn X.K (.ref f) = some (.type "function"))
    (F : FnOk X.prog X.w X.K X.mg X.base CX0 k f fd ps sp) (hr : Room (k + 1) X.A) (hb : KBn X.K fd ps (n + 1) [] gg gV)
    (hg : Gl X x) (hm : X.mg x = some (.ref C)) (ha : PA X (e :: es) t) (hdb : (x == ("__debug__" : Str)) = false := by decide)
    (he : starEach (e :: es) X.env = (false, eval e X.env) :: starEach es X.env := by rfl) (hpl : (backTo pos (starEach es X.env)).any (·.1) = false := by rfl) :
    PE X (.Call (.Name x p) (e :: es) [] pos) (tMkE C n 0 sp gV t tNil) := by
  refine ⟨fun pins s σ H Q I h => wpAny_Call_Name_kw (ld_glob I hg hm ?_ hdb)⟩
  refine PySem.W.callWith_K (h₀ := X.base) I.ok.mod.kin T.kC (thn (ha.run pos pins s σ H _ I h) ?_) he hpl
  rintro us s1 ⟨vs, H1, I1, r, l1, l2, hz, q⟩
  exact ⟨I1.kIn, run_err (ws := []) (ks := []) T iC tI F hr hb I1 r .nil (congrArg Nat.succ l1) rfl hz q⟩
/-- C(k = v, ..) -/
theorem pe_errK (T : OexC X.K C) (iC : PySem.W.findIn X.K (.ref C) "__init__" = some (some (.ref f))) (tI : PySem.W.typeIn X.K (.ref f) = some (.type "function"))
    (F : FnOk X.prog X.w X.K X.mg X.base CX0 k f fd ps sp) (hr : Room (k + 1) X.A) (hb : KBn X.K fd ps 1 ks gg gV)
    (hg : Gl X x) (hm : X.mg x = some (.ref C)) (hkw : PK X kws tk)
    (hall : (backToKw pos (keywordEach kws X.env)).all (·.1.isSome) = true := by rfl) (hks : (backToKw pos (keywordEach kws X.env)).filterMap (·.1) = ks := by rfl) (hdb : (x == ("__debug__" : Str)) = false := by decide)
    (hpl : ((backTo pos (starEach [] X.env)).any (·.1) || (backToKw pos (keywordEach kws X.env)).any (·.1.isNone)) = false := by rfl) :
    PE X (.Call (.Name x p) [] kws pos) (tMkE C 0 ks.length sp gV tNil tk) := by
  refine ⟨fun pins s σ H Q I h => wpAny_Call_Name_kw (ld_glob I hg hm ?_ hdb)⟩
  refine PySem.W.callWith_KW0 (h₀ := X.base) I.ok.mod.kin T.kC hall ?_ hpl
  refine thn (hkw.run pos pins s σ H _ I h) ?_
  rintro ws s2 ⟨zs, H2, I2, rz, _, l2, hz, q2⟩
  refine ⟨I2.kIn, ?_⟩
  rw [hks]
  exact run_err (us := []) (vs := []) T iC tI F hr hb I2 .nil rz rfl l2 hz q2
end
end SG

set_option Elab.async false
set_option linter.all false
set_option maxRecDepth 100000
set_option maxHeartbeats 4000000
/-! try: body / except X as n: suite, where what was caught is kept as a value behind the suite. -/
namespace SG
open PySem PySem.Spec PyProof.Rows L2
section
variable {X : Cx} {pins : List (Addr × Obj)} {σ : L2.St} {H : Hp} {s : Shared} {a : Addr} {o : Obj} {vs : Array Value}
/-- an error that the heap holds and that nothing tracks is tracked from now on -/
theorem Inv.keepErr {cls : Value} {d : Option Addr} (I : Inv X pins σ H s) (he : s.heap.get? a = some o) (hz : Zc cls d o) (hd : o.data = .fields vs) (hn : H a = none)
    (hL : a ≠ X.env.locals) (h0 : X.s_0.heap.get? a = none) (hp : ∀ p ∈ X.pn ++ pins, p.1 ≠ a) : Inv X pins σ (upd H a (exv a cls d)) s := by
  have other : ∀ {b : Addr} {u : HO}, H b = some u → upd H a (exv a cls d) b = some u := fun {b u} q => (upd_ne (ne_of_none q hn)).trans q
  have old : ∀ {b : Addr} {u : Obj}, X.s_0.heap.get? b = some u → b ≠ a := fun {b u} q e => by
    rw [e, h0] at q
    cases q
  refine ⟨I.ok, I.os, I.bare, ⟨I.base.keep, I.base.slot, ?_, I.base.there, ?_, ?_, ?_⟩, I.loc, I.cell, ?_, ?_, ?_, ?_, I.len⟩
  · intro b u q n hx
    rw [upd_ne (old q)]
    exact I.base.free b u q n hx
  · exact fun b xs q => other (I.base.tups b xs q)
  · exact fun b u w q => other (I.base.frzs b u w q)
  · intro b ps q
    obtain ⟨m, z⟩ := I.base.tbls b ps q
    exact ⟨m, other z⟩
  · rw [upd_ne (Ne.symm hL)]
    exact I.free
  · intro x c e
    have nc : c ≠ a := fun z => by
      obtain ⟨v, oc, q1, q2⟩ := I.cell x c e
      rw [z, he] at q1
      cases q1
      rw [hd] at q2
      cases q2
    rw [upd_ne nc]
    exact I.freeC x c e
  · intro p hm
    obtain ⟨e, n, ne, nf, nd⟩ := I.pin p hm
    exact ⟨e, by rw [upd_ne (hp p hm)]; exact n, ne, nf, nd⟩
  · intro b u q
    by_cases hb : b = a
    · subst hb
      rw [upd_same] at q
      cases q
      exact exv_ok he hz hd
    · rw [upd_ne hb] at q
      exact (I.hok b u q).stay (fun c w' _ z => z) (fun c z => other z) fun c xs z => other z
end
/-- the wish of 'except x as n': slot i is n's; what was caught is kept behind the suite -/
def wKeep (K : PySem.W.Frag) (c : Value) (i : Nat) (ts : Addr → Value → Option Addr → TS) (Wout : WX) (D : Ends) : WX := fun cls d σ H =>
  ∃ b, PySem.W.exmOne K cls c = some b ∧ (b = true → ∀ a, H a = none → ts a cls d
    { nx := fun σ' H' => D.nx (σ'.set i none) (upd H' a (exv a cls d)), rt := fun v H' => D.rt v (upd H' a (exv a cls d)), bk := fun σ' H' => D.bk (σ'.set i none) (upd H' a (exv a cls d)),
      ct := fun σ' H' => D.ct (σ'.set i none) (upd H' a (exv a cls d)) } (σ.set i (some (.ref a))) H) ∧ (b = false → Wout cls d σ H)
section
variable {X : Cx} {x n : Str} {c : Value} {i : Nat} {body suite : List Stmt} {b₀ : Stmt} {np pos pos' : Pos} {tb : WX → TS} {ts : Addr → Value → Option Addr → TS} {Wout : WX}
theorem ps_try_keep (hs : X.stack = X.env :: X.outer) (hf : X.env.frame = some X.env.locals) (hN : X.N.Nodup) (hi : X.N[i]? = some n) (hln : X.env.kindOf n = some .local) (hex : X.ex = []) (hc : Names X x c) (tk : Takes X Wout)
    (hb : ∀ (W : WX) (pn : List (Addr × Obj)) (xe : Value → Shared → Prop), Takes (X.tr pn xe) W → PassesOwn (model X.prog X.w) X.A X.env xe → PSs (X.tr pn xe) body (tb W))
    (hsu : ∀ (a : Addr) (oe : Obj) (cls : Value) (d : Option Addr) (pn : List (Addr × Obj)), Zc cls d oe → (∃ vs, oe.data = .fields vs) → PSs (X.suite a ((a, oe) :: pn)) (b₀ :: suite) (ts a cls d)) :
    PS X (.Try body [.ExceptHandler (some (.Name x np)) (some n) (b₀ :: suite) pos'] [] [] pos) (fun D σ H => tb (wKeep X.K c i ts Wout D) D σ H) := by
  refine ⟨fun pins s σ H D I h => wpAny_Try_except ?_⟩
  have ok := I.ok
  have hfr : X.A.frames = some (X.env :: X.outer) := by rw [ok.frames, hs]
  have hloc : Loc X.env.scope n := .inl hln
  refine wpAny_mono ((hb (wKeep X.K c i ts Wout D) (X.pn ++ pins) (fun e s1 => wpAny (model X.prog X.w) X.A (noteFrame e X.env) (fun _ s2 => wpAny (model X.prog X.w) X.A (setFlight e none) (fun _ s3 =>
    wpAny (model X.prog X.w) X.A (handleBy e X.env [.ExceptHandler (some (.Name x np)) (some n) (b₀ :: suite) pos']) (SP X pins D) X.xe s3) X.xe s2) X.xe s1) ?caught PassesOwn.looking).run [] s σ H D (I.toTry _) h) ?thru (fun e s1 he => he)
  case thru =>
    intro f s1 hsp
    cases f with
    | next =>
      obtain ⟨σ', H', J', q⟩ := hsp
      exact wpAny_execs_nil ⟨σ', H', J'.ofTry ok, q⟩
    | brk =>
      obtain ⟨σ', H', J', q⟩ := hsp
      exact ⟨σ', H', J'.ofTry ok, q⟩
    | cont =>
      obtain ⟨σ', H', J', q⟩ := hsp
      exact ⟨σ', H', J'.ofTry ok, q⟩
    | ret u =>
      obtain ⟨v, σ', H', J', r, q⟩ := hsp
      exact ⟨v, σ', H', J'.ofTry ok, r, q⟩
  case caught =>
    rintro u s' ⟨a, B, sI, pins', σ', H', cls, d, rfl, J', nb, up, sky, na, os, ag, b, hb1, hyes, hno⟩
    have J : Inv X pins σ' H' sI := J'.ofTry ok
    have sky' : Sky B (X.env :: X.outer) a (Zc cls d) X.env.locals s'.heap := hs ▸ sky
    show wpAny (model X.prog X.w) X.A (noteFrame (.ref a) X.env) _ _ _
    refine Sky.land Zc.steady hfr hf sky' ?_
    intro h3 fl3 up3
    have J3 : Inv X pins σ' H' { s' with heap := h3 } := J.landed nb fl3.1 (up.trans up3) os ag
    obtain ⟨oe3, vs3, he3, hz3, hd3⟩ := fl3.there
    have apart : ∀ {h : Heap} {o : Obj} {vs : Array Value}, h.FunFrames B (X.env :: X.outer) → h.get? a = some o → o.data = .fields vs → a ∉ frs (X.env :: X.outer) := by
      intro h o vs ff e dd hm
      obtain ⟨_, o', e', hnf⟩ := ff.mem hm
      rw [e] at e'
      cases e'
      exact hnf _ dd
    have nfr := apart fl3.2.2.1 he3 hd3
    have nL : a ≠ X.env.locals := fun z => nfr (List.mem_filterMap.mpr ⟨X.env, List.mem_cons_self, by rw [hf, z]⟩)
    have nF : a ∉ X.fs := by
      intro hm
      obtain ⟨e, he, q⟩ := List.mem_filterMap.mp hm
      exact nfr (List.mem_filterMap.mpr ⟨e, List.mem_cons_of_mem _ he, q⟩)
    -- it stood nowhere ahead of the body
    have nI : sI.heap.get? a = none := by
      cases e : sI.heap.get? a with
      | none => rfl
      | some u =>
        have z := nb a u e (by rw [hs]; exact nfr)
        rw [fl3.2.1] at z
        cases z
    have n0 : X.s_0.heap.get? a = none := by
      cases e : X.s_0.heap.get? a with
      | none => rfl
      | some u =>
        obtain ⟨u', z⟩ := J.base.there a u e (by rw [hex]; exact fun z => nomatch z)
        rw [nI] at z
        cases z
    have np' : ∀ p ∈ X.pn ++ pins, p.1 ≠ a := by
      intro p hm z
      have q := (J.pin p hm).1
      rw [z, nI] at q
      cases q
    have S3 := J3.suite he3 hd3 na nL nF
    refine wpAny_handleBy_cons (codeAny_handlers_test ?_) (by intro q; cases q)
    have LT : PySem.W.Looks (model X.prog X.w) h3 (typeOf (.ref a)) cls := fun A Q E s k q => wpAny_typeOf_ref (k _ _ he3) (by rw [hz3.1]; exact q)
    have LM := PySem.W.exm_one (M := model X.prog X.w) J3.kIn LT hb1
    have test : ∀ {Q : Value → Shared → Prop} {E : Value → Shared → Prop}, Q c { s' with heap := h3 } → wpAny (model X.prog X.w) (X.A.mark (some (.ref a))) (eval (.Name x np) X.env) Q E { s' with heap := h3 } := by
      intro Q E q
      obtain ⟨hg, hdbg, hm | ⟨hm, hv, hnn⟩⟩ := hc
      · exact ld_glob (X := X.suite a ((a, oe3) :: (X.pn ++ pins))) S3 hg hm q hdbg
      · exact ld_blt (X := X.suite a ((a, oe3) :: (X.pn ++ pins))) S3 hg hm hv q hnn hdbg
    refine test (LM.here ?_)
    cases b with
    | true =>
      refine codeAny_handlers_suite_as (HandSPX.lands_againZ fl3 ?_)
      intro h4 fl4 up4
      have J4 : Inv X pins σ' H' { s' with heap := h4 } := J.landed nb fl4.1 ((up.trans up3).trans up4) os ag
      obtain ⟨oe4, vs4, he4, hz4, hd4⟩ := fl4.there
      have S4 := J4.suite he4 hd4 na nL nF
      refine store_ok (X := X.suite a ((a, oe4) :: (X.pn ++ pins))) (v := .ref a) S4 hN hi hloc rfl (fun s5 S5 => ?_) (.inr hln)
      refine wpAny_mono ((hsu a oe4 cls d (X.pn ++ pins) hz4 ⟨_, hd4⟩).run [] s5 _ H' _ S5 (hyes rfl a na)) ?_ (fun _ _ z => z.elim)
      intro f s6 hsp
      have leave : ∀ {σ6 : L2.St} {H6 : Hp} {Q : Shared → Prop}, Inv (X.suite a ((a, oe4) :: (X.pn ++ pins))) [] σ6 H6 s6 → (∀ s7, Inv X pins (σ6.set i none) (upd H6 a (exv a cls d)) s7 → Q s7) →
          wpAny (model X.prog X.w) X.A (do bindName X.env n .none; unbindBehindTheSuite X.env n pos') (fun _ s7 => Q s7) X.xe s6 := by
        intro σ6 H6 Q S6 hq
        obtain ⟨q1, q2, _⟩ := S6.pin (a, oe4) (List.mem_append_left _ List.mem_cons_self)
        exact gone_ok (Inv.keepErr (S6.unsuite ok) q1 hz4 hd4 q2 nL n0 np') hN hi hln hq
      cases f with
      | next =>
        obtain ⟨σ6, H6, S6, q6⟩ := hsp
        exact leave S6 fun s7 J7 => ⟨_, _, J7, q6⟩
      | brk =>
        obtain ⟨σ6, H6, S6, q6⟩ := hsp
        exact leave S6 fun s7 J7 => ⟨_, _, J7, q6⟩
      | cont =>
        obtain ⟨σ6, H6, S6, q6⟩ := hsp
        exact leave S6 fun s7 J7 => ⟨_, _, J7, q6⟩
      | ret u =>
        obtain ⟨v6, σ6, H6, S6, r6, q6⟩ := hsp
        exact leave S6 fun s7 J7 => ⟨_, _, _, J7, r6, q6⟩
    | false =>
      show wpAny _ X.A (handleBy (.ref a) X.env []) _ _ _
      refine wpAny_handleBy_nil ?_
      obtain ⟨k1, k2, k3, oe, vs, T, oT, ts', he, hz, hd, h1, hr⟩ := id fl3
      unfold PySem.passOn
      refine wpAny_bind (wpAny_field he hd h1 ?_)
      rw [if_neg (show ¬ ((Value.ref T == Value.none) = true) from by simp)]
      have fin : wpAny (model X.prog X.w) X.A (setFlight (.ref a) X.env.frame) (fun _ s4 => wpAny (model X.prog X.w) X.A (throw (.ref a) : Sem Flow) (SP X pins D) X.xe s4) X.xe { s' with heap := h3 } := by
        rw [hf]
        refine HandSPX.setFlight_upZ fl3 fun h4 hh4 up4 => wpAny_throw (tk _ _ ?_)
        exact ⟨a, B, sI, pins, σ', H', cls, d, rfl, J, nb, (up.trans up3).trans up4, .inr (.inr (by rw [hs]; exact hh4)), na, os, ag, hno rfl⟩
      first
        | exact wpAny_bind (wpAny_pure (wpAny_bind fin))
        | exact wpAny_bind fin
end
end SG

set_option Elab.async false
set_option linter.all false
set_option maxRecDepth 100000
set_option maxHeartbeats 4000000
/-! Two lists of the very same things. -/
namespace SG
open PySem PySem.Spec PyProof.Rows L2
/-- equal to itself without a look within -/
def selfV : V → Bool
  | .ref _ => true
  | v => flatB v
theorem eqAt_self {A : Around} {s : Shared} {v : V} {u u' : Value} (r : RelV v u) (r' : RelV v u') (f : selfV v = true) : SeqAt.EqAt A s u u' true := by
  cases v with
  | ref a =>
    cases (show u = Value.ref a from r)
    cases (show u' = Value.ref a from r')
    exact SeqAt.EqAt.same _
  | non => exact eqAt_same r r' rfl
  | bl b => exact eqAt_same r r' rfl
  | int i => exact eqAt_same r r' rfl
  | str x => exact eqAt_same r r' rfl
  | byt x => exact eqAt_same r r' rfl
  | flt x => cases f
  | ty x => cases f
theorem items_self {A : Around} {s : Shared} : ∀ {xs : List V} {us ws : List Value}, xs.all selfV = true → Vals xs us → Vals xs ws → ∀ j (h1 : j < us.length) (h2 : j < ws.length), SeqAt.EqAt A s us[j] ws[j] true
  | [], _, _, _, .nil, .nil, j, h1, _ => absurd h1 (Nat.not_lt_zero j)
  | x :: xs, _, _, hx, .cons a1 b1, .cons a2 b2, 0, _, _ => eqAt_self a1 a2 (by rw [List.all_cons, Bool.and_eq_true] at hx; exact hx.1)
  | x :: xs, _, _, hx, .cons a1 b1, .cons a2 b2, j + 1, h1, h2 =>
    items_self (by rw [List.all_cons, Bool.and_eq_true] at hx; exact hx.2) b1 b2 j (Nat.lt_of_succ_lt_succ h1) (Nat.lt_of_succ_lt_succ h2)
/-- a != b, both lists of the same things -/
def rNeSame (K : PySem.W.Frag) : R2 := fun x y H Q => ∃ p q xs, x = .ref p ∧ y = .ref q ∧ SqL K H p xs ∧ SqL K H q xs ∧ xs.all selfV = true ∧ Q (.bl false) H
theorem op_neSame {X : Cx} (hu : X.A.units < cLine) : OpR X (compareOp .NotEq) (rNeSame X.K) := by
  intro pins s σ H x y v u Q I rx ry h
  obtain ⟨p, q, xs, rfl, rfl, hp, hq, hs, k⟩ := h
  cases (show v = Value.ref p from rx)
  cases (show u = Value.ref q from ry)
  obtain ⟨us, r1, p1, _⟩ := I.list hp
  obtain ⟨ws, r2, p2, _⟩ := I.list hq
  have hsz : us.toArray.size = ws.toArray.size := by rw [List.size_toArray, List.size_toArray, ← r1.length, ← r2.length]
  have z := SeqAt.RcNeAt.lists (A := X.A) (e := fun _ => true) p1.isList p2.isList hsz hu (fun j h1 h2 => by
    have w := items_self (A := X.A.in1) (s := s) hs r1 r2 j (by simpa using h1) (by simpa using h2)
    simpa using w)
  rw [show ((List.range us.toArray.size).all fun _ => true) = true from List.all_eq_true.mpr fun _ _ => rfl] at z
  exact z X.prog X.w _ _ ⟨.bl false, H, I, rfl, k⟩
end SG

set_option Elab.async false
set_option linter.all false
set_option maxRecDepth 100000
set_option maxHeartbeats 4000000
namespace K11
open PySem L2 SG
def top (i : Nat) : Stmt := PySem.Challenge.pw_screwsums_k11_papers_of_goals_bent.main.body.getD i (.Pass ⟨0, 0, 0, 0⟩)
/-- a def of the text, found behind the top -/
structure Df (K : PySem.W.Frag) (mg : Str → Option Value) (x : Str) (st : Stmt) (ps : List Str) where
  f : Addr
  fd : FuncData
  F : Fun K x x st f fd
  m : mg x = some (.ref f)
  k : PySem.W.keepIn K (.ref f) = true
  b : Binds K fd ps []
structure Nm (mg : Str → Option Value) : Prop where
  n_int : mg "int" = none
  n_len : mg "len" = none
  n_abs : mg "abs" = none
  n_str : mg "str" = none
  n_range : mg "range" = none
  n_repr : mg "repr" = none
  n_isinstance : mg "isinstance" = none
  n_bool : mg "bool" = none
  n_list : mg "list" = none
  n_tuple : mg "tuple" = none
  n_all : mg "all" = none
  n_any : mg "any" = none
  n_sum : mg "sum" = none
  n_zip : mg "zip" = none
  n_type : mg "type" = none

abbrev s_is_integer : Stmt := top 4
theorem sc_is_integer : FnScope ["value"] ["value"] (defScope s_is_integer) :=
  ⟨rfl, rfl, rfl, by decide +kernel, rfl, by decide +kernel, by decide +kernel⟩

abbrev s_is_within : Stmt := top 5
theorem sc_is_within : FnScope ["value", "least", "most"] ["value", "least", "most"] (defScope s_is_within) :=
  ⟨rfl, rfl, rfl, by decide +kernel, rfl, by decide +kernel, by decide +kernel⟩

abbrev s_are_integers : Stmt := top 6
theorem sc_are_integers : FnScope ["value", "part"] ["value"] (defScope s_are_integers) :=
  ⟨rfl, rfl, rfl, by decide +kernel, rfl, by decide +kernel, by decide +kernel⟩

abbrev s_is_row : Stmt := top 7
theorem sc_is_row : FnScope ["value", "wide"] ["value", "wide"] (defScope s_is_row) :=
  ⟨rfl, rfl, rfl, by decide +kernel, rfl, by decide +kernel, by decide +kernel⟩

abbrev s_are_rows : Stmt := top 8
theorem sc_are_rows : FnScope ["value", "many", "wide", "row"] ["value", "many", "wide"] (defScope s_are_rows) :=
  ⟨rfl, rfl, rfl, by decide +kernel, rfl, by decide +kernel, by decide +kernel⟩

abbrev s_fixed : Stmt := top 10
theorem sc_fixed : FnScope ["value", "part"] ["value"] (defScope s_fixed) :=
  ⟨rfl, rfl, rfl, by decide +kernel, rfl, by decide +kernel, by decide +kernel⟩

abbrev s__are_same : Stmt := top 11
theorem sc__are_same : FnScope ["one", "other"] ["one", "other"] (defScope s__are_same) :=
  ⟨rfl, rfl, rfl, by decide +kernel, rfl, by decide +kernel, by decide +kernel⟩

abbrev s_along : Stmt := top 15
theorem sc_along : FnScope ["one", "other", "left", "right"] ["one", "other"] (defScope s_along) :=
  ⟨rfl, rfl, rfl, by decide +kernel, rfl, by decide +kernel, by decide +kernel⟩

abbrev s_turned : Stmt := top 16
theorem sc_turned : FnScope ["square", "shift", "row"] ["square", "shift"] (defScope s_turned) :=
  ⟨rfl, rfl, rfl, by decide +kernel, rfl, by decide +kernel, by decide +kernel⟩

abbrev s_combined : Stmt := top 17
theorem sc_combined : FnScope ["row", "rows", "column"] ["row", "rows"] (defScope s_combined) :=
  ⟨rfl, rfl, rfl, by decide +kernel, rfl, by decide +kernel, by decide +kernel⟩

abbrev s_are_even_rows : Stmt := top 21
theorem sc_are_even_rows : FnScope ["value"] ["value"] (defScope s_are_even_rows) :=
  ⟨rfl, rfl, rfl, by decide +kernel, rfl, by decide +kernel, by decide +kernel⟩

abbrev s_check_goals : Stmt := top 25
theorem sc_check_goals : FnScope ["rows", "goals"] ["rows", "goals"] (defScope s_check_goals) :=
  ⟨rfl, rfl, rfl, by decide +kernel, rfl, by decide +kernel, by decide +kernel⟩

abbrev s_shows_whole : Stmt := top 27
theorem sc_shows_whole : FnScope ["rows", "goals", "value"] ["rows", "goals", "value"] (defScope s_shows_whole) :=
  ⟨rfl, rfl, rfl, by decide +kernel, rfl, by decide +kernel, by decide +kernel⟩

abbrev s_are_barred : Stmt := top 28
theorem sc_are_barred : FnScope ["rows", "goals", "row", "modulus", "number"] ["rows", "goals", "row", "modulus"] (defScope s_are_barred) :=
  ⟨rfl, rfl, rfl, by decide +kernel, rfl, by decide +kernel, by decide +kernel⟩

abbrev s_l_cask : Stmt := top 30
theorem sc_l_cask : FnScope ["script", "cell"] ["script"] (defScope s_l_cask) :=
  ⟨rfl, rfl, rfl, by decide +kernel, rfl, by decide +kernel, by decide +kernel⟩

abbrev s_l_tap : Stmt := top 31
theorem sc_l_tap : FnScope ["cask", "many", "rest", "at", "cell", "mixed"] ["cask", "many"] (defScope s_l_tap) :=
  ⟨rfl, rfl, rfl, by decide +kernel, rfl, by decide +kernel, by decide +kernel⟩

abbrev s_l_one_of : Stmt := top 32
theorem sc_l_one_of : FnScope ["cask", "some"] ["cask", "some"] (defScope s_l_one_of) :=
  ⟨rfl, rfl, rfl, by decide +kernel, rfl, by decide +kernel, by decide +kernel⟩

abbrev s_l_are_integers : Stmt := top 33
theorem sc_l_are_integers : FnScope ["row", "many", "one"] ["row", "many"] (defScope s_l_are_integers) :=
  ⟨rfl, rfl, rfl, by decide +kernel, rfl, by decide +kernel, by decide +kernel⟩

abbrev s_l_is_right : Stmt := top 34
theorem sc_l_is_right : FnScope ["rows", "goals", "value", "place", "mine", "its", "row", "goal"] ["rows", "goals", "value"] (defScope s_l_is_right) :=
  ⟨rfl, rfl, rfl, by decide +kernel, rfl, by decide +kernel, by decide +kernel⟩

abbrev s_l_bent : Stmt := top 35
theorem sc_l_bent : FnScope ["cask", "row", "found", "way", "at"] ["cask", "row"] (defScope s_l_bent) :=
  ⟨rfl, rfl, rfl, by decide +kernel, rfl, by decide +kernel, by decide +kernel⟩

abbrev s_l_case : Stmt := top 36
theorem sc_l_case : FnScope ["cask", "many", "wide", "rows", "numbers", "goals", "modulus", "weights", "first", "goal", "place", "row", "mine", "its", "weight"] ["cask"] (defScope s_l_case) :=
  ⟨rfl, rfl, rfl, by decide +kernel, rfl, by decide +kernel, by decide +kernel⟩

abbrev s_l_values : Stmt := top 37
theorem sc_l_values : FnScope ["cask", "rows", "goals", "numbers", "row", "modulus", "some", "times", "by", "found", "one"] ["cask", "rows", "goals", "numbers", "row", "modulus"] (defScope s_l_values) :=
  ⟨rfl, rfl, rfl, by decide +kernel, rfl, by decide +kernel, by decide +kernel⟩

abbrev s_l_heard : Stmt := top 38
theorem sc_l_heard : FnScope ["ask", "caught", "error"] ["ask"] (defScope s_l_heard) :=
  ⟨rfl, rfl, rfl, by decide +kernel, rfl, by decide +kernel, by decide +kernel⟩

abbrev s_law : Stmt := top 39
theorem sc_law : FnScope ["script", "cask", "turn", "rows", "goals", "numbers", "row", "modulus", "value", "due", "odd", "none", "its"] ["script"] (defScope s_law) :=
  ⟨rfl, rfl, rfl, by decide +kernel, rfl, by decide +kernel, by decide +kernel⟩

/-- the text's defs, found behind the top -/
structure Tx (K : PySem.W.Frag) (mg : Str → Option Value) where
  nm : Nm mg
  d_is_integer : Df K mg "is_integer" s_is_integer ["value"]
  d_is_within : Df K mg "is_within" s_is_within ["value", "least", "most"]
  d_are_integers : Df K mg "are_integers" s_are_integers ["value"]
  d_is_row : Df K mg "is_row" s_is_row ["value", "wide"]
  d_are_rows : Df K mg "are_rows" s_are_rows ["value", "many", "wide"]
  d_fixed : Df K mg "fixed" s_fixed ["value"]
  d__are_same : Df K mg "_are_same" s__are_same ["one", "other"]
  d_along : Df K mg "along" s_along ["one", "other"]
  d_turned : Df K mg "turned" s_turned ["square", "shift"]
  d_combined : Df K mg "combined" s_combined ["row", "rows"]
  d_are_even_rows : Df K mg "are_even_rows" s_are_even_rows ["value"]
  d_check_goals : Df K mg "check_goals" s_check_goals ["rows", "goals"]
  d_shows_whole : Df K mg "shows_whole" s_shows_whole ["rows", "goals", "value"]
  d_are_barred : Df K mg "are_barred" s_are_barred ["rows", "goals", "row", "modulus"]
  d_l_cask : Df K mg "_law_cask" s_l_cask ["script"]
  d_l_tap : Df K mg "_law_tap" s_l_tap ["cask", "many"]
  d_l_one_of : Df K mg "_law_one_of" s_l_one_of ["cask", "some"]
  d_l_are_integers : Df K mg "_law_are_integers" s_l_are_integers ["row", "many"]
  d_l_is_right : Df K mg "_law_is_right" s_l_is_right ["rows", "goals", "value"]
  d_l_bent : Df K mg "_law_bent" s_l_bent ["cask", "row"]
  d_l_case : Df K mg "_law_case" s_l_case ["cask"]
  d_l_values : Df K mg "_law_values" s_l_values ["cask", "rows", "goals", "numbers", "row", "modulus"]
  d_l_heard : Df K mg "_law_heard" s_l_heard ["ask"]
  d_law : Df K mg "law" s_law ["script"]

/-! ### what draws -/
/-- the list of three at b: the cells at c, how many were begun, what is left -/
structure Bowl (H : Hp) (b c : Addr) (ns : List Int) (t r : Int) : Prop where
  hb : H b = some (.lst [.ref c, .int t, .int r])
  hc : H c = some (.lst (ns.map V.int))
  ne : b ≠ c
  t0 : 0 ≤ t
  r0 : 0 ≤ r
/-- all but what stands at b is as it was -/
def But (b : Addr) (H H' : Hp) : Prop := ∀ a o, a ≠ b → H a = some o → H' a = some o
theorem But.refl (b : Addr) (H : Hp) : But b H H := fun _ _ _ h => h
theorem But.set {b : Addr} {H H' : Hp} {o : HO} (h : But b H H') : But b H (upd H' b o) := fun a u ne q => by rw [upd_ne ne]; exact h a u ne q
theorem But.new {b p : Addr} {H H' : Hp} {o : HO} (h : But b H H') (hp : H' p = none) : But b H (upd H' p o) := fun a u ne q => by
  rw [upd_ne (ne_of_none (h a u ne q) hp)]; exact h a u ne q
theorem dpInts {K : PySem.W.Frag} {H : Hp} : ∀ ns : List Int, DpAll K H (ns.map V.int) (ns.map PyData.int)
  | [] => .nil
  | n :: ns => .cons (.int n) (dpInts ns)
theorem canInts : ∀ ns : List Int, PyData.canLayAll0 (ns.map PyData.int) = true
  | [] => by simp [PyData.canLayAll0]
  | n :: ns => by simp [PyData.canLayAll0, PyData.canLay0, canInts ns]
theorem depthInts : ∀ ns : List Int, PyData.depthAll (ns.map PyData.int) ≤ 1
  | [] => by simp [PyData.depthAll]
  | n :: ns => by
    have := depthInts ns
    simp only [List.map_cons, PyData.depthAll, PyData.depth]
    omega
theorem shapedInts (ns : List Int) : SeqAt.shaped (.list (ns.map PyData.int)) = true := by
  have h1 := canInts ns
  have h2 := depthInts ns
  unfold SeqAt.shaped
  rw [Bool.and_eq_true]
  refine ⟨by simp [PyData.canLay0, h1], decide_eq_true ?_⟩
  simp only [PyData.depth]
  omega
theorem eqvNil (ns : List Int) : PyData.eqv (.list (ns.map PyData.int)) (.list []) = ns.isEmpty := by
  cases ns <;> simp [PyData.eqv, PyData.eqvAll]
/-- a statement and what stands behind it, by a join of one's own -/
theorem cut {t u : TS} {D : Ends} {σ : L2.St} {H : Hp} (J : L2.St → Hp → Prop) (hu : ∀ σ' H', J σ' H' → u D σ' H') (h : ∀ nx : L2.St → Hp → Prop, (∀ σ' H', J σ' H' → nx σ' H') → t { D with nx := nx } σ H) :
    tSeq t u D σ H := h (u D) hu
theorem pow18 : (10 : Int) ^ ((18 : Int)).toNat = 1000000000000000000 := by decide +kernel
theorem at_ints (ns : List Int) {i : Int} (h0 : 0 ≤ i) (h1 : i < (ns.length : Int)) : ∃ z, atI (ns.map V.int) i = some (.int z) := by
  obtain ⟨k, rfl⟩ := Int.eq_ofNat_of_zero_le h0
  have hk : k < ns.length := by omega
  exact ⟨ns[k], atI_nat (by rw [List.getElem?_map, List.getElem?_eq_getElem hk]; rfl)⟩
/-- behind some draws: at most n more begun, all else as it was -/
structure Aft (n : Int) (H H' : Hp) (b c : Addr) (ns : List Int) (t t' r' : Int) : Prop where
  bowl : Bowl H' b c ns t' r'
  but : But b H H'
  lo : t ≤ t'
  hi : t' ≤ t + n
theorem Aft.trans {n m : Int} {H H1 H2 : Hp} {b c : Addr} {ns : List Int} {t t1 t2 r1 r2 : Int} (x : Aft n H H1 b c ns t t1 r1) (y : Aft m H1 H2 b c ns t1 t2 r2) : Aft (n + m) H H2 b c ns t t2 r2 :=
  ⟨y.bowl, fun a o ne q => y.but a o ne (x.but a o ne q), Int.le_trans x.lo y.lo, by have := x.hi; have := y.hi; omega⟩
theorem Aft.refl {H : Hp} {b c : Addr} {ns : List Int} {t r : Int} (B : Bowl H b c ns t r) : Aft 0 H H b c ns t t r := ⟨B, But.refl b H, Int.le_refl _, by omega⟩
theorem Bowl.same {H H' : Hp} {b c : Addr} {ns : List Int} {t r : Int} (B : Bowl H b c ns t r) (s : Same H H') : Bowl H' b c ns t r := ⟨s _ _ B.hb, s _ _ B.hc, B.ne, B.t0, B.r0⟩
theorem Aft.new {n : Int} {H H' : Hp} {b c p : Addr} {ns : List Int} {t t' r' : Int} {o : HO} (x : Aft n H H' b c ns t t' r') (hp : H' p = none) : Aft n H (upd H' p o) b c ns t t' r' :=
  ⟨x.bowl.same fun a u q => by rw [upd_ne (ne_of_none q hp)]; exact q, x.but.new hp, x.lo, x.hi⟩
theorem Aft.free {n : Int} {H H' : Hp} {b c : Addr} {ns : List Int} {t t' r r' : Int} (B : Bowl H b c ns t r) (x : Aft n H H' b c ns t t' r') {p : Addr} (hp : H' p = none) : H p = none := by
  cases e : H p with
  | none => rfl
  | some o =>
    by_cases hb : p = b
    · rw [hb, x.bowl.hb] at hp; cases hp
    · rw [x.but p o hb e] at hp; cases hp
def spDip : Sp := fun vs H Q _ => ∃ (b c : Addr) (ns : List Int) (t r m : Int), vs = [.ref b, .int m] ∧ 0 < m ∧ m < 2 ^ 200 ∧ Bowl H b c ns t r ∧ t < 2 ^ 20 ∧
  ∀ (v t' r' : Int) (H' : Hp), 0 ≤ v → v < m → Aft 1 H H' b c ns t t' r' → Q (.int v) H'

section
variable {P : Program} {w : World} {K : PySem.W.Frag} {mg : Str → Option Value} {base : Heap}
theorem ok_dip (T : Nm mg) {f : Addr} {fd : FuncData} (F : Fun K "_law_tap" "_law_tap" s_l_tap f fd) : FnOk P w K mg base CX0 1 f fd ["cask", "many"] spDip := by
  refine F.ok sc_l_tap (fun vs H Q E h => ?_) (fun cdv A outer s H vs Q E hr h => ?_)
  · obtain ⟨b, c, ns, t, r, m, rfl, _⟩ := h
    rfl
  · obtain ⟨b, c, ns, t, r, m, rfl, hm, hm2, B, ht, k0⟩ := h
    have k : ∀ (v t' r' : Int) (H' : Hp), 0 ≤ v → v < m → t ≤ t' → t' ≤ t + 1 → 0 ≤ r' → H' b = some (.lst [.ref c, .int t', .int r']) → But b H H' → Q (.int v) H' :=
      fun v t' r' H' h1 h2 h3 h4 h5 h6 h7 => k0 v t' r' H' h1 h2 ⟨⟨h6, h7 c _ (Ne.symm B.ne) B.hc, B.ne, Int.le_trans B.t0 h3, h5⟩, h7, h3, h4⟩
    refine ⟨_, (pss_cons (ps_if (pt_cmpR op_gt (pe_ix ix_list (pv 0) pe_int (fun _ _ => rfl)) pe_int (nomark _))
  (pss_cons (ps_set (i := 2) sc_l_tap.nd rfl (Or.inl rfl) (pe_callTy call_int1 (by rfl) T.n_int (by decide +kernel) (pa_cons (pe_ix ix_list (pv 0) pe_int (fun _ _ => rfl)) pa_nil)))
  (pss_cons (ps_asg (pe_op op_fdivW (pv 2) (pv 1)) (pg_sub (pv 0) pe_int set_list))
  (pss_one (ps_ret (pe_op op_mod (pe_callTy call_int1 (by rfl) T.n_int (by decide +kernel) (pa_cons (pv 2) pa_nil)) (pv 1))))))
  pss_nil)
  (pss_cons (ps_set (i := 3) sc_l_tap.nd rfl (Or.inl rfl) (pe_ix ix_list (pv 0) pe_int (fun _ _ => rfl)))
  (pss_cons (ps_asg (pe_op op_add (pv 3) pe_int) (pg_sub (pv 0) pe_int set_list))
  (pss_cons (ps_set (i := 4) sc_l_tap.nd rfl (Or.inl rfl) (pe_op op_add (pe_op op_mul pe_int (pv 3)) pe_int))
  (pss_cons (ps_if (pt_cmpR (op_neD hr.units) (pe_ix ix_list (pv 0) pe_int (fun _ _ => rfl)) (pe_lst pa_nil) (nomark _))
  (pss_one (ps_set (i := 4) sc_l_tap.nd rfl (Or.inl rfl) (pe_ix ix_list (pe_ix ix_list (pv 0) pe_int (fun _ _ => rfl)) (pe_op op_mod (pe_callTy call_int1 (by rfl) T.n_int (by decide +kernel) (pa_cons (pv 3) pa_nil)) (pe_callB call_len_seq (by rfl) T.n_len (by decide +kernel) (pa_cons (pe_ix ix_list (pv 0) pe_int (fun _ _ => rfl)) pa_nil))) (fun _ _ => rfl))))
  pss_nil)
  (pss_cons (ps_if (PW.pt (pw_and (pt_cmpR op_lt (pv 3) (pe_callB call_len_seq (by rfl) T.n_len (by decide +kernel) (pa_cons (pe_ix ix_list (pv 0) pe_int (fun _ _ => rfl)) pa_nil)) (nomark _)) (pw_and1 (pt_cmpR op_ge (pe_callB call_abs (by rfl) T.n_abs (by decide +kernel) (pa_cons (pv 4) pa_nil)) (pe_op op_pow pe_int pe_int) (nomark _)))))
  (pss_cons (ps_set (i := 2) sc_l_tap.nd rfl (Or.inl rfl) (pe_op op_add (pe_op op_mul pe_int (pe_op op_sub (pe_callB call_abs (by rfl) T.n_abs (by decide +kernel) (pa_cons (pv 4) pa_nil)) (pe_op op_pow pe_int pe_int))) (pe_callTy call_int1 (by rfl) T.n_int (by decide +kernel) (pa_cons (pe_cmpR op_lt (pv 4) pe_int (nomark _)) pa_nil))))
  (pss_cons (ps_asg (pe_op op_fdivW (pe_callTy call_int1 (by rfl) T.n_int (by decide +kernel) (pa_cons (pv 2) pa_nil)) (pv 1)) (pg_sub (pv 0) pe_int set_list))
  (pss_one (ps_ret (pe_op op_mod (pe_callTy call_int1 (by rfl) T.n_int (by decide +kernel) (pa_cons (pv 2) pa_nil)) (pv 1))))))
  pss_nil)
  (pss_cons (ps_set (i := 5) sc_l_tap.nd rfl (Or.inl rfl) (pe_op op_mod (pe_callTy call_int1 (by rfl) T.n_int (by decide +kernel) (pa_cons (pe_op op_pow (pe_op op_add (pe_op op_add (pe_op op_mod (pe_callTy call_int1 (by rfl) T.n_int (by decide +kernel) (pa_cons (pv 4) pa_nil)) pe_int) (pe_op op_mul pe_int (pv 3))) pe_int) pe_int) pa_nil)) pe_int))
  (pss_cons (ps_set (i := 5) sc_l_tap.nd rfl (Or.inl rfl) (pe_op op_mod (pe_callTy call_int1 (by rfl) T.n_int (by decide +kernel) (pa_cons (pe_op op_pow (pe_op op_add (pe_op op_add (pe_op op_mul (pv 5) (pe_op op_add (pe_op op_mul pe_int (pv 3)) pe_int)) (pe_op op_mul (pe_op op_mul pe_int (pv 3)) (pv 3))) pe_int) pe_int) pa_nil)) pe_int))
  (pss_one (ps_ret (pe_op op_mod (pe_callTy call_int1 (by rfl) T.n_int (by decide +kernel) (pa_cons (pe_op op_fdiv (pv 5) pe_int) pa_nil)) (pv 1)))))))))))), ?_⟩
    refine ⟨_, rfl, b, _, _, _, rfl, rfl, SqL.of B.hb, rfl, _, _, rfl, rfl, _, rfl, ?_⟩
    refine ite2 (fun c1 => ?_) (fun c1 => ?_)
    · have r1 : 0 < r := by simpa using c1
      refine ⟨_, rfl, b, _, _, _, rfl, rfl, SqL.of B.hb, rfl, .inl ⟨_, rfl, ?_⟩⟩
      refine ⟨_, rfl, _, rfl, _, _, rfl, rfl, wide_div hm (b := 201) ?_ (by decide) (by decide), _, rfl, b, _, _, 2, rfl, rfl, B.hb, rfl, ?_⟩
      · omega
      refine ⟨_, rfl, .inl ⟨_, rfl, _, rfl, _, _, rfl, rfl, hm, ?_⟩⟩
      exact k _ _ _ _ (Int.emod_nonneg _ (by omega)) (Int.emod_lt_of_pos _ hm) (by omega) (by omega) (Int.ediv_nonneg (by omega) (by omega)) upd_same (But.refl b H).set
    · refine ⟨_, rfl, b, _, _, _, rfl, rfl, SqL.of B.hb, rfl, ?_⟩
      refine ⟨_, rfl, _, _, rfl, rfl, _, rfl, b, _, _, 1, rfl, rfl, B.hb, rfl, ?_⟩
      refine ⟨_, rfl, _, _, rfl, rfl, .inl ⟨by decide, by decide⟩, _, _, rfl, rfl, ?_⟩
      dsimp only [gName]
      have b1 : But b H (upd H b (.lst [.ref c, .int (t + 1), .int r])) := (But.refl b H).set
      have c1' : (upd H b (.lst [.ref c, .int (t + 1), .int r])) c = some (.lst (ns.map V.int)) := by rw [upd_ne (Ne.symm B.ne)]; exact B.hc
      refine cut (fun σ' H' => ∃ cell : Int, σ' = [some (.ref b), some (.int m), none, some (.int t), some (.int cell), none] ∧ H' b = some (.lst [.ref c, .int (t + 1), .int r]) ∧ But b H H') ?tail ?first
      case first =>
        intro nx hnx
        refine ⟨_, rfl, b, _, _, _, rfl, rfl, SqL.of upd_same, rfl, by decide, fun p hp => ?_⟩
        have cp := ne_of_none c1' hp
        have bp : b ≠ p := ne_of_none (upd_same) hp
        have c2 : (upd (upd H b (.lst [.ref c, .int (t + 1), .int r])) p (.lst [])) c = some (.lst (ns.map V.int)) := by rw [upd_ne cp]; exact c1'
        have b2 : (upd (upd H b (.lst [.ref c, .int (t + 1), .int r])) p (.lst [])) b = some (.lst [.ref c, .int (t + 1), .int r]) := by rw [upd_ne bp]; exact upd_same
        have bb := b1.new hp (o := .lst [])
        refine ⟨_, _, .lst (SqL.of c2) (dpInts ns), .lst (SqL.of upd_same) .nil, shapedInts ns, shapedInts [], _, rfl, ?_⟩
        rw [eqvNil]
        cases ns with
        | nil => exact hnx _ _ ⟨_, rfl, b2, bb⟩
        | cons n0 ns =>
          refine ⟨_, rfl, b, _, _, _, rfl, rfl, SqL.of b2, rfl, _, rfl, .inl ⟨_, rfl, _, rfl, b, _, _, _, rfl, rfl, SqL.of b2, rfl, c, _, rfl, .inl (SqL.of c2), ?_⟩⟩
          have hl : (0 : Int) < (((List.map V.int (n0 :: ns)).length : Nat) : Int) := by rw [List.length_map, List.length_cons]; omega
          have h1 := Int.emod_nonneg t (Int.ne_of_gt hl)
          have h2 := Int.emod_lt_of_pos t hl
          obtain ⟨cell, hcell⟩ := at_ints (n0 :: ns) h1 (by simpa using h2)
          exact ⟨_, _, rfl, rfl, hl, c, _, _, _, rfl, rfl, SqL.of c2, hcell, hnx _ _ ⟨cell, rfl, b2, bb⟩⟩
      case tail =>
        rintro σ' H' ⟨cell, rfl, hb', bb⟩
        have c2 : H' c = some (.lst (ns.map V.int)) := bb c _ (Ne.symm B.ne) B.hc
        refine cut (fun σ' H'' => (∃ x, σ' = [some (.ref b), some (.int m), x, some (.int t), some (.int cell), none]) ∧ H'' = H') ?rest ?great
        case great =>
          intro nx hnx
          refine ⟨_, rfl, _, rfl, b, _, _, _, rfl, rfl, SqL.of hb', rfl, c, _, rfl, .inl (SqL.of c2), _, _, rfl, rfl, _, rfl, ?_⟩
          refine ite2 (fun _ => ?_) (fun _ => ?_)
          · refine ⟨_, rfl, _, rfl, _, _, rfl, rfl, ⟨by decide, by decide, by decide⟩, _, _, rfl, rfl, _, rfl, ?_⟩
            refine ite2 (fun g => ?_) (fun _ => ?_)
            · have hg : (10 : Int) ^ ((18 : Int)).toNat ≤ (if cell < 0 then -cell else cell) := by simpa using g
              refine ⟨_, rfl, _, rfl, _, _, rfl, rfl, ⟨by decide, by decide, by decide⟩, _, _, rfl, rfl, _, _, rfl, rfl, .inl ⟨by decide, by decide⟩, _, rfl, _, _, rfl, rfl, .inr ⟨_, rfl, _, _, rfl, rfl, ?_⟩⟩
              refine ⟨_, rfl, .inl ⟨_, rfl, _, rfl, _, _, rfl, rfl, wide_div hm (b := 201) (by omega) (by decide) (by decide), _, rfl, b, _, _, 2, rfl, rfl, hb', rfl, ?_⟩⟩
              refine ⟨_, rfl, .inl ⟨_, rfl, _, rfl, _, _, rfl, rfl, hm, ?_⟩⟩
              refine k _ _ _ _ (Int.emod_nonneg _ (by omega)) (Int.emod_lt_of_pos _ hm) ?_ ?_ (Int.ediv_nonneg ?_ (by omega)) upd_same bb.set
              · omega
              · omega
              · split <;> omega
            · exact hnx _ _ ⟨⟨_, rfl⟩, rfl⟩
          · exact hnx _ _ ⟨⟨_, rfl⟩, rfl⟩
        case rest =>
          rintro σ' H'' ⟨⟨x, rfl⟩, rfl⟩
          have t0 := B.t0
          refine ⟨_, rfl, .inl ⟨_, rfl, _, _, rfl, rfl, (by show (0 : Int) < 2147483563; decide), _, rfl, _, _, rfl, rfl, .inl ⟨by decide, by decide⟩, _, _, rfl, rfl, _, _, rfl, rfl, _, _, rfl, rfl, ⟨by decide, by decide, ?b1⟩, .inl ⟨_, rfl, _, _, rfl, rfl, (by show (0 : Int) < 2147483587; decide), ?r1⟩⟩⟩
          case b1 =>
            have q0 := Int.emod_nonneg cell (by decide : (2147483563 : Int) ≠ 0)
            have q1 := Int.emod_lt_of_pos cell (by decide : (0 : Int) < 2147483563)
            omega
          case r1 =>
            generalize hz : ((cell % 2147483563 + 41047 * t + 5749) ^ ((5 : Int)).toNat) % 2147483587 = z
            have z0 : 0 ≤ z := by rw [← hz]; exact Int.emod_nonneg _ (by decide)
            have z1 : z < 2147483587 := by rw [← hz]; exact Int.emod_lt_of_pos _ (by decide)
            have hmulA : (z * (2 * t + 3181)).natAbs ≤ 2147483587 * 2100333 := by
              rw [Int.natAbs_mul]
              exact Nat.mul_le_mul (by omega) (by omega)
            have hmulB : (72043 * t * t).natAbs ≤ 72043 * 1048576 * 1048576 := by
              rw [Int.natAbs_mul]
              exact Nat.mul_le_mul (by omega) (by omega)
            refine ⟨_, rfl, _, rfl, _, _, rfl, rfl, .inl ⟨by decide, by decide⟩, _, _, rfl, rfl, _, _, rfl, rfl, .inl ⟨by omega, by omega⟩, _, rfl, _, _, rfl, rfl, .inl ⟨by decide, by decide⟩, _, rfl, _, _, rfl, rfl, .inr ⟨by omega, by omega⟩,
              _, _, rfl, rfl, _, _, rfl, rfl, _, _, rfl, rfl, ⟨by decide, by decide, ?b2⟩, .inl ⟨_, rfl, _, _, rfl, rfl, (by show (0 : Int) < 2147483549; decide), ?r2⟩⟩
            case b2 => 
              rw [hz]
              generalize z * (2 * t + 3181) = u1 at hmulA ⊢
              generalize 72043 * t * t = u2 at hmulB ⊢
              omega
            case r2 =>
              refine ⟨_, rfl, _, _, rfl, rfl, ⟨by decide, by decide⟩, .inl ⟨_, rfl, _, rfl, _, _, rfl, rfl, hm, ?_⟩⟩
              exact k _ _ _ _ (Int.emod_nonneg _ (by omega)) (Int.emod_lt_of_pos _ hm) (by omega) (by omega) B.r0 hb' bb
end


theorem cut60 (ns : List Int) : cutV (ns.map V.int) none (some 60) = (ns.take 60).map V.int := by
  unfold cutV
  rw [List.length_map, show ((60 : Int)) = ((60 : Nat) : Int) from rfl, HT.sIx_nat]
  show List.take (min 60 ns.length - 0) (List.drop 0 _) = _
  rw [List.drop_zero, Nat.sub_zero, ← List.map_take]
  congr 1
  rcases Nat.le_total 60 ns.length with h | h
  · rw [Nat.min_eq_left h]
  · rw [Nat.min_eq_right h, List.take_length, List.take_of_length_le h]
def spBowl (K : PySem.W.Frag) : Sp := fun vs H Q _ => ∃ (a : Addr) (ns : List Int), vs = [.ref a] ∧ SqL K H a (ns.map V.int) ∧
  ∀ (H' : Hp) (b c : Addr), Same H H' → H b = none → H c = none → Bowl H' b c (ns.take 60) 0 0 → Q (.ref b) H'
section
variable {P : Program} {w : World} {K : PySem.W.Frag} {mg : Str → Option Value} {base : Heap}
theorem ok_bowl (T : Nm mg) {f : Addr} {fd : FuncData} (F : Fun K "_law_cask" "_law_cask" s_l_cask f fd) : FnOk P w K mg base CX0 1 f fd ["script"] (spBowl K) := by
  refine F.ok sc_l_cask (fun vs H Q E h => ?_) (fun cdv A outer s H vs Q E hr h => ?_)
  · obtain ⟨a, ns, rfl, _⟩ := h
    rfl
  · obtain ⟨a, ns, rfl, hs, k⟩ := h
    refine ⟨_, (pss_one (ps_ret (pe_lst (pa_cons (pe_lc (own := [("cell", 1)]) (g := (gName 1)) (tt := tYes) rfl sc_l_cask.nd (pi_list (pe_slice sl_list (pv 0) po_none (po_some pe_int))) (blkOk_by (N := ["script", "cell"]) (sc := defScope s_l_cask) (by decide +kernel)) (fun _ _ _ _ _ => pg_name (i := 1) sc_l_cask.nd rfl (Or.inl rfl)) (fun _ _ _ _ _ => pts_nil) (fun _ _ _ _ _ => (pe_callTy call_int1 (by rfl) T.n_int (by decide +kernel) (pa_cons (pv 1) pa_nil)))) (pa_cons pe_int (pa_cons pe_int pa_nil)))))), ?_⟩
    refine ⟨_, rfl, _, rfl, a, _, rfl, hs, fun p hp => ⟨p, rfl, ⟨_, SqL.of upd_same⟩, fun D hD => ?_⟩⟩
    rw [cut60] at hD ⊢
    have pD : p ≠ D := ne_of_none upd_same hD
    have D0 : H D = none := by rw [upd_ne (Ne.symm pD)] at hD; exact hD
    refine lc_list (K := K) (a := p) (xs := (ns.take 60).map V.int) (fun i H' => Same H H' ∧ H' p = some (.lst ((ns.take 60).map V.int)) ∧ H' D = some (.lst (((ns.take 60).take i).map V.int)))
      ⟨fun b o e => ?_, ?_, upd_same⟩ (fun i H' _ ⟨_, q, _⟩ => SqL.of q) ?_ ?_
    · rw [upd_ne (ne_of_none e D0), upd_ne (ne_of_none e hp)]
      exact e
    · rw [upd_ne pD]
      exact upd_same
    · rintro i x H' hx ⟨s0, s1, s2⟩
      rw [List.getElem?_map] at hx
      obtain ⟨z, hz, rfl⟩ := Option.map_eq_some_iff.mp hx
      refine ⟨rfl, _, rfl, .inl ⟨_, rfl, _, s2, ?_, fun b o e => ?_, ?_, ?_⟩⟩
      · rw [List.length_map, List.length_take, List.length_take]
        exact Nat.lt_of_le_of_lt (by omega : _ ≤ 60) (by decide)
      · rw [upd_ne (ne_of_none e D0)]
        exact s0 b o e
      · rw [upd_ne pD]
        exact s1
      · rw [upd_same, List.take_add_one (l := List.take 60 ns) (i := i), hz, List.map_append]
        rfl
    · rintro H' ⟨s0, s1, s2⟩
      rw [List.length_map, List.take_length] at s2
      refine ⟨(by decide : 3 ≤ sizeLine), fun b hb => ?_⟩
      have Db : D ≠ b := ne_of_none s2 hb
      exact k _ b D (fun c o e => by rw [upd_ne (ne_of_none (s0 c o e) hb)]; exact s0 c o e) (s0.free hb) D0
        ⟨upd_same, by rw [upd_ne Db]; exact s2, Ne.symm Db, Int.le_refl _, Int.le_refl _⟩
end
end K11

set_option Elab.async false
set_option linter.all false
set_option maxRecDepth 100000
set_option maxHeartbeats 4000000
namespace K11
open PySem L2 SG
theorem But.seq {K : PySem.W.Frag} {b p : Addr} {H H' : Hp} {xs : List V} (h : But b H H') (ne : p ≠ b) (q : SqL K H p xs) : SqL K H' p xs := by
  rcases q with (q | ⟨o, q⟩) | q
  · exact .inl (.inl (h _ _ ne q))
  · exact .inl (.inr ⟨o, h _ _ ne q⟩)
  · exact .inr q
def spChoose (K : PySem.W.Frag) : Sp := fun vs H Q _ => ∃ (b c : Addr) (ns : List Int) (t r : Int) (p : Addr) (xs : List V), vs = [.ref b, .ref p] ∧ Bowl H b c ns t r ∧ t < 2 ^ 20 ∧
  SqL K H p xs ∧ p ≠ b ∧ 0 < xs.length ∧ xs.length ≤ 1000 ∧ ∀ (v : V) (t' r' : Int) (H' : Hp), v ∈ xs → Aft 1 H H' b c ns t t' r' → Q v H'
section
variable {P : Program} {w : World} {K : PySem.W.Frag} {mg : Str → Option Value} {base : Heap}
theorem ok_choose (T : Tx K mg) {f : Addr} {fd : FuncData} (F : Fun K "_law_one_of" "_law_one_of" s_l_one_of f fd) : FnOk P w K mg base CX0 2 f fd ["cask", "some"] (spChoose K) := by
  refine F.ok sc_l_one_of (fun vs H Q E h => ?_) (fun cdv A outer s H vs Q E hr h => ?_)
  · obtain ⟨b, c, ns, t, r, p, xs, rfl, _⟩ := h
    rfl
  · obtain ⟨b, c, ns, t, r, p, xs, rfl, B, ht, hp, ne, h0, h1, k⟩ := h
    refine ⟨_, (pss_one (ps_ret (pe_ix ix_list (pv 1) (pe_call (ok_dip T.nm T.d_l_tap.F) hr rfl T.d_l_tap.m T.d_l_tap.k T.d_l_tap.b .nil pass0 (pa_cons (pv 0) (pa_cons (pe_callB call_len_seq (by rfl) T.nm.n_len (by decide +kernel) (pa_cons (pv 1) pa_nil)) pa_nil))) (fun _ _ => rfl)))), ?_⟩
    refine ⟨_, rfl, _, rfl, _, rfl, p, _, rfl, .inl hp, b, c, ns, t, r, _, rfl, by omega, by omega, B, ht, fun v t' r' H' v0 v1 x => ?_⟩
    obtain ⟨j, rfl⟩ := Int.eq_ofNat_of_zero_le v0
    have hj : j < xs.length := by omega
    exact ⟨p, xs, _, xs[j], rfl, rfl, x.but.seq ne hp, atI_nat (List.getElem?_eq_getElem hj), k _ t' r' H' (List.getElem_mem hj) x⟩
end
end K11

set_option Elab.async false
set_option linter.all false
set_option maxRecDepth 100000
set_option maxHeartbeats 4000000
/-! Small words: a walk over a list or a tuple; is True; == []; repr of what is no container; data with dicts within. -/
namespace SG
open PySem PySem.Spec PyProof.Rows L2
section
variable {X : Cx}
/-- over a list or a tuple -/
def iSeq (K : PySem.W.Frag) (tl : TE) : TI := fun σ H R => iList K tl σ H R ∨ iTup K tl σ H R
theorem pi_seq {tg l : Expr} {tl : TE} (hl : PE X l tl) : PI X tg l (iSeq X.K tl) :=
  ⟨fun pins s σ H R I h => h.elim ((pi_list hl).run pins s σ H R I) ((pi_tup hl).run pins s σ H R I)⟩
/-- x is c, x is not c, c True or False -/
def rIsB : R2 := fun x y H Q => ∃ c, y = .bl c ∧ Q (.bl (decide (x = .bl c))) H
def rNotB : R2 := fun x y H Q => ∃ c, y = .bl c ∧ Q (.bl (!decide (x = .bl c))) H
theorem plain_bl {x : V} {v : Value} {c : Bool} (r : RelV x v) : plainIs v (.bool c) = true ∧ (v == Value.bool c) = decide (x = .bl c) := by
  cases x with
  | non => cases r; exact ⟨rfl, rfl⟩
  | bl b =>
    cases r
    refine ⟨rfl, ?_⟩
    cases b <;> cases c <;> rfl
  | int _ => obtain ⟨t, rfl⟩ := r; exact ⟨rfl, rfl⟩
  | str _ => obtain ⟨t, rfl⟩ := r; exact ⟨rfl, rfl⟩
  | byt _ => obtain ⟨t, rfl⟩ := r; exact ⟨rfl, rfl⟩
  | flt _ => obtain ⟨t, rfl⟩ := r; exact ⟨rfl, rfl⟩
  | ref _ => cases r; exact ⟨rfl, rfl⟩
  | ty _ => cases r; exact ⟨rfl, rfl⟩
theorem op_isB : OpR X (compareOp .Is) rIsB := by
  intro pins s σ H x y v u Q I rx ry h
  obtain ⟨c, rfl, q⟩ := h
  cases ry
  obtain ⟨p1, p2⟩ := plain_bl (c := c) rx
  exact wpAny_is_plain p1 ⟨.bl _, H, I, by rw [p2]; rfl, q⟩
theorem op_notB : OpR X (compareOp .IsNot) rNotB := by
  intro pins s σ H x y v u Q I rx ry h
  obtain ⟨c, rfl, q⟩ := h
  cases ry
  obtain ⟨p1, p2⟩ := plain_bl (c := c) rx
  exact wpAny_isNot_plain p1 ⟨.bl _, H, I, by rw [p2]; rfl, q⟩
/-- xs == [], xs != [] -/
def rEqNil (K : PySem.W.Frag) : R2 := fun x y H Q => ∃ p q xs, x = .ref p ∧ y = .ref q ∧ SqL K H p xs ∧ SqL K H q [] ∧ Q (.bl xs.isEmpty) H
def rNeNil (K : PySem.W.Frag) : R2 := fun x y H Q => ∃ p q xs, x = .ref p ∧ y = .ref q ∧ SqL K H p xs ∧ SqL K H q [] ∧ Q (.bl (!xs.isEmpty)) H
theorem op_eqNil (hu : X.A.units < cLine) : OpR X (compareOp .Eq) (rEqNil X.K) := by
  intro pins s σ H x y v u Q I rx ry h
  obtain ⟨p, q, xs, rfl, rfl, hp, hq, k⟩ := h
  cases (show v = Value.ref p from rx)
  cases (show u = Value.ref q from ry)
  obtain ⟨us, r1, p1, _⟩ := I.list hp
  obtain ⟨ws, r2, p2, _⟩ := I.list hq
  cases r2
  cases r1 with
  | nil => exact SeqAt.RcAt.lists (A := X.A) (e := fun _ => true) p1.isList p2.isList rfl hu (fun j h1 => absurd h1 (Nat.not_lt_zero j)) X.prog X.w _ _ ⟨.bl true, H, I, rfl, k⟩
  | cons a b => exact SeqAt.RcAt.lists_lengths p1.isList p2.isList (by simp) hu X.prog X.w _ _ ⟨.bl false, H, I, rfl, k⟩
theorem op_neNil (hu : X.A.units < cLine) : OpR X (compareOp .NotEq) (rNeNil X.K) := by
  intro pins s σ H x y v u Q I rx ry h
  obtain ⟨p, q, xs, rfl, rfl, hp, hq, k⟩ := h
  cases (show v = Value.ref p from rx)
  cases (show u = Value.ref q from ry)
  obtain ⟨us, r1, p1, _⟩ := I.list hp
  obtain ⟨ws, r2, p2, _⟩ := I.list hq
  cases r2
  cases r1 with
  | nil => exact SeqAt.RcNeAt.lists (A := X.A) (e := fun _ => true) p1.isList p2.isList rfl hu (fun j h1 => absurd h1 (Nat.not_lt_zero j)) X.prog X.w _ _ ⟨.bl false, H, I, rfl, k⟩
  | cons a b => exact SeqAt.RcNeAt.lists_lengths p1.isList p2.isList (by simp) hu X.prog X.w _ _ ⟨.bl true, H, I, rfl, k⟩
/-- repr of None, a bool, an int -/
def rRepr0 : List V → Hp → VK → Prop := fun xs H Q => (xs = [.non] ∧ Q (.str (PyData.shown .none)) H) ∨ (∃ b, xs = [.bl b] ∧ Q (.str (PyData.shown (.bool b))) H) ∨ ∃ i, xs = [.int i] ∧ i.natAbs.log2 < 1920 ∧ Q (.str (PyData.shown (.int i))) H
theorem call_repr0 : CallR X (.builtin "repr") rRepr0 := by
  intro pins s σ H xs us Q I r h
  rcases h with ⟨rfl, q⟩ | ⟨b, rfl, q⟩ | ⟨i, rfl, hi, q⟩
  · obtain ⟨u, rfl, ru⟩ := vals1 r
    cases ru
    exact PySem.P.repr_of_none ⟨.str _, H, I.tok _, ⟨_, rfl⟩, by simpa only [PyData.shown] using q⟩
  · obtain ⟨u, rfl, ru⟩ := vals1 r
    cases ru
    exact PySem.P.repr_of_bool ⟨.str _, H, I.tok _, ⟨_, rfl⟩, by simpa only [PyData.shown] using q⟩
  · obtain ⟨u, rfl, t, rfl⟩ := vals1 r
    exact PySem.P.repr_of_int (by simpa using hi) ⟨.str _, H, I.tok _, ⟨_, rfl⟩, by simpa only [PyData.shown] using q⟩
end
/-! ### data, dicts within -/
mutual
inductive Dw (K : PySem.W.Frag) (H : Hp) : V → PyData → Prop
  | non : Dw K H .non .none
  | bl (b : Bool) : Dw K H (.bl b) (.bool b)
  | int (i : Int) : Dw K H (.int i) (.int i)
  | str (x : Str) : Dw K H (.str x) (.str x)
  | lst {a : Addr} {xs : List V} {ds : List PyData} : SqL K H a xs → xs.length ≤ 1000 → DwAll K H xs ds → Dw K H (.ref a) (.list ds)
  | tup {a : Addr} {xs : List V} {ds : List PyData} : SqT K H a xs → xs.length ≤ 1000 → DwAll K H xs ds → Dw K H (.ref a) (.tuple ds)
  | dic {a : Addr} {kvs : List (Key × V)} {es : List (PyData × PyData)} : H a = some (.dK kvs) → Dw K H (.ref a) (.dict es)
inductive DwAll (K : PySem.W.Frag) (H : Hp) : List V → List PyData → Prop
  | nil : DwAll K H [] []
  | cons {v : V} {vs : List V} {d : PyData} {ds : List PyData} : Dw K H v d → DwAll K H vs ds → DwAll K H (v :: vs) (d :: ds)
end
theorem Same.tup {K : PySem.W.Frag} {H H' : Hp} {a : Addr} {xs : List V} (s : Same H H') (h : SqT K H a xs) : SqT K H' a xs := by
  rcases h with (q | ⟨o, q⟩) | q
  · exact .inl (.inl (s _ _ q))
  · exact .inl (.inr ⟨o, s _ _ q⟩)
  · exact .inr q
mutual
theorem Dw.same {K : PySem.W.Frag} {H H' : Hp} (s : Same H H') : ∀ (d : PyData) (v : V), Dw K H v d → Dw K H' v d
  | .none, _, h => by cases h; exact .non
  | .bool _, _, h => by cases h; exact .bl _
  | .int _, _, h => by cases h; exact .int _
  | .str _, _, h => by cases h; exact .str _
  | .list ds, _, h => by
    cases h with
    | lst hs hl ha => exact .lst (s.seq hs) hl (DwAll.same s ds _ ha)
  | .tuple ds, _, h => by
    cases h with
    | tup hs hl ha => exact .tup (Same.tup s hs) hl (DwAll.same s ds _ ha)
  | .dict _, _, h => by
    cases h with
    | dic hs => exact .dic (s _ _ hs)
theorem DwAll.same {K : PySem.W.Frag} {H H' : Hp} (s : Same H H') : ∀ (ds : List PyData) (vs : List V), DwAll K H vs ds → DwAll K H' vs ds
  | [], _, h => by cases h; exact .nil
  | d :: ds, _, h => by
    cases h with
    | cons h1 h2 => exact .cons (Dw.same s d _ h1) (DwAll.same s ds _ h2)
end
theorem DwAll.length {K : PySem.W.Frag} {H : Hp} : ∀ {vs : List V} {ds : List PyData}, DwAll K H vs ds → vs.length = ds.length
  | _, _, .nil => rfl
  | _, _, .cons _ h => by rw [List.length_cons, List.length_cons, DwAll.length h]
theorem DwAll.get {K : PySem.W.Frag} {H : Hp} : ∀ {vs : List V} {ds : List PyData} {i : Nat} {v : V}, DwAll K H vs ds → vs[i]? = some v → ∃ d, ds[i]? = some d ∧ Dw K H v d
  | _, _, _, _, .nil, e => by cases e
  | _, _, 0, _, .cons h _, e => by cases e; exact ⟨_, rfl, h⟩
  | _, _, i + 1, _, .cons _ h, e => by
    rw [List.getElem?_cons_succ] at e
    obtain ⟨d, e1, h1⟩ := DwAll.get h e
    exact ⟨d, by rw [List.getElem?_cons_succ]; exact e1, h1⟩
/-- a value's type -/
def tyOf : PyData → Value
  | .none => .type "NoneType" | .bool _ => .type "bool" | .int _ => .type "int" | .str _ => .type "str" | .list _ => .type "list" | .tuple _ => .type "tuple" | .dict _ => .type "dict"
theorem Dw.ty {K : PySem.W.Frag} {H : Hp} {v : V} {d : PyData} (h : Dw K H v d) : TyX K H v (tyOf d) := by
  cases h with
  | non => exact .base .non
  | bl b => exact .base (.bl b)
  | int i => exact .base (.int i)
  | str x => exact .base (.str x)
  | lst hs _ _ =>
    rcases hs with (q | ⟨o, q⟩) | ⟨o, _, _, e, c, _⟩
    · exact .base (.lst q)
    · exact .base (.frz q)
    · exact .kList e c
  | tup hs _ _ =>
    rcases hs with (q | ⟨o, q⟩) | ⟨o, _, _, e, c, _⟩
    · exact .base (.tup q)
    · exact .fTuple q
    · exact .kTuple e c
  | dic q => exact .base (.dK q)
def isIb : PyData → Bool | .int _ => true | .bool _ => true | _ => false
def isBb : PyData → Bool | .bool _ => true | _ => false
def isI : PyData → Bool | .int _ => true | _ => false
def parts : PyData → Option (List PyData) | .list ds => some ds | .tuple ds => some ds | _ => none
theorem kit_int {K : PySem.W.Frag} (d : PyData) : PySem.W.kitOne K (tyOf d) (.type "int") = some (isIb d) := by
  cases d with
  | int _ => exact kit_ty (r := true) (by decide +kernel)
  | bool _ => exact kit_ty (r := true) (by decide +kernel)
  | _ => exact kit_ty (r := false) (by decide +kernel)
theorem kit_bool {K : PySem.W.Frag} (d : PyData) : PySem.W.kitOne K (tyOf d) (.type "bool") = some (isBb d) := by
  cases d with
  | bool _ => exact kit_ty (r := true) (by decide +kernel)
  | _ => exact kit_ty (r := false) (by decide +kernel)
theorem kit_seq {K : PySem.W.Frag} (d : PyData) : PySem.W.kitAny K (tyOf d) [.type "list", .type "tuple"] = some (parts d).isSome := by
  cases d with
  | list ds => exact kitAny_cons (kit_ty (r := true) (by decide +kernel)) (fun z => nomatch z) fun _ => rfl
  | tuple ds => exact kitAny_cons (kit_ty (r := false) (by decide +kernel)) (fun _ => kitAny_cons (kit_ty (r := true) (by decide +kernel)) (fun z => nomatch z) fun _ => rfl) fun z => nomatch z
  | _ => exact kitAny_cons (kit_ty (r := false) (by decide +kernel)) (fun _ => kitAny_cons (kit_ty (r := false) (by decide +kernel)) (fun _ => kitAny_nil) fun z => nomatch z) fun z => nomatch z
theorem Dw.seq {K : PySem.W.Frag} {H : Hp} {v : V} {d : PyData} {ds : List PyData} (h : Dw K H v d) (e : parts d = some ds) : ∃ a xs, v = .ref a ∧ (SqL K H a xs ∨ SqT K H a xs) ∧ xs.length ≤ 1000 ∧ DwAll K H xs ds := by
  cases h with
  | lst hs hl ha => cases e; exact ⟨_, _, rfl, .inl hs, hl, ha⟩
  | tup hs hl ha => cases e; exact ⟨_, _, rfl, .inr hs, hl, ha⟩
  | _ => cases e
end SG

set_option Elab.async false
set_option linter.all false
set_option maxRecDepth 100000
set_option maxHeartbeats 4000000
/-! Comprehensions over data. -/
namespace SG
open PySem PySem.Spec PyProof.Rows L2
theorem set_new {H H' : Hp} {L : Addr} {o : HO} (hL : H L = none) (s : Same H H') : Same H (upd H' L o) := fun b u q => by
  rw [upd_ne (ne_of_none q hL)]; exact s b u q
theorem newO {H : Hp} {L : Addr} {o : HO} (hL : H L = none) : Same H (upd H L o) := fun b u q => by
  rw [upd_ne (ne_of_none q hL)]; exact q
/-- [e for x in data], e's heap only grows -/
theorem lc_data {K : PySem.W.Frag} {tl te : TE} {i : Nat} {vs : List Nat} {σ : L2.St} {H : Hp} {Q : VK} {v : V} {d : PyData} {ds : List PyData} (p : PyData → V) (e : parts d = some ds) (D : Dw K H v d)
    (hl : ∀ R : VK, R v H → tl σ H R) (hw : ∀ x, wipe ((wipe σ vs).set i (some x)) vs = wipe σ vs)
    (he : ∀ (x : V) (e : PyData) (H' : Hp) (R : VK), Same H H' → Dw K H' x e → e ∈ ds → (∀ H'', Same H' H'' → R (p e) H'') → te ((wipe σ vs).set i (some x)) H' R)
    (k : ∀ (L : Addr) (H' : Hp), Same H H' → H L = none → H' L = some (.lst (ds.map p)) → Q (.ref L) H') : tLc (iSeq K tl) (gName i) tYes te vs σ H Q := by
  obtain ⟨a, xs, rfl, hs, hlen, ha⟩ := D.seq e
  have hn := ha.length
  have turn : ∀ (L : Addr) (hL : H L = none) (j : Nat) (x : V) (H' : Hp), xs[j]? = some x → (Same H H' ∧ H' L = some (.lst ((ds.take j).map p))) →
      gName i x (wipe σ vs) H' fun σ2 H2 => wipe σ2 vs = wipe σ vs ∧ tYes σ2 H2 fun b H3 =>
        if b = true then te σ2 H3 fun y H4 => ∃ acc, H4 L = some (.lst acc) ∧ acc.length < sizeLine ∧ (Same H (upd H4 L (.lst (acc ++ [y]))) ∧ (upd H4 L (.lst (acc ++ [y]))) L = some (.lst ((ds.take (j + 1)).map p))) else (Same H H3 ∧ H3 L = some (.lst ((ds.take (j + 1)).map p))) := by
    intro L hL j x H' hx ⟨s, q⟩
    obtain ⟨e1, h1, h2⟩ := ha.get hx
    refine ⟨hw x, ?_⟩
    refine he x e1 H' _ s (Dw.same s _ _ h2) (List.mem_of_getElem? h1) fun H'' s' => ?_
    refine ⟨_, s' _ _ q, ?_, set_new hL (s.trans s'), ?_⟩
    · have hj : j < xs.length := (List.getElem?_eq_some_iff.mp hx).1
      rw [List.length_map, List.length_take]
      have : sizeLine = 16777216 := by decide
      omega
    · rw [upd_same, List.take_add_one, h1]
      simp
  have fin : ∀ (L : Addr) (hL : H L = none) (H' : Hp), (Same H H' ∧ H' L = some (.lst ((ds.take xs.length).map p))) → Q (.ref L) H' := by
    intro L hL H' ⟨s, q⟩
    rw [hn, List.take_length] at q
    exact k L H' s hL q
  rcases hs with hs | hs
  · refine .inl (hl _ ⟨a, rfl, ⟨_, hs⟩, fun L hL => ?_⟩)
    exact lc_list (K := K) (a := a) (xs := xs) (fun j H' => Same H H' ∧ H' L = some (.lst ((ds.take j).map p))) ⟨newO hL, upd_same⟩ (fun j H' _ z => z.1.seq hs) (turn L hL) (fin L hL)
  · refine .inr (hl _ ⟨a, rfl, ⟨_, hs⟩, fun L hL => ?_⟩)
    exact lc_tup (K := K) (a := a) (xs := xs) (fun j H' => Same H H' ∧ H' L = some (.lst ((ds.take j).map p))) ⟨newO hL, upd_same⟩ (fun j H' _ z => Same.tup z.1 hs) (turn L hL) (fin L hL)
/-- [x for x in data if t]: whether any is kept -/
theorem lc_keep {K : PySem.W.Frag} {tl : TE} {tt : TT} {i : Nat} {vs : List Nat} {σ : L2.St} {H : Hp} {Q : VK} {v : V} {d : PyData} {ds : List PyData} (q : PyData → Bool) (e : parts d = some ds) (D : Dw K H v d)
    (hl : ∀ R : VK, R v H → tl σ H R) (hw : ∀ x, wipe ((wipe σ vs).set i (some x)) vs = wipe σ vs) (hg : ∀ x : V, ((wipe σ vs).set i (some x))[i]? = some (some x))
    (ht : ∀ (x : V) (e : PyData) (H' : Hp) (R : Bool → Hp → Prop), Same H H' → Dw K H' x e → e ∈ ds → (∀ H'', Same H' H'' → R (q e) H'') → tt ((wipe σ vs).set i (some x)) H' R)
    (k : ∀ (L : Addr) (H' : Hp) (ys : List V), Same H H' → H L = none → H' L = some (.lst ys) → ys.isEmpty = !ds.any q → Q (.ref L) H') : tLc (iSeq K tl) (gName i) tt (tVar i) vs σ H Q := by
  obtain ⟨a, xs, rfl, hs, hlen, ha⟩ := D.seq e
  have hn := ha.length
  let Pv : Addr → Nat → Hp → Prop := fun L j H' => Same H H' ∧ ∃ ys, H' L = some (.lst ys) ∧ ys.length ≤ j ∧ ys.isEmpty = !(ds.take j).any q
  have start : ∀ (L : Addr) (hL : H L = none), Pv L 0 (upd H L (.lst [])) := fun L hL => ⟨newO hL, [], upd_same, Nat.le_refl _, by simp⟩
  have turn : ∀ (L : Addr) (hL : H L = none) (j : Nat) (x : V) (H' : Hp), xs[j]? = some x → Pv L j H' →
      gName i x (wipe σ vs) H' fun σ2 H2 => wipe σ2 vs = wipe σ vs ∧ tt σ2 H2 fun b H3 =>
        if b = true then tVar i σ2 H3 fun y H4 => ∃ acc, H4 L = some (.lst acc) ∧ acc.length < sizeLine ∧ Pv L (j + 1) (upd H4 L (.lst (acc ++ [y]))) else Pv L (j + 1) H3 := by
    intro L hL j x H' hx ⟨s, ys, hy, ly, ey⟩
    have hj : j < xs.length := (List.getElem?_eq_some_iff.mp hx).1
    obtain ⟨e1, h1, h2⟩ := ha.get hx
    have tk : (ds.take (j + 1)).any q = ((ds.take j).any q || q e1) := by rw [List.take_add_one, h1]; simp
    refine ⟨hw x, ?_⟩
    refine ht x e1 H' _ s (Dw.same s _ _ h2) (List.mem_of_getElem? h1) fun H'' s' => ?_
    refine ite2 (fun c => ?_) (fun c => ?_)
    · refine ⟨x, hg x, ys, s' _ _ hy, ?_, set_new hL (s.trans s'), ys ++ [x], upd_same, ?_, ?_⟩
      · have : sizeLine = 16777216 := by decide
        omega
      · rw [List.length_append, List.length_singleton]; omega
      · rw [tk, c]; simp
    · have c' : q e1 = false := by cases z : q e1 with | false => rfl | true => exact absurd z c
      refine ⟨s.trans s', ys, s' _ _ hy, by omega, ?_⟩
      rw [tk, c', ey]; simp
  have fin : ∀ (L : Addr) (hL : H L = none) (H' : Hp), Pv L xs.length H' → Q (.ref L) H' := by
    intro L hL H' ⟨s, ys, hy, _, ey⟩
    rw [hn, List.take_length] at ey
    exact k L H' ys s hL hy ey
  rcases hs with hs | hs
  · refine .inl (hl _ ⟨a, rfl, ⟨_, hs⟩, fun L hL => ?_⟩)
    exact lc_list (K := K) (a := a) (xs := xs) (Pv L) (start L hL) (fun j H' _ z => z.1.seq hs) (turn L hL) (fin L hL)
  · refine .inr (hl _ ⟨a, rfl, ⟨_, hs⟩, fun L hL => ?_⟩)
    exact lc_tup (K := K) (a := a) (xs := xs) (Pv L) (start L hL) (fun j H' _ z => Same.tup z.1 hs) (turn L hL) (fin L hL)
/-- for x in data: the body keeps what stood -/
theorem for_data {K : PySem.W.Frag} {tl : TE} {g : TG} {tb : TS} {D : Ends} {σ : L2.St} {H : Hp} {v : V} {d : PyData} {ds : List PyData} (e : parts d = some ds) (Dv : Dw K H v d) (Pv : Nat → L2.St → Hp → Prop)
    (hl : ∀ R : VK, R v H → tl σ H R) (h0 : Pv 0 σ H) (hs : ∀ j σ' H', Pv j σ' H' → Same H H')
    (turn : ∀ (j : Nat) (x : V) (e1 : PyData) (σ' : L2.St) (H' : Hp), ds[j]? = some e1 → Dw K H' x e1 → Pv j σ' H' → g x σ' H' fun σ2 H2 => tb { D with nx := Pv (j + 1), ct := Pv (j + 1), bk := D.nx } σ2 H2)
    (hd : ∀ σ' H', Pv ds.length σ' H' → D.nx σ' H') : tFor (iSeq K tl) g tb D σ H := by
  obtain ⟨a, xs, rfl, hs1, hlen, ha⟩ := Dv.seq e
  have hn := ha.length
  have one : ∀ (j : Nat) (x : V) (σ' : L2.St) (H' : Hp), xs[j]? = some x → Pv j σ' H' → g x σ' H' fun σ2 H2 => tb { D with nx := Pv (j + 1), ct := Pv (j + 1), bk := D.nx } σ2 H2 := by
    intro j x σ' H' hx p
    obtain ⟨e1, h1, h2⟩ := ha.get hx
    exact turn j x e1 σ' H' h1 (Dw.same (hs j σ' H' p) _ _ h2) p
  rcases hs1 with q | q
  · exact .inl (hl _ ⟨a, rfl, ⟨_, q⟩, for_list (K := K) (a := a) (xs := xs) Pv h0 (fun j σ' H' _ z => (hs j σ' H' z).seq q) one (fun σ' H' z => hd σ' H' (hn ▸ z))⟩)
  · exact .inr (hl _ ⟨a, rfl, ⟨_, q⟩, for_tup (K := K) (a := a) (xs := xs) Pv h0 (fun j σ' H' _ z => Same.tup (hs j σ' H' z) q) one (fun σ' H' z => hd σ' H' (hn ▸ z))⟩)
end SG

set_option Elab.async false
set_option linter.all false
set_option maxRecDepth 100000
set_option maxHeartbeats 4000000
/-! isinstance of a def handed about as a value; type(x) of any value; is C. -/
namespace SG
open PySem PySem.Spec PyProof.Rows L2
open PySem.Sem (wp)
theorem fSlot : Slot "function" "__getattribute__" "object.__getattribute__" :=
  .of (owner := "object") (n := "__getattribute__") (by rw [typeLookup_type, builtinLookup_eq_fast]; kernel_rfl) (by decide +kernel) (by decide +kernel) (by decide +kernel)
    (by first | exact .inl (by decide +kernel) | exact .inr (by decide +kernel)) (by rw [isSubtype_type]; kernel_rfl)
theorem fEntry : entryFor table "object.__getattribute__" = some Builtin.«object.__getattribute__» := entryFor_of_tree (by kernel_rfl)
theorem fClass : typeLookup (.type "function") "__class__" = pure (some (.builtin "object.__class__")) := by
  rw [typeLookup_type, builtinLookup_eq_fast]
  kernel_rfl
theorem fOwner : isSubtype (.type "function") (.type (".".intercalate ("object.__class__".cutAt '.').dropLast)) = pure true := by
  rw [PySem.F.owner_object_class, isSubtype_type]
  kernel_rfl
theorem fArgs (u v : Value) : argsOk "object.__getattribute__" ⟨[u, v], []⟩ := by
  unfold argsOk
  rw [signature?_of (id := "object.__getattribute__") (n := ['_', '_', 'e', 't', 'u', 'b', 'i', 'r', 't', 't', 'a', 't', 'e', 'g', '_', '_']) (o := ['t', 'c', 'e', 'j', 'b', 'o']) (by kernel_rfl) PySem.F.owner_object]
  kernel_rfl
section
variable {P : Program} {w : World} {A : Around} {E : Value → Shared → Prop} {hp : Heap} {gs : Array GenState} {dr : Drawn} {n : Nat} {os : OsState} {f : Addr} {o : Obj}
theorem fGet {R : Result → Shared → Prop} (e : hp.get? f = some o) (c : o.cls = .type "function") (k : R (.ok (.ret (.type "function"))) ⟨hp, gs, dr, n, os⟩) :
    codeAny (model P w) A (.call (.builtin "getset_descriptor.__get__") ⟨[.builtin "object.__class__", .ref f, .type "function"], []⟩) R ⟨hp, gs, dr, n, os⟩ := by
  have ty : (⟨hp, gs, dr, n, os⟩ : Shared).TypeIs (.ref f) "function" := ⟨_, e, c⟩
  have tc : (⟨hp, gs, dr, n, os⟩ : Shared).TypeIs (.builtin "object.__class__") "getset_descriptor" := PySem.F.typeOf_object_class
  have ow := fOwner
  refine codeAny_call_builtin PySem.F.slot_gs_get.plain PySem.F.entry_gs_get (PySem.F.slot_gs_get.check _ _ _ _ _ _ _ _ tc (PySem.F.args_gs_get _ _ _) ?_)
  repeat (any_goals (first | assumption | wp_step))
  refine ⟨Code.quiet_builtin _ (by decide +kernel), codeAny_builtin PySem.F.entry_object_class ?_⟩
  repeat (any_goals (first | assumption | wp_step))
theorem fAsk {tk : Tok} {Q : Fin → Shared → Prop} (e : hp.get? f = some o) (c : o.cls = .type "function") (k : Q (.done (.ret (.type "function"))) ⟨hp, gs, dr, n, os⟩) :
    wpAny (model P w) A (Builtin.«object.__getattribute__» ⟨[.ref f, .str "__class__" tk], []⟩) Q E ⟨hp, gs, dr, n, os⟩ := by
  have ty : (⟨hp, gs, dr, n, os⟩ : Shared).TypeIs (.ref f) "function" := ⟨_, e, c⟩
  have tc : (⟨hp, gs, dr, n, os⟩ : Shared).TypeIs (.builtin "object.__class__") "getset_descriptor" := PySem.F.typeOf_object_class
  have l1 := fClass
  have l2 := PySem.F.typeOf_object_class
  have l3 := PySem.F.slot_gs_get.lookup
  have l4 := PySem.F.slot_gs_set.lookup
  repeat (any_goals (first | assumption | wp_step))
  refine fGet e c ?_
  repeat (any_goals (first | assumption | wp_step))
theorem fCall {tk : Tok} {R : Result → Shared → Prop} (e : hp.get? f = some o) (c : o.cls = .type "function") (k : R (.ok (.ret (.type "function"))) ⟨hp, gs, dr, n, os⟩) :
    codeAny (model P w) A (.call (.builtin "object.__getattribute__") ⟨[.ref f, .str "__class__" tk], []⟩) R ⟨hp, gs, dr, n, os⟩ :=
  codeAny_call_builtin fSlot.plain fEntry (fSlot.check _ _ _ _ _ _ _ _ (show (⟨hp, gs, dr, n, os⟩ : Shared).TypeIs (.ref f) "function" from ⟨_, e, c⟩) (fArgs _ _) (fAsk e c k))
theorem fBy {tk : Tok} {Q : Value → Shared → Prop} (e : hp.get? f = some o) (c : o.cls = .type "function") (k : Q (.type "function") ⟨hp, gs, dr, n, os⟩) :
    wpAny (model P w) A (getAttrBy (.ref f) (.str "__class__" tk) false) Q E ⟨hp, gs, dr, n, os⟩ := by
  have ty : (⟨hp, gs, dr, n, os⟩ : Shared).TypeIs (.ref f) "function" := ⟨_, e, c⟩
  have l1 := fSlot.lookup
  have l2 := fSlot.bind (.ref f)
  repeat (any_goals (first | assumption | wp_step))
  refine fCall e c ?_
  repeat (any_goals (first | assumption | wp_step))
theorem fAttr {Q : Option Value → Shared → Prop} (e : hp.get? f = some o) (c : o.cls = .type "function") (k : Q (some (.type "function")) ⟨hp, gs, dr, n + 1, os⟩) :
    wpAny (model P w) A (getAttr? (.ref f) "__class__") Q E ⟨hp, gs, dr, n, os⟩ := by
  unfold getAttr? getAttrBy?
  repeat (any_goals (first | assumption | with_reducible apply fBy e c | wp_step))
end
theorem kitx_fn {K : PySem.W.Frag} {f : Addr} : PySem.W.KitX K (.ref f) (.type "function") (PySem.W.KitAt f "function") :=
  PySem.W.kitx_of PySem.W.kitAt_ty (fun {_ _ _ _ _ s} p k => by obtain ⟨h, g, d, t, os⟩ := s; obtain ⟨o, h1, h2⟩ := p; exact fAttr h1 h2 k)
section
variable {X : Cx}
/-- a value's type, a def of the module's too -/
inductive TyG (K : PySem.W.Frag) (H : Hp) : V → Value → Prop
  | of {x : V} {t : Value} (h : TyX K H x t) : TyG K H x t
  | fn {f : Addr} {o : Obj} (e : K.lookup f = some o) (c : o.cls = .type "function") : TyG K H (.ref f) (.type "function")
def rIsG (K : PySem.W.Frag) : List V → Hp → VK → Prop := fun xs H Q => ∃ (x c : V) (t u : Value) (b : Bool), xs = [x, c] ∧ ClsV c u ∧ TyG K H x t ∧ PySem.W.kitOne K t u = some b ∧ Q (.bl b) H
theorem call_isG : CallR X (.builtin "isinstance") (rIsG X.K) := by
  intro pins s σ H xs us Q I r h
  obtain ⟨x, c, t, u, b, rfl, k, ty, e, q⟩ := h
  cases ty with
  | of ty => exact call_isi pins s σ H _ us Q I r ⟨x, c, t, u, b, rfl, k, ty, e, q⟩
  | @fn f o lk co =>
    obtain ⟨u1, u2, rfl, r1, r2⟩ := vals2 r
    have e2 := k.eq r2
    subst e2
    cases (show u1 = Value.ref f from r1)
    exact PySem.W.kia_one kitx_fn I.kIn ⟨o, I.kIn f o lk, co⟩ e (fun z => nomatch z) fun tk => ⟨.bl b, H, I.tok tk, rfl, q⟩
def rIsGT (K : PySem.W.Frag) : List V → Hp → VK → Prop := fun xs H Q => ∃ (x : V) (tp : Addr) (cs : List V) (t : Value) (us : List Value) (b : Bool), xs = [x, .ref tp] ∧ H tp = some (.tup cs) ∧ Paired ClsV cs us ∧ TyG K H x t ∧ PySem.W.kitAny K t us = some b ∧ Q (.bl b) H
theorem call_isGT : CallR X (.builtin "isinstance") (rIsGT X.K) := by
  intro pins s σ H xs us Q I r h
  obtain ⟨x, tp, cs, t, ws, b, rfl, hT, k, ty, e, q⟩ := h
  cases ty with
  | of ty => exact call_isiT pins s σ H _ us Q I r ⟨x, tp, cs, t, ws, b, rfl, hT, k, ty, e, q⟩
  | @fn f o lk co =>
    obtain ⟨u1, u2, rfl, r1, r2⟩ := vals2 r
    cases (show u2 = Value.ref tp from r2)
    cases (show u1 = Value.ref f from r1)
    obtain ⟨_, its, rv, ob, h1, h2, n, h3⟩ := (show ObjOk X.prog X.w H s.heap tp (.tup cs) from I.hok tp _ hT)
    have e3 := ClsV.all k rv
    subst e3
    obtain ⟨oc, od, dt, sl⟩ := ob
    simp only at h2 h3
    subst h2 h3
    exact PySem.W.kia_tup kitx_fn I.kIn ⟨o, I.kIn f o lk, co⟩ h1 e (fun z => nomatch z) fun tk => ⟨.bl b, H, I.tok tk, rfl, q⟩
/-- type(x), as it can be compared -/
inductive TyW (K : PySem.W.Frag) (H : Hp) : V → V → Prop
  | of {x : V} {T : String} (h : TyB K H x T) : TyW K H x (.ty T)
  | ins {a C dx : Addr} {fs : List (Str × V)} (e : H a = some (.ins C dx fs)) : TyW K H (.ref a) (.ref C)
  | fn {f : Addr} {o : Obj} (e : K.lookup f = some o) (c : o.cls = .type "function") : TyW K H (.ref f) (.ty "function")
theorem call_tyW : CallR X (.type "type") (fun xs H Q => ∃ x t, xs = [x] ∧ TyW X.K H x t ∧ Q t H) := by
  intro pins s σ H xs us Q I r h
  obtain ⟨x, t, rfl, ty, q⟩ := h
  cases ty with
  | of hb => exact call_type1 pins s σ H _ us Q I r ⟨x, _, rfl, hb, q⟩
  | ins e => exact cr_type pins s σ H _ us Q I r ⟨_, _, _, _, rfl, e, q⟩
  | @fn f o lk co =>
    obtain ⟨u, rfl, rx⟩ := vals1 r
    cases (show u = Value.ref f from rx)
    exact call_type_of (show s.TypeIs (.ref f) "function" from ⟨o, I.kIn f o lk, co⟩) (by decide +kernel) ⟨.ty "function", H, I, rfl, q⟩
/-- t is C, C an own class, t what type(..) gave -/
def rIsC (K : PySem.W.Frag) : R2 := fun x y H Q => ∃ C, y = .ref C ∧ ((∃ n, x = .ty n ∧ Q (.bl false) H) ∨ ∃ B, x = .ref B ∧ (B = C ∨ (PySem.W.makesIn K B = true ∧ PySem.W.makesIn K C = true)) ∧ Q (.bl (decide (B = C))) H)
theorem op_isC : OpR X (compareOp .Is) (rIsC X.K) := by
  intro pins s σ H x y v u Q I rx ry h
  obtain ⟨C, rfl, ⟨n, rfl, q⟩ | ⟨B, rfl, hBC, q⟩⟩ := h
  · cases (show v = Value.type n from rx)
    cases (show u = Value.ref C from ry)
    exact wpAny_is_plain rfl ⟨.bl false, H, I, rfl, q⟩
  · exact op_is_cls pins s σ H _ _ v u Q I rx ry ⟨B, C, rfl, rfl, hBC, q⟩
end
end SG

set_option Elab.async false
set_option linter.all false
set_option maxRecDepth 100000
set_option maxHeartbeats 4000000
/-! Data, or an own object where data may be looked for; data with its lists fixed to tuples. -/
namespace SG
open PySem PySem.Spec PyProof.Rows L2
/-- what isinstance asks of an own class -/
structure InsT (K : PySem.W.Frag) (C : Addr) : Prop where
  cl : Cls K C
  ha : PySem.W.findIn K (.ref C) "__class__" = some (some (.builtin "object.__class__"))
  hn : PySem.W.specialIn K (.builtin "object.__class__") "__get__" = some (some (.builtin "getset_descriptor.__get__"))
  ht : PySem.W.takesIn K (.builtin "object.__class__") = some true
  hm : PySem.W.mroIn K C (.type "object") = some true
  ni : PySem.W.kitOne K (.ref C) (.type "int") = some false
  ns : PySem.W.kitAny K (.ref C) [.type "list", .type "tuple"] = some false
  nb : PySem.W.kitOne K (.ref C) (.type "bool") = some false
theorem InsT.ty {K : PySem.W.Frag} {H : Hp} {a C dx : Addr} {fs : List (Str × V)} (t : InsT K C) (e : H a = some (.ins C dx fs)) : TyX K H (.ref a) (.ref C) :=
  .base (.ins e t.cl t.ha t.hn t.ht t.hm)
mutual
/-- data, own objects within it (told as None: they are no integers and no lists) -/
inductive Do (K : PySem.W.Frag) (H : Hp) : V → PyData → Prop
  | non : Do K H .non .none
  | bl (b : Bool) : Do K H (.bl b) (.bool b)
  | int (i : Int) : Do K H (.int i) (.int i)
  | str (x : Str) : Do K H (.str x) (.str x)
  | lst {a : Addr} {xs : List V} {ds : List PyData} : SqL K H a xs → xs.length ≤ 1000 → DoAll K H xs ds → Do K H (.ref a) (.list ds)
  | tup {a : Addr} {xs : List V} {ds : List PyData} : SqT K H a xs → xs.length ≤ 1000 → DoAll K H xs ds → Do K H (.ref a) (.tuple ds)
  | dic {a : Addr} {kvs : List (Key × V)} {es : List (PyData × PyData)} : H a = some (.dK kvs) → Do K H (.ref a) (.dict es)
  | ins {a C dx : Addr} {fs : List (Str × V)} : H a = some (.ins C dx fs) → InsT K C → Do K H (.ref a) .none
inductive DoAll (K : PySem.W.Frag) (H : Hp) : List V → List PyData → Prop
  | nil : DoAll K H [] []
  | cons {v : V} {vs : List V} {d : PyData} {ds : List PyData} : Do K H v d → DoAll K H vs ds → DoAll K H (v :: vs) (d :: ds)
end
mutual
theorem Do.same {K : PySem.W.Frag} {H H' : Hp} (s : Same H H') : ∀ (d : PyData) (v : V), Do K H v d → Do K H' v d
  | .none, _, h => by
    cases h with
    | non => exact .non
    | ins e t => exact .ins (s _ _ e) t
  | .bool _, _, h => by cases h; exact .bl _
  | .int _, _, h => by cases h; exact .int _
  | .str _, _, h => by cases h; exact .str _
  | .list ds, _, h => by
    cases h with
    | lst hs hl ha => exact .lst (s.seq hs) hl (DoAll.same s ds _ ha)
  | .tuple ds, _, h => by
    cases h with
    | tup hs hl ha => exact .tup (Same.tup s hs) hl (DoAll.same s ds _ ha)
  | .dict _, _, h => by
    cases h with
    | dic hs => exact .dic (s _ _ hs)
theorem DoAll.same {K : PySem.W.Frag} {H H' : Hp} (s : Same H H') : ∀ (ds : List PyData) (vs : List V), DoAll K H vs ds → DoAll K H' vs ds
  | [], _, h => by cases h; exact .nil
  | d :: ds, _, h => by
    cases h with
    | cons h1 h2 => exact .cons (Do.same s d _ h1) (DoAll.same s ds _ h2)
end
theorem DoAll.length {K : PySem.W.Frag} {H : Hp} : ∀ {vs : List V} {ds : List PyData}, DoAll K H vs ds → vs.length = ds.length
  | _, _, .nil => rfl
  | _, _, .cons _ h => by rw [List.length_cons, List.length_cons, DoAll.length h]
theorem DoAll.get {K : PySem.W.Frag} {H : Hp} : ∀ {vs : List V} {ds : List PyData} {i : Nat} {v : V}, DoAll K H vs ds → vs[i]? = some v → ∃ d, ds[i]? = some d ∧ Do K H v d
  | _, _, _, _, .nil, e => by cases e
  | _, _, 0, _, .cons h _, e => by cases e; exact ⟨_, rfl, h⟩
  | _, _, i + 1, _, .cons _ h, e => by
    rw [List.getElem?_cons_succ] at e
    obtain ⟨d, e1, h1⟩ := DoAll.get h e
    exact ⟨d, by rw [List.getElem?_cons_succ]; exact e1, h1⟩
theorem Do.ty {K : PySem.W.Frag} {H : Hp} {v : V} {d : PyData} (h : Do K H v d) : ∃ t, TyX K H v t ∧ PySem.W.kitOne K t (.type "int") = some (isIb d) ∧ PySem.W.kitOne K t (.type "bool") = some (isBb d) ∧ PySem.W.kitAny K t [.type "list", .type "tuple"] = some (parts d).isSome := by
  have go : TyX K H v (tyOf d) → ∃ t, TyX K H v t ∧ PySem.W.kitOne K t (.type "int") = some (isIb d) ∧ PySem.W.kitOne K t (.type "bool") = some (isBb d) ∧ PySem.W.kitAny K t [.type "list", .type "tuple"] = some (parts d).isSome :=
    fun t => ⟨_, t, kit_int d, kit_bool d, kit_seq d⟩
  cases h with
  | non => exact go (.base .non)
  | bl b => exact go (.base (.bl b))
  | int i => exact go (.base (.int i))
  | str x => exact go (.base (.str x))
  | lst hs _ _ =>
    rcases hs with (q | ⟨o, q⟩) | ⟨o, _, _, e, c, _⟩
    · exact go (.base (.lst q))
    · exact go (.base (.frz q))
    · exact go (.kList e c)
  | tup hs _ _ =>
    rcases hs with (q | ⟨o, q⟩) | ⟨o, _, _, e, c, _⟩
    · exact go (.base (.tup q))
    · exact go (.fTuple q)
    · exact go (.kTuple e c)
  | dic q => exact go (.base (.dK q))
  | ins e t => exact ⟨_, t.ty e, t.ni, t.nb, t.ns⟩
theorem Do.isInt {K : PySem.W.Frag} {H : Hp} {v : V} {i : Int} (h : Do K H v (.int i)) : v = .int i := by cases h; rfl
theorem Do.seq {K : PySem.W.Frag} {H : Hp} {v : V} {d : PyData} {ds : List PyData} (h : Do K H v d) (e : parts d = some ds) : ∃ a xs, v = .ref a ∧ (SqL K H a xs ∨ SqT K H a xs) ∧ xs.length ≤ 1000 ∧ DoAll K H xs ds := by
  cases h with
  | lst hs hl ha => cases e; exact ⟨_, _, rfl, .inl hs, hl, ha⟩
  | tup hs hl ha => cases e; exact ⟨_, _, rfl, .inr hs, hl, ha⟩
  | _ => cases e
mutual
/-- lists told as tuples, all the way in -/
def fixD : PyData → PyData
  | .list ds => .tuple (fixA ds)
  | .tuple ds => .tuple (fixA ds)
  | .none => .none
  | .bool b => .bool b
  | .int i => .int i
  | .str x => .str x
  | .dict es => .dict es
def fixA : List PyData → List PyData
  | [] => []
  | d :: ds => fixD d :: fixA ds
end
theorem fixA_map : ∀ ds : List PyData, fixA ds = ds.map fixD
  | [] => by rw [fixA]; rfl
  | d :: ds => by rw [fixA, fixA_map ds]; rfl
theorem fixD_of {d : PyData} {ds : List PyData} (e : parts d = some ds) : fixD d = .tuple (ds.map fixD) := by
  cases d <;> first | (cases e; rw [fixD, fixA_map]) | cases e
theorem fixD_no {d : PyData} (e : parts d = none) : fixD d = d := by
  cases d with
  | list ds => cases e
  | tuple ds => cases e
  | _ => rw [fixD]
theorem parts_fixD (d : PyData) : parts (fixD d) = (parts d).map fun ds => ds.map fixD := by
  cases e : parts d with
  | none => rw [fixD_no e, e]; rfl
  | some ds => rw [fixD_of e]; rfl
mutual
/-- how deep lists stand within it -/
def deep : PyData → Nat
  | .list ds => deepA ds + 1
  | .tuple ds => deepA ds + 1
  | .none => 0
  | .bool _ => 0
  | .int _ => 0
  | .str _ => 0
  | .dict _ => 0
def deepA : List PyData → Nat
  | [] => 0
  | d :: ds => max (deep d) (deepA ds)
end
theorem deepA_le : ∀ {ds : List PyData} {d : PyData}, d ∈ ds → deep d ≤ deepA ds
  | _ :: ds, d, h => by
    rw [deepA]
    rcases List.mem_cons.mp h with e | e
    · rw [e]; exact Nat.le_max_left _ _
    · exact Nat.le_trans (deepA_le e) (Nat.le_max_right _ _)
theorem deep_of {d : PyData} {ds : List PyData} (e : parts d = some ds) : deep d = deepA ds + 1 := by
  cases d <;> first | (cases e; rw [deep]) | cases e
/-- [e for x in data], e's heap only grows -/
theorem lo_data {K : PySem.W.Frag} {tl te : TE} {i : Nat} {vs : List Nat} {σ : L2.St} {H : Hp} {Q : VK} {v : V} {d : PyData} {ds : List PyData} (p : PyData → V) (e : parts d = some ds) (D : Do K H v d)
    (hl : ∀ R : VK, R v H → tl σ H R) (hw : ∀ x, wipe ((wipe σ vs).set i (some x)) vs = wipe σ vs)
    (he : ∀ (x : V) (e : PyData) (H' : Hp) (R : VK), Same H H' → Do K H' x e → e ∈ ds → (∀ H'', Same H' H'' → R (p e) H'') → te ((wipe σ vs).set i (some x)) H' R)
    (k : ∀ (L : Addr) (H' : Hp), Same H H' → H L = none → H' L = some (.lst (ds.map p)) → Q (.ref L) H') : tLc (iSeq K tl) (gName i) tYes te vs σ H Q := by
  obtain ⟨a, xs, rfl, hs, hlen, ha⟩ := D.seq e
  have hn := ha.length
  have turn : ∀ (L : Addr) (hL : H L = none) (j : Nat) (x : V) (H' : Hp), xs[j]? = some x → (Same H H' ∧ H' L = some (.lst ((ds.take j).map p))) →
      gName i x (wipe σ vs) H' fun σ2 H2 => wipe σ2 vs = wipe σ vs ∧ tYes σ2 H2 fun b H3 =>
        if b = true then te σ2 H3 fun y H4 => ∃ acc, H4 L = some (.lst acc) ∧ acc.length < sizeLine ∧ (Same H (upd H4 L (.lst (acc ++ [y]))) ∧ (upd H4 L (.lst (acc ++ [y]))) L = some (.lst ((ds.take (j + 1)).map p))) else (Same H H3 ∧ H3 L = some (.lst ((ds.take (j + 1)).map p))) := by
    intro L hL j x H' hx ⟨s, q⟩
    obtain ⟨e1, h1, h2⟩ := ha.get hx
    refine ⟨hw x, ?_⟩
    refine he x e1 H' _ s (Do.same s _ _ h2) (List.mem_of_getElem? h1) fun H'' s' => ?_
    refine ⟨_, s' _ _ q, ?_, set_new hL (s.trans s'), ?_⟩
    · have hj : j < xs.length := (List.getElem?_eq_some_iff.mp hx).1
      rw [List.length_map, List.length_take]
      have : sizeLine = 16777216 := by decide
      omega
    · rw [upd_same, List.take_add_one, h1]
      simp
  have fin : ∀ (L : Addr) (hL : H L = none) (H' : Hp), (Same H H' ∧ H' L = some (.lst ((ds.take xs.length).map p))) → Q (.ref L) H' := by
    intro L hL H' ⟨s, q⟩
    rw [hn, List.take_length] at q
    exact k L H' s hL q
  rcases hs with hs | hs
  · refine .inl (hl _ ⟨a, rfl, ⟨_, hs⟩, fun L hL => ?_⟩)
    exact lc_list (K := K) (a := a) (xs := xs) (fun j H' => Same H H' ∧ H' L = some (.lst ((ds.take j).map p))) ⟨newO hL, upd_same⟩ (fun j H' _ z => z.1.seq hs) (turn L hL) (fin L hL)
  · refine .inr (hl _ ⟨a, rfl, ⟨_, hs⟩, fun L hL => ?_⟩)
    exact lc_tup (K := K) (a := a) (xs := xs) (fun j H' => Same H H' ∧ H' L = some (.lst ((ds.take j).map p))) ⟨newO hL, upd_same⟩ (fun j H' _ z => Same.tup z.1 hs) (turn L hL) (fin L hL)
/-- [x for x in data if t]: whether any is kept -/
theorem lo_keep {K : PySem.W.Frag} {tl : TE} {tt : TT} {i : Nat} {vs : List Nat} {σ : L2.St} {H : Hp} {Q : VK} {v : V} {d : PyData} {ds : List PyData} (q : PyData → Bool) (e : parts d = some ds) (D : Do K H v d)
    (hl : ∀ R : VK, R v H → tl σ H R) (hw : ∀ x, wipe ((wipe σ vs).set i (some x)) vs = wipe σ vs) (hg : ∀ x : V, ((wipe σ vs).set i (some x))[i]? = some (some x))
    (ht : ∀ (x : V) (e : PyData) (H' : Hp) (R : Bool → Hp → Prop), Same H H' → Do K H' x e → e ∈ ds → (∀ H'', Same H' H'' → R (q e) H'') → tt ((wipe σ vs).set i (some x)) H' R)
    (k : ∀ (L : Addr) (H' : Hp) (ys : List V), Same H H' → H L = none → H' L = some (.lst ys) → ys.isEmpty = !ds.any q → Q (.ref L) H') : tLc (iSeq K tl) (gName i) tt (tVar i) vs σ H Q := by
  obtain ⟨a, xs, rfl, hs, hlen, ha⟩ := D.seq e
  have hn := ha.length
  let Pv : Addr → Nat → Hp → Prop := fun L j H' => Same H H' ∧ ∃ ys, H' L = some (.lst ys) ∧ ys.length ≤ j ∧ ys.isEmpty = !(ds.take j).any q
  have start : ∀ (L : Addr) (hL : H L = none), Pv L 0 (upd H L (.lst [])) := fun L hL => ⟨newO hL, [], upd_same, Nat.le_refl _, by simp⟩
  have turn : ∀ (L : Addr) (hL : H L = none) (j : Nat) (x : V) (H' : Hp), xs[j]? = some x → Pv L j H' →
      gName i x (wipe σ vs) H' fun σ2 H2 => wipe σ2 vs = wipe σ vs ∧ tt σ2 H2 fun b H3 =>
        if b = true then tVar i σ2 H3 fun y H4 => ∃ acc, H4 L = some (.lst acc) ∧ acc.length < sizeLine ∧ Pv L (j + 1) (upd H4 L (.lst (acc ++ [y]))) else Pv L (j + 1) H3 := by
    intro L hL j x H' hx ⟨s, ys, hy, ly, ey⟩
    have hj : j < xs.length := (List.getElem?_eq_some_iff.mp hx).1
    obtain ⟨e1, h1, h2⟩ := ha.get hx
    have tk : (ds.take (j + 1)).any q = ((ds.take j).any q || q e1) := by rw [List.take_add_one, h1]; simp
    refine ⟨hw x, ?_⟩
    refine ht x e1 H' _ s (Do.same s _ _ h2) (List.mem_of_getElem? h1) fun H'' s' => ?_
    refine ite2 (fun c => ?_) (fun c => ?_)
    · refine ⟨x, hg x, ys, s' _ _ hy, ?_, set_new hL (s.trans s'), ys ++ [x], upd_same, ?_, ?_⟩
      · have : sizeLine = 16777216 := by decide
        omega
      · rw [List.length_append, List.length_singleton]; omega
      · rw [tk, c]; simp
    · have c' : q e1 = false := by cases z : q e1 with | false => rfl | true => exact absurd z c
      refine ⟨s.trans s', ys, s' _ _ hy, by omega, ?_⟩
      rw [tk, c', ey]; simp
  have fin : ∀ (L : Addr) (hL : H L = none) (H' : Hp), Pv L xs.length H' → Q (.ref L) H' := by
    intro L hL H' ⟨s, ys, hy, _, ey⟩
    rw [hn, List.take_length] at ey
    exact k L H' ys s hL hy ey
  rcases hs with hs | hs
  · refine .inl (hl _ ⟨a, rfl, ⟨_, hs⟩, fun L hL => ?_⟩)
    exact lc_list (K := K) (a := a) (xs := xs) (Pv L) (start L hL) (fun j H' _ z => z.1.seq hs) (turn L hL) (fin L hL)
  · refine .inr (hl _ ⟨a, rfl, ⟨_, hs⟩, fun L hL => ?_⟩)
    exact lc_tup (K := K) (a := a) (xs := xs) (Pv L) (start L hL) (fun j H' _ z => Same.tup z.1 hs) (turn L hL) (fin L hL)
theorem DoAll.snoc {K : PySem.W.Frag} {H : Hp} {v : V} {d : PyData} : ∀ {vs : List V} {ds : List PyData}, DoAll K H vs ds → Do K H v d → DoAll K H (vs ++ [v]) (ds ++ [d])
  | _, _, .nil, q => .cons q .nil
  | _, _, .cons a r, q => .cons a (DoAll.snoc r q)
/-- a part of the heap that what is made on the way (a comprehension's list) does not belong to: from H, G to H', G' -/
structure Gh (H G H' G' : Hp) : Prop where
  hh : Same H H'
  gg : Same G G'
  gh : Same G' H'
  nw : ∀ b o, H b = some o → G b = none → G' b = none
theorem Gh.refl {H G : Hp} (s : Same G H) : Gh H G H G := ⟨Same.refl H, Same.refl G, s, fun _ _ _ q => q⟩
theorem Gh.trans {H G H1 G1 H2 G2 : Hp} (x : Gh H G H1 G1) (y : Gh H1 G1 H2 G2) : Gh H G H2 G2 :=
  ⟨x.hh.trans y.hh, x.gg.trans y.gg, y.gh, fun b o e n => y.nw b o (x.hh _ _ e) (x.nw b o e n)⟩
theorem gh_free {H G : Hp} (s : Same G H) {p : Addr} (hp : H p = none) : G p = none := by
  cases e : G p with
  | none => rfl
  | some o => rw [s _ _ e] at hp; cases hp
/-- a new object that belongs to it -/
theorem Gh.new {H G H1 G1 : Hp} (x : Gh H G H1 G1) {p : Addr} {o : HO} (hp : H1 p = none) : Gh H G (upd H1 p o) (upd G1 p o) := by
  have n1 := gh_free x.gh hp
  refine ⟨fun b u q => ?_, fun b u q => ?_, fun b u q => ?_, fun b u q n => ?_⟩
  · rw [upd_ne (ne_of_none (x.hh _ _ q) hp)]; exact x.hh _ _ q
  · rw [upd_ne (ne_of_none (x.gg _ _ q) n1)]; exact x.gg _ _ q
  · by_cases e : b = p
    · subst e; rw [upd_same] at q ⊢; exact q
    · rw [upd_ne e] at q ⊢; exact x.gh _ _ q
  · rw [upd_ne (ne_of_none (x.hh _ _ q) hp)]; exact x.nw b u q n
/-- .. that does not -/
theorem Gh.side {H G H1 G1 : Hp} (x : Gh H G H1 G1) {p : Addr} {o : HO} (hp : H1 p = none) : Gh H G (upd H1 p o) G1 :=
  ⟨fun b u q => by rw [upd_ne (ne_of_none (x.hh _ _ q) hp)]; exact x.hh _ _ q, x.gg, fun b u q => by rw [upd_ne (ne_of_none (x.gh _ _ q) hp)]; exact x.gh _ _ q, x.nw⟩
/-- an object beside it is changed that was not there at first -/
theorem Gh.set {H G H1 G1 : Hp} (x : Gh H G H1 G1) {p : Addr} {o : HO} (h0 : H p = none) (n1 : G1 p = none) : Gh H G (upd H1 p o) G1 :=
  ⟨fun b u q => by rw [upd_ne (ne_of_none q h0)]; exact x.hh _ _ q, x.gg, fun b u q => by rw [upd_ne (ne_of_none q n1)]; exact x.gh _ _ q, x.nw⟩
/-- a comprehension over data whose values stand for data again -/
theorem lc_gh {K : PySem.W.Frag} {tl te : TE} {i : Nat} {vs : List Nat} {σ : L2.St} {H G : Hp} {Q : VK} {v : V} {d : PyData} {ds : List PyData} (p : PyData → PyData) (e : parts d = some ds) (S : Same G H) (D : Do K G v d)
    (hl : ∀ R : VK, R v H → tl σ H R) (hw : ∀ x, wipe ((wipe σ vs).set i (some x)) vs = wipe σ vs)
    (he : ∀ (x : V) (e : PyData) (H' G' : Hp) (R : VK), Gh H G H' G' → Do K G' x e → e ∈ ds → (∀ H'' G'' y, Gh H' G' H'' G'' → Do K G'' y (p e) → R y H'') → te ((wipe σ vs).set i (some x)) H' R)
    (k : ∀ (L : Addr) (H' G' : Hp) (ys : List V), Gh H G H' G' → H L = none → G' L = none → H' L = some (.lst ys) → DoAll K G' ys (ds.map p) → ys.length ≤ 1000 → Q (.ref L) H') : tLc (iSeq K tl) (gName i) tYes te vs σ H Q := by
  obtain ⟨a, xs, rfl, hs, hlen, ha⟩ := D.seq e
  have hn := ha.length
  let Pv : Addr → Nat → Hp → Prop := fun L j H' => ∃ G' ys, Gh H G H' G' ∧ G' L = none ∧ H' L = some (.lst ys) ∧ DoAll K G' ys ((ds.take j).map p)
  have dlen : ∀ j, ((ds.take j).map p).length ≤ 1000 := fun j => by rw [List.length_map, List.length_take]; omega
  have start : ∀ (L : Addr) (hL : H L = none), Pv L 0 (upd H L (.lst [])) := fun L hL => ⟨G, [], (Gh.refl S).side hL, gh_free S hL, upd_same, .nil⟩
  have turn : ∀ (L : Addr) (hL : H L = none) (j : Nat) (x : V) (H' : Hp), xs[j]? = some x → Pv L j H' →
      gName i x (wipe σ vs) H' fun σ2 H2 => wipe σ2 vs = wipe σ vs ∧ tYes σ2 H2 fun b H3 =>
        if b = true then te σ2 H3 fun y H4 => ∃ acc, H4 L = some (.lst acc) ∧ acc.length < sizeLine ∧ Pv L (j + 1) (upd H4 L (.lst (acc ++ [y]))) else Pv L (j + 1) H3 := by
    intro L hL j x H' hx ⟨G', ys, g, gL, q, dy⟩
    obtain ⟨e1, h1, h2⟩ := ha.get hx
    refine ⟨hw x, ?_⟩
    refine he x e1 H' G' _ g (Do.same g.gg _ _ h2) (List.mem_of_getElem? h1) fun H'' G'' y g' dy' => ?_
    have hys := dy.length
    have := dlen j
    have gL2 := g'.nw _ _ q gL
    refine ⟨ys, g'.hh _ _ q, ?_, G'', ys ++ [y], (g.trans g').set hL gL2, gL2, upd_same, ?_⟩
    · have : sizeLine = 16777216 := by decide
      omega
    · have tk : (ds.take (j + 1)).map p = (ds.take j).map p ++ [p e1] := by rw [List.take_add_one, h1]; simp
      rw [tk]
      exact DoAll.snoc (DoAll.same g'.gg _ _ dy) dy'
  have fin : ∀ (L : Addr) (hL : H L = none) (H' : Hp), Pv L xs.length H' → Q (.ref L) H' := by
    intro L hL H' ⟨G', ys, g, gL, q, dy⟩
    rw [hn, List.take_length] at dy
    refine k L H' G' ys g hL gL q dy ?_
    rw [dy.length, List.length_map, ← hn]
    exact hlen
  rcases hs with hs | hs
  · refine .inl (hl _ ⟨a, rfl, ⟨_, S.seq hs⟩, fun L hL => ?_⟩)
    exact lc_list (K := K) (a := a) (xs := xs) (Pv L) (start L hL) (fun j H' _ z => (S.trans (let ⟨_, _, g, _⟩ := z; g.hh)).seq hs) (turn L hL) (fin L hL)
  · refine .inr (hl _ ⟨a, rfl, ⟨_, Same.tup S hs⟩, fun L hL => ?_⟩)
    exact lc_tup (K := K) (a := a) (xs := xs) (Pv L) (start L hL) (fun j H' _ z => Same.tup (S.trans (let ⟨_, _, g, _⟩ := z; g.hh)) hs) (turn L hL) (fin L hL)
/-- fixed(v), lists at most n deep -/
def spFixed (n : Nat) (K : PySem.W.Frag) : Sp := fun vs H Q _ => ∃ v d G, vs = [v] ∧ Same G H ∧ Do K G v d ∧ deep d ≤ n ∧ ∀ H' G' v', Gh H G H' G' → Do K G' v' (fixD d) → (parts d = none → v' = v) → Q v' H'
end SG

set_option Elab.async false
set_option linter.all false
set_option maxRecDepth 100000
set_option maxHeartbeats 4000000
namespace K11
open PySem L2 SG
/-! ### the errors -/
/-- an error class of the text, found behind the top -/
structure Er (K : PySem.W.Frag) (mg : Str → Option Value) (x q : Str) (st : Stmt) where
  C : Addr
  f : Addr
  fd : FuncData
  F : Fun K "__init__" q st f fd
  m : mg x = some (.ref C)
  O : OexC K C
  X : XfC K C
  E : ExcC K C
  iC : PySem.W.findIn K (.ref C) "__init__" = some (some (.ref f))
  tI : PySem.W.typeIn K (.ref f) = some (.type "function")
/-- __init__ of an error with one field -/
def spIn1 (C : Addr) : Sp := fun vs H Q _ => ∃ (a : Addr) (v : V), vs = [.ref a, v] ∧ H a = some (exo a C none) ∧
  ∀ (d : Addr) (H' : Hp), H d = none → H' a = some (exo a C (some d)) → H' d = some (exd d [("part", v)]) → (∀ b o, b ≠ a → H b = some o → H' b = some o) → Q .non H'
/-- .. with two -/
def spIn2 (C : Addr) : Sp := fun vs H Q _ => ∃ (a : Addr) (v u : V), vs = [.ref a, v, u] ∧ H a = some (exo a C none) ∧
  ∀ (d : Addr) (H' : Hp), H d = none → H' a = some (exo a C (some d)) → H' d = some (exd d [("most", u), ("what", v)]) → (∀ b o, b ≠ a → H b = some o → H' b = some o) → Q .non H'
section
variable {P : Program} {w : World} {K : PySem.W.Frag} {mg : Str → Option Value} {base : Heap}
abbrev i_BadNumber : Stmt := inClass (top 2) 0
theorem si_BadNumber : FnScope ["self", "part"] ["self", "part"] (defScope i_BadNumber) := ⟨rfl, rfl, rfl, by decide +kernel, rfl, by decide +kernel, by decide +kernel⟩
theorem ok_BadNumber (R : Er K mg "BadNumber" "BadNumber.__init__" i_BadNumber) (no : PySem.W.findIn K (.ref R.C) "part" = some none) : FnOk P w K mg base CX0 1 R.f R.fd ["self", "part"] (spIn1 R.C) := by
  refine R.F.ok si_BadNumber (fun vs H Q E h => ?_) (fun cdv A outer s H vs Q E hr h => ?_)
  · obtain ⟨a, v, rfl, _⟩ := h
    rfl
  · obtain ⟨a, v, rfl, ha, k⟩ := h
    refine ⟨_, pss_one (ps_ost (pv 0) (pv 1)), ?_⟩
    refine ⟨_, rfl, _, rfl, a, R.C, rfl, R.O, no, .inl ⟨ha, fun d hd ne => ?_⟩⟩
    exact k d _ hd upd_same (by rw [upd_ne ne]; exact upd_same) fun b o hb q => by rw [upd_ne hb, upd_ne (ne_of_none q hd)]; exact q

theorem bi_BadNumber (R : Er K mg "BadNumber" "BadNumber.__init__" i_BadNumber) : Binds K R.fd ["self", "part"] [] := R.F.binds fun _ _ _ _ _ _ us l => match us, l with | [_, _], _ => rfl
theorem flown {H H2 : Hp} {C a d : Addr} {fs : List (Str × V)} {Q : XK} (ha : H a = none) (hd : upd H a (exo a C none) d = none) (q1 : H2 a = some (exo a C (some d))) (q2 : H2 d = some (exd d fs))
    (s : ∀ b o, b ≠ a → upd H a (exo a C none) b = some o → H2 b = some o) (k : ∀ H', Same H H' → H' d = some (.xd fs) → Q (.ref C) (some d) H') :
    V.non = V.non ∧ ∃ (d : Addr) (fs : List (Str × V)), H2 a = some (exo a C (some d)) ∧ H2 d = some (exd d fs) ∧ H d = none ∧ Q (.ref C) (some d) (upd (del H2 a) d (.xd fs)) := by
  have da : d ≠ a := fun e => by rw [e, upd_same] at hd; cases hd
  have d0 : H d = none := by rw [upd_ne da] at hd; exact hd
  refine ⟨rfl, d, fs, q1, q2, d0, k _ (fun b o q => ?_) upd_same⟩
  have ba := ne_of_none q ha
  rw [upd_ne (ne_of_none q d0), del_ne ba]
  exact s b o ba (newO ha b o q)
end
/-! ### what the words of checks answer -/
def areI (d : PyData) : Bool := match parts d with | some ds => ds.all isI | none => false
def rowI (d : PyData) (w : Int) : Bool := areI d && match parts d with | some ds => decide ((ds.length : Int) = w) | none => false
def rowsI (d : PyData) (m w : Int) : Bool := match parts d with | some ds => decide ((ds.length : Int) = m) && ds.all (rowI · w) | none => false
theorem areI_no {d : PyData} (e : parts d = none) : areI d = false := by rw [areI, e]
theorem areI_of {d : PyData} {ds : List PyData} (e : parts d = some ds) : areI d = (ds.map isI).all id := by rw [areI, e, List.all_map]; rfl
theorem rowsI_no {d : PyData} {m w : Int} (e : parts d = none) : rowsI d m w = false := by rw [rowsI, e]
theorem rowsI_of {d : PyData} {ds : List PyData} {m w : Int} (e : parts d = some ds) : rowsI d m w = (decide ((ds.length : Int) = m) && (ds.map (rowI · w)).all id) := by rw [rowsI, e, List.all_map]; rfl
def optV : Option Int → V | none => .non | some i => .int i
def lowB (l : Option Int) (i : Int) : Bool := match l with | none => true | some a => decide (a ≤ i)
def highB (m : Option Int) (i : Int) : Bool := match m with | none => true | some b => decide (i ≤ b)
def within (d : PyData) (l m : Option Int) : Bool := match d with | .int i => lowB l i && highB m i | _ => false
theorem eqInt (a b : Int) : decide (V.int a = V.int b) = decide (a = b) := by
  by_cases h : a = b
  · rw [h, decide_eq_true rfl, decide_eq_true rfl]
  · rw [decide_eq_false h, decide_eq_false]
    intro z
    injection z with z
    exact h z
def spIsInt (K : PySem.W.Frag) : Sp := fun vs H Q _ => ∃ v d, vs = [v] ∧ Do K H v d ∧ Q (.bl (isI d)) H
def spWithin (K : PySem.W.Frag) : Sp := fun vs H Q _ => ∃ v d l m, vs = [v, optV l, optV m] ∧ Do K H v d ∧ Q (.bl (within d l m)) H
def spAre (K : PySem.W.Frag) : Sp := fun vs H Q _ => ∃ v d, vs = [v] ∧ Do K H v d ∧ ∀ H', Same H H' → Q (.bl (areI d)) H'
def spRow (K : PySem.W.Frag) : Sp := fun vs H Q _ => ∃ v d w, vs = [v, .int w] ∧ Do K H v d ∧ ∀ H', Same H H' → Q (.bl (rowI d w)) H'
def spRows (K : PySem.W.Frag) : Sp := fun vs H Q _ => ∃ v d m w, vs = [v, .int m, .int w] ∧ Do K H v d ∧ ∀ H', Same H H' → Q (.bl (rowsI d m w)) H'
section
variable {P : Program} {w : World} {K : PySem.W.Frag} {mg : Str → Option Value} {base : Heap}
theorem ok_is_integer (T : Tx K mg) {f : Addr} {fd : FuncData} (F : Fun K "is_integer" "is_integer" s_is_integer f fd) : FnOk P w K mg base CX0 1 f fd ["value"] (spIsInt K) := by
  refine F.ok sc_is_integer (fun vs H Q E h => ?_) (fun cdv A outer s H vs Q E hr h => ?_)
  · obtain ⟨v, d, rfl, _⟩ := h
    rfl
  · obtain ⟨v, d, rfl, D, k⟩ := h
    refine ⟨_, (pss_one (ps_ret (pe_and (pe_callB call_isi (by rfl) T.nm.n_isinstance (by decide +kernel) (pa_cons (pv 0) (pa_cons (pe_bltn (v := .ty "int") (by rfl) T.nm.n_int (by decide +kernel) rfl) pa_nil))) (pe_one (pe_not (pe_callB call_isi (by rfl) T.nm.n_isinstance (by decide +kernel) (pa_cons (pv 0) (pa_cons (pe_bltn (v := .ty "bool") (by rfl) T.nm.n_bool (by decide +kernel) rfl) pa_nil)))))))), ?_⟩
    obtain ⟨t, ty, t1, t2, t3⟩ := D.ty
    refine ⟨_, rfl, _, _, _, _, _, rfl, .ty _, ty, t1, _, rfl, ?_⟩
    refine ite2 (fun c => ?_) (fun c => ?_)
    · refine ⟨_, rfl, _, _, _, _, _, rfl, .ty _, ty, t2, _, rfl, ?_⟩
      rw [show (!isBb d) = isI d from by cases d <;> first | rfl | cases c]
      exact k
    · rw [show false = isI d from by cases d <;> first | rfl | exact absurd rfl c]
      exact k
theorem ok_is_within (T : Tx K mg) {f : Addr} {fd : FuncData} (F : Fun K "is_within" "is_within" s_is_within f fd) : FnOk P w K mg base CX0 2 f fd ["value", "least", "most"] (spWithin K) := by
  refine F.ok sc_is_within (fun vs H Q E h => ?_) (fun cdv A outer s H vs Q E hr h => ?_)
  · obtain ⟨v, d, l, m, rfl, _⟩ := h
    rfl
  · obtain ⟨v, d, l, m, rfl, D, k⟩ := h
    refine ⟨_, (pss_cons (ps_if (pt_not (pt_val (pe_call (ok_is_integer T T.d_is_integer.F) (hr.mono (by decide)) rfl T.d_is_integer.m T.d_is_integer.k T.d_is_integer.b .nil pass0 (pa_cons (pv 0) pa_nil))))
  (pss_one (ps_ret pe_bl))
  pss_nil)
  (pss_one (ps_ret (pe_and (pe_or (pe_cmpR op_isN (pv 1) pe_non (nomark _)) (pe_one (pe_cmpR op_le (pv 1) (pv 0) (nomark _)))) (pe_one (pe_or (pe_cmpR op_isN (pv 2) pe_non (nomark _)) (pe_one (pe_cmpR op_le (pv 0) (pv 2) (nomark _))))))))), ?_⟩
    refine ⟨_, rfl, v, d, rfl, D, _, rfl, ?_⟩
    refine ite2 (fun c => ?_) (fun c => ?_)
    · rw [show false = within d l m from by cases d <;> first | rfl | cases c]
      exact k
    · obtain ⟨i, rfl⟩ : ∃ i, d = .int i := by
        cases d with
        | int i => exact ⟨i, rfl⟩
        | _ => exact absurd rfl c
      cases Do.isInt D
      have second : ∀ z, z = lowB l i → Q (.bl (z && highB m i)) H := fun z e => by rw [e]; exact k
      refine ⟨_, rfl, rfl, ?_⟩
      cases l with
      | none =>
        refine ⟨_, rfl, _, rfl, _, rfl, rfl, ?_⟩
        cases m with
        | none => exact ⟨_, rfl, second _ rfl⟩
        | some b => exact ⟨_, rfl, _, rfl, _, rfl, _, _, rfl, rfl, second _ rfl⟩
      | some a =>
        refine ⟨_, rfl, _, rfl, _, rfl, _, _, rfl, rfl, _, rfl, ?_⟩
        refine ite2 (fun ca => ?_) (fun ca => ?_)
        · refine ⟨_, rfl, rfl, ?_⟩
          cases m with
          | none => exact ⟨_, rfl, second _ ca.symm⟩
          | some b => exact ⟨_, rfl, _, rfl, _, rfl, _, _, rfl, rfl, second _ ca.symm⟩
        · exact second false (by cases z : decide (a ≤ i) with | false => exact z.symm | true => exact absurd z ca)
theorem ok_are_integers (T : Tx K mg) {f : Addr} {fd : FuncData} (F : Fun K "are_integers" "are_integers" s_are_integers f fd) : FnOk P w K mg base CX0 2 f fd ["value"] (spAre K) := by
  refine F.ok sc_are_integers (fun vs H Q E h => ?_) (fun cdv A outer s H vs Q E hr h => ?_)
  · obtain ⟨v, d, rfl, _⟩ := h
    rfl
  · obtain ⟨v, d, rfl, D, k⟩ := h
    refine ⟨_, (pss_one (ps_ret (pe_and (pe_callB call_isiT (by rfl) T.nm.n_isinstance (by decide +kernel) (pa_cons (pv 0) (pa_cons (pe_tup (pa_cons (pe_bltn (v := .ty "list") (by rfl) T.nm.n_list (by decide +kernel) rfl) (pa_cons (pe_bltn (v := .ty "tuple") (by rfl) T.nm.n_tuple (by decide +kernel) rfl) pa_nil))) pa_nil))) (pe_one (pe_callB (cr_all rfl) (by rfl) T.nm.n_all (by decide +kernel) (pa_cons (pe_lc (own := [("part", 1)]) (g := (gName 1)) (tt := tYes) rfl sc_are_integers.nd (pi_seq (pv 0)) (blkOk_by (N := ["value", "part"]) (sc := defScope s_are_integers) (by decide +kernel)) (fun _ _ _ _ _ => pg_name (i := 1) sc_are_integers.nd rfl (Or.inl rfl)) (fun _ _ _ _ _ => pts_nil) (fun _ _ _ _ _ => (pe_call (ok_is_integer T T.d_is_integer.F) (hr.mono (by decide)) rfl T.d_is_integer.m T.d_is_integer.k T.d_is_integer.b .nil pass0 (pa_cons (pv 1) pa_nil)))) pa_nil)))))), ?_⟩
    refine ⟨_, rfl, (by show 2 ≤ sizeLine; decide), fun pT nT => ?_⟩
    have zT := newO nT (o := .tup [.ty "list", .ty "tuple"])
    obtain ⟨t, ty, t1, t2, t3⟩ := (Do.same zT _ _ D).ty
    refine ⟨v, pT, _, _, _, _, rfl, upd_same, .cons (.ty _) (.cons (.ty _) .nil), ty, t3, _, rfl, ?_⟩
    cases e : parts d with
    | none =>
      have k' : Q (.bl (areI d)) _ := k _ zT
      rw [areI_no e] at k'
      exact k'
    | some ds =>
      rw [if_pos (show (some ds).isSome = true from rfl)]
      dsimp only [tCB, tCons]
      refine lo_data (fun d => .bl (isI d)) e (Do.same zT _ _ D) (fun R r => ⟨_, rfl, r⟩) (fun _ => rfl) (fun x e1 H' R s1 D1 _ r => ⟨_, rfl, x, e1, rfl, D1, r H' (Same.refl H')⟩) fun L H' s1 nL q => ?_
      refine ⟨L, ds.map isI, rfl, SqL.of (by rw [List.map_map]; exact q), ?_⟩
      have k' : Q (.bl (areI d)) _ := k _ (zT.trans s1)
      rw [areI_of e] at k'
      exact k'
theorem ok_is_row (T : Tx K mg) {f : Addr} {fd : FuncData} (F : Fun K "is_row" "is_row" s_is_row f fd) : FnOk P w K mg base CX0 3 f fd ["value", "wide"] (spRow K) := by
  refine F.ok sc_is_row (fun vs H Q E h => ?_) (fun cdv A outer s H vs Q E hr h => ?_)
  · obtain ⟨v, d, w, rfl, _⟩ := h
    rfl
  · obtain ⟨v, d, w, rfl, D, k⟩ := h
    refine ⟨_, (pss_one (ps_ret (pe_and (pe_call (ok_are_integers T T.d_are_integers.F) (hr.mono (by decide)) rfl T.d_are_integers.m T.d_are_integers.k T.d_are_integers.b .nil pass0 (pa_cons (pv 0) pa_nil)) (pe_one (pe_cmpR op_eq (pe_callB call_len_seq (by rfl) T.nm.n_len (by decide +kernel) (pa_cons (pv 0) pa_nil)) (pv 1) (nomark _)))))), ?_⟩
    refine ⟨_, rfl, v, d, rfl, D, fun H1 s1 => ⟨_, rfl, ?_⟩⟩
    refine ite2 (fun c => ?_) (fun c => ?_)
    · obtain ⟨ds, e⟩ : ∃ ds, parts d = some ds := by
        cases e : parts d with
        | none => rw [areI, e] at c; cases c
        | some ds => exact ⟨ds, rfl⟩
      obtain ⟨a, xs, rfl, hs, hl, ha⟩ := (Do.same s1 _ _ D).seq e
      refine ⟨_, rfl, a, xs, rfl, hs, _, rfl, rfl, ?_⟩
      have k' := k _ s1
      rw [rowI, c, e] at k'
      rw [eqInt, ha.length]
      exact k'
    · have k' := k _ s1
      rw [rowI, show areI d = false by cases z : areI d with | false => rfl | true => exact absurd z c] at k'
      exact k'
theorem ok_are_rows (T : Tx K mg) {f : Addr} {fd : FuncData} (F : Fun K "are_rows" "are_rows" s_are_rows f fd) : FnOk P w K mg base CX0 4 f fd ["value", "many", "wide"] (spRows K) := by
  refine F.ok sc_are_rows (fun vs H Q E h => ?_) (fun cdv A outer s H vs Q E hr h => ?_)
  · obtain ⟨v, d, m, w, rfl, _⟩ := h
    rfl
  · obtain ⟨v, d, m, w, rfl, D, k⟩ := h
    refine ⟨_, (pss_cons (ps_if (PW.pt (pw_or (pt_not (pt_val (pe_callB call_isiT (by rfl) T.nm.n_isinstance (by decide +kernel) (pa_cons (pv 0) (pa_cons (pe_tup (pa_cons (pe_bltn (v := .ty "list") (by rfl) T.nm.n_list (by decide +kernel) rfl) (pa_cons (pe_bltn (v := .ty "tuple") (by rfl) T.nm.n_tuple (by decide +kernel) rfl) pa_nil))) pa_nil))))) (pw_or1 (pt_cmpR op_ne (pe_callB call_len_seq (by rfl) T.nm.n_len (by decide +kernel) (pa_cons (pv 0) pa_nil)) (pv 1) (nomark _)))))
  (pss_one (ps_ret pe_bl))
  pss_nil)
  (pss_one (ps_ret (pe_callB (cr_all rfl) (by rfl) T.nm.n_all (by decide +kernel) (pa_cons (pe_lc (own := [("row", 3)]) (g := (gName 3)) (tt := tYes) rfl sc_are_rows.nd (pi_seq (pv 0)) (blkOk_by (N := ["value", "many", "wide", "row"]) (sc := defScope s_are_rows) (by decide +kernel)) (fun _ _ _ _ _ => pg_name (i := 3) sc_are_rows.nd rfl (Or.inl rfl)) (fun _ _ _ _ _ => pts_nil) (fun _ _ _ _ _ => (pe_call (ok_is_row T T.d_is_row.F) (hr.mono (by decide)) rfl T.d_is_row.m T.d_is_row.k T.d_is_row.b .nil pass0 (pa_cons (pv 3) (pa_cons (pv 2) pa_nil))))) pa_nil))))), ?_⟩
    refine ⟨_, rfl, (by show 2 ≤ sizeLine; decide), fun pT nT => ?_⟩
    have zT := newO nT (o := .tup [.ty "list", .ty "tuple"])
    obtain ⟨t, ty, t1, t2, t3⟩ := (Do.same zT _ _ D).ty
    refine ⟨v, pT, _, _, _, _, rfl, upd_same, .cons (.ty _) (.cons (.ty _) .nil), ty, t3, _, rfl, ?_⟩
    cases e : parts d with
    | none =>
      have k' := k _ zT
      rw [rowsI_no e] at k'
      exact k'
    | some ds =>
      obtain ⟨a, xs, rfl, hs, hl, ha⟩ := (Do.same zT _ _ D).seq e
      refine ⟨_, rfl, a, xs, rfl, hs, _, rfl, rfl, _, rfl, ?_⟩
      rw [eqInt, ha.length]
      refine ite2 (fun c => ?_) (fun c => ?_)
      · have k' := k _ zT
        rw [rowsI_of e] at k'
        rw [show decide ((ds.length : Int) = m) = false by cases z : decide ((ds.length : Int) = m) with | false => rfl | true => rw [z] at c; cases c] at k'
        exact k'
      · have c' : decide ((ds.length : Int) = m) = true := by cases z : decide ((ds.length : Int) = m) with | true => rfl | false => rw [z] at c; exact absurd rfl c
        dsimp only [tRet, tNext, tCB, tCons]
        refine lo_data (fun d => .bl (rowI d w)) e (Do.same zT _ _ D) (fun R r => ⟨_, rfl, r⟩) (fun _ => rfl) (fun x e1 H' R s1 D1 _ r => ⟨_, rfl, _, rfl, x, e1, w, rfl, D1, r⟩) fun L H' s1 nL q => ?_
        refine ⟨L, ds.map (rowI · w), rfl, SqL.of (by rw [List.map_map]; exact q), ?_⟩
        have k' := k _ (zT.trans s1)
        rw [rowsI_of e, c'] at k'
        exact k'
end
end K11

set_option Elab.async false
set_option linter.all false
set_option maxRecDepth 100000
set_option maxHeartbeats 4000000
/-! fixed, and the classes of papers. -/
namespace K11
open PySem L2 SG
section
variable {P : Program} {w : World} {K : PySem.W.Frag} {mg : Str → Option Value} {base : Heap}
theorem ok_fixed (T : Tx K mg) : ∀ n : Nat, FnOk P w K mg base CX0 (n + 1) T.d_fixed.f T.d_fixed.fd ["value"] (spFixed n K)
  | 0 => by
    refine T.d_fixed.F.ok sc_fixed (fun vs H Q E h => ?_) (fun cdv A outer s H vs Q E hr h => ?_)
    · obtain ⟨v, d, G, rfl, _⟩ := h
      rfl
    · obtain ⟨v, d, G, rfl, S, D, dn, k⟩ := h
      refine ⟨_, (pss_cons (ps_if (pt_val (pe_callB call_isiT (by rfl) T.nm.n_isinstance (by decide +kernel) (pa_cons (pv 0) (pa_cons (pe_tup (pa_cons (pe_bltn (v := .ty "list") (by rfl) T.nm.n_list (by decide +kernel) rfl) (pa_cons (pe_bltn (v := .ty "tuple") (by rfl) T.nm.n_tuple (by decide +kernel) rfl) pa_nil))) pa_nil))))
  (pss_one ps_never)
  pss_nil)
  (pss_one (ps_ret (pv 0)))), ?_⟩
      have e : parts d = none := by
        cases e : parts d with
        | none => rfl
        | some ds => rw [deep_of e] at dn; omega
      refine ⟨_, rfl, (by show 2 ≤ sizeLine; decide), fun pT nT => ?_⟩
      have g0 := (Gh.refl S).side nT (o := .tup [.ty "list", .ty "tuple"])
      obtain ⟨t, ty, t1, t2, t3⟩ := (Do.same g0.gh _ _ D).ty
      refine ⟨v, pT, _, _, _, _, rfl, upd_same, .cons (.ty _) (.cons (.ty _) .nil), ty, t3, _, rfl, ?_⟩
      rw [e]
      refine ⟨_, rfl, k _ G v g0 ?_ (fun _ => rfl)⟩
      rw [fixD_no e]
      exact D
  | n + 1 => by
    have ih := ok_fixed T n
    refine T.d_fixed.F.ok sc_fixed (fun vs H Q E h => ?_) (fun cdv A outer s H vs Q E hr h => ?_)
    · obtain ⟨v, d, G, rfl, _⟩ := h
      rfl
    · obtain ⟨v, d, G, rfl, S, D, dn, k⟩ := h
      refine ⟨_, (pss_cons (ps_if (pt_val (pe_callB call_isiT (by rfl) T.nm.n_isinstance (by decide +kernel) (pa_cons (pv 0) (pa_cons (pe_tup (pa_cons (pe_bltn (v := .ty "list") (by rfl) T.nm.n_list (by decide +kernel) rfl) (pa_cons (pe_bltn (v := .ty "tuple") (by rfl) T.nm.n_tuple (by decide +kernel) rfl) pa_nil))) pa_nil))))
  (pss_one (ps_ret (pe_callTy call_tuple_of (by rfl) T.nm.n_tuple (by decide +kernel) (pa_cons (pe_lc (own := [("part", 1)]) (g := (gName 1)) (tt := tYes) rfl sc_fixed.nd (pi_seq (pv 0)) (blkOk_by (N := ["value", "part"]) (sc := defScope s_fixed) (by decide +kernel)) (fun _ _ _ _ _ => pg_name (i := 1) sc_fixed.nd rfl (Or.inl rfl)) (fun _ _ _ _ _ => pts_nil) (fun _ _ _ _ _ => (pe_call ih hr rfl T.d_fixed.m T.d_fixed.k T.d_fixed.b .nil pass0 (pa_cons (pv 1) pa_nil)))) pa_nil))))
  pss_nil)
  (pss_one (ps_ret (pv 0)))), ?_⟩
      refine ⟨_, rfl, (by show 2 ≤ sizeLine; decide), fun pT nT => ?_⟩
      have g0 := (Gh.refl S).side nT (o := .tup [.ty "list", .ty "tuple"])
      obtain ⟨t, ty, t1, t2, t3⟩ := (Do.same g0.gh _ _ D).ty
      refine ⟨v, pT, _, _, _, _, rfl, upd_same, .cons (.ty _) (.cons (.ty _) .nil), ty, t3, _, rfl, ?_⟩
      cases e : parts d with
      | none =>
        refine ⟨_, rfl, k _ G v g0 ?_ (fun _ => rfl)⟩
        rw [fixD_no e]
        exact D
      | some ds =>
        rw [if_pos (show (some ds).isSome = true from rfl)]
        dsimp only [tRet, tNext, tCB, tCons]
        rw [deep_of e] at dn
        refine lc_gh fixD e g0.gh D (fun R r => ⟨_, rfl, r⟩) (fun _ => rfl) (fun x e1 H' G' R g D1 hm r => ⟨_, rfl, x, e1, G', rfl, g.gh, D1, ?_, fun H'' G'' y g' q q1 => r H'' G'' y g' q⟩) fun L H' G' ys g nL gL q dy len => ?_
        · exact Nat.le_trans (deepA_le hm) (by omega)
        · refine ⟨L, ys, rfl, .inl ⟨SqL.of q, fun p hp => ?_⟩⟩
          have g1 := (g0.trans g).new hp (o := .tup ys)
          have dt : Do K (upd G' p (.tup ys)) (.ref p) (fixD d) := by
            rw [fixD_of e]
            exact .tup (SqT.of upd_same) len (DoAll.same (newO (gh_free g.gh hp)) _ _ dy)
          exact k _ _ (.ref p) g1 (dt) (fun z => by rw [e] at z; cases z)
end
end K11

set_option Elab.async false
set_option linter.all false
set_option maxRecDepth 100000
set_option maxHeartbeats 4000000
/-! A def called by keywords alone. -/
namespace SG
open PySem PySem.Spec PyProof.Rows L2
section
variable {X : Cx} {CX : CXT} {k : Nat} {f : Addr} {fd : FuncData} {ps ks : List Str} {sp : Sp} {E : XK} {x : Str} {p pos : Pos} {kws : List Keyword} {tk : TA} {g : List Value → List Value → List Value} {gV : List V → List V → List V}
theorem pe_callK0 (F : FnOk X.prog X.w X.K X.mg X.base CX k f fd ps sp) (hr : Room k X.A) (hg : Gl X x) (hm : X.mg x = some (.ref f)) (hk : PySem.W.keepIn X.K (.ref f) = true) (hb : KBn X.K fd ps 0 ks g gV) (hx : Passes CX X E) (hkw : PK X kws tk)
    (hall : (backToKw pos (keywordEach kws X.env)).all (·.1.isSome) = true := by rfl) (hks : (backToKw pos (keywordEach kws X.env)).filterMap (·.1) = ks := by rfl) (hdb : (x == ("__debug__" : Str)) = false := by decide)
    (hpl : ((backTo pos (starEach [] X.env)).any (·.1) || (backToKw pos (keywordEach kws X.env)).any (·.1.isNone)) = false := by rfl) : PE X (.Call (.Name x p) [] kws pos) (tCallN 0 ks.length sp gV E tNil tk) := by
  refine ⟨fun pins s σ H Q I h => wpAny_Call_Name_kw (ld_glob I hg hm ?_ hdb)⟩
  refine PySem.W.callWith_KW0 (h₀ := X.base) I.ok.mod.kin hk hall ?_ hpl
  refine thn (hkw.run pos pins s σ H _ I h) ?_
  rintro ws s2 ⟨zs, H2, I2, rz, l1, l2, q2⟩
  refine ⟨I2.kIn, ?_⟩
  rw [hks]
  exact run_fnN F hr hb hx I2 .nil rz l1 l2 q2
end
/-- keywords in any order bind: o puts them into the parameters' order -/
theorem kb_keys {K : PySem.W.Frag} {x qual : Str} {st : Stmt} {f : Addr} {fd : FuncData} (F : Fun K x qual st f fd) {ps ks : List Str} (o : {α : Type} → List α → List α) (ho : ∀ {vs : List V} {us : List Value}, Vals vs us → Vals (o vs) (o us))
    (h : ∀ (kV doc pm : Value) (an : Option Addr) (cdv ct : Value) (ws : List Value), ws.length = ks.length → bindArgs (PySem.W.fnOf x qual (defArgs st) (defBody st) (defScope st) .none kV doc pm an cdv ct) ⟨[], ks.zip ws⟩ = pure (ps.zip (o ws))) :
    KBn K fd ps 0 ks (fun _ ws => o ws) (fun _ zs => o zs) := by
  obtain ⟨oc, od, kV, doc, pm, an, cdv, ct, osl, e, lk, hcd⟩ := F.ex
  refine ⟨fun s us ws _ l1 l2 => ?_, fun _ r2 => ho r2⟩
  obtain rfl := List.length_eq_zero_iff.mp l1
  rw [e]
  exact .of_eq (h kV doc pm an cdv ct ws l2)
/-- three, the second one ahead -/
def o213 {α : Type} : List α → List α | [b, a, c] => [a, b, c] | l => l
def o21 {α : Type} : List α → List α | [b, a] => [a, b] | l => l
/-- .. the last one ahead -/
def o312 {α : Type} : List α → List α | [c, a, b] => [a, b, c] | l => l
theorem vals213 {vs : List V} {us : List Value} (r : Vals vs us) : Vals (o213 vs) (o213 us) := by
  match vs, us, r with
  | _, _, .nil => exact .nil
  | _, _, .cons a .nil => exact .cons a .nil
  | _, _, .cons a (.cons b .nil) => exact .cons a (.cons b .nil)
  | _, _, .cons a (.cons b (.cons c .nil)) => exact .cons b (.cons a (.cons c .nil))
  | _, _, .cons a (.cons b (.cons c (.cons d e))) => exact .cons a (.cons b (.cons c (.cons d e)))
theorem vals21 {vs : List V} {us : List Value} (r : Vals vs us) : Vals (o21 vs) (o21 us) := by
  match vs, us, r with
  | _, _, .nil => exact .nil
  | _, _, .cons a .nil => exact .cons a .nil
  | _, _, .cons a (.cons b .nil) => exact .cons b (.cons a .nil)
  | _, _, .cons a (.cons b (.cons c d)) => exact .cons a (.cons b (.cons c d))
theorem vals312 {vs : List V} {us : List Value} (r : Vals vs us) : Vals (o312 vs) (o312 us) := by
  match vs, us, r with
  | _, _, .nil => exact .nil
  | _, _, .cons a .nil => exact .cons a .nil
  | _, _, .cons a (.cons b .nil) => exact .cons a (.cons b .nil)
  | _, _, .cons a (.cons b (.cons c .nil)) => exact .cons b (.cons c (.cons a .nil))
  | _, _, .cons a (.cons b (.cons c (.cons d e))) => exact .cons a (.cons b (.cons c (.cons d e)))
end SG

set_option Elab.async false
set_option linter.all false
set_option maxRecDepth 100000
set_option maxHeartbeats 4000000
/-! An attribute as one of several targets. -/
namespace SG
open PySem PySem.Spec PyProof.Rows L2
section
variable {X : Cx} {o : Expr} {f : Str} {pos : Pos} {ta : TE}
def gFld (K : PySem.W.Frag) (ta : TE) (f : Str) : TG := fun y σ H Q => ta σ H fun x H2 => ∃ a C dx fs, x = .ref a ∧ H2 a = some (.ins C dx fs) ∧ Cls K C ∧ NoAttr K C f ∧ fs.length < 1000 ∧ Q σ (upd H2 a (.ins C dx (putF f y fs)))
theorem pg_fld (ha : PE X o ta)
    (he : ∀ v, assign (.Attribute o f pos) X.env v = (do
      let ov ← holding [v] (eval o X.env)
      standAt pos.atName
      holding [v, ov] (setAttr ov f v)
      release [v, ov] []) := by intro _; rfl) : PG X (.Attribute o f pos) (gFld X.K ta f) := by
  refine ⟨fun pins s σ H v u Q I r h => ?_⟩
  rw [he]
  refine wpAny_bind (wpAny_holding (thn (ha.run pins s σ H _ I h) fun ov s1 ⟨x, H1, I1, rx, a, C, dx, fs, ex, ea, c, n, l, q⟩ => ?_))
  subst ex
  obtain rfl : ov = Value.ref a := rx
  refine wpAny_bind (wpAny_standAt (wpAny_bind (wpAny_holding (setattr_ok I1 ea c n l r fun s2 I2 => ?_))))
  exact wpAny_release ⟨σ, _, I2, q⟩
end
/-- an object that came on the way is counted in -/
theorem Gh.join {H G H1 G1 : Hp} (x : Gh H G H1 G1) {p : Addr} {o : HO} (h0 : H p = none) (h1 : H1 p = some o) (g1 : G1 p = none) : Gh H G H1 (upd G1 p o) := by
  refine ⟨x.hh, fun b u q => ?_, fun b u q => ?_, fun b u q n => ?_⟩
  · rw [upd_ne (ne_of_none (x.gg _ _ q) g1)]; exact x.gg _ _ q
  · by_cases e : b = p
    · subst e; rw [upd_same] at q; rw [← q]; exact h1
    · rw [upd_ne e] at q; exact x.gh _ _ q
  · rw [upd_ne (ne_of_none q h0)]; exact x.nw b u q n
/-- keywords behind self, in any order -/
theorem kb_keys1 {K : PySem.W.Frag} {x qual : Str} {st : Stmt} {f : Addr} {fd : FuncData} (F : Fun K x qual st f fd) {ps ks : List Str} (o : {α : Type} → List α → List α) (ho : ∀ {vs : List V} {us : List Value}, Vals vs us → Vals (o vs) (o us))
    (h : ∀ (kV doc pm : Value) (an : Option Addr) (cdv ct : Value) (u : Value) (ws : List Value), ws.length = ks.length → bindArgs (PySem.W.fnOf x qual (defArgs st) (defBody st) (defScope st) .none kV doc pm an cdv ct) ⟨[u], ks.zip ws⟩ = pure (ps.zip (u :: o ws))) :
    KBn K fd ps 1 ks (fun us ws => us ++ o ws) (fun vs zs => vs ++ o zs) := by
  obtain ⟨oc, od, kV, doc, pm, an, cdv, ct, osl, e, lk, hcd⟩ := F.ex
  refine ⟨fun s us ws _ l1 l2 => ?_, fun r1 r2 => r1.append (ho r2)⟩
  obtain ⟨u, rfl⟩ := List.length_eq_one_iff.mp l1
  rw [e]
  exact .of_eq (h kV doc pm an cdv ct u ws l2)
end SG

set_option Elab.async false
set_option linter.all false
set_option maxRecDepth 100000
set_option maxHeartbeats 4000000
/-! The classes of papers: Whole, Barred. -/
namespace K11
open PySem L2 SG
/-- a class of papers, found behind the top -/
structure Pc (K : PySem.W.Frag) (mg : Str → Option Value) (x q : Str) (st : Stmt) where
  C : Addr
  f : Addr
  fd : FuncData
  F : Fun K "__init__" q st f fd
  m : mg x = some (.ref C)
  M : Mk K C f
  I : InsT K C
  nW : NoAttr K C "word"
  nP : NoAttr K C "parts"
abbrev i_Paper : Stmt := inClass (top 12) 0
abbrev i_Denial : Stmt := inClass (top 13) 0
abbrev i_Whole : Stmt := inClass (top 23) 0
abbrev i_Barred : Stmt := inClass (top 24) 0
theorem si_Paper : FnScope ["self", "word", "parts"] ["self", "word", "parts"] (defScope i_Paper) := ⟨rfl, rfl, rfl, by decide +kernel, rfl, by decide +kernel, by decide +kernel⟩
theorem si_Denial : FnScope ["self", "word", "parts"] ["self", "word", "parts"] (defScope i_Denial) := ⟨rfl, rfl, rfl, by decide +kernel, rfl, by decide +kernel, by decide +kernel⟩
theorem si_Whole : FnScope ["self", "numbers"] ["self", "numbers"] (defScope i_Whole) := ⟨rfl, rfl, rfl, by decide +kernel, rfl, by decide +kernel, by decide +kernel⟩
theorem si_Barred : FnScope ["self", "row", "modulus"] ["self", "row", "modulus"] (defScope i_Barred) := ⟨rfl, rfl, rfl, by decide +kernel, rfl, by decide +kernel, by decide +kernel⟩
/-- all that is behind the top: defs, classes -/
structure Tz (K : PySem.W.Frag) (mg : Str → Option Value) extends Tx K mg where
  c_Paper : Pc K mg "Paper" "Paper.__init__" i_Paper
  c_Denial : Pc K mg "Denial" "Denial.__init__" i_Denial
  c_Whole : Pc K mg "Whole" "Whole.__init__" i_Whole
  c_Barred : Pc K mg "Barred" "Barred.__init__" i_Barred
  nNum : NoAttr K c_Whole.C "numbers"
  nRow : NoAttr K c_Barred.C "row"
  nMod : NoAttr K c_Barred.C "modulus"
def fWhole (p : Addr) (v : V) : List (Str × V) := [("word", .str "whole"), ("parts", .ref p), ("numbers", v)]
def fBarred (p : Addr) (v u : V) : List (Str × V) := [("word", .str "barred"), ("parts", .ref p), ("row", v), ("modulus", u)]
/-- __init__ of Whole -/
def spIW (K : PySem.W.Frag) (C : Addr) : Sp := fun vs H Q _ => ∃ (a dx : Addr) (v : V) (d : PyData) (G : Hp), vs = [.ref a, v] ∧ H a = some (.ins C dx []) ∧ Same G H ∧ G a = none ∧ Do K G v d ∧ deep d ≤ 4 ∧
  ∀ H2 G2 v' p, Gh (upd H a (.ins C dx [("word", .str "whole")])) G H2 G2 → Do K G2 v' (fixD d) → Q .non (upd H2 a (.ins C dx (fWhole p v')))
/-- .. of Barred -/
def spIB (K : PySem.W.Frag) (C : Addr) : Sp := fun vs H Q _ => ∃ (a dx : Addr) (v u : V) (d e : PyData) (G : Hp), vs = [.ref a, v, u] ∧ H a = some (.ins C dx []) ∧ Same G H ∧ G a = none ∧ Do K G v d ∧ Do K G u e ∧ deep d ≤ 4 ∧ deep e ≤ 4 ∧
  ∀ H2 G2 v' u' p, Gh (upd H a (.ins C dx [("word", .str "barred")])) G H2 G2 → Do K G2 v' (fixD d) → Do K G2 u' (fixD e) → Q .non (upd H2 a (.ins C dx (fBarred p v' u')))
/-- .. of Paper, of Denial: what they keep is not told -/
def spIP (K : PySem.W.Frag) (C : Addr) : Sp := fun vs H Q _ => ∃ (a dx p : Addr) (w : Str) (d : PyData) (G : Hp), vs = [.ref a, .str w, .ref p] ∧ H a = some (.ins C dx []) ∧ Same G H ∧ G a = none ∧ Do K G (.ref p) d ∧ deep d ≤ 5 ∧
  ∀ H2 G2 f1 fs, Gh (upd H a (.ins C dx f1)) G H2 G2 → Q .non (upd H2 a (.ins C dx fs))
theorem upd_upd {H : Hp} {a : Addr} {o u : HO} : upd (upd H a o) a u = upd H a u := by
  funext b
  by_cases e : b = a
  · rw [e, upd_same, upd_same]
  · rw [upd_ne e, upd_ne e, upd_ne e]
section
variable {P : Program} {w : World} {K : PySem.W.Frag} {mg : Str → Option Value} {base : Heap}
theorem ok_iW (T : Tz K mg) : FnOk P w K mg base CX0 7 T.c_Whole.f T.c_Whole.fd ["self", "numbers"] (spIW K T.c_Whole.C) := by
  refine T.c_Whole.F.ok si_Whole (fun vs H Q E h => ?_) (fun cdv A outer s H vs Q E hr h => ?_)
  · obtain ⟨a, dx, v, d, G, rfl, _⟩ := h
    rfl
  · obtain ⟨a, dx, v, d, G, rfl, ha, S, ga, D, dn, k⟩ := h
    refine ⟨_, pss_cons (ps_fld (pv 0) pe_str rfl) (pss_cons (ps_fld (pv 0) (pe_call (ok_fixed T.toTx 5) hr rfl T.d_fixed.m T.d_fixed.k T.d_fixed.b .nil pass0 (pa_cons (pe_tup (pa_cons (pv 1) pa_nil)) pa_nil)) rfl) (pss_one (ps_fld (pv 0) (pe_ix ix_tup (pe_fld (pv 0) rfl) pe_int (fun _ _ => rfl)) rfl))), ?_⟩
    refine ⟨_, rfl, a, _, dx, _, rfl, ha, T.c_Whole.I.cl, T.c_Whole.nW, by show 0 < 1000; decide, ?_⟩
    have S1 : Same G (upd H a (.ins T.c_Whole.C dx (putF "word" (.str "whole") []))) := fun b o q => by rw [upd_ne (ne_of_none q ga)]; exact S _ _ q
    refine ⟨_, rfl, (by show 1 ≤ sizeLine; decide), fun p0 n0 => ?_⟩
    have g0 : Gh (upd H a (.ins T.c_Whole.C dx (putF "word" (.str "whole") []))) G _ _ := (Gh.refl S1).new n0 (o := .tup [v])
    have D0 : Do K (upd G p0 (.tup [v])) (.ref p0) (.tuple [d]) := .tup (SqT.of upd_same) (by show 1 ≤ 1000; decide) (.cons (Do.same g0.gg _ _ D) .nil)
    refine ⟨_, _, _, rfl, g0.gh, D0, ?_, fun H2 G2 v' g2 D2 _ => ?_⟩
    · rw [deep_of (ds := [d]) rfl]
      show max (deep d) 0 + 1 ≤ 5
      omega
    have g := g0.trans g2
    have ga2 : G2 a = none := g.nw _ _ upd_same ga
    have ha2 : H2 a = some _ := g.hh _ _ upd_same
    rw [fixD_of (ds := [d]) rfl] at D2
    cases D2 with
    | tup hs hl hall =>
      cases hall with
      | cons D3 r =>
        cases r
        refine ⟨_, rfl, a, _, dx, _, rfl, ha2, T.c_Whole.I.cl, T.c_Whole.nP, by show 1 < 1000; decide, ?_⟩
        have S2 : ∀ o, Same G2 (upd H2 a o) := fun o b u q => by rw [upd_ne (ne_of_none q ga2)]; exact g.gh _ _ q
        refine ⟨_, rfl, a, _, dx, _, _, rfl, upd_same, T.c_Whole.I.cl, T.c_Whole.nP, rfl, _, _, _, _, rfl, rfl, Same.tup (S2 _) hs, atI_nat rfl, ?_⟩
        refine ⟨_, rfl, a, _, dx, _, rfl, upd_same, T.c_Whole.I.cl, T.nNum, by show 2 < 1000; decide, ?_⟩
        rw [upd_upd]
        exact k H2 G2 _ _ g D3
theorem ok_iB (T : Tz K mg) : FnOk P w K mg base CX0 7 T.c_Barred.f T.c_Barred.fd ["self", "row", "modulus"] (spIB K T.c_Barred.C) := by
  refine T.c_Barred.F.ok si_Barred (fun vs H Q E h => ?_) (fun cdv A outer s H vs Q E hr h => ?_)
  · obtain ⟨a, dx, v, u, d, e, G, rfl, _⟩ := h
    rfl
  · obtain ⟨a, dx, v, u, d, e, G, rfl, ha, S, ga, D, De, dn, en, k⟩ := h
    refine ⟨_, pss_cons (ps_fld (pv 0) pe_str rfl) (pss_cons (ps_fld (pv 0) (pe_call (ok_fixed T.toTx 5) hr rfl T.d_fixed.m T.d_fixed.k T.d_fixed.b .nil pass0 (pa_cons (pe_tup (pa_cons (pv 1) (pa_cons (pv 2) pa_nil))) pa_nil)) rfl) (pss_one (ps_asg (pe_fld (pv 0) rfl) (pg_tup (by rfl) (pgs_cons (pg_fld (pv 0)) (pgs_cons (pg_fld (pv 0)) pgs_nil)))))), ?_⟩
    refine ⟨_, rfl, a, _, dx, _, rfl, ha, T.c_Barred.I.cl, T.c_Barred.nW, by show 0 < 1000; decide, ?_⟩
    have S1 : Same G (upd H a (.ins T.c_Barred.C dx (putF "word" (.str "barred") []))) := fun b o q => by rw [upd_ne (ne_of_none q ga)]; exact S _ _ q
    refine ⟨_, rfl, _, rfl, (by show 2 ≤ sizeLine; decide), fun p0 n0 => ?_⟩
    have g0 : Gh (upd H a (.ins T.c_Barred.C dx (putF "word" (.str "barred") []))) G _ _ := (Gh.refl S1).new n0 (o := .tup [v, u])
    have D0 : Do K (upd G p0 (.tup [v, u])) (.ref p0) (.tuple [d, e]) := .tup (SqT.of upd_same) (by show 2 ≤ 1000; decide) (.cons (Do.same g0.gg _ _ D) (.cons (Do.same g0.gg _ _ De) .nil))
    refine ⟨_, _, _, rfl, g0.gh, D0, ?_, fun H2 G2 v' g2 D2 _ => ?_⟩
    · rw [deep_of (ds := [d, e]) rfl]
      show max (deep d) (max (deep e) 0) + 1 ≤ 5
      omega
    have g := g0.trans g2
    have ga2 : G2 a = none := g.nw _ _ upd_same ga
    have ha2 : H2 a = some _ := g.hh _ _ upd_same
    rw [fixD_of (ds := [d, e]) rfl] at D2
    cases D2 with
    | tup hs hl hall =>
      cases hall with
      | cons D3 r =>
        cases r with
        | cons D4 r =>
          cases r
          refine ⟨_, rfl, a, _, dx, _, rfl, ha2, T.c_Barred.I.cl, T.c_Barred.nP, by show 1 < 1000; decide, ?_⟩
          have S2 : ∀ o, Same G2 (upd H2 a o) := fun o b u q => by rw [upd_ne (ne_of_none q ga2)]; exact g.gh _ _ q
          refine ⟨_, rfl, a, _, dx, _, _, rfl, upd_same, T.c_Barred.I.cl, T.c_Barred.nP, rfl, _, _, rfl, Same.tup (S2 _) hs, rfl, ?_⟩
          refine ⟨_, _, rfl, _, rfl, a, _, dx, _, rfl, upd_same, T.c_Barred.I.cl, T.nRow, by show 2 < 1000; decide, ?_⟩
          refine ⟨_, _, rfl, _, rfl, a, _, dx, _, rfl, upd_same, T.c_Barred.I.cl, T.nMod, by show 3 < 1000; decide, rfl, ?_⟩
          rw [upd_upd, upd_upd]
          exact k H2 G2 _ _ _ g D3 D4
end
end K11

set_option Elab.async false
set_option linter.all false
set_option maxRecDepth 100000
set_option maxHeartbeats 4000000
/-! Paper, Denial. -/
namespace SG
open PySem L2
theorem Gh.both {H G H1 G1 : Hp} (x : Gh H G H1 G1) {a : Addr} {u o : HO} (ha : H a = some u) (ga : G a = none) : Gh (upd H a o) G (upd H1 a o) G1 := by
  have g1 := x.nw _ _ ha ga
  refine ⟨fun b q e => ?_, x.gg, fun b q e => ?_, fun b q e n => ?_⟩
  · by_cases z : b = a
    · rw [z, upd_same] at e ⊢; exact e
    · rw [upd_ne z] at e ⊢; exact x.hh _ _ e
  · rw [upd_ne (ne_of_none e g1)]; exact x.gh _ _ e
  · by_cases z : b = a
    · rw [z]; exact g1
    · rw [upd_ne z] at e; exact x.nw b q e n
end SG
namespace K11
open PySem L2 SG
abbrev StX.FnP (P : Program) (w : World) (K : PySem.W.Frag) (mg : Str → Option Value) (base : Heap) (f C : Addr) : Prop :=
  FnR P w K mg base CX0 7 f (fun vs H Q E => ∃ ws rest, vs = ws ++ rest ∧ ws.length = (["self", "word"] : List Str).length ∧ rest.length ≤ sizeLine ∧ ∀ p, H p = none → spIP K C (ws ++ [V.ref p]) (upd H p (.tup rest)) Q E)
section
variable {P : Program} {w : World} {K : PySem.W.Frag} {mg : Str → Option Value} {base : Heap}
theorem ok_iPaper (T : Tz K mg) : StX.FnP P w K mg base T.c_Paper.f T.c_Paper.C := by
  obtain ⟨oc, od, kV, doc, pm, an, cdv, ct, osl, e, lk, hcd⟩ := T.c_Paper.F.ex
  rw [e] at lk
  refine StX.fn_star (ps := ["self", "word"]) (pv := "parts") (k := 6) (sp := spIP K T.c_Paper.C) lk hcd si_Paper StX.cxUp_none (fun us rest l => ?_) fun A outer s H vs Q E hr h => ?_
  · match us, l with
    | [_, _], _ => cases rest <;> first | rfl | kernel_rfl
  · obtain ⟨a, dx, p, wd, d, G, rfl, ha, S, ga, D, dn, k⟩ := h
    refine ⟨_, pss_cons (ps_fld (pv 0) (pe_call (ok_fixed T.toTx 5) hr rfl T.d_fixed.m T.d_fixed.k T.d_fixed.b .nil pass0 (pa_cons (pv 1) pa_nil)) rfl) (pss_one (ps_fld (pv 0) (pe_call (ok_fixed T.toTx 5) hr rfl T.d_fixed.m T.d_fixed.k T.d_fixed.b .nil pass0 (pa_cons (pv 2) pa_nil)) rfl)), ?_⟩
    refine ⟨_, rfl, _, _, G, rfl, S, .str wd, Nat.zero_le _, fun H1 G1 v1 g1 _ _ => ?_⟩
    refine ⟨_, rfl, a, _, dx, _, rfl, g1.hh _ _ ha, T.c_Paper.I.cl, T.c_Paper.nW, by show 0 < 1000; decide, ?_⟩
    have g1' := g1.both (o := .ins T.c_Paper.C dx (putF "word" v1 [])) ha ga
    refine ⟨_, rfl, _, d, G1, rfl, g1'.gh, Do.same g1.gg _ _ D, dn, fun H2 G2 v2 g2 _ _ => ?_⟩
    refine ⟨_, rfl, a, _, dx, _, rfl, g2.hh _ _ upd_same, T.c_Paper.I.cl, T.c_Paper.nP, by show 1 < 1000; decide, ?_⟩
    exact k H2 G2 _ _ (g1'.trans g2)
theorem ok_iDenial (T : Tz K mg) : StX.FnP P w K mg base T.c_Denial.f T.c_Denial.C := by
  obtain ⟨oc, od, kV, doc, pm, an, cdv, ct, osl, e, lk, hcd⟩ := T.c_Denial.F.ex
  rw [e] at lk
  refine StX.fn_star (ps := ["self", "word"]) (pv := "parts") (k := 6) (sp := spIP K T.c_Denial.C) lk hcd si_Denial StX.cxUp_none (fun us rest l => ?_) fun A outer s H vs Q E hr h => ?_
  · match us, l with
    | [_, _], _ => cases rest <;> first | rfl | kernel_rfl
  · obtain ⟨a, dx, p, wd, d, G, rfl, ha, S, ga, D, dn, k⟩ := h
    refine ⟨_, pss_cons (ps_fld (pv 0) (pe_call (ok_fixed T.toTx 5) hr rfl T.d_fixed.m T.d_fixed.k T.d_fixed.b .nil pass0 (pa_cons (pv 1) pa_nil)) rfl) (pss_one (ps_fld (pv 0) (pe_call (ok_fixed T.toTx 5) hr rfl T.d_fixed.m T.d_fixed.k T.d_fixed.b .nil pass0 (pa_cons (pv 2) pa_nil)) rfl)), ?_⟩
    refine ⟨_, rfl, _, _, G, rfl, S, .str wd, Nat.zero_le _, fun H1 G1 v1 g1 _ _ => ?_⟩
    refine ⟨_, rfl, a, _, dx, _, rfl, g1.hh _ _ ha, T.c_Denial.I.cl, T.c_Denial.nW, by show 0 < 1000; decide, ?_⟩
    have g1' := g1.both (o := .ins T.c_Denial.C dx (putF "word" v1 [])) ha ga
    refine ⟨_, rfl, _, d, G1, rfl, g1'.gh, Do.same g1.gg _ _ D, dn, fun H2 G2 v2 g2 _ _ => ?_⟩
    refine ⟨_, rfl, a, _, dx, _, rfl, g2.hh _ _ upd_same, T.c_Denial.I.cl, T.c_Denial.nP, by show 1 < 1000; decide, ?_⟩
    exact k H2 G2 _ _ (g1'.trans g2)
end
end K11

set_option Elab.async false
set_option linter.all false
set_option maxRecDepth 100000
set_option maxHeartbeats 4000000
/-! zip of any number of lists and tuples: the machine's steps. -/
namespace SGZ
open PySem PySem.Spec PyProof.Rows L2
open PySem.Sem (wp)
/-- one source: a list or a tuple at l, its own iterator, its items -/
structure ZS where
  b : Bool
  l : Addr
  it : Addr
  xs : Array Value
def Sat (h : Heap) (z : ZS) : Prop := match z.b with | true => h.IsList z.l z.xs | false => h.IsTuple z.l z.xs
def Pat (h : Heap) (k : Nat) (z : ZS) : Prop := match z.b with | true => h.IsListIter z.it z.l k | false => h.IsTupleIter z.it z.l k
theorem Sat.at {h h' : Heap} {z : ZS} (x : Sat h z) (e : ∀ o, h.get? z.l = some o → h'.get? z.l = some o) : Sat h' z := by
  obtain ⟨b, l, it, xs⟩ := z
  cases b
  · obtain ⟨o, ho, r⟩ := x; exact ⟨o, e _ ho, r⟩
  · obtain ⟨o, ho, r⟩ := x; exact ⟨o, e _ ho, r⟩
theorem Pat.at {h h' : Heap} {z : ZS} {k : Nat} (x : Pat h k z) (e : ∀ o, h.get? z.it = some o → h'.get? z.it = some o) : Pat h' k z := by
  obtain ⟨b, l, it, xs⟩ := z
  cases b
  · obtain ⟨o, ho, r⟩ := x; exact ⟨o, e _ ho, r⟩
  · obtain ⟨o, ho, r⟩ := x; exact ⟨o, e _ ho, r⟩
theorem Pat.get {h : Heap} {z : ZS} {k : Nat} (x : Pat h k z) : ∃ o, h.get? z.it = some o ∧ (∃ vs, o.data = .fields vs) := by
  obtain ⟨b, l, it, xs⟩ := z
  cases b
  · obtain ⟨o, ho, _, r⟩ := x; exact ⟨o, ho, _, r⟩
  · obtain ⟨o, ho, _, r⟩ := x; exact ⟨o, ho, _, r⟩
theorem Sat.lt {h : Heap} {z : ZS} (x : Sat h z) : z.l < h.objs.size := by
  obtain ⟨b, l, it, xs⟩ := z
  cases b
  · obtain ⟨o, ho, _⟩ := x; exact Heap.lt_size ho
  · obtain ⟨o, ho, _⟩ := x; exact Heap.lt_size ho
section
variable {prog : Program} {w : World} {A : Around} {E : Value → Shared → Prop} {s : Shared}
theorem next_item {z : ZS} {k : Nat} {x : Value} {Q : Value → Shared → Prop} (hi : Pat s.heap k z) (hl : Sat s.heap z) (hx : z.xs[k]? = some x)
    (hQ : ∀ h', Pat h' (k + 1) z → Heap.SameBut z.it s.heap h' → Q x { s with heap := h' }) : wpAny (model prog w) A (Builtin.SmallTypes.nextOf (.ref z.it)) Q E s := by
  obtain ⟨b, l, it, xs⟩ := z
  cases b
  · exact RZ.nextOf_tuple_item hi hl hx hQ
  · exact wpAny_nextOf_list_item hi hl hx hQ
theorem next_end {z : ZS} {k : Nat} {Q : Value → Shared → Prop} (hh : A.handled = none) (hi : Pat s.heap k z) (hl : Sat s.heap z) (hx : z.xs[k]? = none)
    (hE : ∀ h' e, Heap.ExtBut z.it s.heap h' → (∃ o, h'.get? e = some o ∧ o.cls = .type "StopIteration") → E (.ref e) { s with heap := h' }) : wpAny (model prog w) A (Builtin.SmallTypes.nextOf (.ref z.it)) Q E s := by
  obtain ⟨b, l, it, xs⟩ := z
  cases b
  · exact RZ.nextOf_tuple_end hh hi hl hx hE
  · exact wpAny_nextOf_list_end hh hi hl hx hE
end
abbrev IsTp (h : Heap) (T : Addr) (vs : List Value) : Prop := h.get? T = some { cls := .type "tuple", data := .seq vs.toArray }
/-- the zip object: what it handed out last, whether that was kept -/
abbrev IsZp (h : Heap) (z TI TO : Addr) (f0 : Value) (f1 : Bool) : Prop :=
  h.get? z = some { cls := .type "zip", dict := none, data := .fields #[f0, .bool f1, .bool false, .ref TI, .ref TO], slots := #[] }
def its (zs : List ZS) : List Value := zs.map fun y => .ref y.it
structure Apart (z TI TO : Addr) (zs : List ZS) : Prop where
  TIz : TI ≠ z
  TOz : TO ≠ z
  TITO : TI ≠ TO
  iz : ∀ y ∈ zs, y.it ≠ z
  iTI : ∀ y ∈ zs, y.it ≠ TI
  iTO : ∀ y ∈ zs, y.it ≠ TO
  lz : ∀ y ∈ zs, y.l ≠ z
  lTO : ∀ y ∈ zs, y.l ≠ TO
  li : ∀ y ∈ zs, ∀ u ∈ zs, y.l ≠ u.it
  ii : zs.Pairwise fun y u => y.it ≠ u.it
theorem Apart.mid {z TI TO : Addr} {pre post : List ZS} {y : ZS} (D : Apart z TI TO (pre ++ y :: post)) : (∀ u ∈ pre, u.it ≠ y.it) ∧ ∀ u ∈ post, u.it ≠ y.it := by
  have h := D.ii
  rw [List.pairwise_append] at h
  obtain ⟨_, h2, h3⟩ := h
  rw [List.pairwise_cons] at h2
  exact ⟨fun u hu => h3 u hu y List.mem_cons_self, fun u hu => (h2.1 u hu).symm⟩
section
variable {prog : Program} {w : World} {A : Around} {E : Value → Shared → Prop} {s : Shared}
/-- what is behind the drawing of the sources `pre` -/
structure Mid (h0 h : Heap) (z TI TO : Addr) (k : Nat) (pre post : List ZS) : Prop where
  a : ∀ y ∈ pre, Pat h (k + 1) y
  b : ∀ y ∈ post, Pat h k y
  c : ∀ y ∈ pre ++ post, Sat h y
  sz : h.objs.size = h0.objs.size
  kp : ∀ c o, c ≠ z → c ≠ TO → (∀ y ∈ pre ++ post, c ≠ y.it) → h0.get? c = some o → h.get? c = some o
theorem Mid.step {h0 h h' : Heap} {z TI TO : Addr} {k : Nat} {pre post : List ZS} {y : ZS} (D : Apart z TI TO (pre ++ y :: post)) (m : Mid h0 h z TI TO k pre (y :: post)) (p : Pat h' (k + 1) y) (sb : Heap.SameBut y.it h h') : Mid h0 h' z TI TO k (pre ++ [y]) post := by
  obtain ⟨d1, d2⟩ := D.mid
  have other : ∀ c o, c ≠ y.it → h.get? c = some o → h'.get? c = some o := fun c o ne e => sb.extBut _ _ ne e
  refine ⟨fun u hu => ?_, fun u hu => (m.b u (List.mem_cons_of_mem _ hu)).at fun o e => other _ o (d2 u hu) e, fun u hu => ?_, sb.1.trans m.sz, fun c o h1 h2 h3 e => ?_⟩
  · rcases List.mem_append.mp hu with q | q
    · exact (m.a u q).at fun o e => other _ o (d1 u q) e
    · rw [List.mem_singleton.mp q]; exact p
  · have hm : u ∈ pre ++ y :: post := by simpa [List.append_assoc] using hu
    exact (m.c u hm).at fun o e => other _ o (D.li u hm y (by simp)) e
  · have h3' : ∀ u ∈ pre ++ y :: post, c ≠ u.it := fun u hu => h3 u (by simpa [List.append_assoc] using hu)
    exact other _ _ (h3' y (by simp)) (m.kp c o h1 h2 h3' e)
theorem Mid.but {h0 h h' : Heap} {z TI TO b : Addr} {k : Nat} {pre post : List ZS} (D : Apart z TI TO (pre ++ post)) (hb : b = z ∨ b = TO) (m : Mid h0 h z TI TO k pre post) (sb : Heap.SameBut b h h') : Mid h0 h' z TI TO k pre post := by
  have other : ∀ c o, c ≠ b → h.get? c = some o → h'.get? c = some o := fun c o ne e => sb.extBut _ _ ne e
  have ni : ∀ u ∈ pre ++ post, u.it ≠ b := fun u hu => by rcases hb with q | q <;> rw [q]; exact D.iz u hu; exact D.iTO u hu
  have nl : ∀ u ∈ pre ++ post, u.l ≠ b := fun u hu => by rcases hb with q | q <;> rw [q]; exact D.lz u hu; exact D.lTO u hu
  refine ⟨fun u hu => (m.a u hu).at fun o e => other _ o (ni u (List.mem_append_left _ hu)) e, fun u hu => (m.b u hu).at fun o e => other _ o (ni u (List.mem_append_right _ hu)) e,
    fun u hu => (m.c u hu).at fun o e => other _ o (nl u hu) e, sb.1.trans m.sz, fun c o h1 h2 h3 e => ?_⟩
  exact other _ _ (by rcases hb with q | q <;> rw [q]; exact h1; exact h2) (m.kp c o h1 h2 h3 e)
end
end SGZ

set_option Elab.async false
set_option linter.all false
set_option maxRecDepth 100000
set_option maxHeartbeats 4000000
namespace SGZ
open PySem PySem.Spec PyProof.Rows L2
open PySem.Sem (wp)
theorem its_append (a b : List ZS) : its (a ++ b) = its a ++ its b := by simp [its]
theorem its_length (a : List ZS) : (its a).length = a.length := by simp [its]
theorem its_ne {zs : List ZS} (hne : zs ≠ []) : (its zs).toArray.isEmpty = false := by
  cases zs with
  | nil => exact absurd rfl hne
  | cons y zs => simp [its]
theorem small (n : Nat) (h : n ≤ 1000) : n ≤ sizeLine := Nat.le_trans h (by decide)
theorem put_mid {α : Type} (a : List α) (o : α) (b : List α) (x : α) {n : Nat} (hn : a.length = n) : ((a ++ o :: b).toArray.setIfInBounds n x) = (a ++ x :: b).toArray := by
  subst hn
  rw [List.setIfInBounds_toArray]
  congr 1
  rw [List.set_append_right _ _ (Nat.le_refl _), Nat.sub_self]
  rfl
section
variable {prog : Program} {w : World} {A : Around} {E : Value → Shared → Prop} {s : Shared}
theorem zn_free {z TI TO : Addr} {f0 : Value} {f1 : Bool} {zs : List ZS} {k : Nat} {old : List Value} {x : ZS → Value} {Q : Value → Shared → Prop} (D : Apart z TI TO zs) (hne : zs ≠ []) (hlen : zs.length ≤ 1000)
    (hz : IsZp s.heap z TI TO f0 f1) (hfree : ∀ {R : Bool → Shared → Prop}, R true s → wpAny (model prog w) A (Builtin.SmallTypes.ownedTupleIsFree (.ref z)) R E s) (hTI : IsTp s.heap TI (its zs)) (hTO : IsTp s.heap TO old) (hold : old.length = zs.length)
    (hp : ∀ y ∈ zs, Pat s.heap k y) (hs : ∀ y ∈ zs, Sat s.heap y) (hx : ∀ y ∈ zs, y.xs[k]? = some (x y))
    (hQ : ∀ h', IsZp h' z TI TO (rawInt s.heap.objs.size) false → IsTp h' TO (zs.map x) → (∀ y ∈ zs, Pat h' (k + 1) y) → IsTp h' s.heap.objs.size (zs.map x) → h'.objs.size = s.heap.objs.size + 1 →
      (∀ c o, c ≠ z → c ≠ TO → (∀ y ∈ zs, c ≠ y.it) → s.heap.get? c = some o → h'.get? c = some o) → Q (.ref s.heap.objs.size) { s with heap := h' }) :
    wpAny (model prog w) A (Builtin.«zip.__next__» ⟨[.ref z], []⟩) (fun fin s' => ∃ v, fin = .done (.ret v) ∧ Q v s') E s := by
  show wpAny _ _ (field (.ref z) 2 >>= _) _ _ _
  refine wpAny_bind (wpAny_field hz rfl (x := .bool false) rfl ?_)
  show wpAny _ _ (field (.ref z) 3 >>= _) _ _ _
  refine wpAny_bind (wpAny_field hz rfl (x := .ref TI) rfl ?_)
  refine wpAny_bind (wpAny_seqItems hTI rfl ?_)
  simp only [its_ne hne, Bool.false_eq_true, if_false]
  refine wpAny_bind (hfree ?_)
  simp only [if_true]
  refine wpAny_bind (wpAny_rule ?_)
  refine wpAny_bind (wpAny_field hz rfl (x := .ref TO) rfl ?_)
  refine wpAny_bind (wpAny_setField_rec hz (by simp) fun h₁ hz₁ hs₁ => ?_)
  replace hz₁ : IsZp h₁ z TI TO .ellipsis f1 := hz₁
  refine wpAny_bind ?_
  refine wpAny_forIn_list _ (fun rest b s' => b = (none, PUnit.unit) ∧ ∃ pre post h old', zs = pre ++ post ∧ rest = (its post).zipIdx pre.length ∧ s' = { s with heap := h } ∧ IsZp h z TI TO .ellipsis f1 ∧ IsTp h TO (pre.map x ++ old') ∧ old'.length = post.length ∧ Mid s.heap h z TI TO k pre post) _ ?turn ?fin _ _ ?start
  case start =>
    refine ⟨rfl, [], zs, h₁, old, rfl, rfl, rfl, hz₁, hs₁.extBut _ _ D.TOz hTO, hold, ?_⟩
    exact Mid.but (pre := []) D (.inl rfl) ⟨fun u hu => (by cases hu), hp, hs, rfl, fun c o _ _ _ e => e⟩ hs₁
  case turn =>
    rintro ⟨itv, n⟩ rest b s' ⟨rfl, pre, post, h, old', rfl, er, rfl, hz', hTO', hl', m⟩
    cases post with
    | nil => simp [its] at er
    | cons y post =>
      cases old' with
      | nil => cases hl'
      | cons o old' =>
        simp only [its, List.map_cons, List.zipIdx_cons, List.cons.injEq, Prod.mk.injEq] at er
        obtain ⟨⟨rfl, rfl⟩, rfl⟩ := er
        have hy : y ∈ pre ++ y :: post := by simp
        refine wpAny_bind (wpAny_onRaise ?_)
        show wpAny _ _ (Builtin.SmallTypes.nextOf (.ref y.it) >>= _) _ _ _
        refine wpAny_bind (next_item (s := { s with heap := h }) (m.b y (by simp)) (m.c y hy) (hx y hy) fun h₂ p₂ hs₂ => wpAny_pure ?_)
        have hTO₂ : IsTp h₂ TO (pre.map x ++ o :: old') := hs₂.extBut _ _ (D.iTO y hy).symm hTO'
        have hz₂ : IsZp h₂ z TI TO .ellipsis f1 := hs₂.extBut _ _ (D.iz y hy).symm hz'
        have m₂ := m.step D p₂ hs₂
        refine wpAny_bind (wpAny_seqItems hTO₂ rfl ?_)
        have len1 : (pre.map x ++ o :: old').toArray.size ≤ 1000 := by
          simp only [List.length_cons] at hl'
          simp only [List.size_toArray, List.length_append, List.length_map, List.length_cons]
          simp only [List.length_append, List.length_cons] at hlen
          omega
        refine wpAny_bind (wpAny_updateSeq (s := { s with heap := h₂ }) hTO₂ rfl ?_ (small _ len1) (by rw [Array.size_setIfInBounds]; exact Nat.le_succ_of_le (small _ len1)))
        have g3 := Heap.get?_update_self (Obj.mapSeq (·.setIfInBounds pre.length (x y))) hTO₂ rfl
        have s3 : Heap.SameBut TO h₂ (h₂.update TO (Obj.mapSeq (·.setIfInBounds pre.length (x y)))) := Heap.SameBut.update ..
        generalize h₂.update TO (Obj.mapSeq (·.setIfInBounds pre.length (x y))) = h₃ at g3 s3 ⊢
        refine wpAny_bind (wpAny_letGo (wpAny_pure ?_))
        have e3 : pre ++ y :: post = (pre ++ [y]) ++ post := by simp
        refine ⟨rfl, pre ++ [y], post, h₃, old', e3, ?_, rfl, s3.extBut _ _ D.TOz.symm hz₂, ?_, ?_, Mid.but (e3 ▸ D) (.inr rfl) m₂ s3⟩
        · rw [List.length_append, List.length_singleton]; rfl
        · refine g3.trans ?_
          have pm := put_mid (pre.map x) o old' (x y) (n := pre.length) (by rw [List.length_map])
          simp only [Obj.mapSeq, pm]
          simp
        · simpa using hl'
  case fin =>
    rintro b s' ⟨rfl, pre, post, h, old', rfl, er, rfl, hz', hTO', hl', m⟩
    cases post with
    | cons y post => simp [its] at er
    | nil =>
      cases old' with
      | cons o old' => cases hl'
      | nil =>
        rw [List.append_nil] at hTO' D hQ hlen
        rw [List.append_nil] at hp hs hx
        refine wpAny_bind (wpAny_seqItems (s := { s with heap := h }) hTO' rfl ?_)
        have len1 : (pre.map x).length ≤ 1000 := by rw [List.length_map]; exact hlen
        show wpAny _ _ (newTuple (pre.map x) >>= _) _ _ _
        refine wpAny_bind (wpAny_newTuple ?_ (by simpa using small _ len1))
        have hzlt : z < h.objs.size := Heap.lt_size hz'
        have hTOlt : TO < h.objs.size := Heap.lt_size hTO'
        show wpAny _ _ (Builtin.SmallTypes.ownedTupleHandOut (.ref z) (.ref h.objs.size) >>= _) _ _ _
        refine wpAny_bind ?_
        unfold Builtin.SmallTypes.ownedTupleHandOut
        have hz₆ : IsZp (h.push { cls := .type "tuple", data := .seq (pre.map x).toArray }) z TI TO .ellipsis f1 := Heap.get?_push_of_some _ hz'
        refine wpAny_bind (wpAny_setField_rec hz₆ (by simp) fun h₇ hz₇ hs₇ => ?_)
        replace hz₇ : IsZp h₇ z TI TO (rawInt h.objs.size) f1 := hz₇
        refine wpAny_setField_rec hz₇ (by simp) fun h₈ hz₈ hs₈ => ?_
        replace hz₈ : IsZp h₈ z TI TO (rawInt h.objs.size) false := hz₈
        have up : ∀ c o, c ≠ z → h.get? c = some o → h₈.get? c = some o := fun c o c1 e => hs₈.extBut _ _ c1 (hs₇.extBut _ _ c1 (Heap.get?_push_of_some _ e))
        have hT₈ : IsTp h₈ h.objs.size (pre.map x) := hs₈.extBut _ _ (Nat.ne_of_gt hzlt) (hs₇.extBut _ _ (Nat.ne_of_gt hzlt) (Heap.get?_push_size _ rfl))
        have hz8 : h₈.objs.size = h.objs.size + 1 := by rw [hs₈.1, hs₇.1, Heap.size_push]
        have hsz := m.sz
        refine wpAny_pure ⟨_, rfl, ?_⟩
        rw [hsz] at hz₈ hT₈ hz8
        show Q (.ref h.objs.size) _
        rw [hsz]
        exact hQ h₈ hz₈ (up _ _ D.TOz hTO') (fun y hy => (m.a y hy).at fun o e => up _ o (D.iz y hy) e) hT₈ hz8 fun c o c1 c2 c3 e => up c o c1 (m.kp c o c1 c2 (by simpa using c3) e)
theorem zn_held {z TI TO : Addr} {f0 : Value} {f1 : Bool} {zs : List ZS} {k : Nat} {x : ZS → Value} {Q : Value → Shared → Prop} (D : Apart z TI TO zs) (hne : zs ≠ []) (hlen : zs.length ≤ 1000)
    (hz : IsZp s.heap z TI TO f0 f1) (hheld : ∀ {R : Bool → Shared → Prop}, (∀ h', IsZp h' z TI TO f0 true → Heap.SameBut z s.heap h' → R false { s with heap := h' }) → wpAny (model prog w) A (Builtin.SmallTypes.ownedTupleIsFree (.ref z)) R E s) (hTI : IsTp s.heap TI (its zs))
    (hp : ∀ y ∈ zs, Pat s.heap k y) (hs : ∀ y ∈ zs, Sat s.heap y) (hx : ∀ y ∈ zs, y.xs[k]? = some (x y))
    (hQ : ∀ h', IsZp h' z TI TO f0 true → (∀ y ∈ zs, Pat h' (k + 1) y) → IsTp h' s.heap.objs.size (zs.map x) → h'.objs.size = s.heap.objs.size + 1 →
      (∀ c o, c ≠ z → (∀ y ∈ zs, c ≠ y.it) → s.heap.get? c = some o → h'.get? c = some o) → Q (.ref s.heap.objs.size) { s with heap := h' }) :
    wpAny (model prog w) A (Builtin.«zip.__next__» ⟨[.ref z], []⟩) (fun fin s' => ∃ v, fin = .done (.ret v) ∧ Q v s') E s := by
  show wpAny _ _ (field (.ref z) 2 >>= _) _ _ _
  refine wpAny_bind (wpAny_field hz rfl (x := .bool false) rfl ?_)
  show wpAny _ _ (field (.ref z) 3 >>= _) _ _ _
  refine wpAny_bind (wpAny_field hz rfl (x := .ref TI) rfl ?_)
  refine wpAny_bind (wpAny_seqItems hTI rfl ?_)
  simp only [its_ne hne, Bool.false_eq_true, if_false]
  refine wpAny_bind (hheld fun h₁ hz₁ hs₁ => ?_)
  simp only [Bool.false_eq_true, if_false]
  refine wpAny_bind ?_
  rw [← Array.forIn_toList]
  refine wpAny_forIn_list _ (fun rest b s' => ∃ pre post h, b = (none, (pre.map x).toArray) ∧ zs = pre ++ post ∧ rest = its post ∧ s' = { s with heap := h } ∧ IsZp h z TI TO f0 true ∧ Mid s.heap h z z z k pre post) _ ?turn ?fin _ _ ?start
  case start =>
    refine ⟨[], zs, h₁, rfl, rfl, rfl, rfl, hz₁, ?_⟩
    exact ⟨fun u hu => (by cases hu), fun y hy => (hp y hy).at fun o e => hs₁.extBut _ _ (D.iz y hy) e, fun y hy => (hs y hy).at fun o e => hs₁.extBut _ _ (D.lz y hy) e, hs₁.1, fun c o h1 _ _ e => hs₁.extBut _ _ h1 e⟩
  case turn =>
    rintro itv rest b s' ⟨pre, post, h, rfl, rfl, er, rfl, hz', m⟩
    cases post with
    | nil => simp [its] at er
    | cons y post =>
      simp only [its, List.map_cons, List.cons.injEq] at er
      obtain ⟨rfl, rfl⟩ := er
      have hy : y ∈ pre ++ y :: post := by simp
      refine wpAny_bind (wpAny_holding ?_)
      show wpAny _ _ (Builtin.SmallTypes.nextOf (.ref y.it) >>= _) _ _ _
      refine wpAny_bind (next_item (s := { s with heap := h }) (m.b y (by simp)) (m.c y hy) (hx y hy) fun h₂ p₂ hs₂ => wpAny_pure ?_)
      refine wpAny_pure ?_
      have e3 : pre ++ y :: post = (pre ++ [y]) ++ post := by simp
      obtain ⟨d1, d2⟩ := D.mid
      refine ⟨pre ++ [y], post, h₂, ?_, e3, rfl, rfl, hs₂.extBut _ _ (D.iz y hy).symm hz', ?_⟩
      · simp
      · have other : ∀ c o, c ≠ y.it → h.get? c = some o → h₂.get? c = some o := fun c o ne e => hs₂.extBut _ _ ne e
        refine ⟨fun u hu => ?_, fun u hu => (m.b u (List.mem_cons_of_mem _ hu)).at fun o e => other _ o (d2 u hu) e, fun u hu => ?_, hs₂.1.trans m.sz, fun c o h1 h2 h3 e => ?_⟩
        · rcases List.mem_append.mp hu with q | q
          · exact (m.a u q).at fun o e => other _ o (d1 u q) e
          · rw [List.mem_singleton.mp q]; exact p₂
        · have hm : u ∈ pre ++ y :: post := by rw [e3]; exact hu
          exact (m.c u hm).at fun o e => other _ o (D.li u hm y (by simp)) e
        · have h3' : ∀ u ∈ pre ++ y :: post, c ≠ u.it := fun u hu => h3 u (by rw [← e3]; exact hu)
          exact other _ _ (h3' y (by simp)) (m.kp c o h1 h2 h3' e)
  case fin =>
    rintro b s' ⟨pre, post, h, rfl, rfl, er, rfl, hz', m⟩
    cases post with
    | cons y post => simp [its] at er
    | nil =>
      rw [List.append_nil] at D hQ hlen
      have len1 : (pre.map x).length ≤ 1000 := by rw [List.length_map]; exact hlen
      show wpAny _ _ (newTuple (pre.map x) >>= _) _ _ _
      refine wpAny_bind (wpAny_newTuple ?_ (by simpa using small _ len1))
      refine wpAny_pure ⟨_, rfl, ?_⟩
      have hsz := m.sz
      have hT : IsTp (h.push { cls := .type "tuple", data := .seq (pre.map x).toArray }) h.objs.size (pre.map x) := Heap.get?_push_size _ rfl
      have hz4 : (h.push { cls := .type "tuple", data := .seq (pre.map x).toArray }).objs.size = h.objs.size + 1 := Heap.size_push ..
      show Q (.ref h.objs.size) _
      rw [hsz] at hT hz4 ⊢
      exact hQ _ (Heap.get?_push_of_some _ hz') (fun y hy => (m.a y hy).at fun o e => Heap.get?_push_of_some _ e) hT hz4 fun c o c1 c3 e => Heap.get?_push_of_some _ (m.kp c o c1 c1 (by simpa using c3) e)
end
end SGZ

set_option Elab.async false
set_option linter.all false
set_option maxRecDepth 100000
set_option maxHeartbeats 4000000
namespace SGZ
open PySem PySem.Spec PyProof.Rows L2
open PySem.Sem (wp)
section
variable {prog : Program} {w : World} {A : Around} {E : Value → Shared → Prop} {s : Shared}
theorem dead {a : Addr} {Q : Option Obj → Shared → Prop} (ha : s.heap.get? a = none) (h : Q none s) : wpAny (model prog w) A (loadIfAlive a) Q E s := by
  intro Γ p hΓ
  simp only [loadIfAlive, Sem.wp] 
  rw [ha]
  exact h
/-- whether what was handed out last is out still: both ways -/
theorem owned {z TI TO : Addr} {f0 : Value} {f1 : Bool} (hz : IsZp s.heap z TI TO f0 f1) (h0 : f0 = .none ∨ ∃ T : Nat, f0 = rawInt T) :
    (∀ {R : Bool → Shared → Prop}, R true s → wpAny (model prog w) A (Builtin.SmallTypes.ownedTupleIsFree (.ref z)) R E s) ∨
    (∀ {R : Bool → Shared → Prop}, (∀ h', IsZp h' z TI TO f0 true → Heap.SameBut z s.heap h' → R false { s with heap := h' }) → wpAny (model prog w) A (Builtin.SmallTypes.ownedTupleIsFree (.ref z)) R E s) := by
  rcases h0 with rfl | ⟨T, rfl⟩
  · refine .inl fun r => ?_
    unfold Builtin.SmallTypes.ownedTupleIsFree
    exact wpAny_bind (wpAny_field hz rfl (x := .none) rfl (wpAny_pure r))
  · cases hT : s.heap.get? T with
    | some oT => exact .inr fun r => PySem.wpAny_tupleHeld_zip hz hT r
    | none =>
      refine .inl fun r => ?_
      unfold Builtin.SmallTypes.ownedTupleIsFree
      refine wpAny_bind (wpAny_field hz rfl (x := rawInt T) rfl ?_)
      show wpAny _ _ (loadIfAlive ((T : Int).toNat) >>= _) _ _ _
      rw [Int.toNat_natCast]
      exact wpAny_bind (dead hT (wpAny_pure r))
theorem zn_end {z TI TO : Addr} {f0 : Value} {f1 : Bool} {y : ZS} {zs : List ZS} {k : Nat} {Q : Fin → Shared → Prop} (hh : A.handled = none) (D : Apart z TI TO (y :: zs))
    (hz : IsZp s.heap z TI TO f0 f1) (h0 : f0 = .none ∨ ∃ T : Nat, f0 = rawInt T) (hTI : IsTp s.heap TI (its (y :: zs))) (hp : Pat s.heap k y) (hs : Sat s.heap y) (hx : y.xs[k]? = none)
    (hE : ∀ h' e, (∀ c o, c ≠ z → c ≠ TO → (∀ u ∈ y :: zs, c ≠ u.it) → s.heap.get? c = some o → h'.get? c = some o) → (∃ o, h'.get? e = some o ∧ o.cls = .type "StopIteration") → E (.ref e) { s with heap := h' }) :
    wpAny (model prog w) A (Builtin.«zip.__next__» ⟨[.ref z], []⟩) Q E s := by
  show wpAny _ _ (field (.ref z) 2 >>= _) _ _ _
  refine wpAny_bind (wpAny_field hz rfl (x := .bool false) rfl ?_)
  show wpAny _ _ (field (.ref z) 3 >>= _) _ _ _
  refine wpAny_bind (wpAny_field hz rfl (x := .ref TI) rfl ?_)
  refine wpAny_bind (wpAny_seqItems hTI rfl ?_)
  simp only [its_ne (List.cons_ne_nil y zs), Bool.false_eq_true, if_false]
  have hy : y ∈ y :: zs := List.mem_cons_self
  rcases owned (prog := prog) (w := w) (A := A) (E := E) hz h0 with hf | hf
  · refine wpAny_bind (hf ?_)
    simp only [if_true]
    refine wpAny_bind (wpAny_rule ?_)
    refine wpAny_bind (wpAny_field hz rfl (x := .ref TO) rfl ?_)
    refine wpAny_bind (wpAny_setField_rec hz (by simp) fun h₁ hz₁ hs₁ => ?_)
    replace hz₁ : IsZp h₁ z TI TO .ellipsis f1 := hz₁
    refine wpAny_bind ?_
    simp only [its, List.map_cons, List.zipIdx_cons, List.forIn_cons]
    refine wpAny_bind (wpAny_bind (wpAny_onRaise ?_))
    show wpAny _ _ (Builtin.SmallTypes.nextOf (.ref y.it) >>= _) _ _ _
    refine wpAny_bind (next_end (s := { s with heap := h₁ }) hh (hp.at fun o e => hs₁.extBut _ _ (D.iz y hy) e) (hs.at fun o e => hs₁.extBut _ _ (D.lz y hy) e) hx fun h₂ e hs₂ he => ?_)
    obtain ⟨oe, hoe, hce⟩ := he
    have hz₂ : IsZp h₂ z TI TO .ellipsis f1 := hs₂ _ _ (D.iz y hy).symm hz₁
    have hez : e ≠ z := fun q => by subst q; rw [hz₂] at hoe; cases hoe; simp at hce
    refine wpAny_setField_rec hz₂ (by simp) fun h₃ _ hs₃ => hE h₃ e (fun c o c1 _ c3 q => hs₃.extBut _ _ c1 (hs₂ _ _ (c3 y hy) (hs₁.extBut _ _ c1 q))) ⟨oe, hs₃.extBut _ _ hez hoe, hce⟩
  · refine wpAny_bind (hf fun h₁ hz₁ hs₁ => ?_)
    simp only [Bool.false_eq_true, if_false]
    refine wpAny_bind ?_
    rw [← Array.forIn_toList]
    simp only [its, List.map_cons, List.forIn_cons]
    refine wpAny_bind (wpAny_bind (wpAny_holding ?_))
    show wpAny _ _ (Builtin.SmallTypes.nextOf (.ref y.it) >>= _) _ _ _
    refine wpAny_bind (next_end (s := { s with heap := h₁ }) hh (hp.at fun o e => hs₁.extBut _ _ (D.iz y hy) e) (hs.at fun o e => hs₁.extBut _ _ (D.lz y hy) e) hx fun h₂ e hs₂ he => ?_)
    exact hE h₂ e (fun c o c1 _ c3 q => hs₂ _ _ (c3 y hy) (hs₁.extBut _ _ c1 q)) he
theorem zn_none {z TI TO : Addr} {f0 : Value} {f1 : Bool} {Q : Fin → Shared → Prop} (hh : A.handled = none) (hz : IsZp s.heap z TI TO f0 f1) (hTI : IsTp s.heap TI [])
    (hE : ∀ h' e, (∀ c o, s.heap.get? c = some o → h'.get? c = some o) → (∃ o, h'.get? e = some o ∧ o.cls = .type "StopIteration") → E (.ref e) { s with heap := h' }) :
    wpAny (model prog w) A (Builtin.«zip.__next__» ⟨[.ref z], []⟩) Q E s := by
  show wpAny _ _ (field (.ref z) 2 >>= _) _ _ _
  refine wpAny_bind (wpAny_field hz rfl (x := .bool false) rfl ?_)
  show wpAny _ _ (field (.ref z) 3 >>= _) _ _ _
  refine wpAny_bind (wpAny_field hz rfl (x := .ref TI) rfl ?_)
  refine wpAny_bind (wpAny_seqItems hTI rfl ?_)
  simp only [List.isEmpty_toArray, List.isEmpty_nil, if_true]
  refine wpAny_bind (wpAny_rule ?_)
  unfold Builtin.SmallTypes.stopIteration
  refine wpAny_bind (wpAny_bind ?_)
  simp only [newExc, newTuple]
  refine wpAny_bind (wpAny_newObj_type ?_ (by size_fits))
  refine wpAny_bind (m := firstArgMember _ _) (wpAny_of_eq (a := Value.none) (by first | rfl | (simp only [firstArgMember]; rfl)) ?_)
  refine wpAny_newObj_type ?_ (by size_fits)
  simp only [raiseNew]
  refine wpAny_bind (wpAny_handled ?_)
  rw [hh]
  refine wpAny_bind (wpAny_pure (wpAny_throw ?_))
  exact hE _ _ (fun c o q => Heap.get?_push_of_some _ (Heap.get?_push_of_some _ q)) ⟨_, Heap.get?_push_size _ rfl, rfl⟩
end
end SGZ

set_option Elab.async false
set_option linter.all false
set_option maxRecDepth 100000
set_option maxHeartbeats 4000000
namespace SGZ
open PySem PySem.Spec PyProof.Rows L2
open PySem.Sem (wp)
theorem typeCall_zip (vs : List Value) : checkTypeCall "zip" ⟨vs, []⟩ = pure () := by kernel_rfl
theorem newCall_zip (vs : List Value) : checkBuiltinCall "zip.__new__" ⟨.type "zip" :: vs, []⟩ = pure () := by
  cases vs with
  | nil => kernel_rfl
  | cons a vs => kernel_rfl
theorem args_init (a : Value) (vs : List Value) : argsOk "object.__init__" ⟨a :: vs, []⟩ := by
  unfold argsOk
  rw [PySem.signature?_of (id := "object.__init__") (n := ['_', '_', 't', 'i', 'n', 'i', '_', '_']) (o := ['t', 'c', 'e', 'j', 'b', 'o']) (by kernel_rfl) PySem.F.owner_object]
  kernel_rfl
theorem newClass_zip (vs : List Value) : Builtin.SmallTypes.newClass "zip" ⟨.type "zip" :: vs, []⟩ = pure (.type "zip", vs) := by
  unfold Builtin.SmallTypes.newClass
  simp only [PySem.sub_zip]
  rfl
/-- the sources as they are handed over: list or tuple, where, its items -/
abbrev So := Bool × Addr × Array Value
def mk : Nat → List So → List ZS
  | _, [] => []
  | i, (b, l, xs) :: r => ⟨b, l, i, xs⟩ :: mk (i + 1) r
theorem mk_append : ∀ (i : Nat) (a b : List So), mk i (a ++ b) = mk i a ++ mk (i + a.length) b
  | i, [], b => by simp [mk]
  | i, y :: a, b => by
    rw [List.cons_append, mk, mk, mk_append, List.cons_append, List.length_cons]
    congr 3
    omega
theorem mk_length : ∀ (i : Nat) (a : List So), (mk i a).length = a.length
  | _, [] => rfl
  | i, y :: a => by rw [mk, List.length_cons, List.length_cons, mk_length]
theorem mk_mem {y : ZS} : ∀ (i : Nat) (a : List So), y ∈ mk i a → i ≤ y.it ∧ y.it < i + a.length ∧ (y.b, y.l, y.xs) ∈ a
  | _, [], h => by cases h
  | i, (b, l, xs) :: a, h => by
    rw [mk] at h
    rcases List.mem_cons.mp h with e | e
    · rw [e]
      exact ⟨Nat.le_refl _, by rw [List.length_cons]; show i < _; omega, by simp⟩
    · obtain ⟨h1, h2, h3⟩ := mk_mem (i + 1) a e
      exact ⟨Nat.le_of_succ_le h1, by rw [List.length_cons, Nat.add_comm a.length 1, ← Nat.add_assoc]; exact h2, List.mem_cons_of_mem _ h3⟩
theorem mk_pair : ∀ (i : Nat) (a : List So), (mk i a).Pairwise fun y u => y.it ≠ u.it
  | _, [] => .nil
  | i, u :: a => by
    rw [mk, List.pairwise_cons]
    refine ⟨fun y hy => ?_, mk_pair _ _⟩
    have := (mk_mem _ _ hy).1
    show i ≠ y.it
    omega
section
variable {prog : Program} {w : World} {A : Around} {E : Value → Shared → Prop} {s : Shared}
def SatO (h : Heap) (y : So) : Prop := Sat h ⟨y.1, y.2.1, 0, y.2.2⟩
theorem Sat.of {h : Heap} {y : ZS} (x : SatO h (y.b, y.l, y.xs)) : Sat h y := x
theorem SatO.at {h h' : Heap} {y : So} (x : SatO h y) (e : ∀ c o, h.get? c = some o → h'.get? c = some o) : SatO h' y := Sat.at x fun o q => e _ o q
theorem iter_one {y : So} {Q : Value → Shared → Prop} (x : SatO s.heap y)
    (hQ : ∀ h', Pat h' 0 ⟨y.1, y.2.1, s.heap.objs.size, y.2.2⟩ → (∀ c o, s.heap.get? c = some o → h'.get? c = some o) → h'.objs.size = s.heap.objs.size + 1 → Q (.ref s.heap.objs.size) { s with heap := h' }) :
    wpAny (model prog w) A (pyIter (.ref y.2.1)) Q E s := by
  obtain ⟨b, l, xs⟩ := y
  cases b
  · exact wpAny_pyIter_tuple x (hQ _ ⟨_, Heap.get?_push_size _ rfl, rfl, rfl⟩ (fun c o q => Heap.get?_push_of_some _ q) (Heap.size_push ..))
  · exact wpAny_pyIter_list x (hQ _ ⟨_, Heap.get?_push_size _ rfl, rfl, rfl⟩ (fun c o q => Heap.get?_push_of_some _ q) (Heap.size_push ..))
theorem meets_zipN (L : List So) (hL : L.length ≤ 1000) : Meets (Builtin.«zip.__new__» ⟨.type "zip" :: L.map fun y => .ref y.2.1, []⟩) (fun _ R s => (∀ y ∈ L, SatO s.heap y) ∧
    ∀ h', IsZp h' (s.heap.objs.size + L.length + 2) (s.heap.objs.size + L.length) (s.heap.objs.size + L.length + 1) .none false → IsTp h' (s.heap.objs.size + L.length) (its (mk s.heap.objs.size L)) → IsTp h' (s.heap.objs.size + L.length + 1) ((its (mk s.heap.objs.size L)).map fun _ => .none) →
      (∀ y ∈ mk s.heap.objs.size L, Pat h' 0 y) → (∀ c o, s.heap.get? c = some o → h'.get? c = some o) → R (.ok (.ret (.ref (s.heap.objs.size + L.length + 2)))) { s with heap := h' }) :=
  .of_wp fun prog w A R s h => by
    obtain ⟨hs, hR⟩ := h
    unfold Builtin.«zip.__new__»
    rw [newClass_zip]
    refine wpAny_bind (wpAny_pure ?_)
    simp only [List.length_nil, gt_iff_lt, Nat.not_lt_zero, if_false]
    show wpAny _ _ (Builtin.SmallTypes.iterAll _ >>= _) _ _ _
    refine wpAny_bind ?_
    unfold Builtin.SmallTypes.iterAll
    refine wpAny_bind ?_
    refine wpAny_forIn_list _ (fun rest b s' => ∃ pre post h, L = pre ++ post ∧ rest = post.map (fun y => Value.ref y.2.1) ∧ b = (its (mk s.heap.objs.size pre)).toArray ∧ s' = { s with heap := h } ∧ h.objs.size = s.heap.objs.size + pre.length ∧ (∀ y ∈ mk s.heap.objs.size pre, Pat h 0 y) ∧ (∀ c o, s.heap.get? c = some o → h.get? c = some o)) _ ?turn ?fin _ _ ?start
    case start => exact ⟨[], L, s.heap, rfl, rfl, rfl, rfl, rfl, fun y hy => (by cases hy), fun c o q => q⟩
    case turn =>
      rintro v rest b s' ⟨pre, post, h, rfl, er, rfl, rfl, sz, hp, kp⟩
      cases post with
      | nil => cases er
      | cons y post =>
        rw [List.map_cons, List.cons.injEq] at er
        obtain ⟨rfl, rfl⟩ := er
        refine wpAny_bind (wpAny_holding ?_)
        refine iter_one (s := { s with heap := h }) ((hs y (by simp)).at kp) fun h' p k1 z1 => ?_
        refine wpAny_pure ⟨pre ++ [y], post, h', by simp, rfl, ?_, rfl, ?_, ?_, fun c o q => k1 _ _ (kp _ _ q)⟩
        · rw [mk_append]
          simp only [its, mk, List.map_append, List.map_cons, List.map_nil]
          rw [← sz]
          simp
        · show h'.objs.size = _
          rw [z1, sz, List.length_append, List.length_singleton]; omega
        · intro u hu
          rw [mk_append] at hu
          rcases List.mem_append.mp hu with q | q
          · exact (hp u q).at fun o q => k1 _ _ q
          · simp only [mk, List.mem_singleton] at q
            subst q
            rw [← sz]
            exact p
    case fin =>
      rintro b s' ⟨pre, post, h, rfl, er, rfl, rfl, sz, hp, kp⟩
      cases post with
      | cons y post => cases er
      | nil =>
        simp only [List.append_nil] at hR hL ⊢
        have len1 : (its (mk s.heap.objs.size pre)).length ≤ 1000 := by rw [its_length, mk_length]; exact hL
        refine wpAny_pure ?_
        refine wpAny_bind (wpAny_newTuple ?_ (by simpa using small _ len1))
        refine wpAny_bind (wpAny_newTuple ?_ (by simpa using small _ len1))
        unfold Builtin.SmallTypes.newRecord
        refine wpAny_bind (wpAny_newObj_type ?_ (by show 5 ≤ sizeLine + 2; decide))
        refine wpAny_pure ?_
        refine ⟨_, rfl, ?_⟩
        simp only [List.append_nil] at hs
        generalize hT : its (mk s.heap.objs.size pre) = T at *
        show R (.ok (.ret (.ref ((h.push { cls := .type "tuple", data := .seq T.toArray }).push { cls := .type "tuple", data := .seq (T.map fun _ => Value.none).toArray }).objs.size))) { s with heap := ((h.push { cls := .type "tuple", data := .seq T.toArray }).push { cls := .type "tuple", data := .seq (T.map fun _ => Value.none).toArray }).push { cls := .type "zip", data := .fields #[.none, .bool false, .bool false, .ref h.objs.size, .ref (h.push { cls := .type "tuple", data := .seq T.toArray }).objs.size] } }
        generalize e1 : h.push { cls := .type "tuple", data := .seq T.toArray } = h1
        generalize e2 : h1.push { cls := .type "tuple", data := .seq (T.map fun _ => Value.none).toArray } = h2
        generalize e3 : h2.push { cls := .type "zip", data := .fields #[.none, .bool false, .bool false, .ref h.objs.size, .ref h1.objs.size] } = h3
        have n1 : h1.objs.size = h.objs.size + 1 := by rw [← e1]; exact Heap.size_push ..
        have n2 : h2.objs.size = h1.objs.size + 1 := by rw [← e2]; exact Heap.size_push ..
        have k1 : ∀ c o, h.get? c = some o → h1.get? c = some o := fun c o q => by rw [← e1]; exact Heap.get?_push_of_some _ q
        have k2 : ∀ c o, h1.get? c = some o → h2.get? c = some o := fun c o q => by rw [← e2]; exact Heap.get?_push_of_some _ q
        have k3 : ∀ c o, h2.get? c = some o → h3.get? c = some o := fun c o q => by rw [← e3]; exact Heap.get?_push_of_some _ q
        have g1 : IsTp h1 h.objs.size T := by rw [← e1]; exact Heap.get?_push_size _ rfl
        have g2 : IsTp h2 h1.objs.size (T.map fun _ => Value.none) := by rw [← e2]; exact Heap.get?_push_size _ rfl
        have g3 : IsZp h3 h2.objs.size h.objs.size h1.objs.size .none false := by rw [← e3]; exact Heap.get?_push_size _ rfl
        rw [n2, n1, sz] at g3
        rw [n1, sz] at g2
        rw [sz] at g1
        rw [n2, n1, sz]
        exact hR h3 g3 (k3 _ _ (k2 _ _ g1)) (k3 _ _ g2) (fun y hy => (hp y hy).at fun o q => k3 _ _ (k2 _ _ (k1 _ _ q))) fun c o q => k3 _ _ (k2 _ _ (k1 _ _ (kp _ _ q)))
end
end SGZ

set_option Elab.async false
set_option linter.all false
set_option maxRecDepth 100000
set_option maxHeartbeats 4000000
namespace SGZ
open PySem PySem.Spec PyProof.Rows L2
open PySem.Sem (wp)
abbrev Sl := Bool × Addr
def pj (y : So) : Sl := (y.1, y.2.1)
def raw (p : Sl) : So := (p.1, p.2, #[])
theorem its_mk : ∀ (i : Nat) (a b : List So), a.map pj = b.map pj → its (mk i a) = its (mk i b)
  | _, [], [], _ => rfl
  | i, (b, l, xs) :: a, (b', l', xs') :: c, h => by
    simp only [List.map_cons, List.cons.injEq] at h
    have := its_mk (i + 1) a c h.2
    simp only [its, mk, List.map_cons, List.cons.injEq] at this ⊢
    exact ⟨trivial, this⟩
theorem pat_mk {h : Heap} {k : Nat} : ∀ (i : Nat) (a b : List So), a.map pj = b.map pj → (∀ y ∈ mk i a, Pat h k y) → ∀ y ∈ mk i b, Pat h k y
  | _, [], [], _, _ => fun y hy => by cases hy
  | i, (b, l, xs) :: a, (b', l', xs') :: c, e, p => by
    simp only [List.map_cons, List.cons.injEq, pj, Prod.mk.injEq] at e
    obtain ⟨⟨rfl, rfl⟩, e⟩ := e
    intro y hy
    rw [mk] at hy
    rcases List.mem_cons.mp hy with q | q
    · have p0 := p ⟨b, l, i, xs⟩ (by simp [mk])
      rw [q]
      exact p0
    · exact pat_mk (i + 1) a c e (fun u hu => p u (by rw [mk]; exact List.mem_cons_of_mem _ hu)) y q
theorem apart_mk {i : Nat} {L : List So} (h : ∀ y ∈ L, y.2.1 < i) : Apart (i + L.length + 2) (i + L.length) (i + L.length + 1) (mk i L) where
  TIz := Nat.ne_of_lt (by omega)
  TOz := Nat.ne_of_lt (by omega)
  TITO := Nat.ne_of_lt (by omega)
  iz := fun y hy => by have := (mk_mem _ _ hy).2.1; exact Nat.ne_of_lt (Nat.lt_of_lt_of_le this (by omega))
  iTI := fun y hy => by have := (mk_mem _ _ hy).2.1; exact Nat.ne_of_lt this
  iTO := fun y hy => by have := (mk_mem _ _ hy).2.1; exact Nat.ne_of_lt (Nat.lt_of_lt_of_le this (by omega))
  lz := fun y hy => by have := h _ (mk_mem _ _ hy).2.2; exact Nat.ne_of_lt (Nat.lt_of_lt_of_le this (by omega))
  lTO := fun y hy => by have := h _ (mk_mem _ _ hy).2.2; exact Nat.ne_of_lt (Nat.lt_of_lt_of_le this (by omega))
  li := fun y hy u hu => by have := h _ (mk_mem _ _ hy).2.2; exact Nat.ne_of_lt (Nat.lt_of_lt_of_le this (mk_mem _ _ hu).1)
  ii := mk_pair _ _
section
variable {prog : Program} {w : World} {A : Around} {E : Value → Shared → Prop} {s : Shared}
theorem call_zipN (L : List So) (hL : L.length ≤ 1000) {Q : Value → Shared → Prop} (hs : ∀ y ∈ L, SatO s.heap y)
    (h : ∀ h', IsZp h' (s.heap.objs.size + L.length + 2) (s.heap.objs.size + L.length) (s.heap.objs.size + L.length + 1) .none false → IsTp h' (s.heap.objs.size + L.length) (its (mk s.heap.objs.size L)) → IsTp h' (s.heap.objs.size + L.length + 1) ((its (mk s.heap.objs.size L)).map fun _ => .none) →
      (∀ y ∈ mk s.heap.objs.size L, Pat h' 0 y) → (∀ c o, s.heap.get? c = some o → h'.get? c = some o) → Q (.ref (s.heap.objs.size + L.length + 2)) { s with heap := h' }) :
    wpAny (model prog w) A (call (.type "zip") (L.map fun y => .ref y.2.1)) Q E s := by
  refine callType_new PySem.F.called_zip (by decide) (typeCall_zip _) (newCall_zip _) (fun obj => args_init obj _) PySem.F.entry_zip_new (meets_zipN L hL) ⟨hs, fun h' a b c d e => ?_⟩
  exact ⟨⟨_, a, rfl⟩, h h' a b c d e⟩
/-- a target written as a tuple lets go what was handed out last -/
theorem goZ {tg : Expr} {z TI TO T : Addr} {f0 : Value} {f1 : Bool} {Q : Unit → Shared → Prop} (hz : IsZp s.heap z TI TO f0 f1) (hQ : ∀ h' f, (f = .none ∨ f = f0) → IsZp h' z TI TO f f1 → Heap.SameBut z s.heap h' → Q () { s with heap := h' }) :
    wpAny (model prog w) A (letOwnedTupleGo tg (.ref z) (.ref T)) Q E s := by
  have stay : Q () s := hQ s.heap f0 (.inr rfl) hz (Heap.SameBut.refl _ _)
  have go : ∀ b : Bool, wpAny (model prog w) A (if b = true then (do rule "for.unpacks-the-owned-tuple"; updateField z 0 .none) else pure ()) Q E s := by
    intro b
    cases b with
    | false => exact wpAny_pure stay
    | true =>
      refine wpAny_bind (wpAny_rule ?_)
      show wpAny _ _ (setField (.ref z) 0 .none) Q E s
      exact wpAny_setField_rec hz (by simp) fun h' hz' hs' => hQ h' .none (.inl rfl) hz' hs'
  unfold letOwnedTupleGo
  cases tg <;> first
    | exact wpAny_pure stay
    | exact wpAny_bind (wpAny_load hz (go _))
theorem next_some {z TI TO : Addr} {f0 : Value} {f1 : Bool} {zs : List ZS} {k : Nat} {old : List Value} {x : ZS → Value} {Q : Option Value → Shared → Prop} (D : Apart z TI TO zs) (hne : zs ≠ []) (hlen : zs.length ≤ 1000)
    (hz : IsZp s.heap z TI TO f0 f1) (h0 : f0 = .none ∨ ∃ T : Nat, f0 = rawInt T) (hTI : IsTp s.heap TI (its zs)) (hTO : IsTp s.heap TO old) (hold : old.length = zs.length)
    (hp : ∀ y ∈ zs, Pat s.heap k y) (hs : ∀ y ∈ zs, Sat s.heap y) (hx : ∀ y ∈ zs, y.xs[k]? = some (x y))
    (hQ : ∀ h' f f1' old', (f = .none ∨ ∃ T : Nat, f = rawInt T) → IsZp h' z TI TO f f1' → IsTp h' TO old' → old'.length = zs.length → (∀ y ∈ zs, Pat h' (k + 1) y) → IsTp h' s.heap.objs.size (zs.map x) → h'.objs.size = s.heap.objs.size + 1 →
      (∀ c o, c ≠ z → c ≠ TO → (∀ y ∈ zs, c ≠ y.it) → s.heap.get? c = some o → h'.get? c = some o) → Q (some (.ref s.heap.objs.size)) { s with heap := h' }) :
    wpAny (model prog w) A (pyNext (.ref z)) Q E s := by
  have hT : s.TypeIs (.ref z) "zip" := ⟨_, hz, rfl⟩
  unfold pyNext
  refine wpAny_bind (wpAny_attempt (wpAny_callSpecial?_slot (name := Str.ofString "__next__") hT PySem.F.slot_zip_next
    (wpAny_call_entry PySem.F.slot_zip_next hT PySem.F.entry_zip_next ?_ (PySem.F.args_zip_next_1 _))))
  rcases owned (prog := prog) (w := w) (A := A.in1) (E := fun e s' => _) hz h0 with hf | hf
  · exact zn_free D hne hlen hz hf hTI hTO hold hp hs hx fun h' a1 a2 a3 a4 a5 a6 => wpAny_pure (hQ h' _ _ _ (.inr ⟨_, rfl⟩) a1 a2 (by rw [List.length_map]) a3 a4 a5 a6)
  · exact zn_held D hne hlen hz hf hTI hp hs hx fun h' a1 a3 a4 a5 a6 => wpAny_pure (hQ h' _ _ _ h0 a1 (a6 _ _ D.TOz (fun y hy => (D.iTO y hy).symm) hTO) hold a3 a4 a5 fun c o c1 _ c3 e => a6 c o c1 c3 e)
theorem next_none {z TI TO : Addr} {f0 : Value} {f1 : Bool} {zs : List ZS} {k : Nat} {Q : Option Value → Shared → Prop} (hh : A.handled = none) (D : Apart z TI TO zs)
    (hz : IsZp s.heap z TI TO f0 f1) (h0 : f0 = .none ∨ ∃ T : Nat, f0 = rawInt T) (hTI : IsTp s.heap TI (its zs)) (hend : zs = [] ∨ ∃ y r, zs = y :: r ∧ Pat s.heap k y ∧ Sat s.heap y ∧ y.xs[k]? = none)
    (hQ : ∀ h', (∀ c o, c ≠ z → c ≠ TO → (∀ y ∈ zs, c ≠ y.it) → s.heap.get? c = some o → h'.get? c = some o) → Q none { s with heap := h' }) : wpAny (model prog w) A (pyNext (.ref z)) Q E s := by
  have hT : s.TypeIs (.ref z) "zip" := ⟨_, hz, rfl⟩
  unfold pyNext
  refine wpAny_bind (wpAny_attempt (wpAny_callSpecial?_slot (name := Str.ofString "__next__") hT PySem.F.slot_zip_next
    (wpAny_call_entry PySem.F.slot_zip_next hT PySem.F.entry_zip_next ?_ (PySem.F.args_zip_next_1 _))))
  rcases hend with rfl | ⟨y, r, rfl, hp, hs, hx⟩
  · exact zn_none hh hz hTI fun h' e hk ⟨o, ho, hc⟩ => wpAny_bind (wpAny_isInstance (T := "StopIteration") (b := true) ⟨o, ho, hc⟩ isSubtype_stop (wpAny_pure (hQ _ fun c o _ _ _ q => hk c o q)))
  · exact zn_end hh D hz h0 hTI hp hs hx fun h' e hk ⟨o, ho, hc⟩ => wpAny_bind (wpAny_isInstance (T := "StopIteration") (b := true) ⟨o, ho, hc⟩ isSubtype_stop (wpAny_pure (hQ _ hk)))
theorem iter_zip {z TI TO : Addr} {f0 : Value} {f1 : Bool} {Q : Value → Shared → Prop} (hz : IsZp s.heap z TI TO f0 f1) (h : Q (.ref z) s) : wpAny (model prog w) A (pyIter (.ref z)) Q E s := by
  have hT : s.TypeIs (.ref z) "zip" := ⟨_, hz, rfl⟩
  refine wpAny_pyIter_slot hT PySem.F.slot_zip_iter (wpAny_call_entry PySem.F.slot_zip_iter hT PySem.F.entry_zip_iter ?_ (PySem.F.args_zip_iter_1 _))
  show wpAny _ _ (ret (.ref z)) _ _ s
  exact wpAny_pure ⟨_, rfl, "zip", _, hT, PySem.F.slot_zip_next.lookup, h⟩
end
end SGZ

set_option Elab.async false
set_option linter.all false
set_option maxRecDepth 100000
set_option maxHeartbeats 4000000
namespace SGZ
open PySem PySem.Spec PyProof.Rows L2
/-- a list (true) or a tuple stands at a -/
def SqS (K : PySem.W.Frag) (H : Hp) (p : Sl) (xs : List V) : Prop := match p.1 with | true => SqL K H p.2 xs | false => SqT K H p.2 xs
theorem SqS.same {K : PySem.W.Frag} {H H' : Hp} {p : Sl} {xs : List V} (s : Same H H') (h : SqS K H p xs) : SqS K H' p xs := by
  obtain ⟨b, a⟩ := p
  cases b
  · exact SG.Same.tup s h
  · exact s.seq h
/-- the items at turn i -/
def AtI (i : Nat) (xss : List (List V)) (vs : List V) : Prop := Paired (fun xs v => xs[i]? = some v) xss vs
def ItN (K : PySem.W.Frag) (Ls : List Sl) : It :=
  ⟨fun i H => ∃ (xss : List (List V)) (vs : List V), Ls ≠ [] ∧ Paired (SqS K H) Ls xss ∧ AtI i xss vs,
    fun i H v H' => ∃ T vs, v = .ref T ∧ H T = none ∧ H' = upd H T (.tup vs) ∧ ∀ xss, Paired (SqS K H) Ls xss → AtI i xss vs,
    fun i H => Ls = [] ∨ ∃ p r xs, Ls = p :: r ∧ SqS K H p xs ∧ xs.length ≤ i⟩
section
variable {X : Cx} {pins : List (Addr × Obj)} {σ : L2.St} {H : Hp} {s : Shared}
theorem sq_inj (I : Inv X pins σ H s) {p : Sl} {xs ys : List V} (h : SqS X.K H p xs) (h' : SqS X.K H p ys) : xs = ys := by
  obtain ⟨b, a⟩ := p
  cases b
  · exact I.tuple_inj h h'
  · exact I.list_inj h h'
theorem sq_all (I : Inv X pins σ H s) : ∀ {Ls : List Sl} {xss yss : List (List V)}, Paired (SqS X.K H) Ls xss → Paired (SqS X.K H) Ls yss → xss = yss
  | _, _, _, .nil, .nil => rfl
  | _, _, _, .cons a r, .cons a' r' => by rw [sq_inj I a a', sq_all I r r']
theorem src_one (I : Inv X pins σ H s) {p : Sl} {xs : List V} (h : SqS X.K H p xs) : ∃ its : List Value, Vals xs its ∧ SatO s.heap (p.1, p.2, its.toArray) := by
  obtain ⟨b, a⟩ := p
  cases b
  · obtain ⟨its, rv, pl, _⟩ := I.tuple h
    exact ⟨its, rv, pl⟩
  · obtain ⟨its, rv, pl, _⟩ := I.list h
    exact ⟨its, rv, pl.isList⟩
theorem src_all (I : Inv X pins σ H s) : ∀ {Ls : List Sl} {xss : List (List V)}, Paired (SqS X.K H) Ls xss → ∃ L : List So, L.map pj = Ls ∧ (∀ y ∈ L, SatO s.heap y) ∧ Paired (fun xs (y : So) => Vals xs y.2.2.toList) xss L
  | _, _, .nil => ⟨[], rfl, (fun y hy => by cases hy), .nil⟩
  | _, _, .cons a r => by
    obtain ⟨its, rv, st⟩ := src_one I a
    obtain ⟨L, e, hs, pr⟩ := src_all I r
    refine ⟨(_, _, its.toArray) :: L, by rw [List.map_cons, e]; rfl, fun y hy => ?_, .cons (by simpa using rv) pr⟩
    rcases List.mem_cons.mp hy with q | q
    · rw [q]; exact st
    · exact hs y q
theorem at_vals {k i : Nat} : ∀ {xss : List (List V)} {L : List So} {vs : List V}, Paired (fun xs (y : So) => Vals xs y.2.2.toList) xss L → AtI k xss vs →
    (∀ y ∈ mk i L, y.xs[k]? = some ((y.xs[k]?).getD .none)) ∧ Vals vs ((mk i L).map fun y => (y.xs[k]?).getD .none)
  | _, _, _, .nil, .nil => ⟨(fun y hy => by cases hy), .nil⟩
  | _, _, _, @Paired.cons _ _ _ xs y _ L a r, .cons e q => by
    obtain ⟨b, l, xa⟩ := y
    obtain ⟨u, hu, ru⟩ := Vals.get a e
    obtain ⟨h1, h2⟩ := at_vals (i := i + 1) r q
    have hu' : xa[k]? = some u := by simpa using hu
    refine ⟨fun y hy => ?_, ?_⟩
    · rw [mk] at hy
      rcases List.mem_cons.mp hy with z | z
      · rw [z]; show xa[k]? = some ((xa[k]?).getD .none); rw [hu']; rfl
      · exact h1 y z
    · rw [mk, List.map_cons]
      refine .cons ?_ h2
      show RelV _ ((xa[k]?).getD .none)
      rw [hu']
      exact ru
end
/-- the zip's own objects -/
def fpZ (i n : Nat) : List Addr := (i + n + 2) :: (i + n) :: (i + n + 1) :: (List.range n).map (i + ·)
theorem fpZ_it {i : Nat} {L : List So} {y : ZS} (h : y ∈ mk i L) : y.it ∈ fpZ i L.length := by
  obtain ⟨h1, h2, _⟩ := mk_mem _ _ h
  refine List.mem_cons_of_mem _ (List.mem_cons_of_mem _ (List.mem_cons_of_mem _ (List.mem_map.mpr ⟨y.it - i, List.mem_range.mpr (Nat.sub_lt_left_of_lt_add h1 h2), ?_⟩)))
  exact Nat.add_sub_cancel' h1
theorem fpZ_cases {i : Nat} {L : List So} {c : Addr} (h : c ∈ fpZ i L.length) : c = i + L.length + 2 ∨ c = i + L.length ∨ c = i + L.length + 1 ∨ ∃ y ∈ mk i L, c = y.it := by
  simp only [fpZ, List.mem_cons, List.mem_map, List.mem_range] at h
  rcases h with h | h | h | ⟨n, hn, h⟩
  · exact .inl h
  · exact .inr (.inl h)
  · exact .inr (.inr (.inl h))
  · refine .inr (.inr (.inr ?_))
    rw [← h]
    clear h
    induction L generalizing i n with
    | nil => cases hn
    | cons u L ih =>
      obtain ⟨b, l, xs⟩ := u
      cases n with
      | zero => exact ⟨_, List.mem_cons_self, rfl⟩
      | succ n =>
        obtain ⟨y, hy, e⟩ := ih (i := i + 1) n (Nat.lt_of_succ_lt_succ hn)
        refine ⟨y, List.mem_cons_of_mem _ hy, ?_⟩
        rw [← e]
        exact (Nat.succ_add_eq_add_succ i n).symm
def tnZ (i : Nat) (Ls : List Sl) (k : Nat) (h : Heap) : Prop := ∃ f0 f1 old, (f0 = .none ∨ ∃ T : Nat, f0 = rawInt T) ∧ IsZp h (i + Ls.length + 2) (i + Ls.length) (i + Ls.length + 1) f0 f1 ∧ IsTp h (i + Ls.length) (its (mk i (Ls.map raw))) ∧
  IsTp h (i + Ls.length + 1) old ∧ old.length = Ls.length ∧ ∀ y ∈ mk i (Ls.map raw), Pat h k y
theorem raw_pj (Ls : List Sl) : (Ls.map raw).map pj = Ls := by
  rw [List.map_map]
  exact List.map_id _
theorem fresh_ne {s : Shared} {c : Addr} {o : Obj} (h : s.heap.get? c = some o) : s.heap.objs.size ≠ c := Nat.ne_of_gt (Heap.lt_size h)
theorem turn_zipN {P : Program} {w : World} {K : PySem.W.Frag} {tg : Expr} {i : Nat} {Ls : List Sl} (hn : Ls.length ≤ 1000) (hl : ∀ p ∈ Ls, p.2 < i) :
    Turn P w K tg (ItN K Ls) (fpZ i Ls.length) (i + Ls.length + 2) (tnZ i Ls) where
  mem := by simp [fpZ]
  obj := fun k h st c hc => by
    obtain ⟨f0, f1, old, h0, hz, hTI, hTO, ho, hp⟩ := st
    have e := raw_pj Ls
    have el : Ls.length = (Ls.map raw).length := by rw [List.length_map]
    rw [el] at hc
    rcases fpZ_cases hc with q | q | q | ⟨y, hy, q⟩
    · rw [q, ← el]; exact ⟨_, hz, fun v q => nomatch q⟩
    · rw [q, ← el]; exact ⟨_, hTI, fun v q => nomatch q⟩
    · rw [q, ← el]; exact ⟨_, hTO, fun v q => nomatch q⟩
    · obtain ⟨o, e1, vs, d⟩ := (hp y hy).get
      rw [q]
      exact ⟨o, e1, fun v q => by rw [d] at q; cases q⟩
  keep := fun k h h' st kp => by
    obtain ⟨f0, f1, old, h0, hz, hTI, hTO, ho, hp⟩ := st
    have el : Ls.length = (Ls.map raw).length := by rw [List.length_map]
    refine ⟨f0, f1, old, h0, kp _ (by simp [fpZ]) _ hz, kp _ (by simp [fpZ]) _ hTI, kp _ (by simp [fpZ]) _ hTO, ho, fun y hy => (hp y hy).at fun o e => kp _ ?_ o e⟩
    rw [el]
    exact fpZ_it hy
  item := by
    intro X hP hw hK hc k pins s σ H E I hf st hg
    subst hP hw hK
    obtain ⟨f0, f1, old, h0, hz, hTI, hTO, ho, hp⟩ := st
    obtain ⟨xss, vs, hne, pr, hat⟩ := hg
    obtain ⟨L, eL, hs, pv⟩ := src_all I pr
    have el : L.length = Ls.length := by rw [← eL, List.length_map]
    have hl' : ∀ y ∈ L, y.2.1 < i := fun y hy => hl (pj y) (by rw [← eL]; exact List.mem_map_of_mem hy)
    have D := apart_mk hl'
    have er : (Ls.map raw).map pj = L.map pj := by rw [raw_pj, eL]
    obtain ⟨hx, hv⟩ := at_vals (i := i) pv hat
    have hLne : mk i L ≠ [] := by
      intro z
      have := congrArg List.length z
      rw [mk_length, el] at this
      exact hne (List.length_eq_zero_iff.mp this)
    rw [← el] at hz hTI hTO ho hf ⊢
    rw [its_mk i _ _ er] at hTI
    have hp' := pat_mk i _ _ er hp
    refine next_some (x := fun y => (y.xs[k]?).getD .none) D hLne (by rw [mk_length, el]; exact hn) hz h0 hTI hTO (by rw [mk_length]; exact ho) hp' (fun y hy => hs _ (mk_mem _ _ hy).2.2) hx fun h' f f1' old' hf' z' TO' ol' p' hT hsz hk => ?_
    refine ⟨_, rfl, goZ (s := { s with heap := h' }) z' fun h'' f2 e2 z'' sb => ?_⟩
    have hzl : i + L.length + 2 < s.heap.objs.size := Heap.lt_size hz
    have hkc : ∀ c o, c ∉ fpZ i L.length → s.heap.get? c = some o → h''.get? c = some o := fun c o hb q =>
      (sb.2 c (fun q' => hb (by rw [q']; simp [fpZ]))).trans (hk c o (fun q' => hb (by rw [q']; simp [fpZ])) (fun q' => hb (by rw [q']; simp [fpZ])) (fun y hy q' => hb (by rw [q']; exact fpZ_it hy)) q)
    have hT2 : IsTp h'' s.heap.objs.size _ := (sb.2 _ (Nat.ne_of_gt hzl)).trans hT
    have new : ObjOk X.prog X.w (upd H s.heap.objs.size (.tup vs)) h'' s.heap.objs.size (.tup vs) := by
      refine ⟨?_, _, hv, ⟨_, hT2, rfl, _, rfl⟩⟩
      rw [hv.length, List.length_map, mk_length, el]
      exact small _ hn
    have I1 : Inv X pins σ (upd H s.heap.objs.size (.tup vs)) { s with heap := h'' } := I.turnedNew (t' := s.toks) (ch := fpZ i L.length) hkc hf (Nat.le_refl _) new
    refine ⟨.ref s.heap.objs.size, _, I1, rfl, ⟨_, vs, rfl, I.hok.fresh (Nat.le_refl _), rfl, fun yss hy => by rw [sq_all I hy pr]; exact hat⟩, ⟨f2, f1', old', ?_, ?_, ?_, ?_, ?_, ?_⟩, fun c hcm => ?_⟩
    · rcases e2 with q | q
      · exact .inl q
      · rw [q]; exact hf'
    · rw [← el]; exact z''
    · rw [← el, its_mk i _ _ er]
      exact (sb.2 _ D.TIz).trans (hk _ _ D.TIz D.TITO (fun y hy => (D.iTI y hy).symm) hTI)
    · rw [← el]
      exact (sb.2 _ D.TOz).trans TO'
    · rw [← el, ol', mk_length]
    · exact pat_mk i _ _ er.symm fun y hy => (p' y hy).at fun o q => (sb.2 _ (D.iz y hy)).trans q
    · have hlt : c < s.heap.objs.size := by
        rcases fpZ_cases hcm with q | q | q | ⟨y, hy, q⟩
        · rw [q]; exact hzl
        · rw [q]; exact Heap.lt_size hTI
        · rw [q]; exact Heap.lt_size hTO
        · obtain ⟨o, e1, _⟩ := (hp' y hy).get
          rw [q]; exact Heap.lt_size e1
      rw [upd_ne (Nat.ne_of_lt hlt)]
      exact (hf c hcm).1
  done := by
    intro X hP hw hK hc k pins s σ H E I hf st hg
    subst hP hw hK
    obtain ⟨f0, f1, old, h0, hz, hTI, hTO, ho, hp⟩ := st
    have el : Ls.length = (Ls.map raw).length := by rw [List.length_map]
    have hl' : ∀ y ∈ Ls.map raw, y.2.1 < i := fun y hy => by
      obtain ⟨p, hp, e⟩ := List.mem_map.mp hy
      rw [← e]; exact hl p hp
    rcases hg with rfl | ⟨p, r, xs, rfl, hq, hle⟩
    · exact next_none (zs := []) (k := k) (I.ok.hd hc) (apart_mk (L := []) (fun y hy => by cases hy)) hz h0 hTI (.inl rfl) fun h' hk => ⟨rfl, I.turnedL (t' := s.toks) (ch := fpZ i 0) (fun c o hb q =>
        hk c o (fun q' => hb (by rw [q']; simp [fpZ])) (fun q' => hb (by rw [q']; simp [fpZ])) (fun y hy => by cases hy) q) hf⟩
    · obtain ⟨its1, rv, st⟩ := src_one I hq
      obtain ⟨pb, pa⟩ := p
      have er : (raw (pb, pa) :: r.map raw).map pj = ((pb, pa, its1.toArray) :: r.map raw).map pj := rfl
      have D := apart_mk (i := i) (L := (pb, pa, its1.toArray) :: r.map raw) (fun y hy => by
        rcases List.mem_cons.mp hy with q | q
        · rw [q]; exact hl (pb, pa) List.mem_cons_self
        · exact hl' y (by rw [List.map_cons]; exact List.mem_cons_of_mem _ q))
      have elr : ((pb, pa, its1.toArray) :: r.map raw).length = ((pb, pa) :: r).length := by simp
      rw [elr] at D
      rw [List.map_cons] at hTI hp
      rw [its_mk i _ _ er] at hTI
      have hp' := pat_mk i _ _ er hp
      refine next_none (I.ok.hd hc) D hz h0 hTI (.inr ⟨_, _, rfl, hp' _ (by rw [mk]; exact List.mem_cons_self), st, ?_⟩) fun h' hk => ⟨rfl, I.turnedL (t' := s.toks) (ch := fpZ i ((pb, pa) :: r).length) (fun c o hb q =>
        hk c o (fun q' => hb (by rw [q']; simp [fpZ])) (fun q' => hb (by rw [q']; simp [fpZ])) (fun y hy q' => hb (by rw [q', ← elr]; exact fpZ_it hy)) q) hf⟩
      have := rv.length
      simp
      omega
  self := fun A k s Q E st h => by
    obtain ⟨f0, f1, old, h0, hz, _⟩ := st
    exact iter_zip hz h
end SGZ

set_option Elab.async false
set_option linter.all false
set_option maxRecDepth 100000
set_option maxHeartbeats 4000000
namespace SGZ
open PySem PySem.Spec PyProof.Rows L2
open PySem.Sem (wp)
theorem refs_of : ∀ {Ls : List Sl} {us : List Value}, Vals (Ls.map fun p => V.ref p.2) us → us = Ls.map fun p => Value.ref p.2
  | [], _, .nil => rfl
  | p :: Ls, _, .cons a r => by
    rw [List.map_cons, ← refs_of r]
    cases a
    rfl
section
variable {X : Cx}
/-- the zip of these has been called -/
theorem zip_called {pins : List (Addr × Obj)} {σ : L2.St} {H : Hp} {s : Shared} {tg : Expr} {R : It → Hp → Prop} {Ls : List Sl} {xss : List (List V)} {E : Value → Shared → Prop} (I : Inv X pins σ H s) (pr : Paired (SqS X.K H) Ls xss) (hn : Ls.length ≤ 1000) (q : R (ItN X.K Ls) H) :
    wpAny (model X.prog X.w) X.A (call (.type "zip") (Ls.map fun p => .ref p.2)) (fun v s1 => wpAny (model X.prog X.w) X.A (pyIter v) (PIE X pins σ tg R) E s1) E s := by
  obtain ⟨L, eL, hs, pv⟩ := src_all I pr
  have el : L.length = Ls.length := by rw [← eL, List.length_map]
  have hl : ∀ p ∈ Ls, p.2 < s.heap.objs.size := fun p hp => by
    rw [← eL] at hp
    obtain ⟨y, hy, e⟩ := List.mem_map.mp hp
    rw [← e]
    exact Sat.lt (hs y hy)
  have er : (Ls.map raw).map pj = L.map pj := by rw [raw_pj, eL]
  have ev : (Ls.map fun p => Value.ref p.2) = L.map fun y => Value.ref y.2.1 := by rw [← eL, List.map_map]; rfl
  rw [ev]
  refine call_zipN L (by rw [el]; exact hn) hs fun h' hz hTI hTO hp hk => ?_
  refine iter_zip (s := { s with heap := h' }) hz ?_
  have I2 : Inv X pins σ H { s with heap := h' } := I.kept (t' := s.toks) hk
  rw [el] at hz hTI hTO ⊢
  refine ⟨_, fpZ s.heap.objs.size Ls.length, tnZ s.heap.objs.size Ls, ItN X.K Ls, H, rfl, I2, turn_zipN hn hl, ⟨.none, false, _, .inl rfl, hz, ?_, hTO, ?_, ?_⟩, fun c hc => ?_, q⟩
  · rw [its_mk _ _ _ er]; exact hTI
  · rw [List.length_map, its_length, mk_length, el]
  · exact pat_mk _ _ _ er.symm hp
  · have el2 : Ls.length = (Ls.map raw).length := by rw [List.length_map]
    have hle : s.heap.objs.size ≤ c := by
      rw [el2] at hc
      rcases fpZ_cases hc with z | z | z | ⟨y, hy, z⟩
      · rw [z]; exact Nat.le_trans (Nat.le_add_right _ _) (Nat.le_add_right _ _)
      · rw [z]; exact Nat.le_add_right _ _
      · rw [z]; exact Nat.le_trans (Nat.le_add_right _ _) (Nat.le_add_right _ _)
      · rw [z]; exact (mk_mem _ _ hy).1
    exact I.fpOk hle (I.hok.fresh hle)
/-- zip(*y) -/
def iZipS (K : PySem.W.Frag) (te : TE) : TI := fun σ H R => te σ H fun y H1 => ∃ (a : Addr) (Ls : List Sl) (xss : List (List V)), y = .ref a ∧ (SqT K H1 a (Ls.map fun p => V.ref p.2) ∨ SqL K H1 a (Ls.map fun p => V.ref p.2)) ∧ Paired (SqS K H1) Ls xss ∧ Ls.length ≤ 1000 ∧ R (ItN K Ls) H1
theorem pi_zipS {tg e : Expr} {te : TE} {p p2 pos : Pos} (hg : Gl X "zip") (hm : X.mg "zip" = none) (he : PE X e te) (hst : starEach [.Starred e p2] X.env = [(true, eval e X.env)] := by rfl) :
    PI X tg (.Call (.Name "zip" p) [.Starred e p2] [] pos) (iZipS X.K te) := by
  refine ⟨fun pins s σ H R I h => ?_⟩
  refine Call_ (ld_blt I hg hm PyProof.Rows.boot_zip ?_)
  rw [hst]
  refine PySem.W.ks_call (P := fun _ => True) rfl (fun h _ => ⟨.machine, .inr (.inl rfl), PySem.W.Looks.of_pure rfl⟩) (PySem.W.ks_lone (thn (he.run pins s σ H _ I h) fun v s1 ⟨y, H1, I1, ry, a, Ls, xss, ey, hx, pr, hn, q⟩ => ?_))
  subst ey
  obtain rfl : v = Value.ref a := ry
  refine StX.star_any I1 hx fun us s2 I2 rv => ⟨trivial, ?_⟩
  rw [refs_of rv]
  exact zip_called I2 pr hn q
/-- zip(e, e2), lists or tuples -/
def iZipP (K : PySem.W.Frag) (ta : TA) : TI := fun σ H R => ta σ H fun vs H1 => ∃ (Ls : List Sl) (xss : List (List V)), vs = (Ls.map fun p => V.ref p.2) ∧ Paired (SqS K H1) Ls xss ∧ Ls.length ≤ 1000 ∧ R (ItN K Ls) H1
theorem pi_zipP {tg e e2 : Expr} {ta : TA} {p pos : Pos} (hg : Gl X "zip") (hm : X.mg "zip" = none) (ha : PA X [e, e2] ta)
    (hs : starEach [e, e2] X.env = (false, eval e X.env) :: starEach [e2] X.env := by rfl) (hpl : (backTo pos (starEach [e2] X.env)).any (·.1) = false := by rfl) :
    PI X tg (.Call (.Name "zip" p) [e, e2] [] pos) (iZipP X.K ta) := by
  refine ⟨fun pins s σ H R I h => ?_⟩
  refine Call_ (ld_blt I hg hm PyProof.Rows.boot_zip (PyProof.Rows.callWith_type1 (thn (ha.run pos pins s σ H _ I h) fun us s1 ⟨vs, H1, I1, r1, Ls, xss, ev, pr, hn, q⟩ => ?_) hs hpl))
  subst ev
  rw [refs_of r1]
  exact zip_called I1 pr hn q
end
theorem at_get {i n : Nat} : ∀ {xss : List (List V)}, (∀ xs ∈ xss, xs.length = n) → i < n → ∃ vs, AtI i xss vs
  | [], _, _ => ⟨[], .nil⟩
  | xs :: r, h, hi => by
    obtain ⟨vs, q⟩ := at_get (xss := r) (fun u hu => h u (List.mem_cons_of_mem _ hu)) hi
    have hl : i < xs.length := by rw [h xs List.mem_cons_self]; exact hi
    exact ⟨xs[i] :: vs, .cons (List.getElem?_eq_getElem hl) q⟩
theorem stop_at {K : PySem.W.Frag} {H : Hp} {Ls : List Sl} {xss : List (List V)} {n : Nat} (pr : Paired (SqS K H) Ls xss) (hr : ∀ xs ∈ xss, xs.length = n) : (ItN K Ls).stop n H := by
  cases pr with
  | nil => exact .inl rfl
  | cons a r => exact .inr ⟨_, _, _, rfl, a, Nat.le_of_eq (hr _ List.mem_cons_self)⟩
/-- a comprehension over a zip of sources of one length n -/
theorem lc_zipN {K : PySem.W.Frag} {Ls : List Sl} {xss : List (List V)} {n : Nat} {g : TG} {tt : TT} {te : TE} {vs : List Nat} {σ : L2.St} {H1 : Hp} {D : Addr} {Qd : Hp → Prop} (hr : ∀ xs ∈ xss, xs.length = n) (hne : Ls ≠ [] ∨ n = 0) (Pv : Nat → Hp → Prop) (h0 : Pv 0 (upd H1 D (.lst [])))
    (hl : ∀ i H, i ≤ n → Pv i H → Paired (SqS K H) Ls xss)
    (hs : ∀ (i : Nat) (us : List V) (T : Addr) (H : Hp), i < n → AtI i xss us → Pv i H → H T = none → g (.ref T) (wipe σ vs) (upd H T (.tup us)) fun σ2 H2 => wipe σ2 vs = wipe σ vs ∧ tt σ2 H2 fun b H3 =>
      if b = true then te σ2 H3 fun y H4 => ∃ acc, H4 D = some (.lst acc) ∧ acc.length < sizeLine ∧ Pv (i + 1) (upd H4 D (.lst (acc ++ [y]))) else Pv (i + 1) H3) (hd : ∀ H, Pv n H → Qd H) :
    ∃ W : Nat → Nat → Hp → Prop, (∃ m, W 0 m (upd H1 D (.lst []))) ∧ ∀ i m H, W i m H →
      ((ItN K Ls).stop i H ∧ Qd H) ∨ ((ItN K Ls).go i H ∧ ∃ Nx : Hp → Prop, (∀ H', Nx H' → ∃ m', m' < m ∧ W (i + 1) m' H') ∧ ∀ x H', (ItN K Ls).yld i H x H' → g x (wipe σ vs) H' fun σ2 H2 => wipe σ2 vs = wipe σ vs ∧ tt σ2 H2 fun b H3 =>
        if b = true then te σ2 H3 fun y H4 => ∃ acc, H4 D = some (.lst acc) ∧ acc.length < sizeLine ∧ Nx (upd H4 D (.lst (acc ++ [y]))) else Nx H3) := by
  refine ⟨fun i m H => m = n - i ∧ i ≤ n ∧ Pv i H, ⟨n, by simp, Nat.zero_le _, h0⟩, ?_⟩
  rintro i m H ⟨rfl, hi, p⟩
  have q := hl i H hi p
  by_cases hlt : i < n
  · have hLs : Ls ≠ [] := by
      rcases hne with z | z
      · exact z
      · omega
    obtain ⟨us, hat⟩ := at_get hr hlt
    refine .inr ⟨⟨xss, us, hLs, q, hat⟩, Pv (i + 1), fun H' p' => ⟨n - (i + 1), by omega, rfl, hlt, p'⟩, fun x H' y => ?_⟩
    obtain ⟨T, ws, rfl, hT, rfl, hw⟩ := y
    exact hs i ws T H hlt (hw xss q) p hT
  · have e : i = n := by omega
    subst e
    exact .inl ⟨stop_at q hr, hd H p⟩
end SGZ

set_option Elab.async false
set_option linter.all false
set_option maxRecDepth 100000
set_option maxHeartbeats 4000000
/-! Rows of integers as data: products of two, rows times a row, rows added up. -/
namespace SG
open PySem PySem.Spec PyProof.Rows L2
def toI : PyData → Int | .int i => i | _ => 0
/-- the integers of a row -/
def intsOf (d : PyData) : List Int := ((parts d).getD []).map toI
theorem intsOf_of {d : PyData} {ns : List Int} (e : parts d = some (ns.map PyData.int)) : intsOf d = ns := by
  rw [intsOf, e]
  show (ns.map PyData.int).map toI = ns
  rw [List.map_map]
  exact List.map_id _
theorem doInts {K : PySem.W.Frag} {H : Hp} : ∀ {xs : List V} {ns : List Int}, DoAll K H xs (ns.map PyData.int) → xs = ns.map V.int
  | _, [], h => by cases h; rfl
  | _, n :: ns, h => by
    cases h with
    | cons a r => cases a; rw [doInts r]; rfl
theorem Do.ints {K : PySem.W.Frag} {H : Hp} {v : V} {d : PyData} {ns : List Int} (D : Do K H v d) (e : parts d = some (ns.map PyData.int)) : ∃ p : SGZ.Sl, v = .ref p.2 ∧ SGZ.SqS K H p (ns.map V.int) ∧ ns.length ≤ 1000 := by
  obtain ⟨a, xs, rfl, hs, hl, ha⟩ := D.seq e
  have hx := doInts ha
  subst hx
  rw [List.length_map] at hl
  rcases hs with h | h
  · exact ⟨(true, a), rfl, h, hl⟩
  · exact ⟨(false, a), rfl, h, hl⟩
theorem Do.some {K : PySem.W.Frag} {H : Hp} {v : V} {d : PyData} {ds : List PyData} (D : Do K H v d) (e : parts d = some ds) : ∃ (p : SGZ.Sl) (xs : List V), v = .ref p.2 ∧ SGZ.SqS K H p xs ∧ xs.length ≤ 1000 ∧ DoAll K H xs ds := by
  obtain ⟨a, xs, rfl, hs, hl, ha⟩ := D.seq e
  rcases hs with h | h
  · exact ⟨(true, a), xs, rfl, h, hl, ha⟩
  · exact ⟨(false, a), xs, rfl, h, hl, ha⟩
/-- a row of integers, none of them of more than 400 bits -/
def Bnd (ns : List Int) : Prop := ∀ n ∈ ns, n.natAbs < 2 ^ 400
def IsR (d : PyData) (ns : List Int) : Prop := parts d = some (ns.map PyData.int) ∧ Bnd ns ∧ ns.length ≤ 1000
def dot (a b : List Int) : Int := (List.zipWith (· * ·) a b).sum
section
variable {K : PySem.W.Frag}
/-- [x * y for x, y in zip(a, b)], its list at L -/
theorem lz_dotb {te : TE} {i j : Nat} {vs : List Nat} {σ : L2.St} {H : Hp} {Qd : Hp → Prop} {p q : SGZ.Sl} {ns ms : List Int} {L : Addr} (hp : SGZ.SqS K H p (ns.map V.int)) (hq : SGZ.SqS K H q (ms.map V.int)) (hv : Bnd ns) (hu : Bnd ms) (lp : ns.length ≤ 1000) (hl : ns.length = ms.length)
    (hL : H L = none) (hw : ∀ x y, wipe (((wipe σ vs).set i (some x)).set j (some y)) vs = wipe σ vs)
    (he : ∀ (x y : Int) (H' : Hp) (R : VK), x.natAbs < 2 ^ 400 → y.natAbs < 2 ^ 400 → R (.int (x * y)) H' → te (((wipe σ vs).set i (some (.int x))).set j (some (.int y))) H' R)
    (k : ∀ (H' : Hp), Same H H' → H' L = some (.lst ((List.zipWith (· * ·) ns ms).map V.int)) → Qd H') :
    ∃ W : Nat → Nat → Hp → Prop, (∃ m, W 0 m (upd H L (.lst []))) ∧ ∀ k m H, W k m H →
      ((SGZ.ItN K [p, q]).stop k H ∧ Qd H) ∨ ((SGZ.ItN K [p, q]).go k H ∧ ∃ Nx : Hp → Prop, (∀ H', Nx H' → ∃ m', m' < m ∧ W (k + 1) m' H') ∧ ∀ x H', (SGZ.ItN K [p, q]).yld k H x H' → (gTup K 2 (gCons (gName i) (gCons (gName j) gNil))) x (wipe σ vs) H' fun σ2 H2 => wipe σ2 vs = wipe σ vs ∧ tYes σ2 H2 fun b H3 =>
        if b = true then te σ2 H3 fun y H4 => ∃ acc, H4 L = some (.lst acc) ∧ acc.length < sizeLine ∧ Nx (upd H4 L (.lst (acc ++ [y]))) else Nx H3) := by
  have hz : (List.zipWith (· * ·) ns ms).length = ns.length := by rw [List.length_zipWith, ← hl, Nat.min_self]
  refine SGZ.lc_zipN (n := ns.length) (fun xs hx => ?_) (.inl (List.cons_ne_nil _ _)) (fun i H' => Same H H' ∧ H' L = some (.lst (((List.zipWith (· * ·) ns ms).take i).map V.int))) ⟨newO hL, upd_same⟩ (fun i H' _ z => .cons (hp.same z.1) (.cons (hq.same z.1) .nil)) (fun t us T H' ht' hat ⟨s, z⟩ hT => ?_) (fun H' ⟨s, z⟩ => ?_)
  · rcases List.mem_cons.mp hx with e | e
    · rw [e, List.length_map]
    · rw [List.mem_singleton.mp e, List.length_map, hl]
  · cases hat with
    | cons a r =>
      cases r with
      | cons b r =>
        cases r
        rw [List.getElem?_map] at a b
        obtain ⟨x, hx, rfl⟩ := Option.map_eq_some_iff.mp a
        obtain ⟨y, hy, rfl⟩ := Option.map_eq_some_iff.mp b
        refine ⟨T, _, rfl, SqT.of upd_same, rfl, _, _, rfl, _, _, rfl, rfl, ?_⟩
        refine ⟨hw _ _, ?_⟩
        refine he x y _ _ (hv x (List.mem_of_getElem? hx)) (hu y (List.mem_of_getElem? hy)) ?_
        have TL : L ≠ T := ne_of_none z hT
        refine ⟨_, by rw [upd_ne TL]; exact z, ?_, fun b o e => ?_, ?_⟩
        · rw [List.length_map, List.length_take]
          have : sizeLine = 16777216 := by decide
          omega
        · rw [upd_ne (ne_of_none e hL), upd_ne (ne_of_none (s _ _ e) hT)]; exact s _ _ e
        · have hxy : (List.zipWith (· * ·) ns ms)[t]? = .some (x * y) := by rw [List.getElem?_zipWith, hx, hy]
          rw [upd_same, List.take_add_one, hxy]
          simp
  · rw [← hz, List.take_length] at z
    exact k H' s z
/-- [x * y for x, y in zip(a, b)] -/
theorem lz_dot {ta : TA} {te : TE} {i j : Nat} {vs : List Nat} {σ : L2.St} {H : Hp} {Q : VK} {v u : V} {d e : PyData} {ns ms : List Int} (Dv : Do K H v d) (Du : Do K H u e) (hv : IsR d ns) (hu : IsR e ms) (hl : ns.length = ms.length)
    (ht : ∀ R : List V → Hp → Prop, R [v, u] H → ta σ H R) (hw : ∀ x y, wipe (((wipe σ vs).set i (some x)).set j (some y)) vs = wipe σ vs)
    (he : ∀ (x y : Int) (H' : Hp) (R : VK), x.natAbs < 2 ^ 400 → y.natAbs < 2 ^ 400 → R (.int (x * y)) H' → te (((wipe σ vs).set i (some (.int x))).set j (some (.int y))) H' R)
    (k : ∀ (L : Addr) (H' : Hp), Same H H' → H L = none → H' L = some (.lst ((List.zipWith (· * ·) ns ms).map V.int)) → Q (.ref L) H') :
    tLc (SGZ.iZipP K ta) (gTup K 2 (gCons (gName i) (gCons (gName j) gNil))) tYes te vs σ H Q := by
  obtain ⟨p, rfl, hp, lp⟩ := Dv.ints hv.1
  obtain ⟨q, rfl, hq, lq⟩ := Du.ints hu.1
  refine ht _ ⟨[p, q], [ns.map V.int, ms.map V.int], rfl, .cons hp (.cons hq .nil), by show 2 ≤ 1000; decide, fun L hL => lz_dotb hp hq hv.2.1 hu.2.1 lp hl hL hw he fun H' s z => k L H' s hL z⟩
/-- [x * row[place] for x, row in zip(a, rows)], its list at L -/
theorem lz_colb {te : TE} {i j : Nat} {vs : List Nat} {σ : L2.St} {H : Hp} {Qd : Hp → Prop} {p q : SGZ.Sl} {ns : List Int} {xs : List V} {ds : List PyData} {w place : Nat} {L : Addr} (hp : SGZ.SqS K H p (ns.map V.int)) (hq : SGZ.SqS K H q xs) (ha : DoAll K H xs ds) (hv : Bnd ns) (lp : ns.length ≤ 1000) (hl : ns.length = ds.length)
    (hr : ∀ x ∈ ds, ∃ ms, IsR x ms ∧ ms.length = w) (hL : H L = none) (hw : ∀ x y, wipe (((wipe σ vs).set i (some x)).set j (some y)) vs = wipe σ vs)
    (he : ∀ (x : Int) (y : V) (e1 : PyData) (ms : List Int) (H' : Hp) (R : VK), Same H H' → Do K H' y e1 → IsR e1 ms → ms.length = w → x.natAbs < 2 ^ 400 → R (.int (x * ms.getD place 0)) H' → te (((wipe σ vs).set i (some (.int x))).set j (some y)) H' R)
    (k : ∀ (H' : Hp), Same H H' → H' L = some (.lst ((List.zipWith (· * ·) ns (ds.map fun x => (intsOf x).getD place 0)).map V.int)) → Qd H') :
    ∃ W : Nat → Nat → Hp → Prop, (∃ m, W 0 m (upd H L (.lst []))) ∧ ∀ k m H, W k m H →
      ((SGZ.ItN K [p, q]).stop k H ∧ Qd H) ∨ ((SGZ.ItN K [p, q]).go k H ∧ ∃ Nx : Hp → Prop, (∀ H', Nx H' → ∃ m', m' < m ∧ W (k + 1) m' H') ∧ ∀ x H', (SGZ.ItN K [p, q]).yld k H x H' → (gTup K 2 (gCons (gName i) (gCons (gName j) gNil))) x (wipe σ vs) H' fun σ2 H2 => wipe σ2 vs = wipe σ vs ∧ tYes σ2 H2 fun b H3 =>
        if b = true then te σ2 H3 fun y H4 => ∃ acc, H4 L = some (.lst acc) ∧ acc.length < sizeLine ∧ Nx (upd H4 L (.lst (acc ++ [y]))) else Nx H3) := by
  have hlen := ha.length
  have hz : (List.zipWith (· * ·) ns (ds.map fun x => (intsOf x).getD place 0)).length = ns.length := by rw [List.length_zipWith, List.length_map, ← hl, Nat.min_self]
  refine SGZ.lc_zipN (n := ns.length) (fun ys hx => ?_) (.inl (List.cons_ne_nil _ _)) (fun i H' => Same H H' ∧ H' L = .some (.lst (((List.zipWith (· * ·) ns (ds.map fun x => (intsOf x).getD place 0)).take i).map V.int))) ⟨newO hL, upd_same⟩ (fun i H' _ z => .cons (hp.same z.1) (.cons (hq.same z.1) .nil)) (fun t us T H' ht' hat ⟨s, z⟩ hT => ?_) (fun H' ⟨s, z⟩ => ?_)
  · rcases List.mem_cons.mp hx with e | e
    · rw [e, List.length_map]
    · rw [List.mem_singleton.mp e, hlen, hl]
  · cases hat with
    | cons a r =>
      cases r with
      | cons b r =>
        cases r
        rw [List.getElem?_map] at a
        obtain ⟨x, hx, rfl⟩ := Option.map_eq_some_iff.mp a
        obtain ⟨e1, h1, h2⟩ := ha.get b
        obtain ⟨ms, hm1, hm2⟩ := hr e1 (List.mem_of_getElem? h1)
        refine ⟨T, _, rfl, SqT.of upd_same, rfl, _, _, rfl, _, _, rfl, rfl, ?_⟩
        refine ⟨hw _ _, ?_⟩
        refine he x _ e1 ms _ _ (s.trans (newO hT)) (Do.same (s.trans (newO hT)) _ _ h2) hm1 hm2 (hv x (List.mem_of_getElem? hx)) ?_
        have TL : L ≠ T := ne_of_none z hT
        refine ⟨_, by rw [upd_ne TL]; exact z, ?_, fun b o e => ?_, ?_⟩
        · rw [List.length_map, List.length_take]
          have : sizeLine = 16777216 := by decide
          omega
        · rw [upd_ne (ne_of_none e hL), upd_ne (ne_of_none (s _ _ e) hT)]; exact s _ _ e
        · have hxy : (List.zipWith (· * ·) ns (ds.map fun x => (intsOf x).getD place 0))[t]? = .some (x * ms.getD place 0) := by
            rw [List.getElem?_zipWith, hx, List.getElem?_map, h1]
            show Option.some (x * (intsOf e1).getD place 0) = _
            rw [intsOf_of hm1.1]
          rw [upd_same, List.take_add_one, hxy]
          simp
  · rw [← hz, List.take_length] at z
    exact k H' s z
/-- [x * row[place] for x, row in zip(a, rows)] -/
theorem lz_col {ta : TA} {te : TE} {i j : Nat} {vs : List Nat} {σ : L2.St} {H : Hp} {Q : VK} {v u : V} {d e : PyData} {ns : List Int} {ds : List PyData} {w place : Nat} (Dv : Do K H v d) (Du : Do K H u e) (hv : IsR d ns) (hu : parts e = .some ds) (hl : ns.length = ds.length)
    (hr : ∀ x ∈ ds, ∃ ms, IsR x ms ∧ ms.length = w)
    (ht : ∀ R : List V → Hp → Prop, R [v, u] H → ta σ H R) (hw : ∀ x y, wipe (((wipe σ vs).set i (some x)).set j (some y)) vs = wipe σ vs)
    (he : ∀ (x : Int) (y : V) (e1 : PyData) (ms : List Int) (H' : Hp) (R : VK), Same H H' → Do K H' y e1 → IsR e1 ms → ms.length = w → x.natAbs < 2 ^ 400 → R (.int (x * ms.getD place 0)) H' → te (((wipe σ vs).set i (some (.int x))).set j (some y)) H' R)
    (k : ∀ (L : Addr) (H' : Hp), Same H H' → H L = none → H' L = some (.lst ((List.zipWith (· * ·) ns (ds.map fun x => (intsOf x).getD place 0)).map V.int)) → Q (.ref L) H') :
    tLc (SGZ.iZipP K ta) (gTup K 2 (gCons (gName i) (gCons (gName j) gNil))) tYes te vs σ H Q := by
  obtain ⟨p, rfl, hp, lp⟩ := Dv.ints hv.1
  obtain ⟨q, xs, rfl, hq, lq, ha⟩ := Du.some hu
  refine ht _ ⟨[p, q], [ns.map V.int, xs], rfl, .cons hp (.cons hq .nil), by show 2 ≤ 1000; decide, fun L hL => lz_colb (w := w) hp hq ha hv.2.1 lp hl hr hL hw he fun H' s z => k L H' s hL z⟩
end
end SG

set_option Elab.async false
set_option linter.all false
set_option maxRecDepth 100000
set_option maxHeartbeats 4000000
/-! along, turned, combined. -/
namespace K11
open PySem L2 SG
def spAlong (K : PySem.W.Frag) : Sp := fun vs H Q _ => ∃ v u d e ns ms, vs = [v, u] ∧ Do K H v d ∧ Do K H u e ∧ IsR d ns ∧ IsR e ms ∧ ns.length = ms.length ∧ ∀ H', Same H H' → Q (.int (dot ns ms)) H'
def spTurned (K : PySem.W.Frag) : Sp := fun vs H Q _ => ∃ v u d e ds ms, vs = [v, u] ∧ Do K H v d ∧ Do K H u e ∧ parts d = some ds ∧ IsR e ms ∧ (∀ x ∈ ds, ∃ ns, IsR x ns ∧ ns.length = ms.length) ∧
  ∀ H' p, Same H H' → H p = none → H' p = some (.tup ((ds.map fun x => dot (intsOf x) ms).map V.int)) → Q (.ref p) H'
def colOf (rs : List (List Int)) (i : Nat) : List Int := rs.map fun r => r.getD i 0
def comb (ns : List Int) (rs : List (List Int)) (w : Nat) : List Int := (List.range w).map fun i => dot ns (colOf rs i)
def spCombined (K : PySem.W.Frag) : Sp := fun vs H Q _ => ∃ v u d e ds ns w, vs = [v, u] ∧ Do K H v d ∧ Do K H u e ∧ parts e = some ds ∧ IsR d ns ∧ ns.length = ds.length ∧ ds ≠ [] ∧ w ≤ 1000 ∧ (∀ x ∈ ds, ∃ ms, IsR x ms ∧ ms.length = w) ∧
  ∀ H' p, Same H H' → H p = none → H' p = some (.tup ((comb ns (ds.map intsOf) w).map V.int)) → Q (.ref p) H'
theorem doAllInts {K : PySem.W.Frag} {H : Hp} : ∀ ns : List Int, DoAll K H (ns.map V.int) (ns.map PyData.int)
  | [] => .nil
  | n :: ns => .cons (.int n) (doAllInts ns)
theorem paired_same {K : PySem.W.Frag} {H H' : Hp} (s : Same H H') : ∀ {Ls : List SGZ.Sl} {xss : List (List V)}, Paired (SGZ.SqS K H) Ls xss → Paired (SGZ.SqS K H') Ls xss
  | _, _, .nil => .nil
  | _, _, .cons a r => .cons (a.same s) (paired_same s r)
theorem ref_ints {K : PySem.W.Frag} {H : Hp} {w : Nat} : ∀ {xs : List V} {ds : List PyData}, DoAll K H xs ds → (∀ x ∈ ds, ∃ ms, IsR x ms ∧ ms.length = w) → ∃ Ls : List SGZ.Sl, xs = Ls.map (fun p => V.ref p.2) ∧ Paired (SGZ.SqS K H) Ls (ds.map fun x => (intsOf x).map V.int)
  | _, _, .nil, _ => ⟨[], rfl, .nil⟩
  | _, _, .cons a r, h => by
    obtain ⟨Ls, e, pr⟩ := ref_ints r fun x hx => h x (List.mem_cons_of_mem _ hx)
    obtain ⟨ms, h1, h2⟩ := h _ List.mem_cons_self
    obtain ⟨p, ev, hp, _⟩ := a.ints h1.1
    refine ⟨p :: Ls, by rw [List.map_cons, ← ev, e], ?_⟩
    rw [List.map_cons, intsOf_of h1.1]
    exact .cons hp pr
theorem col_at {i w : Nat} : ∀ {rs : List (List Int)} {us : List V}, (∀ r ∈ rs, r.length = w) → i < w → SGZ.AtI i (rs.map fun r => r.map V.int) us → us = (colOf rs i).map V.int
  | [], _, _, _, h => by cases h; rfl
  | r :: rs, _, hw, hi, h => by
    cases h with
    | cons a q =>
      have := col_at (fun r hr => hw r (List.mem_cons_of_mem _ hr)) hi q
      have hr := hw r List.mem_cons_self
      have hlt : i < r.length := by omega
      rw [List.getElem?_map, List.getElem?_eq_getElem hlt] at a
      cases a
      rw [this]
      show _ = V.int (r.getD i 0) :: _
      rw [List.getD_eq_getElem?_getD, List.getElem?_eq_getElem hlt]
      rfl
theorem col_bnd {i w : Nat} {rs : List (List Int)} (hw : ∀ r ∈ rs, r.length = w) (hb : ∀ r ∈ rs, Bnd r) (hi : i < w) : Bnd (colOf rs i) := by
  intro n hn
  obtain ⟨r, hr, e⟩ := List.mem_map.mp hn
  have hlt : i < r.length := by rw [hw r hr]; exact hi
  rw [List.getD_eq_getElem?_getD, List.getElem?_eq_getElem hlt] at e
  exact hb r hr n (by rw [← e]; exact List.getElem_mem hlt)
section
variable {P : Program} {w : World} {K : PySem.W.Frag} {mg : Str → Option Value} {base : Heap}
theorem ok_along (T : Tx K mg) {f : Addr} {fd : FuncData} (F : Fun K "along" "along" s_along f fd) : FnOk P w K mg base CX0 1 f fd ["one", "other"] (spAlong K) := by
  refine F.ok sc_along (fun vs H Q E h => ?_) (fun cdv A outer s H vs Q E hr h => ?_)
  · obtain ⟨v, u, d, e, ns, ms, rfl, _⟩ := h
    rfl
  · obtain ⟨v, u, d, e, ns, ms, rfl, Dv, Du, hv, hu, hl, k⟩ := h
    refine ⟨_, (pss_one (ps_ret (pe_callB (cr_sum rfl) (by rfl) T.nm.n_sum (by decide +kernel) (pa_cons (pe_lc (own := [("left", 2), ("right", 3)]) (g := (gTup K 2 (gCons (gName 2) (gCons (gName 3) gNil)))) (tt := tYes) rfl sc_along.nd (SGZ.pi_zipP (by rfl) T.nm.n_zip (pa_cons (pv 0) (pa_cons (pv 1) pa_nil))) (blkOk_by (N := ["one", "other", "left", "right"]) (sc := defScope s_along) (by decide +kernel)) (fun _ _ _ _ _ => pg_tup rfl (pgs_cons (pg_name (i := 2) sc_along.nd rfl (Or.inl rfl)) (pgs_cons (pg_name (i := 3) sc_along.nd rfl (Or.inl rfl)) pgs_nil))) (fun _ _ _ _ _ => pts_nil) (fun _ _ _ _ _ => (pe_op op_mulW (pv 2) (pv 3)))) pa_nil)))), ?_⟩
    dsimp only [tRet, tNext, tCB, tCons]
    refine lz_dot Dv Du hv hu hl (fun R r => ⟨_, rfl, _, rfl, r⟩) (fun _ _ => rfl) (fun x y H' R bx by_ r => ⟨_, rfl, _, rfl, _, _, rfl, rfl, wide_mul bx by_ (by decide) (by decide) (by decide), r⟩) fun L H' s1 nL q => ?_
    exact ⟨L, _, rfl, SqL.of q, k H' s1⟩
theorem ok_turned (T : Tx K mg) {f : Addr} {fd : FuncData} (F : Fun K "turned" "turned" s_turned f fd) : FnOk P w K mg base CX0 2 f fd ["square", "shift"] (spTurned K) := by
  refine F.ok sc_turned (fun vs H Q E h => ?_) (fun cdv A outer s H vs Q E hr h => ?_)
  · obtain ⟨v, u, d, e, ds, ms, rfl, _⟩ := h
    rfl
  · obtain ⟨v, u, d, e, ds, ms, rfl, Dv, Du, hd, hu, hr2, k⟩ := h
    refine ⟨_, (pss_one (ps_ret (pe_callTy call_tuple_of (by rfl) T.nm.n_tuple (by decide +kernel) (pa_cons (pe_lc (own := [("row", 2)]) (g := (gName 2)) (tt := tYes) rfl sc_turned.nd (pi_seq (pv 0)) (blkOk_by (N := ["square", "shift", "row"]) (sc := defScope s_turned) (by decide +kernel)) (fun _ _ _ _ _ => pg_name (i := 2) sc_turned.nd rfl (Or.inl rfl)) (fun _ _ _ _ _ => pts_nil) (fun _ _ _ _ _ => (pe_call (ok_along T T.d_along.F) hr rfl T.d_along.m T.d_along.k T.d_along.b .nil pass0 (pa_cons (pv 2) (pa_cons (pv 1) pa_nil))))) pa_nil)))), ?_⟩
    dsimp only [tRet, tNext, tCB, tCons]
    refine lo_data (fun x => .int (dot (intsOf x) ms)) hd Dv (fun R r => ⟨_, rfl, r⟩) (fun _ => rfl) (fun x e1 H' R s1 D1 hm r => ?_) fun L H' s1 nL q => ?_
    · obtain ⟨ns, h1, h2⟩ := hr2 e1 hm
      refine ⟨_, rfl, _, rfl, _, _, _, _, ns, ms, rfl, D1, Do.same s1 _ _ Du, h1, hu, h2, fun H'' s2 => ?_⟩
      have := r H'' s2
      rw [intsOf_of h1.1] at this
      exact this
    · refine ⟨L, _, rfl, .inl ⟨SqL.of q, fun p hp => ?_⟩⟩
      refine k _ p (s1.trans (newO hp)) (gh_free s1 hp) ?_
      rw [upd_same, List.map_map]
      rfl
theorem ok_combined (T : Tx K mg) {f : Addr} {fd : FuncData} (F : Fun K "combined" "combined" s_combined f fd) : FnOk P w K mg base CX0 2 f fd ["row", "rows"] (spCombined K) := by
  refine F.ok sc_combined (fun vs H Q E h => ?_) (fun cdv A outer s H vs Q E hr h => ?_)
  · obtain ⟨v, u, d, e, ds, ns, w, rfl, _⟩ := h
    rfl
  · obtain ⟨v, u, d, e, ds, ns, wd, rfl, Dv, Du, hd, hv, hl, hne, hw, hr2, k⟩ := h
    refine ⟨_, (pss_one (ps_ret (pe_callTy call_tuple_of (by rfl) T.nm.n_tuple (by decide +kernel) (pa_cons (pe_lc (own := [("column", 2)]) (g := (gName 2)) (tt := tYes) rfl sc_combined.nd (SGZ.pi_zipS (by rfl) T.nm.n_zip (pv 1)) (blkOk_by (N := ["row", "rows", "column"]) (sc := defScope s_combined) (by decide +kernel)) (fun _ _ _ _ _ => pg_name (i := 2) sc_combined.nd rfl (Or.inl rfl)) (fun _ _ _ _ _ => pts_nil) (fun _ _ _ _ _ => (pe_call (ok_along T T.d_along.F) hr rfl T.d_along.m T.d_along.k T.d_along.b .nil pass0 (pa_cons (pv 0) (pa_cons (pv 2) pa_nil))))) pa_nil)))), ?_⟩
    dsimp only [tRet, tNext, tCB, tCons]
    obtain ⟨p, xs, rfl, hs, hlen, ha⟩ := Du.some hd
    obtain ⟨Ls, exs, pr⟩ := ref_ints ha hr2
    subst exs
    have hR : ∀ r ∈ ds.map intsOf, r.length = wd ∧ Bnd r ∧ r.length ≤ 1000 := fun r hr => by
      obtain ⟨x, hx, e⟩ := List.mem_map.mp hr
      obtain ⟨ms, h1, h2⟩ := hr2 x hx
      rw [← e, intsOf_of h1.1]
      exact ⟨h2, h1.2.1, h1.2.2⟩
    have lL : Ls.length = ds.length := by have := ha.length; rw [List.length_map] at this; exact this
    have hLne : Ls ≠ [] := fun z => hne (List.length_eq_zero_iff.mp (by rw [← lL, z]; rfl))
    have exs : (ds.map fun x => (intsOf x).map V.int) = (ds.map intsOf).map fun r => r.map V.int := by rw [List.map_map]; rfl
    rw [exs] at pr
    have hs' : SqT K H p.2 (Ls.map fun p => V.ref p.2) ∨ SqL K H p.2 (Ls.map fun p => V.ref p.2) := by
      obtain ⟨b, a⟩ := p
      cases b
      · exact .inl hs
      · exact .inr hs
    refine ⟨_, rfl, p.2, Ls, _, rfl, hs', pr, by rw [lL]; rw [List.length_map] at hlen; omega, fun L hL => ?_⟩
    refine SGZ.lc_zipN (n := wd) (fun xs hx => ?_) (.inl hLne) (fun i H' => Same H H' ∧ H' L = some (.lst (((comb ns (ds.map intsOf) wd).take i).map V.int))) ⟨newO hL, upd_same⟩ (fun i H' _ z => paired_same z.1 pr) (fun t us T H' ht hat ⟨s1, z⟩ hT => ?_) (fun H' ⟨s1, z⟩ => ?_)
    · obtain ⟨r, hr, e⟩ := List.mem_map.mp hx
      rw [← e, List.length_map]
      exact (hR r hr).1
    · have eu := col_at (fun r hr => (hR r hr).1) ht hat
      subst eu
      refine ⟨rfl, ?_⟩
      have sT : Same H (upd H' T (.tup ((colOf (ds.map intsOf) t).map V.int))) := s1.trans (newO hT)
      have lc : (colOf (ds.map intsOf) t).length = ds.length := by rw [colOf, List.length_map, List.length_map]
      have lds : ds.length ≤ 1000 := by rw [← lL]; rw [List.length_map] at hlen; exact hlen
      have Dc : Do K (upd H' T (.tup ((colOf (ds.map intsOf) t).map V.int))) (.ref T) (.tuple ((colOf (ds.map intsOf) t).map PyData.int)) := .tup (SqT.of upd_same) (by rw [List.length_map, lc]; exact lds) (doAllInts _)
      refine ⟨_, rfl, _, rfl, _, _, _, _, ns, colOf (ds.map intsOf) t, rfl, Do.same sT _ _ Dv, Dc, hv, ⟨rfl, col_bnd (fun r hr => (hR r hr).1) (fun r hr => (hR r hr).2.1) ht, by rw [lc]; exact lds⟩, by rw [lc]; exact hl, fun H'' s2 => ?_⟩
      have TL : L ≠ T := ne_of_none z hT
      have zz : H'' L = some (.lst (((comb ns (ds.map intsOf) wd).take t).map V.int)) := s2 _ _ (by rw [upd_ne TL]; exact z)
      refine ⟨_, zz, ?_, set_new hL (sT.trans s2), ?_⟩
      · rw [List.length_map, List.length_take]
        have : sizeLine = 16777216 := by decide
        omega
      · have hx : (comb ns (ds.map intsOf) wd)[t]? = some (dot ns (colOf (ds.map intsOf) t)) := by
          rw [comb, List.getElem?_map, List.getElem?_range ht]; rfl
        rw [upd_same, List.take_add_one, hx]
        simp
    · have lw : (comb ns (ds.map intsOf) wd).length = wd := by rw [comb, List.length_map, List.length_range]
      rw [List.take_of_length_le (Nat.le_of_eq lw)] at z
      exact ⟨L, _, rfl, .inl ⟨SqL.of z, fun p hp => k _ p (s1.trans (newO hp)) (gh_free s1 hp) upd_same⟩⟩
end
end K11

set_option Elab.async false
set_option linter.all false
set_option maxRecDepth 100000
set_option maxHeartbeats 4000000
/-! are_even_rows, check_goals, are_barred, shows_whole. -/
namespace K11
open PySem L2 SG
/-- .. the errors and the bounds too -/
structure Tv (K : PySem.W.Frag) (mg : Str → Option Value) extends Tz K mg where
  e_BadNumber : Er K mg "BadNumber" "BadNumber.__init__" i_BadNumber
  no_BadNumber : PySem.W.findIn K (.ref e_BadNumber.C) "part" = some none
  mR : ∃ t, mg "MOST_ROWS" = some (.int 48 t)
  mPl : ∃ t, mg "MOST_PLACES" = some (.int 12 t)
/-- rows that are even, within their bounds -/
def evenI (d : PyData) : Bool := match parts d with
  | some (d0 :: ds) => decide ((ds.length : Int) + 1 ≤ 48) && (match parts d0 with
    | some es => decide ((es.length : Int) ≤ 12) && rowsI d ((ds.length : Int) + 1) es.length
    | none => false)
  | _ => false
def spEven (K : PySem.W.Frag) : Sp := fun vs H Q _ => ∃ v d, vs = [v] ∧ Do K H v d ∧ ∀ H', Same H H' → Q (.bl (evenI d)) H'
theorem rIx_at {K : PySem.W.Frag} {H : Hp} {a : Addr} {xs : List V} {x : V} {i : Nat} {Q : VK} (hs : SqL K H a xs ∨ SqT K H a xs) (e : xs[i]? = some x) (q : Q x H) : rIx K (.ref a) (.int (i : Nat)) H Q :=
  hs.elim (fun h => .inl ⟨a, xs, _, x, rfl, rfl, h, atI_nat e, q⟩) fun h => .inr (.inl ⟨a, xs, _, x, rfl, rfl, h, atI_nat e, q⟩)
section
variable {P : Program} {w : World} {K : PySem.W.Frag} {mg : Str → Option Value} {base : Heap}
theorem ok_are_even_rows (T : Tv K mg) {f : Addr} {fd : FuncData} (F : Fun K "are_even_rows" "are_even_rows" s_are_even_rows f fd) : FnOk P w K mg base CX0 5 f fd ["value"] (spEven K) := by
  refine F.ok sc_are_even_rows (fun vs H Q E h => ?_) (fun cdv A outer s H vs Q E hr h => ?_)
  · obtain ⟨v, d, rfl, _⟩ := h
    rfl
  · obtain ⟨v, d, rfl, D, k⟩ := h
    refine ⟨_, (pss_cons (ps_if (PW.pt (pw_or (pt_not (pt_val (pe_callB call_isiT (by rfl) T.nm.n_isinstance (by decide +kernel) (pa_cons (pv 0) (pa_cons (pe_tup (pa_cons (pe_bltn (v := .ty "list") (by rfl) T.nm.n_list (by decide +kernel) rfl) (pa_cons (pe_bltn (v := .ty "tuple") (by rfl) T.nm.n_tuple (by decide +kernel) rfl) pa_nil))) pa_nil))))) (pw_or1 (pt_not (pt_chain op_le op_le pe_int (pe_callB call_len_seq (by rfl) T.nm.n_len (by decide +kernel) (pa_cons (pv 0) pa_nil)) (pe_glob (v := .int 48) rfl T.mR.choose_spec ⟨_, rfl⟩))))))
  (pss_one (ps_ret pe_bl))
  pss_nil)
  (pss_cons (ps_if (PW.pt (pw_or (pt_not (pt_val (pe_callB call_isiT (by rfl) T.nm.n_isinstance (by decide +kernel) (pa_cons (pe_ix ix_seq (pv 0) pe_int (fun _ _ => rfl)) (pa_cons (pe_tup (pa_cons (pe_bltn (v := .ty "list") (by rfl) T.nm.n_list (by decide +kernel) rfl) (pa_cons (pe_bltn (v := .ty "tuple") (by rfl) T.nm.n_tuple (by decide +kernel) rfl) pa_nil))) pa_nil))))) (pw_or1 (pt_cmpR op_gt (pe_callB call_len_seq (by rfl) T.nm.n_len (by decide +kernel) (pa_cons (pe_ix ix_seq (pv 0) pe_int (fun _ _ => rfl)) pa_nil)) (pe_glob (v := .int 12) rfl T.mPl.choose_spec ⟨_, rfl⟩) (nomark _)))))
  (pss_one (ps_ret pe_bl))
  pss_nil)
  (pss_one (ps_ret (pe_call (ok_are_rows T.toTx T.d_are_rows.F) (hr.mono (by decide)) rfl T.d_are_rows.m T.d_are_rows.k T.d_are_rows.b .nil pass0 (pa_cons (pv 0) (pa_cons (pe_callB call_len_seq (by rfl) T.nm.n_len (by decide +kernel) (pa_cons (pv 0) pa_nil)) (pa_cons (pe_callB call_len_seq (by rfl) T.nm.n_len (by decide +kernel) (pa_cons (pe_ix ix_seq (pv 0) pe_int (fun _ _ => rfl)) pa_nil)) pa_nil)))))))), ?_⟩
    refine ⟨_, rfl, (by show 2 ≤ sizeLine; decide), fun pT nT => ?_⟩
    have zT := newO nT (o := .tup [.ty "list", .ty "tuple"])
    obtain ⟨t, ty, t1, t2, t3⟩ := (Do.same zT _ _ D).ty
    refine ⟨v, pT, _, _, _, _, rfl, upd_same, .cons (.ty _) (.cons (.ty _) .nil), ty, t3, _, rfl, ?_⟩
    cases e : parts d with
    | none =>
      have k' := k _ zT
      rw [evenI, e] at k'
      exact k'
    | some ds =>
      obtain ⟨a, xs, rfl, hs, hl, ha⟩ := (Do.same zT _ _ D).seq e
      have hlen := ha.length
      refine ⟨_, rfl, a, xs, rfl, hs, _, _, rfl, rfl, _, rfl, ?_⟩
      have isS : ∀ {H' : Hp}, Same (upd H pT (.tup [.ty "list", .ty "tuple"])) H' → (SqL K H' a xs ∨ SqT K H' a xs) := fun s' => hs.elim (fun q => .inl (s'.seq q)) fun q => .inr (Same.tup s' q)
      have kk : ∀ H', Same H H' → ∀ b, b = evenI d → Q (.bl b) H' := fun H' s' b e => by rw [e]; exact k H' s'
      refine ite2 (fun c1 => ?_) (fun c1 => ?_)
      · refine ⟨_, _, rfl, rfl, _, rfl, ?_⟩
        have c1' : 1 ≤ xs.length := by have := of_decide_eq_true c1; omega
        cases ds with
        | nil => rw [hlen] at c1'; cases c1'
        | cons d0 ds =>
          cases xs with
          | nil => cases hlen
          | cons x0 xs =>
            have hl1 : xs.length = ds.length := by simpa using hlen
            refine ite2 (fun c2 => ?_) (fun c2 => ?_)
            · refine kk _ zT _ ?_
              have c3 : ¬ ((ds.length : Int) + 1 ≤ 48) := by
                intro z
                have : ((x0 :: xs).length : Int) ≤ 48 := by rw [List.length_cons, hl1]; omega
                rw [decide_eq_true this] at c2
                cases c2
              rw [evenI, e]
              show false = (decide _ && _)
              rw [decide_eq_false c3]
              rfl
            · have c3 : (ds.length : Int) + 1 ≤ 48 := by
                have z : decide (((x0 :: xs).length : Int) ≤ 48) = true := by
                  cases z : decide (((x0 :: xs).length : Int) ≤ 48) with
                  | true => rfl
                  | false => rw [z] at c2; exact absurd rfl c2
                have := of_decide_eq_true z
                rw [List.length_cons, hl1] at this
                omega
              obtain ⟨D0, _⟩ : Do K (upd H pT (.tup [.ty "list", .ty "tuple"])) x0 d0 ∧ True := by cases ha; exact ⟨by assumption, trivial⟩
              refine ⟨_, rfl, rIx_at (i := 0) (isS (Same.refl _)) rfl ⟨(by show 2 ≤ sizeLine; decide), fun pU nU => ?_⟩⟩
              have zU := newO nU (o := .tup [.ty "list", .ty "tuple"])
              obtain ⟨t', ty', _, _, t3'⟩ := (Do.same zU _ _ D0).ty
              refine ⟨x0, pU, _, _, _, _, rfl, upd_same, .cons (.ty _) (.cons (.ty _) .nil), ty', t3', _, rfl, ?_⟩
              cases e0 : parts d0 with
              | none =>
                refine kk _ (zT.trans zU) _ ?_
                rw [evenI, e]
                show false = (_ && (match parts d0 with | some es => _ | none => false))
                rw [e0, Bool.and_false]
              | some es =>
                obtain ⟨a0, ys, rfl, hs0, hl0, ha0⟩ := (Do.same zU _ _ D0).seq e0
                have hly := ha0.length
                refine ⟨_, rfl, rIx_at (i := 0) (isS zU) rfl ⟨a0, ys, rfl, hs0, _, _, rfl, rfl, _, rfl, ?_⟩⟩
                refine ite2 (fun c4 => ?_) (fun c4 => ?_)
                · refine kk _ (zT.trans zU) _ ?_
                  have c5 : ¬ ((es.length : Int) ≤ 12) := by have := of_decide_eq_true c4; rw [hly] at this; omega
                  rw [evenI, e]
                  show false = (_ && (match parts d0 with | some es => _ | none => false))
                  rw [e0]
                  show false = (_ && (decide _ && _))
                  rw [decide_eq_false c5, Bool.false_and, Bool.and_false]
                · have c5 : (es.length : Int) ≤ 12 := by
                    have z : ¬ (12 : Int) < (ys.length : Int) := fun z => c4 (decide_eq_true z)
                    rw [hly] at z
                    omega
                  refine ⟨_, rfl, _, rfl, a, _, rfl, isS zU, _, rfl, rIx_at (i := 0) (isS zU) rfl ⟨a0, ys, rfl, hs0, _, d, _, _, rfl, Do.same (zT.trans zU) _ _ D, fun H' s' => ?_⟩⟩
                  refine kk _ ((zT.trans zU).trans s') _ ?_
                  rw [evenI, e]
                  show _ = (_ && (match parts d0 with | some es => _ | none => false))
                  rw [e0]
                  show _ = (decide _ && (decide _ && _))
                  rw [decide_eq_true c3, decide_eq_true c5, Bool.true_and, Bool.true_and, hly, List.length_cons, hl1]
                  rfl
      · refine ⟨_, rfl, kk _ zT _ ?_⟩
        cases ds with
        | nil => rw [evenI, e]
        | cons d0 ds => exact absurd (decide_eq_true (by rw [hlen, List.length_cons]; omega)) c1
end
end K11

set_option Elab.async false
set_option linter.all false
set_option maxRecDepth 100000
set_option maxHeartbeats 4000000
/-! check_goals, are_barred. -/
namespace K11
open PySem L2 SG
def lenD (d : PyData) : Nat := ((parts d).getD []).length
theorem lenD_of {d : PyData} {ds : List PyData} (e : parts d = some ds) : lenD d = ds.length := by rw [lenD, e]; rfl
/-- what a raising way gives -/
def Thrown (E : XK) (C : Addr) (x : Str) (H : Hp) : Prop := ∀ (dd : Addr) (H' : Hp), Same H H' → H' dd = some (.xd [("part", .str x)]) → E (.ref C) (some dd) H'
theorem Thrown.same {E : XK} {C : Addr} {x : Str} {H H' : Hp} (s : Same H H') (h : Thrown E C x H) : Thrown E C x H' := fun dd H'' s' q => h dd H'' (s.trans s') q
def spCheck {K : PySem.W.Frag} {mg : Str → Option Value} (T : Tv K mg) : Sp := fun vs H Q E => ∃ v u d e, vs = [v, u] ∧ Do K H v d ∧ Do K H u e ∧
  (evenI d = true → rowI e (lenD d : Nat) = true → ∀ H', Same H H' → Q .non H') ∧ (evenI d = false → Thrown E T.e_BadNumber.C "rows" H) ∧ (evenI d = true → rowI e (lenD d : Nat) = false → Thrown E T.e_BadNumber.C "goals" H)
theorem evenI_parts {d : PyData} (h : evenI d = true) : ∃ ds, parts d = some ds ∧ ds ≠ [] ∧ ds.length ≤ 48 := by
  cases e : parts d with
  | none => rw [evenI, e] at h; cases h
  | some ds =>
    cases ds with
    | nil => rw [evenI, e] at h; cases h
    | cons d0 ds =>
      refine ⟨_, rfl, List.cons_ne_nil _ _, ?_⟩
      rw [evenI, e] at h
      have h1 : (decide ((ds.length : Int) + 1 ≤ 48)) = true := by
        cases z : decide ((ds.length : Int) + 1 ≤ 48) with
        | true => rfl
        | false =>
          have h' : (decide ((ds.length : Int) + 1 ≤ 48) && _) = true := h
          rw [z, Bool.false_and] at h'
          cases h'
      have := of_decide_eq_true h1
      rw [List.length_cons]
      omega
theorem isI_map : ∀ {ds : List PyData}, ds.all isI = true → ds = (ds.map toI).map PyData.int
  | [], _ => rfl
  | d :: ds, h => by
    rw [List.all_cons, Bool.and_eq_true] at h
    rw [List.map_cons, List.map_cons, ← isI_map h.2]
    cases d <;> first | rfl | cases h.1
theorem areI_parts {d : PyData} (h : areI d = true) : parts d = some ((intsOf d).map PyData.int) := by
  cases e : parts d with
  | none => rw [areI_no e] at h; cases h
  | some ds =>
    rw [areI, e] at h
    rw [intsOf, e]
    exact congrArg some (isI_map h)
theorem rowI_parts {d : PyData} {n : Nat} (h : rowI d (n : Nat) = true) : parts d = some ((intsOf d).map PyData.int) ∧ (intsOf d).length = n := by
  rw [rowI, Bool.and_eq_true] at h
  have h1 := areI_parts h.1
  refine ⟨h1, ?_⟩
  have h2 := h.2
  rw [h1] at h2
  have h3 : ((((intsOf d).map PyData.int).length : Nat) : Int) = (n : Int) := of_decide_eq_true h2
  rw [List.length_map] at h3
  omega
theorem within_int {d : PyData} {l m : Option Int} (h : within d l m = true) : ∃ i, d = .int i ∧ (lowB l i && highB m i) = true := by
  cases d with
  | int i => exact ⟨i, rfl, h⟩
  | _ => cases h
def barI (rs : List (List Int)) (w : Nat) (gs : List Int) (rd md : PyData) : Bool :=
  rowI rd (rs.length : Nat) && within md (some 2) none && !((comb (intsOf rd) rs w).map fun n => !decide (n.fmod (toI md) = 0)).any id && !decide ((dot (intsOf rd) gs).fmod (toI md) = 0)
def spBarred (K : PySem.W.Frag) : Sp := fun vs H Q _ => ∃ v u x y d e r m ds gs wd, vs = [v, u, x, y] ∧ Do K H v d ∧ Do K H u e ∧ Do K H x r ∧ Do K H y m ∧ parts d = some ds ∧ ds ≠ [] ∧ wd ≤ 1000 ∧ (∀ z ∈ ds, ∃ ms, IsR z ms ∧ ms.length = wd) ∧ IsR e gs ∧ gs.length = ds.length ∧
  (areI r = true → Bnd (intsOf r)) ∧ ∀ H', Same H H' → Q (.bl (barI (ds.map intsOf) wd gs r m)) H'
section
variable {P : Program} {w : World} {K : PySem.W.Frag} {mg : Str → Option Value} {base : Heap}
theorem ok_check_goals (T : Tv K mg) {f : Addr} {fd : FuncData} (F : Fun K "check_goals" "check_goals" s_check_goals f fd) : FnOk P w K mg base (L2.CX P w) 6 f fd ["rows", "goals"] (spCheck T) := by
  refine F.okX sc_check_goals (fun vs H Q E h => ?_) (fun cdv A outer s H vs Q E hr h => ?_)
  · obtain ⟨v, u, d, e, rfl, _⟩ := h
    rfl
  · obtain ⟨v, u, d, e, rfl, D, De, k1, k2, k3⟩ := h
    refine ⟨_, (pss_cons (ps_if (pt_not (pt_val (pe_call (ok_are_even_rows T T.d_are_even_rows.F) (hr.mono (by decide)) rfl T.d_are_even_rows.m T.d_are_even_rows.k T.d_are_even_rows.b .nil pass0 (pa_cons (pv 0) pa_nil))))
  (pss_one (ps_raise rfl (takes_of rfl rfl rfl rfl) (pmk_oex T.e_BadNumber.O T.e_BadNumber.iC T.e_BadNumber.tI (ok_BadNumber T.e_BadNumber T.no_BadNumber) (hr.mono (by decide)) (bi_BadNumber T.e_BadNumber) .nil pass0 rfl T.e_BadNumber.m (pa_cons pe_str pa_nil))))
  pss_nil)
  (pss_one (ps_if (pt_not (pt_val (pe_call (ok_is_row T.toTx T.d_is_row.F) (hr.mono (by decide)) rfl T.d_is_row.m T.d_is_row.k T.d_is_row.b .nil pass0 (pa_cons (pv 1) (pa_cons (pe_callB call_len_seq (by rfl) T.nm.n_len (by decide +kernel) (pa_cons (pv 0) pa_nil)) pa_nil)))))
  (pss_one (ps_raise rfl (takes_of rfl rfl rfl rfl) (pmk_oex T.e_BadNumber.O T.e_BadNumber.iC T.e_BadNumber.tI (ok_BadNumber T.e_BadNumber T.no_BadNumber) (hr.mono (by decide)) (bi_BadNumber T.e_BadNumber) .nil pass0 rfl T.e_BadNumber.m (pa_cons pe_str pa_nil))))
  pss_nil))), ?_⟩
    refine ⟨_, rfl, v, d, rfl, D, fun H1 s1 => ⟨_, rfl, ?_⟩⟩
    refine ite2 (fun c => ?_) (fun c => ?_)
    · have c' : evenI d = false := by cases z : evenI d with | false => rfl | true => rw [z] at c; cases c
      refine ⟨(by show 1 ≤ 1000; decide), fun a ha => ⟨a, _, rfl, upd_same, fun dd H2 hd q1 q2 s => ?_⟩⟩
      exact flown ha hd q1 q2 s fun H' s2 e2 => (k2 c') dd H' (s1.trans s2) e2
    · have c' : evenI d = true := by cases z : evenI d with | true => rfl | false => rw [z] at c; exact absurd rfl c
      obtain ⟨ds, ed, hne, _⟩ := evenI_parts c'
      obtain ⟨a, xs, rfl, hs, hl, ha⟩ := (Do.same s1 _ _ D).seq ed
      refine ⟨_, rfl, _, rfl, a, xs, rfl, hs, u, e, _, rfl, Do.same s1 _ _ De, fun H2 s2 => ⟨_, rfl, ?_⟩⟩
      rw [ha.length, ← lenD_of ed]
      refine ite2 (fun c2 => ?_) (fun c2 => ?_)
      · have c3 : rowI e (lenD d : Nat) = false := by cases z : rowI e (lenD d : Nat) with | false => rfl | true => rw [z] at c2; cases c2
        refine ⟨(by show 1 ≤ 1000; decide), fun a ha => ⟨a, _, rfl, upd_same, fun dd H3 hd q1 q2 s => ?_⟩⟩
        exact flown ha hd q1 q2 s fun H' s3 e2 => (k3 c' c3) dd H' ((s1.trans s2).trans s3) e2
      · have c3 : rowI e (lenD d : Nat) = true := by cases z : rowI e (lenD d : Nat) with | true => rfl | false => rw [z] at c2; exact absurd rfl c2
        exact k1 c' c3 H2 (s1.trans s2)
theorem ok_are_barred (T : Tv K mg) {f : Addr} {fd : FuncData} (F : Fun K "are_barred" "are_barred" s_are_barred f fd) : FnOk P w K mg base CX0 4 f fd ["rows", "goals", "row", "modulus"] (spBarred K) := by
  refine F.ok sc_are_barred (fun vs H Q E h => ?_) (fun cdv A outer s H vs Q E hr h => ?_)
  · obtain ⟨v, u, x, y, d, e, r, m, ds, gs, wd, rfl, _⟩ := h
    rfl
  · obtain ⟨v, u, x, y, d, e, r, m, ds, gs, wd, rfl, D, De, Dr, Dm, ed, hne, hw, hrows, hg, hgl, hb, k⟩ := h
    refine ⟨_, (pss_cons (ps_if (PW.pt (pw_or (pt_not (pt_val (pe_call (ok_is_row T.toTx T.d_is_row.F) (hr.mono (by decide)) rfl T.d_is_row.m T.d_is_row.k T.d_is_row.b .nil pass0 (pa_cons (pv 2) (pa_cons (pe_callB call_len_seq (by rfl) T.nm.n_len (by decide +kernel) (pa_cons (pv 0) pa_nil)) pa_nil))))) (pw_or1 (pt_not (pt_val (pe_call (ok_is_within T.toTx T.d_is_within.F) (hr.mono (by decide)) rfl T.d_is_within.m T.d_is_within.k T.d_is_within.b .nil pass0 (pa_cons (pv 3) (pa_cons pe_int (pa_cons pe_non pa_nil)))))))))
  (pss_one (ps_ret pe_bl))
  pss_nil)
  (pss_cons (ps_if (pt_val (pe_callB (cr_any rfl) (by rfl) T.nm.n_any (by decide +kernel) (pa_cons (pe_lc (own := [("number", 4)]) (g := (gName 4)) (tt := tYes) rfl sc_are_barred.nd (pi_tup (pe_call (ok_combined T.toTx T.d_combined.F) (hr.mono (by decide)) rfl T.d_combined.m T.d_combined.k T.d_combined.b .nil pass0 (pa_cons (pv 2) (pa_cons (pv 0) pa_nil)))) (blkOk_by (N := ["rows", "goals", "row", "modulus", "number"]) (sc := defScope s_are_barred) (by decide +kernel)) (fun _ _ _ _ _ => pg_name (i := 4) sc_are_barred.nd rfl (Or.inl rfl)) (fun _ _ _ _ _ => pts_nil) (fun _ _ _ _ _ => (pe_cmpR op_ne (pe_op op_modN (pv 4) (pv 3)) pe_int (nomark _)))) pa_nil)))
  (pss_one (ps_ret pe_bl))
  pss_nil)
  (pss_one (ps_ret (pe_cmpR op_ne (pe_op op_modN (pe_call (ok_along T.toTx T.d_along.F) (hr.mono (by decide)) rfl T.d_along.m T.d_along.k T.d_along.b .nil pass0 (pa_cons (pv 2) (pa_cons (pv 1) pa_nil))) (pv 3)) pe_int (nomark _)))))), ?_⟩
    obtain ⟨a, xs, rfl, hs, hl, ha⟩ := D.seq ed
    have hlen := ha.length
    have kk : ∀ H', Same H H' → ∀ b, b = barI (ds.map intsOf) wd gs r m → Q (.bl b) H' := fun H' s' b e => by rw [e]; exact k H' s'
    refine ⟨_, rfl, _, rfl, a, xs, rfl, hs, x, r, _, rfl, Dr, fun H1 s1 => ⟨_, rfl, ?_⟩⟩
    rw [hlen]
    have rl : rowI r ((ds.map intsOf).length : Nat) = rowI r (ds.length : Nat) := by rw [List.length_map]
    refine ite2 (fun c => ?_) (fun c => ?_)
    · have c' : rowI r (ds.length : Nat) = false := by cases z : rowI r (ds.length : Nat) with | false => rfl | true => rw [z] at c; cases c
      refine kk _ s1 _ ?_
      rw [barI, rl, c']
      rfl
    · have c' : rowI r (ds.length : Nat) = true := by cases z : rowI r (ds.length : Nat) with | true => rfl | false => rw [z] at c; exact absurd rfl c
      refine ⟨_, rfl, y, m, some 2, none, rfl, Do.same s1 _ _ Dm, _, rfl, ?_⟩
      refine ite2 (fun c2 => ?_) (fun c2 => ?_)
      · have c3 : within m (some 2) none = false := by cases z : within m (some 2) none with | false => rfl | true => rw [z] at c2; cases c2
        refine kk _ s1 _ ?_
        rw [barI, c3, Bool.and_false]
        rfl
      · have c3 : within m (some 2) none = true := by cases z : within m (some 2) none with | true => rfl | false => rw [z] at c2; exact absurd rfl c2
        obtain ⟨j, rfl, hj⟩ := within_int c3
        cases Do.isInt Dm
        have hj2 : (2 : Int) ≤ j := of_decide_eq_true (by simpa [lowB, highB] using hj)
        obtain ⟨e1, e2⟩ := rowI_parts c'
        have areR : areI r = true := by rw [rowI, Bool.and_eq_true] at c'; exact c'.1
        have lr : (intsOf r).length ≤ 1000 := by rw [e2, ← hlen]; exact hl
        have hr1 : IsR r (intsOf r) := ⟨e1, hb areR, lr⟩
        dsimp only [tCB, tCons]
        refine ⟨_, rfl, _, rfl, _, _, r, d, ds, intsOf r, wd, rfl, Do.same s1 _ _ Dr, Do.same s1 _ _ D, ed, hr1, e2, hne, hw, hrows, fun H2 p s2 n2 q2 => ⟨p, rfl, ⟨_, SqT.of q2⟩, fun L hL => ?_⟩⟩
        have s12 := s1.trans s2
        refine lc_tup (K := K) (a := p) (xs := (comb (intsOf r) (ds.map intsOf) wd).map V.int) (fun t H' => Same H2 H' ∧ H' L = some (.lst ((((comb (intsOf r) (ds.map intsOf) wd).take t).map fun n => !decide (n.fmod j = 0)).map V.bl))) ⟨newO hL, upd_same⟩ (fun t H' _ z => Same.tup z.1 (SqT.of q2)) (fun t z H' hz ⟨s3, q3⟩ => ?_) (fun H' ⟨s3, q3⟩ => ?_)
        · rw [List.getElem?_map] at hz
          obtain ⟨n, hn, rfl⟩ := Option.map_eq_some_iff.mp hz
          have ht : t < wd := by
            have := (List.getElem?_eq_some_iff.mp hn).1
            rw [comb, List.length_map, List.length_range] at this
            exact this
          refine ⟨rfl, _, rfl, _, rfl, _, _, rfl, rfl, (by omega), rfl, ?_⟩
          refine ⟨_, q3, ?_, set_new hL s3, ?_⟩
          · rw [List.length_map, List.length_map, List.length_take]
            have : sizeLine = 16777216 := by decide
            omega
          · rw [upd_same, List.take_add_one, hn, eqInt]
            simp
        · rw [List.length_map, List.take_length] at q3
          refine ⟨L, _, rfl, SqL.of q3, _, rfl, ?_⟩
          have s13 := s12.trans s3
          refine ite2 (fun c4 => ?_) (fun c4 => ?_)
          · refine kk _ s13 _ ?_
            rw [barI, rl, c', c3]
            show false = (true && true && !((comb (intsOf r) (ds.map intsOf) wd).map fun n => !decide (n.fmod j = 0)).any id && _)
            rw [c4]
            rfl
          · refine ⟨_, rfl, _, rfl, _, _, r, e, intsOf r, gs, rfl, Do.same s13 _ _ Dr, Do.same s13 _ _ De, hr1, hg, by rw [e2, hgl], fun H4 s4 => ?_⟩
            refine ⟨_, rfl, _, _, rfl, rfl, (by omega), rfl, kk _ (s13.trans s4) _ ?_⟩
            have c5 : ((comb (intsOf r) (ds.map intsOf) wd).map fun n => !decide (n.fmod j = 0)).any id = false := by
              cases z : ((comb (intsOf r) (ds.map intsOf) wd).map fun n => !decide (n.fmod j = 0)).any id with
              | false => rfl
              | true => exact absurd z c4
            rw [barI, rl, c', c3, eqInt]
            show _ = (true && true && !((comb (intsOf r) (ds.map intsOf) wd).map fun n => !decide (n.fmod j = 0)).any id && _)
            rw [c5]
            rfl
end
end K11

set_option Elab.async false
set_option linter.all false
set_option maxRecDepth 100000
set_option maxHeartbeats 4000000
/-! Values that may be papers; shows_whole. -/
namespace K11
open PySem L2 SG
/-- neither of the two classes is this type, or below it -/
structure Kn (K : PySem.W.Frag) (t : Value) (W B : Addr) : Prop where
  w : PySem.W.kitOne K t (.ref W) = some false
  b : PySem.W.kitOne K t (.ref B) = some false
/-- .. the classes beside one another -/
structure Tk (K : PySem.W.Frag) (mg : Str → Option Value) extends Tv K mg where
  kP : Kn K (.ref c_Paper.C) c_Whole.C c_Barred.C
  kD : Kn K (.ref c_Denial.C) c_Whole.C c_Barred.C
  kB : PySem.W.kitOne K (.ref c_Barred.C) (.ref c_Whole.C) = some false
  kW : PySem.W.kitOne K (.ref c_Whole.C) (.ref c_Barred.C) = some false
  kn : Kn K (.type "NoneType") c_Whole.C c_Barred.C
  kb : Kn K (.type "bool") c_Whole.C c_Barred.C
  ki : Kn K (.type "int") c_Whole.C c_Barred.C
  ks : Kn K (.type "str") c_Whole.C c_Barred.C
  kl : Kn K (.type "list") c_Whole.C c_Barred.C
  kt : Kn K (.type "tuple") c_Whole.C c_Barred.C
  kd : Kn K (.type "dict") c_Whole.C c_Barred.C
  kf : Kn K (.type "function") c_Whole.C c_Barred.C
inductive PVal where
  | whole (d : PyData)
  | barred (d e : PyData)
  | other
def isW : PVal → Bool | .whole _ => true | _ => false
def isB : PVal → Bool | .barred _ _ => true | _ => false
section
variable {K : PySem.W.Frag} {mg : Str → Option Value}
inductive Pv (T : Tk K mg) (H : Hp) : V → PVal → Prop
  | whole {a dx p : Addr} {v : V} {d : PyData} : H a = some (.ins T.c_Whole.C dx (fWhole p v)) → Do K H v d → Pv T H (.ref a) (.whole d)
  | barred {a dx p : Addr} {v u : V} {d e : PyData} : H a = some (.ins T.c_Barred.C dx (fBarred p v u)) → Do K H v d → Do K H u e → Pv T H (.ref a) (.barred d e)
  | paper {a dx : Addr} {fs : List (Str × V)} : H a = some (.ins T.c_Paper.C dx fs) → Pv T H (.ref a) .other
  | denial {a dx : Addr} {fs : List (Str × V)} : H a = some (.ins T.c_Denial.C dx fs) → Pv T H (.ref a) .other
  | dat {v : V} {d : PyData} : Dw K H v d → Pv T H v .other
  | fn {f : Addr} {o : Obj} : K.lookup f = some o → o.cls = .type "function" → Pv T H (.ref f) .other
theorem Pv.same {T : Tk K mg} {H H' : Hp} {v : V} {p : PVal} (s : Same H H') (h : Pv T H v p) : Pv T H' v p := by
  cases h with
  | whole e D => exact .whole (s _ _ e) (Do.same s _ _ D)
  | barred e D D2 => exact .barred (s _ _ e) (Do.same s _ _ D) (Do.same s _ _ D2)
  | paper e => exact .paper (s _ _ e)
  | denial e => exact .denial (s _ _ e)
  | dat D => exact .dat (Dw.same s _ _ D)
  | fn e c => exact .fn e c
theorem Tk.kdat (T : Tk K mg) (d : PyData) : Kn K (tyOf d) T.c_Whole.C T.c_Barred.C := by
  cases d with
  | none => exact T.kn
  | bool _ => exact T.kb
  | int _ => exact T.ki
  | str _ => exact T.ks
  | list _ => exact T.kl
  | tuple _ => exact T.kt
  | dict _ => exact T.kd
theorem kit_self {K : PySem.W.Frag} (t : Value) : PySem.W.kitOne K t t = some true := by
  unfold PySem.W.kitOne
  rw [if_pos (beq_self_eq_true t)]
/-- isinstance of either class -/
theorem Pv.ty {T : Tk K mg} {H : Hp} {v : V} {p : PVal} (h : Pv T H v p) : ∃ t, TyG K H v t ∧ PySem.W.kitOne K t (.ref T.c_Whole.C) = some (isW p) ∧ PySem.W.kitOne K t (.ref T.c_Barred.C) = some (isB p) := by
  cases h with
  | whole e D => exact ⟨_, .of (T.c_Whole.I.ty e), kit_self _, T.kW⟩
  | barred e D D2 => exact ⟨_, .of (T.c_Barred.I.ty e), T.kB, kit_self _⟩
  | paper e => exact ⟨_, .of (T.c_Paper.I.ty e), T.kP.w, T.kP.b⟩
  | denial e => exact ⟨_, .of (T.c_Denial.I.ty e), T.kD.w, T.kD.b⟩
  | dat D => exact ⟨_, .of D.ty, (T.kdat _).w, (T.kdat _).b⟩
  | fn e c => exact ⟨_, .fn e c, T.kf.w, T.kf.b⟩
theorem Dw.tyB {H : Hp} {v : V} {d : PyData} (h : Dw K H v d) : ∃ n, TyB K H v n := by
  cases h with
  | non => exact ⟨_, .non⟩
  | bl b => exact ⟨_, .bl b⟩
  | int i => exact ⟨_, .int i⟩
  | str x => exact ⟨_, .str x⟩
  | lst hs _ _ => exact ⟨_, .lst hs⟩
  | tup hs _ _ => exact ⟨_, .tup hs⟩
  | dic q => exact ⟨_, .dK q⟩
theorem kn_ne {C W : Addr} (h : PySem.W.kitOne K (.ref C) (.ref W) = some false) : C ≠ W := by
  intro e
  rw [e, kit_self] at h
  cases h
/-- type(v) is C -/
theorem Pv.is {T : Tk K mg} {H : Hp} {v : V} {p : PVal} (h : Pv T H v p) : ∃ t, TyW K H v t ∧ (∀ Q : VK, Q (.bl (isW p)) H → rIsC K t (.ref T.c_Whole.C) H Q) ∧ (∀ Q : VK, Q (.bl (isB p)) H → rIsC K t (.ref T.c_Barred.C) H Q) := by
  have go : ∀ {B C : Addr} {b : Bool}, PySem.W.makesIn K B = true → PySem.W.makesIn K C = true → decide (B = C) = b → ∀ Q : VK, Q (.bl b) H → rIsC K (.ref B) (.ref C) H Q := fun hB hC e Q q => ⟨_, rfl, .inr ⟨_, rfl, .inr ⟨hB, hC⟩, by rw [e]; exact q⟩⟩
  cases h with
  | whole e D => exact ⟨_, .ins e, go T.c_Whole.M.makes T.c_Whole.M.makes (decide_eq_true rfl), go T.c_Whole.M.makes T.c_Barred.M.makes (decide_eq_false (kn_ne T.kW))⟩
  | barred e D D2 => exact ⟨_, .ins e, go T.c_Barred.M.makes T.c_Whole.M.makes (decide_eq_false (kn_ne T.kB)), go T.c_Barred.M.makes T.c_Barred.M.makes (decide_eq_true rfl)⟩
  | paper e => exact ⟨_, .ins e, go T.c_Paper.M.makes T.c_Whole.M.makes (decide_eq_false (kn_ne T.kP.w)), go T.c_Paper.M.makes T.c_Barred.M.makes (decide_eq_false (kn_ne T.kP.b))⟩
  | denial e => exact ⟨_, .ins e, go T.c_Denial.M.makes T.c_Whole.M.makes (decide_eq_false (kn_ne T.kD.w)), go T.c_Denial.M.makes T.c_Barred.M.makes (decide_eq_false (kn_ne T.kD.b))⟩
  | dat D =>
    obtain ⟨n, tb⟩ := Dw.tyB D
    exact ⟨_, .of tb, fun Q q => ⟨_, rfl, .inl ⟨_, rfl, q⟩⟩, fun Q q => ⟨_, rfl, .inl ⟨_, rfl, q⟩⟩⟩
  | fn e c => exact ⟨_, .fn e c, fun Q q => ⟨_, rfl, .inl ⟨_, rfl, q⟩⟩, fun Q q => ⟨_, rfl, .inl ⟨_, rfl, q⟩⟩⟩
/-- what shows_whole answers -/
def bndP : PVal → Prop
  | .whole d => areI d = true → Bnd (intsOf d)
  | .barred d _ => areI d = true → Bnd (intsOf d)
  | .other => True
def shown (rs : List (List Int)) (w : Nat) (gs : List Int) : PVal → Bool
  | .whole d => rowI d (w : Nat) && decide (rs.map (fun r => dot r (intsOf d)) = gs)
  | .barred d e => barI rs w gs d e
  | .other => false
def spShows (T : Tk K mg) : Sp := fun vs H Q E => ∃ v u x d e p, vs = [v, u, x] ∧ Do K H v d ∧ Do K H u e ∧ Pv T H x p ∧
  (evenI d = false → Thrown E T.e_BadNumber.C "rows" H) ∧ (evenI d = true → rowI e (lenD d : Nat) = false → Thrown E T.e_BadNumber.C "goals" H) ∧
  (evenI d = true → rowI e (lenD d : Nat) = true → ∃ ds gs wd, parts d = some ds ∧ ds ≠ [] ∧ wd ≤ 1000 ∧ (∀ z ∈ ds, ∃ ms, IsR z ms ∧ ms.length = wd) ∧ IsR e gs ∧ gs.length = ds.length ∧ bndP p ∧ ∀ H', Same H H' → Q (.bl (shown (ds.map intsOf) wd gs p)) H')
theorem eqvInts : ∀ ns ms : List Int, PyData.eqvAll (ns.map PyData.int) (ms.map PyData.int) = decide (ns = ms)
  | [], [] => by simp [PyData.eqvAll]
  | [], m :: ms => by simp [PyData.eqvAll]
  | n :: ns, [] => by simp [PyData.eqvAll]
  | n :: ns, m :: ms => by
    rw [List.map_cons, List.map_cons, PyData.eqvAll, eqvInts ns ms]
    by_cases h1 : n = m <;> by_cases h2 : ns = ms <;> simp [PyData.eqv, h1, h2]
theorem eqvTup (ns ms : List Int) : PyData.eqv (.tuple (ns.map PyData.int)) (.tuple (ms.map PyData.int)) = decide (ns = ms) := by
  rw [PyData.eqv]; exact eqvInts ns ms
theorem eqvLst (ns ms : List Int) : PyData.eqv (.list (ns.map PyData.int)) (.list (ms.map PyData.int)) = decide (ns = ms) := by
  rw [PyData.eqv]; exact eqvInts ns ms
theorem shapedTup (ns : List Int) : SeqAt.shaped (.tuple (ns.map PyData.int)) = true := by
  have h1 := canInts ns
  have h2 := depthInts ns
  unfold SeqAt.shaped
  rw [Bool.and_eq_true]
  refine ⟨by simp [PyData.canLay0, h1], decide_eq_true ?_⟩
  simp only [PyData.depth]
  omega
end
section
variable {P : Program} {w : World} {K : PySem.W.Frag} {mg : Str → Option Value} {base : Heap}
theorem ok_shows_whole (T : Tk K mg) {f : Addr} {fd : FuncData} (F : Fun K "shows_whole" "shows_whole" s_shows_whole f fd) : FnOk P w K mg base (L2.CX P w) 7 f fd ["rows", "goals", "value"] (spShows T) := by
  refine F.okX sc_shows_whole (fun vs H Q E h => ?_) (fun cdv A outer s H vs Q E hr h => ?_)
  · obtain ⟨v, u, x, d, e, p, rfl, _⟩ := h
    rfl
  · obtain ⟨v, u, x, d, e, p, rfl, D, De, Px, k1, k2, k3⟩ := h
    refine ⟨_, (pss_cons (ps_expr (pe_callS (ok_check_goals T.toTv T.d_check_goals.F) (hr.mono (by decide)) rfl T.d_check_goals.m T.d_check_goals.k T.d_check_goals.b (fun σ => passAt (takes_of rfl rfl rfl rfl) σ) (pa_cons (pv 0) (pa_cons (pv 1) pa_nil))))
  (pss_cons (ps_if (pt_cmpR op_isC (pe_callTy call_tyW (by rfl) T.nm.n_type (by decide +kernel) (pa_cons (pv 2) pa_nil)) (pe_glob (v := .ref T.c_Whole.C) rfl T.c_Whole.m rfl) (nomark _))
  (pss_one (ps_ret (pe_and (pe_call (ok_is_row T.toTx T.d_is_row.F) (hr.mono (by decide)) rfl T.d_is_row.m T.d_is_row.k T.d_is_row.b .nil pass0 (pa_cons (pe_fld (pv 2) rfl) (pa_cons (pe_callB call_len_seq (by rfl) T.nm.n_len (by decide +kernel) (pa_cons (pe_ix ix_seq (pv 0) pe_int (fun _ _ => rfl)) pa_nil)) pa_nil))) (pe_one (pe_cmpR (op_eqD hr.units) (pe_call (ok_turned T.toTx T.d_turned.F) (hr.mono (by decide)) rfl T.d_turned.m T.d_turned.k T.d_turned.b .nil pass0 (pa_cons (pv 0) (pa_cons (pe_fld (pv 2) rfl) pa_nil))) (pe_callTy call_tuple_of (by rfl) T.nm.n_tuple (by decide +kernel) (pa_cons (pv 1) pa_nil)) (nomark _))))))
  pss_nil)
  (pss_one (ps_ret (pe_and (pe_cmpR op_isC (pe_callTy call_tyW (by rfl) T.nm.n_type (by decide +kernel) (pa_cons (pv 2) pa_nil)) (pe_glob (v := .ref T.c_Barred.C) rfl T.c_Barred.m rfl) (nomark _)) (pe_one (pe_call (ok_are_barred T.toTv T.d_are_barred.F) (hr.mono (by decide)) rfl T.d_are_barred.m T.d_are_barred.k T.d_are_barred.b .nil pass0 (pa_cons (pv 0) (pa_cons (pv 1) (pa_cons (pe_fld (pv 2) rfl) (pa_cons (pe_fld (pv 2) rfl) pa_nil))))))))))), ?_⟩
    refine ⟨_, rfl, _, rfl, v, u, d, e, rfl, D, De, fun ev rw_ H1 s1 => ?_, k1, k2⟩
    obtain ⟨ds, gs, wd, ed, hne, hw, hrows, hg, hgl, hb, k⟩ := k3 ev rw_
    obtain ⟨t, ty, tW, tB⟩ := (Px.same s1).is
    have kk : ∀ H', Same H H' → ∀ b, b = shown (ds.map intsOf) wd gs p → Q (.bl b) H' := fun H' s' b e => by rw [e]; exact k H' s'
    refine ⟨_, rfl, _, t, rfl, ty, ?_⟩
    dsimp only [tC]
    refine tW _ ⟨_, rfl, ?_⟩
    have D1 := Do.same s1 _ _ D
    have De1 := Do.same s1 _ _ De
    have Px1 := Px.same s1
    cases p with
    | other =>
      refine ⟨_, rfl, _, t, rfl, ty, ?_⟩
      dsimp only [tC]
      exact tB _ ⟨_, rfl, kk _ s1 _ rfl⟩
    | barred r m =>
      refine ⟨_, rfl, _, t, rfl, ty, ?_⟩
      dsimp only [tC]
      refine tB _ ⟨_, rfl, ?_⟩
      cases Px1 with
      | barred e1 Dr Dm =>
        refine ⟨_, rfl, _, rfl, _, rfl, _, _, _, _, _, rfl, e1, T.c_Barred.I.cl, T.nRow, rfl, _, rfl, _, _, _, _, _, rfl, e1, T.c_Barred.I.cl, T.nMod, rfl, ?_⟩
        exact ⟨_, _, _, _, d, e, r, m, ds, gs, wd, rfl, D1, De1, Dr, Dm, ed, hne, hw, hrows, hg, hgl, hb, fun H2 s2 => kk _ (s1.trans s2) _ rfl⟩
    | whole n =>
      cases Px1 with
      | whole e1 Dn =>
        obtain ⟨a, xs, rfl, hs, hl, ha⟩ := D1.seq ed
        cases ds with
        | nil => exact absurd rfl hne
        | cons d0 ds =>
          cases xs with
          | nil => cases ha
          | cons x0 xs =>
            obtain ⟨D0, _⟩ : Do K H1 x0 d0 ∧ True := by cases ha; exact ⟨by assumption, trivial⟩
            obtain ⟨m0, h0, h0l⟩ := hrows d0 List.mem_cons_self
            obtain ⟨a0, ys, rfl, hs0, _, ha0⟩ := D0.seq h0.1
            have hly : ys.length = wd := by have := ha0.length; rw [List.length_map, h0l] at this; exact this
            refine ⟨_, rfl, _, _, _, _, _, rfl, e1, T.c_Whole.I.cl, T.nNum, rfl, _, rfl, rIx_at (i := 0) hs rfl ⟨a0, ys, rfl, hs0, _, n, _, rfl, Dn, fun H2 s2 => ⟨_, rfl, ?_⟩⟩⟩
            rw [hly]
            refine ite2 (fun c => ?_) (fun c => ?_)
            · obtain ⟨n1, n2⟩ := rowI_parts c
              have arN : areI n = true := by rw [rowI, Bool.and_eq_true] at c; exact c.1
              have hn : IsR n (intsOf n) := ⟨n1, hb arN, by rw [n2]; exact hw⟩
              refine ⟨_, rfl, _, rfl, _, _, _, _, _, rfl, s2 _ _ e1, T.c_Whole.I.cl, T.nNum, rfl, _, _, d, n, _, intsOf n, rfl, Do.same s2 _ _ D1, Do.same s2 _ _ Dn, ed, hn, (fun z hz => ?_), fun H3 p s3 n3 q3 => ?_⟩
              · obtain ⟨ms, g1, g2⟩ := hrows z hz
                exact ⟨ms, g1, by rw [n2]; exact g2⟩
              have s13 := s1.trans (s2.trans s3)
              obtain ⟨q, rfl, hq, _⟩ := (Do.same s13 _ _ De).ints hg.1
              have fin : ∀ (H4 : Hp) (p4 : Addr), Same H H4 → SqT K H4 p ((((d0 :: ds).map fun x => dot (intsOf x) (intsOf n))).map V.int) → SqT K H4 p4 (gs.map V.int) → rEqD K (.ref p) (.ref p4) H4 Q := fun H4 p4 s4 t1 t2 =>
                ⟨_, _, .tup t1 (dpInts _), .tup t2 (dpInts _), shapedTup _, shapedTup _, kk _ s4 _ (by
                  show _ = (rowI n (wd : Nat) && decide _)
                  rw [eqvTup, c, Bool.true_and, List.map_map]
                  rfl)⟩
              obtain ⟨b, aq⟩ := q
              refine ⟨_, rfl, ?_⟩
              cases b
              · exact ⟨aq, _, rfl, .inr ⟨hq, fin _ _ s13 (SqT.of q3) hq⟩⟩
              · refine ⟨aq, _, rfl, .inl ⟨hq, fun p4 n4 => ?_⟩⟩
                exact fin _ _ (s13.trans (newO n4)) (Same.tup (newO n4) (SqT.of q3)) (SqT.of upd_same)
            · refine kk _ (s1.trans s2) _ ?_
              show false = (rowI n (wd : Nat) && _)
              have c' : rowI n (wd : Nat) = false := by cases z : rowI n (wd : Nat) with | false => rfl | true => exact absurd z c
              rw [c', Bool.false_and]
end
end K11

set_option Elab.async false
set_option linter.all false
set_option maxRecDepth 100000
set_option maxHeartbeats 4000000
/-! The law's own words: what are integers, what is right. -/
namespace K11
open PySem L2 SG
def spLAre (K : PySem.W.Frag) : Sp := fun vs H Q _ => ∃ v d m, vs = [v, .int m] ∧ Do K H v d ∧ ∀ H', Same H H' → Q (.bl (rowI d m)) H'
theorem any_all : ∀ ds : List PyData, (!ds.any (fun x => isBb x || !isIb x)) = ds.all isI
  | [] => rfl
  | d :: ds => by
    rw [List.any_cons, List.all_cons, ← any_all ds]
    cases d <;> cases ds.any (fun x => isBb x || !isIb x) <;> rfl
section
variable {P : Program} {w : World} {K : PySem.W.Frag} {mg : Str → Option Value} {base : Heap}
theorem ok_l_are_integers (T : Tk K mg) {f : Addr} {fd : FuncData} (F : Fun K "_law_are_integers" "_law_are_integers" s_l_are_integers f fd) : FnOk P w K mg base CX0 1 f fd ["row", "many"] (spLAre K) := by
  refine F.ok sc_l_are_integers (fun vs H Q E h => ?_) (fun cdv A outer s H vs Q E hr h => ?_)
  · obtain ⟨v, d, m, rfl, _⟩ := h
    rfl
  · obtain ⟨v, d, m, rfl, D, k⟩ := h
    refine ⟨_, (pss_cons (ps_if (PW.pt (pw_or (pt_not (pt_val (pe_callB call_isiT (by rfl) T.nm.n_isinstance (by decide +kernel) (pa_cons (pv 0) (pa_cons (pe_tup (pa_cons (pe_bltn (v := .ty "list") (by rfl) T.nm.n_list (by decide +kernel) rfl) (pa_cons (pe_bltn (v := .ty "tuple") (by rfl) T.nm.n_tuple (by decide +kernel) rfl) pa_nil))) pa_nil))))) (pw_or1 (pt_cmpR op_ne (pe_callB call_len_seq (by rfl) T.nm.n_len (by decide +kernel) (pa_cons (pv 0) pa_nil)) (pv 1) (nomark _)))))
  (pss_one (ps_ret pe_bl))
  pss_nil)
  (pss_one (ps_ret (pe_cmpR (op_eqNil hr.units0) (pe_lc (own := [("one", 2)]) (g := (gName 2)) rfl sc_l_are_integers.nd (pi_seq (pv 0)) (blkOk_by (N := ["row", "many", "one"]) (sc := defScope s_l_are_integers) (by decide +kernel)) (fun _ _ _ _ _ => pg_name (i := 2) sc_l_are_integers.nd rfl (Or.inl rfl)) (fun _ _ _ _ _ => pts_one (PW.pt (pw_or (pt_val (pe_callB (id := "isinstance") (r := rIsi K) call_isi (by rfl) T.nm.n_isinstance (by decide +kernel) (pa_cons (pv 2) (pa_cons (pe_bltn (v := .ty "bool") (by rfl) T.nm.n_bool (by decide +kernel) rfl) pa_nil)))) (pw_or1 (pt_not (pt_val (pe_callB (id := "isinstance") (r := rIsi K) call_isi (by rfl) T.nm.n_isinstance (by decide +kernel) (pa_cons (pv 2) (pa_cons (pe_bltn (v := .ty "int") (by rfl) T.nm.n_int (by decide +kernel) rfl) pa_nil))))))))) (fun _ _ _ _ _ => (pv 2))) (pe_lst pa_nil) (nomark _))))), ?_⟩
    refine ⟨_, rfl, (by show 2 ≤ sizeLine; decide), fun pT nT => ?_⟩
    have zT := newO nT (o := .tup [.ty "list", .ty "tuple"])
    obtain ⟨t, ty, t1, t2, t3⟩ := (Do.same zT _ _ D).ty
    refine ⟨v, pT, _, _, _, _, rfl, upd_same, .cons (.ty _) (.cons (.ty _) .nil), ty, t3, _, rfl, ?_⟩
    have kk : ∀ H', Same H H' → ∀ b, b = rowI d m → Q (.bl b) H' := fun H' s' b e => by rw [e]; exact k H' s'
    cases e : parts d with
    | none =>
      refine kk _ zT _ ?_
      rw [rowI, areI_no e]
      rfl
    | some ds =>
      obtain ⟨a, xs, rfl, hs, hl, ha⟩ := (Do.same zT _ _ D).seq e
      have hlen := ha.length
      refine ⟨_, rfl, a, xs, rfl, hs, _, rfl, rfl, _, rfl, ?_⟩
      rw [eqInt, hlen]
      refine ite2 (fun c => ?_) (fun c => ?_)
      · refine kk _ zT _ ?_
        have c' : decide ((ds.length : Int) = m) = false := by cases z : decide ((ds.length : Int) = m) with | false => rfl | true => rw [z] at c; cases c
        rw [rowI, e]
        show false = (_ && decide _)
        rw [c', Bool.and_false]
      · have c' : decide ((ds.length : Int) = m) = true := by cases z : decide ((ds.length : Int) = m) with | true => rfl | false => rw [z] at c; exact absurd rfl c
        dsimp only [tRet, tNext]
        refine lo_keep (fun x => isBb x || !isIb x) e (Do.same zT _ _ D) (fun R r => ⟨_, rfl, r⟩) (fun _ => rfl) (fun _ => rfl) (fun x e1 H' R s1 D1 hm r => ?_) fun L H' ys s1 nL q eE => ?_
        · obtain ⟨u, uy, u1, u2, u3⟩ := D1.ty
          refine ⟨_, rfl, _, _, _, _, _, rfl, .ty _, uy, u2, _, rfl, ?_⟩
          refine ite2 (fun z => ?_) (fun z => ?_)
          · have := r H' (Same.refl H')
            rw [z] at this
            exact this
          · refine ⟨_, rfl, _, _, _, _, _, rfl, .ty _, uy, u1, _, rfl, ?_⟩
            have := r H' (Same.refl H')
            rw [show isBb e1 = false from by cases y : isBb e1 with | false => rfl | true => exact absurd y z] at this
            exact this
        · refine ⟨by show 0 ≤ sizeLine; decide, fun p np => ⟨L, p, ys, rfl, rfl, SqL.of (newO np _ _ q), SqL.of upd_same, kk _ ((zT.trans s1).trans (newO np)) _ ?_⟩⟩
          rw [eE, rowI, e]
          show (!ds.any _) = (areI d && decide _)
          rw [c', Bool.and_true, areI, e]
          show (!ds.any _) = ds.all isI
          exact any_all ds
end
end K11

set_option Elab.async false
set_option linter.all false
set_option maxRecDepth 100000
set_option maxHeartbeats 4000000
namespace K11
open PySem L2 SG
def spLRight {K : PySem.W.Frag} {mg : Str → Option Value} (T : Tk K mg) : Sp := fun vs H Q _ => ∃ v u x d e p ds gs wd, vs = [v, u, x] ∧ Do K H v d ∧ Do K H u e ∧ Pv T H x p ∧
  parts d = some ds ∧ ds ≠ [] ∧ wd ≤ 1000 ∧ (∀ z ∈ ds, ∃ ms, IsR z ms ∧ ms.length = wd) ∧ IsR e gs ∧ gs.length = ds.length ∧ bndP p ∧ ∀ H', Same H H' → Q (.bl (shown (ds.map intsOf) wd gs p)) H'
section
variable {P : Program} {w : World} {K : PySem.W.Frag} {mg : Str → Option Value} {base : Heap}
theorem ok_l_is_right (T : Tk K mg) {f : Addr} {fd : FuncData} (F : Fun K "_law_is_right" "_law_is_right" s_l_is_right f fd) : FnOk P w K mg base CX0 2 f fd ["rows", "goals", "value"] (spLRight T) := by
  refine F.ok sc_l_is_right (fun vs H Q E h => ?_) (fun cdv A outer s H vs Q E hr h => ?_)
  · obtain ⟨v, u, x, d, e, p, ds, gs, wd, rfl, _⟩ := h
    rfl
  · obtain ⟨v, u, x, d, e, p, ds, gs, wd, rfl, D, De, Px, ed, hne, hw, hrows, hg, hgl, hb, k⟩ := h
    refine ⟨_, (pss_cons (ps_if (pt_val (pe_callB call_isG (by rfl) T.nm.n_isinstance (by decide +kernel) (pa_cons (pv 2) (pa_cons (pe_glob (v := .ref T.c_Whole.C) rfl T.c_Whole.m rfl) pa_nil))))
  (pss_cons (ps_if (pt_not (pt_val (pe_call (ok_l_are_integers T T.d_l_are_integers.F) (hr.mono (by decide)) rfl T.d_l_are_integers.m T.d_l_are_integers.k T.d_l_are_integers.b .nil pass0 (pa_cons (pe_fld (pv 2) rfl) (pa_cons (pe_callB call_len_seq (by rfl) T.nm.n_len (by decide +kernel) (pa_cons (pe_ix ix_seq (pv 0) pe_int (fun _ _ => rfl)) pa_nil)) pa_nil)))))
  (pss_one (ps_ret pe_bl))
  pss_nil)
  (pss_one (ps_ret (pe_cmpR (op_eqD hr.units) (pe_lc (own := [("row", 6)]) (g := (gName 6)) (tt := tYes) rfl sc_l_is_right.nd (pi_seq (pv 0)) (blkOk_by (N := ["rows", "goals", "value", "place", "mine", "its", "row", "goal"]) (sc := defScope s_l_is_right) (by decide +kernel)) (fun _ _ _ _ _ => pg_name (i := 6) sc_l_is_right.nd rfl (Or.inl rfl)) (fun _ _ _ _ _ => pts_nil) (fun _ _ _ _ _ => (pe_callB (id := "sum") (r := rSum K) (cr_sum rfl) (by rfl) T.nm.n_sum (by decide +kernel) (pa_cons (pe_lc (wi := SGZ.iZipP K (tCons (tVar 6) (tCons (tFld K (tVar 2) "numbers") tNil))) (own := [("mine", 4), ("its", 5)]) (g := (gTup K 2 (gCons (gName 4) (gCons (gName 5) gNil)))) (tt := tYes) rfl sc_l_is_right.nd (SGZ.pi_zipP (by rfl) T.nm.n_zip (pa_cons (pv 6) (pa_cons (pe_fld (pv 2) rfl) pa_nil))) (blkOk_by (N := ["rows", "goals", "value", "place", "mine", "its", "row", "goal"]) (by kernel_rfl)) (fun _ _ _ _ _ => pg_tup rfl (pgs_cons (pg_name (i := 4) sc_l_is_right.nd rfl (Or.inl rfl)) (pgs_cons (pg_name (i := 5) sc_l_is_right.nd rfl (Or.inl rfl)) pgs_nil))) (fun _ _ _ _ _ => pts_nil) (fun _ _ _ _ _ => (pe_op op_mulW (pv 4) (pv 5)))) pa_nil)))) (pe_callTy call_list_of (by rfl) T.nm.n_list (by decide +kernel) (pa_cons (pv 1) pa_nil)) (nomark _)))))
  pss_nil)
  (pss_cons (ps_if (PW.pt (pw_or (pt_not (pt_val (pe_callB call_isG (by rfl) T.nm.n_isinstance (by decide +kernel) (pa_cons (pv 2) (pa_cons (pe_glob (v := .ref T.c_Barred.C) rfl T.c_Barred.m rfl) pa_nil))))) (pw_or (pt_not (pt_val (pe_call (ok_l_are_integers T T.d_l_are_integers.F) (hr.mono (by decide)) rfl T.d_l_are_integers.m T.d_l_are_integers.k T.d_l_are_integers.b .nil pass0 (pa_cons (pe_fld (pv 2) rfl) (pa_cons (pe_callB call_len_seq (by rfl) T.nm.n_len (by decide +kernel) (pa_cons (pv 0) pa_nil)) pa_nil))))) (pw_or1 (pt_not (pt_val (pe_call (ok_l_are_integers T T.d_l_are_integers.F) (hr.mono (by decide)) rfl T.d_l_are_integers.m T.d_l_are_integers.k T.d_l_are_integers.b .nil pass0 (pa_cons (pe_tup (pa_cons (pe_fld (pv 2) rfl) pa_nil)) (pa_cons pe_int pa_nil)))))))))
  (pss_one (ps_ret pe_bl))
  pss_nil)
  (pss_cons (ps_if (pt_cmpR op_lt (pe_fld (pv 2) rfl) pe_int (nomark _))
  (pss_one (ps_ret pe_bl))
  pss_nil)
  (pss_cons (ps_for PassesOwn.never rfl (pi_range1 (by rfl) T.nm.n_range (pa_cons (pe_callB call_len_seq (by rfl) T.nm.n_len (by decide +kernel) (pa_cons (pe_ix ix_seq (pv 0) pe_int (fun _ _ => rfl)) pa_nil)) pa_nil)) (pg_name (i := 3) sc_l_is_right.nd rfl (Or.inr rfl))
  (pss_one (ps_if (pt_cmpR op_ne (pe_op op_modN (pe_callTy call_int1 (by rfl) T.nm.n_int (by decide +kernel) (pa_cons (pe_callB (cr_sum rfl) (by rfl) T.nm.n_sum (by decide +kernel) (pa_cons (pe_lc (own := [("mine", 4), ("row", 6)]) (g := (gTup K 2 (gCons (gName 4) (gCons (gName 6) gNil)))) (tt := tYes) rfl sc_l_is_right.nd (SGZ.pi_zipP (by rfl) T.nm.n_zip (pa_cons (pe_fld (pv 2) rfl) (pa_cons (pv 0) pa_nil))) (blkOk_by (N := ["rows", "goals", "value", "place", "mine", "its", "row", "goal"]) (sc := defScope s_l_is_right) (by decide +kernel)) (fun _ _ _ _ _ => pg_tup rfl (pgs_cons (pg_name (i := 4) sc_l_is_right.nd rfl (Or.inl rfl)) (pgs_cons (pg_name (i := 6) sc_l_is_right.nd rfl (Or.inl rfl)) pgs_nil))) (fun _ _ _ _ _ => pts_nil) (fun _ _ _ _ _ => (pe_op op_mulW (pv 4) (pe_ix (r := rIx K) ix_seq (pv 6) (pv 3) (fun _ _ => rfl))))) pa_nil)) pa_nil)) (pe_fld (pv 2) rfl)) pe_int (nomark _))
  (pss_one (ps_ret pe_bl))
  pss_nil)))
  (pss_one (ps_ret (pe_cmpR op_ne (pe_op op_modN (pe_callTy call_int1 (by rfl) T.nm.n_int (by decide +kernel) (pa_cons (pe_callB (cr_sum rfl) (by rfl) T.nm.n_sum (by decide +kernel) (pa_cons (pe_lc (own := [("mine", 4), ("goal", 7)]) (g := (gTup K 2 (gCons (gName 4) (gCons (gName 7) gNil)))) (tt := tYes) rfl sc_l_is_right.nd (SGZ.pi_zipP (by rfl) T.nm.n_zip (pa_cons (pe_fld (pv 2) rfl) (pa_cons (pv 1) pa_nil))) (blkOk_by (N := ["rows", "goals", "value", "place", "mine", "its", "row", "goal"]) (sc := defScope s_l_is_right) (by decide +kernel)) (fun _ _ _ _ _ => pg_tup rfl (pgs_cons (pg_name (i := 4) sc_l_is_right.nd rfl (Or.inl rfl)) (pgs_cons (pg_name (i := 7) sc_l_is_right.nd rfl (Or.inl rfl)) pgs_nil))) (fun _ _ _ _ _ => pts_nil) (fun _ _ _ _ _ => (pe_op op_mulW (pv 4) (pv 7)))) pa_nil)) pa_nil)) (pe_fld (pv 2) rfl)) pe_int (nomark _)))))))), ?_⟩
    obtain ⟨t, ty, tW, tB⟩ := Px.ty
    have kk : ∀ H', Same H H' → ∀ b, b = shown (ds.map intsOf) wd gs p → Q (.bl b) H' := fun H' s' b e => by rw [e]; exact k H' s'
    obtain ⟨a, xs, rfl, hs, hl, ha⟩ := D.seq ed
    have hlen := ha.length
    cases ds with
    | nil => exact absurd rfl hne
    | cons d0 ds =>
    cases xs with
    | nil => cases hlen
    | cons x0 xs =>
    obtain ⟨D0, _⟩ : Do K H x0 d0 ∧ True := by cases ha; exact ⟨by assumption, trivial⟩
    obtain ⟨m0, h0, h0l⟩ := hrows d0 List.mem_cons_self
    obtain ⟨a0, ys, rfl, hs0, _, ha0⟩ := D0.seq h0.1
    have hly : ys.length = wd := by have := ha0.length; rw [List.length_map, h0l] at this; exact this
    refine ⟨_, rfl, _, _, _, _, _, rfl, .own _, ty, tW, _, rfl, ?_⟩
    cases p with
    | other =>
      refine ⟨_, rfl, _, _, _, _, _, rfl, .own _, ty, tB, _, rfl, kk _ (Same.refl H) _ rfl⟩
    | whole n =>
      cases Px with
      | whole e1 Dn =>
        refine ⟨_, rfl, _, _, _, _, _, rfl, e1, T.c_Whole.I.cl, T.nNum, rfl, _, rfl, rIx_at (i := 0) hs rfl ⟨a0, ys, rfl, hs0, _, n, _, rfl, Dn, fun H2 s2 => ⟨_, rfl, ?_⟩⟩⟩
        rw [hly]
        refine ite2 (fun c => ?_) (fun c => ?_)
        · have c' : rowI n (wd : Nat) = false := by cases z : rowI n (wd : Nat) with | false => rfl | true => rw [z] at c; cases c
          refine kk _ s2 _ ?_
          show false = (rowI n (wd : Nat) && _)
          rw [c', Bool.false_and]
        · have c' : rowI n (wd : Nat) = true := by cases z : rowI n (wd : Nat) with | true => rfl | false => rw [z] at c; exact absurd rfl c
          obtain ⟨n1, n2⟩ := rowI_parts c'
          have arN : areI n = true := by rw [rowI, Bool.and_eq_true] at c'; exact c'.1
          have hn : IsR n (intsOf n) := ⟨n1, hb arN, by rw [n2]; exact hw⟩
          dsimp only [tRet, tNext, tOp]
          refine lo_data (fun x => .int (dot (intsOf x) (intsOf n))) ed (Do.same s2 _ _ D) (fun R r => ⟨_, rfl, r⟩) (fun _ => rfl) (fun x e2 H' R s3 D1 hm r => ?_) fun L H3 s3 nL q3 => ?_
          · obtain ⟨ms, g1, g2⟩ := hrows e2 hm
            dsimp only [tCB, tCons]
            refine lz_dot D1 (Do.same (s2.trans s3) _ _ Dn) g1 hn (by rw [g2, n2]) (fun R r => ⟨_, rfl, _, rfl, _, _, _, _, _, rfl, (s2.trans s3) _ _ e1, T.c_Whole.I.cl, T.nNum, rfl, r⟩) (fun _ _ => rfl) (fun x y H' R bx by_ r => ⟨_, rfl, _, rfl, _, _, rfl, rfl, wide_mul bx by_ (by decide) (by decide) (by decide), r⟩) fun L H4 s4 nL q => ?_
            refine ⟨L, _, rfl, SqL.of q, ?_⟩
            have := r H4 s4
            rw [intsOf_of g1.1] at this
            exact this
          · have s23 := s2.trans s3
            obtain ⟨q, rfl, hq, _⟩ := (Do.same s23 _ _ De).ints hg.1
            have hq' : SqL K H3 q.2 (gs.map V.int) ∨ SqT K H3 q.2 (gs.map V.int) := by
              obtain ⟨b, aq⟩ := q
              cases b
              · exact .inr hq
              · exact .inl hq
            refine ⟨_, rfl, q.2, _, rfl, hq', fun p4 n4 => ?_⟩
            have hL : H3 L = some (.lst ((((d0 :: ds).map fun x => dot (intsOf x) (intsOf n))).map V.int)) := by rw [q3, List.map_map]; rfl
            refine ⟨_, _, .lst (SqL.of (newO n4 _ _ hL)) (dpInts _), .lst (SqL.of upd_same) (dpInts _), shapedInts _, shapedInts _, kk _ (s23.trans (newO n4)) _ ?_⟩
            show _ = (rowI n (wd : Nat) && decide _)
            rw [eqvLst, c', Bool.true_and, List.map_map]
            rfl
    | barred r m =>
      cases Px with
      | @barred ax dx px vr vm r m e1 Dr Dm =>
      have n0 : ((d0 :: ds).map intsOf).length = (d0 :: ds).length := by rw [List.length_map]
      refine ⟨_, rfl, _, _, _, _, _, rfl, .own _, ty, tB, _, rfl, ?_⟩
      refine ⟨_, rfl, _, _, _, _, _, rfl, e1, T.c_Barred.I.cl, T.nRow, rfl, _, rfl, a, _, rfl, hs, _, r, _, rfl, Dr, fun H1 s1 => ⟨_, rfl, ?_⟩⟩
      rw [hlen]
      refine ite2 (fun c => ?_) (fun c => ?_)
      · have c' : rowI r ((d0 :: ds).length : Nat) = false := by cases z : rowI r ((d0 :: ds).length : Nat) with | false => rfl | true => rw [z] at c; cases c
        refine kk _ s1 _ ?_
        show false = barI _ wd gs r m
        rw [barI, n0, c']
        rfl
      have c' : rowI r ((d0 :: ds).length : Nat) = true := by cases z : rowI r ((d0 :: ds).length : Nat) with | true => rfl | false => rw [z] at c; exact absurd rfl c
      refine ⟨_, rfl, _, _, _, _, _, rfl, s1 _ _ e1, T.c_Barred.I.cl, T.nMod, rfl, by show 1 ≤ sizeLine; decide, fun p np => ?_⟩
      have sp := s1.trans (newO np (o := .tup [vm]))
      refine ⟨_, .tuple [m], 1, rfl, .tup (SqT.of upd_same) (by show 1 ≤ 1000; decide) (.cons (Do.same sp _ _ Dm) .nil), fun H2 s2 => ⟨_, rfl, ?_⟩⟩
      have s12 := sp.trans s2
      have eI : rowI (.tuple [m]) 1 = isI m := by cases m <;> rfl
      rw [eI]
      refine ite2 (fun c2 => ?_) (fun c2 => ?_)
      · have c3 : isI m = false := by cases z : isI m with | false => rfl | true => rw [z] at c2; cases c2
        refine kk _ s12 _ ?_
        show false = barI _ wd gs r m
        rw [barI, show within m (some 2) none = false from (by cases m <;> first | rfl | cases c3), Bool.and_false]
        rfl
      obtain ⟨j, rfl⟩ : ∃ j, m = .int j := by
        cases m with
        | int j => exact ⟨j, rfl⟩
        | _ => exact absurd rfl c2
      cases Do.isInt Dm
      refine ⟨_, rfl, _, _, _, _, _, rfl, s12 _ _ e1, T.c_Barred.I.cl, T.nMod, rfl, _, _, rfl, rfl, _, rfl, ?_⟩
      refine ite2 (fun c3 => ?_) (fun c3 => ?_)
      · refine kk _ s12 _ ?_
        have : ¬ (2 : Int) ≤ j := by have := of_decide_eq_true c3; omega
        show false = barI _ wd gs r (.int j)
        rw [barI, show within (.int j) (some 2) none = false from (by show (decide ((2 : Int) ≤ j) && true) = false; rw [decide_eq_false this]; rfl), Bool.and_false]
        rfl
      have hj : (2 : Int) ≤ j := by
        have : ¬ j < 2 := fun z => c3 (decide_eq_true z)
        omega
      have wj : within (.int j) (some 2) none = true := by show (decide ((2 : Int) ≤ j) && true) = true; rw [decide_eq_true hj]; rfl
      obtain ⟨r1, r2⟩ := rowI_parts c'
      have arR : areI r = true := by rw [rowI, Bool.and_eq_true] at c'; exact c'.1
      have lr : (intsOf r).length ≤ 1000 := by rw [r2, ← hlen]; exact hl
      have hr1 : IsR r (intsOf r) := ⟨r1, hb arR, lr⟩
      have isS : ∀ {H' : Hp}, Same H H' → (SqL K H' a (.ref a0 :: xs) ∨ SqT K H' a (.ref a0 :: xs)) := fun s' => hs.elim (fun q => .inl (s'.seq q)) fun q => .inr (Same.tup s' q)
      have is0 : ∀ {H' : Hp}, Same H H' → (SqL K H' a0 ys ∨ SqT K H' a0 ys) := fun s' => hs0.elim (fun q => .inl (s'.seq q)) fun q => .inr (Same.tup s' q)
      have colE : ∀ t, dot (intsOf r) (colOf ((d0 :: ds).map intsOf) t) = (List.zipWith (· * ·) (intsOf r) ((d0 :: ds).map fun x => (intsOf x).getD t 0)).sum := fun t => by
        rw [colOf, List.map_map]; rfl
      refine ⟨_, rfl, rIx_at (i := 0) (isS s12) rfl ⟨a0, ys, rfl, is0 s12, ?_⟩⟩
      rw [hly]
      refine ⟨(wd : Int), rfl, by omega, by omega, for_range (lo := 0) (n := wd) (fun t σ' H' => ∃ y, σ' = [some (.ref a), some u, some (.ref ax), y, none, none, none, none] ∧ Same H H' ∧ ∀ i, i < t → (dot (intsOf r) (colOf ((d0 :: ds).map intsOf) i)).fmod j = 0) ⟨none, rfl, s12, fun i hi => absurd hi (Nat.not_lt_zero i)⟩ ?_ ?_⟩
      · rintro t σ' H' ht ⟨y, rfl, s3, hall⟩
        dsimp only [gName, tIfS, tTest, tNext, tOp, tCB, tCons]
        refine lz_col (place := t) (w := wd) (Do.same s3 _ _ Dr) (Do.same s3 _ _ D) hr1 ed r2 hrows (fun R r => ⟨_, rfl, _, _, _, _, _, rfl, s3 _ _ e1, T.c_Barred.I.cl, T.nRow, rfl, _, rfl, r⟩) (fun _ _ => rfl) (fun x y2 e2 ms H4 R s4 D2 hm hml bx r => ?_) fun L H4 s4 nL q => ?_
        · obtain ⟨p2, rfl, hp2, _⟩ := D2.ints hm.1
          have hlt : t < ms.length := by rw [hml]; exact ht
          have em : ms.getD t 0 = ms[t] := by rw [List.getD_eq_getElem?_getD, List.getElem?_eq_getElem hlt]; rfl
          have hp3 : SqL K H4 p2.2 (ms.map V.int) ∨ SqT K H4 p2.2 (ms.map V.int) := by
            obtain ⟨b, ap⟩ := p2
            cases b
            · exact .inr hp2
            · exact .inl hp2
          refine ⟨_, rfl, _, rfl, _, rfl, ?_⟩
          rw [Int.zero_add]
          refine rIx_at hp3 (x := .int (ms.getD t 0)) (by rw [List.getElem?_map, List.getElem?_eq_getElem hlt, em]; rfl) ⟨_, _, rfl, rfl, wide_mul bx (hm.2.1 _ (by rw [em]; exact List.getElem_mem hlt)) (by decide) (by decide) (by decide), r⟩
        · have s34 := s3.trans s4
          refine ⟨L, _, rfl, SqL.of q, .inl ⟨_, rfl, _, rfl, _, _, _, _, _, rfl, s34 _ _ e1, T.c_Barred.I.cl, T.nMod, rfl, _, _, rfl, rfl, (by omega), rfl, _, rfl, ?_⟩⟩
          rw [← colE t, eqInt]
          refine ite2 (fun z => ?_) (fun z => ?_)
          · refine kk _ s34 _ ?_
            have z' : (!decide ((dot (intsOf r) (colOf ((d0 :: ds).map intsOf) t)).fmod j = 0)) = true := z
            show false = barI _ wd gs r (.int j)
            have an : ((comb (intsOf r) ((d0 :: ds).map intsOf) wd).map fun n => !decide (n.fmod (toI (.int j)) = 0)).any id = true := by
              rw [List.any_eq_true]
              exact ⟨true, List.mem_map.mpr ⟨_, List.mem_map.mpr ⟨t, List.mem_range.mpr ht, rfl⟩, z'⟩, rfl⟩
            rw [barI, n0, c', wj, an]
            rfl
          · refine ⟨_, rfl, s34, fun i hi => ?_⟩
            by_cases h : i = t
            · rw [h]
              by_cases y0 : (dot (intsOf r) (colOf ((d0 :: ds).map intsOf) t)).fmod j = 0
              · exact y0
              · exact absurd (show (!decide _) = true by rw [decide_eq_false y0]; rfl) z
            · exact hall i (by omega)
      · rintro σ' H' ⟨y, rfl, s3, hall⟩
        dsimp only [tRet, tOp, tCB, tCons]
        refine lz_dot (Do.same s3 _ _ Dr) (Do.same s3 _ _ De) hr1 hg (by rw [r2, hgl]) (fun R r => ⟨_, rfl, _, _, _, _, _, rfl, s3 _ _ e1, T.c_Barred.I.cl, T.nRow, rfl, _, rfl, r⟩) (fun _ _ => rfl) (fun x y H' R bx by_ r => ⟨_, rfl, _, rfl, _, _, rfl, rfl, wide_mul bx by_ (by decide) (by decide) (by decide), r⟩) fun L H4 s4 nL q => ?_
        have s34 := s3.trans s4
        refine ⟨L, _, rfl, SqL.of q, .inl ⟨_, rfl, _, rfl, _, _, _, _, _, rfl, s34 _ _ e1, T.c_Barred.I.cl, T.nMod, rfl, _, _, rfl, rfl, (by omega), rfl, kk _ s34 _ ?_⟩⟩
        show _ = barI _ wd gs r (.int j)
        have an : ((comb (intsOf r) ((d0 :: ds).map intsOf) wd).map fun n => !decide (n.fmod (toI (.int j)) = 0)).any id = false := by
          rw [List.any_eq_false]
          intro b hb
          obtain ⟨n, hn, e⟩ := List.mem_map.mp hb
          obtain ⟨i, hi, e'⟩ := List.mem_map.mp hn
          rw [← e, ← e', show (dot (intsOf r) (colOf ((d0 :: ds).map intsOf) i)).fmod (toI (.int j)) = 0 from hall i (List.mem_range.mp hi)]
          decide
        rw [barI, n0, c', wj, an, eqInt]
        rfl
end
end K11

set_option Elab.async false
set_option linter.all false
set_option maxRecDepth 100000
set_option maxHeartbeats 4000000
namespace SG
open PySem PySem.Spec PyProof.Rows L2
/-- the heap but for what stands at these addresses -/
def aw (H : Hp) (av : List Addr) : Hp := fun a => if a ∈ av then none else H a
theorem aw_in {H : Hp} {av : List Addr} {a : Addr} (h : a ∈ av) : aw H av a = none := if_pos h
theorem aw_ne {H : Hp} {av : List Addr} {a : Addr} (h : a ∉ av) : aw H av a = H a := if_neg h
theorem aw_same (H : Hp) (av : List Addr) : Same (aw H av) H := fun a o q => by
  by_cases e : a ∈ av
  · rw [aw_in e] at q; cases q
  · rw [aw_ne e] at q; exact q
theorem aw_step {H H' : Hp} {av : List Addr} (h : ∀ a o, a ∉ av → H a = some o → H' a = some o) : Same (aw H av) (aw H' av) := fun a o q => by
  by_cases e : a ∈ av
  · rw [aw_in e] at q; cases q
  · rw [aw_ne e] at q ⊢; exact h a o e q
theorem aw_sub {H : Hp} {av aw' : List Addr} (h : ∀ a ∈ aw', a ∈ av) : Same (aw H av) (aw H aw') := fun a o q => by
  by_cases e : a ∈ av
  · rw [aw_in e] at q; cases q
  · rw [aw_ne e] at q
    rw [aw_ne fun z => e (h a z)]
    exact q
theorem aw_max {G H : Hp} {av : List Addr} (s : Same G H) (n : ∀ a ∈ av, G a = none) : Same G (aw H av) := fun a o q => by
  rw [aw_ne fun z => by rw [n a z] at q; cases q]
  exact s a o q
/-- every value of a list is such data -/
def AllD (K : PySem.W.Frag) (G : Hp) (P : PyData → Prop) (xs : List V) : Prop := ∀ v ∈ xs, ∃ d, Do K G v d ∧ P d
theorem AllD.all {K : PySem.W.Frag} {G : Hp} {P : PyData → Prop} : ∀ {xs : List V}, AllD K G P xs → ∃ ds, DoAll K G xs ds ∧ ∀ d ∈ ds, P d
  | [], _ => ⟨[], .nil, fun d h => by cases h⟩
  | v :: xs, h => by
    obtain ⟨d, h1, h2⟩ := h v List.mem_cons_self
    obtain ⟨ds, h3, h4⟩ := AllD.all fun u hu => h u (List.mem_cons_of_mem _ hu)
    refine ⟨d :: ds, .cons h1 h3, fun e he => ?_⟩
    rcases List.mem_cons.mp he with z | z
    · rw [z]; exact h2
    · exact h4 e z
theorem AllD.step {K : PySem.W.Frag} {G G' : Hp} {P : PyData → Prop} {xs : List V} (s : Same G G') (h : AllD K G P xs) : AllD K G' P xs := fun v hv => by
  obtain ⟨d, h1, h2⟩ := h v hv
  exact ⟨d, Do.same s _ _ h1, h2⟩
end SG
namespace K11
open PySem L2 SG
theorem Aft.le {n m : Int} {H H' : Hp} {b c : Addr} {ns : List Int} {t t' r' : Int} (x : Aft n H H' b c ns t t' r') (h : t' ≤ t + m) : Aft m H H' b c ns t t' r' := ⟨x.bowl, x.but, x.lo, h⟩
/-- a list that was made on the way is written -/
theorem Aft.set {n : Int} {H H' : Hp} {b c L : Addr} {ns : List Int} {t t' r' : Int} {o : HO} (x : Aft n H H' b c ns t t' r') (hL : H L = none) (Lb : L ≠ b) (Lc : L ≠ c) : Aft n H (upd H' L o) b c ns t t' r' :=
  ⟨⟨by rw [upd_ne (Ne.symm Lb)]; exact x.bowl.hb, by rw [upd_ne (Ne.symm Lc)]; exact x.bowl.hc, x.bowl.ne, x.bowl.t0, x.bowl.r0⟩, fun a u ne q => by rw [upd_ne (ne_of_none q hL)]; exact x.but a u ne q, x.lo, x.hi⟩
def okE (d : PyData) : Prop := deep d ≤ 1 ∧ ∀ i, d = .int i → i.natAbs < 2 ^ 300
def spBent (K : PySem.W.Frag) : Sp := fun vs H Q _ => ∃ (b c : Addr) (ns : List Int) (t r : Int) (p : Addr) (ms : List Int), vs = [.ref b, .ref p] ∧ Bowl H b c ns t r ∧ t + 10 < 2 ^ 20 ∧ SqL K (aw H [b]) p (ms.map V.int) ∧ (∀ m ∈ ms, m.natAbs < 2 ^ 200) ∧ ms.length ≤ 48 ∧
  ∀ (H' : Hp) (v' : V) (d : PyData) (t' r' : Int), Aft 4 H H' b c ns t t' r' → Do K (aw H' [b]) v' d → deep d ≤ 3 → (areI d = true → Bnd (intsOf d)) → Q v' H'
theorem cut_len {xs : List V} (j : Nat) : (cutV xs none (some (j : Int)) ++ cutV xs (some ((j : Int) + 1)) none).length ≤ xs.length := by
  rw [List.length_append]
  unfold cutV
  rw [show ((j : Int) + 1) = ((j + 1 : Nat) : Int) from rfl, HT.sIx_nat, HT.sIx_nat]
  show ((xs.drop 0).take (min j xs.length - 0)).length + ((xs.drop (min (j + 1) xs.length)).take (xs.length - min (j + 1) xs.length)).length ≤ _
  simp only [List.length_take, List.length_drop]
  omega
theorem cut_mem {xs : List V} {v : V} {lo hi : Option Int} (h : v ∈ cutV xs lo hi) : v ∈ xs := List.mem_of_mem_drop (List.mem_of_mem_take h)
/-- where a row is being bent -/
def Jb (K : PySem.W.Frag) (H : Hp) (b c p : Addr) (ns ms : List Int) (t w : Int) (j : Nat) (k : Int) (σ : L2.St) (H' : Hp) : Prop := ∃ (L : Addr) (xs : List V) (t' r' : Int), σ = [some (.ref b), some (.ref p), some (.ref L), some (.int w), some (.int (j : Nat))] ∧ H L = none ∧ L ≠ b ∧ L ≠ c ∧ H' L = some (.lst xs) ∧
  AllD K (aw H' [b, L]) okE xs ∧ xs.length ≤ 49 ∧ (k ≤ w → xs = ms.map V.int ∧ t' ≤ t + 2) ∧ Aft 3 H H' b c ns t t' r'
theorem Jb.skip {K : PySem.W.Frag} {H H' : Hp} {b c p : Addr} {ns ms : List Int} {t w : Int} {j : Nat} {k : Int} {σ : L2.St} (h : Jb K H b c p ns ms t w j k σ H') : Jb K H b c p ns ms t w j (k + 1) σ H' := by
  obtain ⟨L, xs, t', r', e, h0, h1, h2, h3, h4, h5, h6, h7⟩ := h
  exact ⟨L, xs, t', r', e, h0, h1, h2, h3, h4, h5, fun z => h6 (by omega), h7⟩
theorem okI {i : Int} (h : i.natAbs < 2 ^ 300) : okE (.int i) := ⟨Nat.zero_le _, fun j e => by cases e; exact h⟩
theorem allInts {K : PySem.W.Frag} {G : Hp} {ms : List Int} (hm : ∀ m ∈ ms, m.natAbs < 2 ^ 200) : AllD K G okE (ms.map V.int) := fun v hv => by
  obtain ⟨m, h1, rfl⟩ := List.mem_map.mp hv
  exact ⟨_, .int m, okI (Nat.lt_of_lt_of_le (hm m h1) (by decide))⟩
theorem sq_aw {K : PySem.W.Frag} {H : Hp} {av : List Addr} {a : Addr} {xs : List V} (n : a ∉ av) (h : H a = some (.lst xs)) : SqL K (aw H av) a xs := SqL.of (by rw [aw_ne n]; exact h)
theorem st_aw {K : PySem.W.Frag} {H : Hp} {av : List Addr} {a : Addr} {xs : List V} (n : a ∉ av) (h : H a = some (.tup xs)) : SqT K (aw H av) a xs := SqT.of (by rw [aw_ne n]; exact h)
theorem ixN_nat {n j : Nat} (h : j < n) : ixN n (j : Int) = some j := by
  unfold ixN
  rw [if_pos (by omega), if_pos (by omega)]
  simp
theorem deepA_bound {ds : List PyData} {n : Nat} (h : ∀ d ∈ ds, deep d ≤ n) : deepA ds ≤ n := by
  induction ds with
  | nil => exact Nat.zero_le _
  | cons d ds ih =>
    rw [deepA]
    exact Nat.max_le.mpr ⟨h d List.mem_cons_self, ih fun e he => h e (List.mem_cons_of_mem _ he)⟩
theorem bnd_of {d : PyData} (h : ∀ ds, parts d = some ds → ∀ x ∈ ds, ∀ i, x = .int i → i.natAbs < 2 ^ 400) : Bnd (intsOf d) := by
  intro n hn
  cases e : parts d with
  | none => rw [intsOf, e] at hn; cases hn
  | some ds =>
    rw [intsOf, e] at hn
    obtain ⟨x, hx, ex⟩ := List.mem_map.mp hn
    cases x with
    | int i => rw [← ex]; exact h ds e _ hx i rfl
    | _ => rw [← ex]; exact Nat.pow_pos (n := 400) (by decide : 0 < 2)
section
variable {P : Program} {w : World} {K : PySem.W.Frag} {mg : Str → Option Value} {base : Heap}
theorem ok_l_bent (T : Tk K mg) {f : Addr} {fd : FuncData} (F : Fun K "_law_bent" "_law_bent" s_l_bent f fd) : FnOk P w K mg base CX0 3 f fd ["cask", "row"] (spBent K) := by
  refine F.ok sc_l_bent (fun vs H Q E h => ?_) (fun cdv A outer s H vs Q E hr h => ?_)
  · obtain ⟨b, c, ns, t, r, p, ms, rfl, _⟩ := h
    rfl
  · obtain ⟨b, c, ns, t, r, p, ms, rfl, B, ht, hp0, hm, hlm, k⟩ := h
    have hp : SqL K H p (ms.map V.int) := (aw_same _ _).seq hp0
    refine ⟨_, (pss_cons (ps_par3 (i := 2) (j := 3) (l := 4) (by rfl) sc_l_bent.nd rfl rfl rfl (by decide) (by decide) (by decide) rfl rfl rfl (pa_cons (pe_callTy call_list_of (by rfl) T.nm.n_list (by decide +kernel) (pa_cons (pv 1) pa_nil)) (pa_cons (pe_call (ok_dip T.nm T.d_l_tap.F) (hr.mono (by decide)) rfl T.d_l_tap.m T.d_l_tap.k T.d_l_tap.b .nil pass0 (pa_cons (pv 0) (pa_cons pe_int pa_nil))) (pa_cons (pe_call (ok_dip T.nm T.d_l_tap.F) (hr.mono (by decide)) rfl T.d_l_tap.m T.d_l_tap.k T.d_l_tap.b .nil pass0 (pa_cons (pv 0) (pa_cons (pe_op op_add (pe_callB call_len_seq (by rfl) T.nm.n_len (by decide +kernel) (pa_cons (pv 1) pa_nil)) pe_int) pa_nil))) pa_nil))) (by rfl))
  (pss_cons (ps_if (PW.pt (pw_and (pt_cmpR op_eq (pv 3) pe_int (nomark _)) (pw_and1 (pt_cmpR op_lt (pv 4) (pe_callB call_len_seq (by rfl) T.nm.n_len (by decide +kernel) (pa_cons (pv 2) pa_nil)) (nomark _)))))
  (pss_one (ps_asg (pe_op op_add (pe_ix ix_list (pv 2) (pv 4) (fun _ _ => rfl)) (pe_call (ok_choose T.toTx T.d_l_one_of.F) (hr.mono (by decide)) rfl T.d_l_one_of.m T.d_l_one_of.k T.d_l_one_of.b .nil pass0 (pa_cons (pv 0) (pa_cons (pe_lst (pa_cons pe_int (pa_cons (pe_un un_neg pe_int) (pa_cons pe_int (pa_cons (pe_un un_neg pe_int) (pa_cons (pe_op op_pow pe_int pe_int) pa_nil)))))) pa_nil)))) (pg_sub (pv 2) (pv 4) set_list)))
  pss_nil)
  (pss_cons (ps_if (PW.pt (pw_and (pt_cmpR op_eq (pv 3) pe_int (nomark _)) (pw_and1 (pt_cmpR op_lt (pv 4) (pe_callB call_len_seq (by rfl) T.nm.n_len (by decide +kernel) (pa_cons (pv 2) pa_nil)) (nomark _)))))
  (pss_one (ps_asg (pe_call (ok_choose T.toTx T.d_l_one_of.F) (hr.mono (by decide)) rfl T.d_l_one_of.m T.d_l_one_of.k T.d_l_one_of.b .nil pass0 (pa_cons (pv 0) (pa_cons (pe_lst (pa_cons pe_non (pa_cons pe_bl (pa_cons pe_bl (pa_cons (pe_callTy call_str_int (by rfl) T.nm.n_str (by decide +kernel) (pa_cons (pe_ix ix_list (pv 2) (pv 4) (fun _ _ => rfl)) pa_nil)) (pa_cons (pe_lst (pa_cons (pe_ix ix_list (pv 2) (pv 4) (fun _ _ => rfl)) pa_nil)) (pa_cons (pe_tup pa_nil) pa_nil))))))) pa_nil))) (pg_sub (pv 2) (pv 4) set_list)))
  pss_nil)
  (pss_cons (ps_if (pt_cmpR op_eq (pv 3) pe_int (nomark _))
  (pss_one (ps_expr (pe_bm PySem.F.plainAttrs_list PySem.F.slot_list_insert PySem.F.type_list_insert mt_insert (pv 2) (pa_cons (pv 4) (pa_cons (pe_call (ok_choose T.toTx T.d_l_one_of.F) (hr.mono (by decide)) rfl T.d_l_one_of.m T.d_l_one_of.k T.d_l_one_of.b .nil pass0 (pa_cons (pv 0) (pa_cons (pe_lst (pa_cons pe_int (pa_cons pe_int (pa_cons pe_non pa_nil)))) pa_nil))) pa_nil)))))
  pss_nil)
  (pss_cons (ps_if (pt_cmpR op_eq (pv 3) pe_int (nomark _))
  (pss_one (ps_set (i := 2) sc_l_bent.nd rfl (Or.inl rfl) (pe_op op_cat (pe_slice sl_list (pv 2) po_none (po_some (pv 4))) (pe_slice sl_list (pv 2) (po_some (pe_op op_add (pv 4) pe_int)) po_none))))
  pss_nil)
  (pss_cons (ps_if (pt_cmpR op_eq (pv 3) pe_int (nomark _))
  (pss_one (ps_set (i := 2) sc_l_bent.nd rfl (Or.inl rfl) (pe_revL (pv 2))))
  pss_nil)
  (pss_one (ps_ret (pe_ifExp (pt_cmpR op_eq (pv 3) pe_int (nomark _)) (pe_call (ok_choose T.toTx T.d_l_one_of.F) (hr.mono (by decide)) rfl T.d_l_one_of.m T.d_l_one_of.k T.d_l_one_of.b .nil pass0 (pa_cons (pv 0) (pa_cons (pe_lst (pa_cons pe_non (pa_cons pe_int (pa_cons pe_str (pa_cons pe_dnewK (pa_cons (pe_tup (pa_cons (pv 2) pa_nil)) (pa_cons pe_bl pa_nil))))))) pa_nil))) (pv 2)))))))))), ?_⟩
    have bc := B.ne
    refine cut (fun σ' H' => ∃ (w : Int) (j : Nat), 0 ≤ w ∧ w < 8 ∧ j ≤ ms.length ∧ Jb K H b c p ns ms t w j 0 σ' H') ?tail ?first
    case first =>
      intro nx hnx
      refine ⟨_, rfl, p, _, rfl, .inl hp, fun L nL => ?_⟩
      have Lb : L ≠ b := fun e => by rw [e, B.hb] at nL; cases nL
      have Lc : L ≠ c := fun e => by rw [e, B.hc] at nL; cases nL
      have x0 := (Aft.refl B).new nL (o := .lst (ms.map V.int))
      refine ⟨_, rfl, b, c, ns, t, r, 8, rfl, by decide, by decide, x0.bowl, by omega, fun v t1 r1 H1 v0 v1 x1 => ?_⟩
      have x01 := x0.trans x1
      have hp1 : SqL K H1 p (ms.map V.int) := ((aw_step fun a o n q => x01.but a o (by simpa using n) q).trans (aw_same _ [b])).seq hp0
      refine ⟨_, rfl, _, rfl, p, _, rfl, .inl hp1, _, _, rfl, rfl, b, c, ns, t1, r1, _, rfl, by omega, ?_, x01.bowl, by have := x01.hi; omega, fun u t2 r2 H2 u0 u1 x2 => ?_⟩
      · rw [List.length_map]
        exact Int.lt_of_le_of_lt (b := 49) (by omega) (by decide)
      have x02 := x01.trans x2
      obtain ⟨j, rfl⟩ := Int.eq_ofNat_of_zero_le u0
      refine ⟨_, _, _, rfl, hnx _ _ ⟨v, j, v0, v1, by rw [List.length_map] at u1; omega, L, _, t2, r2, rfl, nL, Lb, Lc, ?_, allInts hm, by rw [List.length_map]; omega, fun _ => ⟨rfl, by have := x02.hi; omega⟩, x02.le (by have := x02.hi; omega)⟩⟩
      exact x2.but L _ Lb (x1.but L _ Lb upd_same)
    rintro σ' H' ⟨wy, j, w0, w1, jm, J0⟩
    refine cut (fun σ' H' => Jb K H b c p ns ms t wy j 1 σ' H') ?t0 ?f0
    case f0 =>
      intro nx hnx
      obtain ⟨L, xs, t', r', rfl, h0, Lb, Lc, hL, hA, hlen, hk, x⟩ := J0
      have skip : Jb K H b c p ns ms t wy j 1 _ H' := Jb.skip ⟨L, xs, t', r', rfl, h0, Lb, Lc, hL, hA, hlen, hk, x⟩
      refine ⟨_, rfl, rfl, _, rfl, ite2 (fun e => ?_) (fun _ => hnx _ _ skip)⟩
      rw [eqInt] at e
      have e' := of_decide_eq_true e
      obtain ⟨rfl, ht'⟩ := hk (by omega)
      refine ⟨_, rfl, _, rfl, L, _, rfl, .inl (SqL.of hL), _, _, rfl, rfl, _, rfl, ite2 (fun g => ?_) (fun _ => hnx _ _ skip)⟩
      have hj : j < ms.length := by have := of_decide_eq_true g; rw [List.length_map] at this; omega
      refine ⟨_, rfl, _, rfl, L, _, _, _, rfl, rfl, SqL.of hL, atI_nat (v := .int ms[j]) (by rw [List.getElem?_map, List.getElem?_eq_getElem hj]; rfl), ?_⟩
      refine ⟨_, rfl, _, rfl, _, rfl, _, _, rfl, rfl, ⟨by decide, by decide, by decide⟩, by show 5 ≤ sizeLine; decide, fun p5 n5 => ?_⟩
      have x5 := x.new n5 (o := .lst [.int 1, .int (-1), .int 2, .int (-6), .int (10 ^ (30 : Int).toNat)])
      have p5b : p5 ≠ b := fun e => by rw [e, x.bowl.hb] at n5; cases n5
      refine ⟨b, c, ns, t', r', p5, _, rfl, x5.bowl, by omega, SqL.of upd_same, p5b, by decide, by decide, fun v t2 r2 H2 hv x2 => ?_⟩
      obtain ⟨z, rfl, hz⟩ : ∃ z : Int, v = .int z ∧ z.natAbs < 2 ^ 200 := by
        simp only [List.mem_cons, List.not_mem_nil, or_false] at hv
        rcases hv with e | e | e | e | e <;> exact ⟨_, e, by decide⟩
      have hL2 : H2 L = some (.lst (ms.map V.int)) := x2.but L _ Lb (by rw [upd_ne (ne_of_none hL n5)]; exact hL)
      refine ⟨_, _, rfl, rfl, _, rfl, _, rfl, L, _, _, j, rfl, rfl, hL2, ixN_nat (by rw [List.length_map]; exact hj), hnx _ _ ⟨L, _, t2, r2, rfl, h0, Lb, Lc, upd_same, ?_, by rw [List.length_set, List.length_map]; omega, fun z => by omega, ?_⟩⟩
      · intro v hv
        rcases List.mem_or_eq_of_mem_set hv with q | q
        · exact allInts hm v q
        · have := hm _ (List.getElem_mem hj)
          exact ⟨_, by rw [q]; exact .int _, okI (Nat.lt_of_le_of_lt (Int.natAbs_add_le _ _) (Nat.lt_of_lt_of_le (Nat.add_lt_add this hz) (by decide)))⟩
      · exact ((x5.trans x2).le (m := 3) (by have := x2.hi; omega)).set h0 Lb Lc
    rintro σ' H' J1
    refine cut (fun σ' H' => Jb K H b c p ns ms t wy j 2 σ' H') ?t1 ?f1
    case f1 =>
      intro nx hnx
      obtain ⟨L, xs, t', r', rfl, h0, Lb, Lc, hL, hA, hlen, hk, x⟩ := J1
      have skip : Jb K H b c p ns ms t wy j 2 _ H' := Jb.skip ⟨L, xs, t', r', rfl, h0, Lb, Lc, hL, hA, hlen, hk, x⟩
      refine ⟨_, rfl, rfl, _, rfl, ite2 (fun e => ?_) (fun _ => hnx _ _ skip)⟩
      rw [eqInt] at e
      have e' := of_decide_eq_true e
      obtain ⟨rfl, ht'⟩ := hk (by omega)
      refine ⟨_, rfl, _, rfl, L, _, rfl, .inl (SqL.of hL), _, _, rfl, rfl, _, rfl, ite2 (fun g => ?_) (fun _ => hnx _ _ skip)⟩
      have hj : j < ms.length := by have := of_decide_eq_true g; rw [List.length_map] at this; omega
      have hmj := hm _ (List.getElem_mem hj)
      have aj : atI (ms.map V.int) (j : Int) = some (.int ms[j]) := atI_nat (by rw [List.getElem?_map, List.getElem?_eq_getElem hj]; rfl)
      refine ⟨_, rfl, _, rfl, _, rfl, L, _, _, _, rfl, rfl, SqL.of hL, aj, _, rfl, ?_, ?_⟩
      · exact PySem.Flt.log2_lt_of (by decide) (Nat.lt_of_lt_of_le hmj (by decide : 2 ^ 200 ≤ 2 ^ 250)) |> fun z => Nat.lt_of_lt_of_le z (by decide)
      refine ⟨_, rfl, _, rfl, L, _, _, _, rfl, rfl, SqL.of hL, aj, by show 1 ≤ sizeLine; decide, fun p1 n1 => ?_⟩
      have x1 := x.new n1 (o := .lst [.int ms[j]])
      have p1b : p1 ≠ b := fun e => by rw [e, x.bowl.hb] at n1; cases n1
      have p1L : p1 ≠ L := fun e => by rw [e, hL] at n1; cases n1
      refine ⟨by show 0 ≤ sizeLine; decide, fun p2 n2 => ?_⟩
      have x2 := x1.new n2 (o := .tup [])
      have p2b : p2 ≠ b := fun e => by rw [e, x1.bowl.hb] at n2; cases n2
      have p2L : p2 ≠ L := fun e => by rw [e, upd_ne (Ne.symm p1L)] at n2; rw [hL] at n2; cases n2
      refine ⟨by show 6 ≤ sizeLine; decide, fun p5 n5 => ?_⟩
      have x5 := fun o => x2.new n5 (o := o)
      have p5b : p5 ≠ b := fun e => by rw [e, x2.bowl.hb] at n5; cases n5
      refine ⟨b, c, ns, t', r', p5, _, rfl, (x5 _).bowl, by omega, SqL.of upd_same, p5b, by show 0 < 6; decide, by show 6 ≤ 1000; decide, fun v t2 r2 H3 hv x6 => ?_⟩
      have hL3 : H3 L = some (.lst (ms.map V.int)) := x6.but L _ Lb (newO n5 _ _ (newO n2 _ _ (newO n1 _ _ hL)))
      have h13 : H3 p1 = some (.lst [.int ms[j]]) := x6.but p1 _ p1b (newO n5 _ _ (newO n2 _ _ upd_same))
      have h23 : H3 p2 = some (.tup []) := x6.but p2 _ p2b (newO n5 _ _ upd_same)
      refine ⟨_, rfl, _, rfl, L, _, _, j, rfl, rfl, hL3, ixN_nat (by rw [List.length_map]; exact hj), hnx _ _ ⟨L, _, t2, r2, rfl, h0, Lb, Lc, upd_same, ?_, by rw [List.length_set, List.length_map]; omega, fun z => by omega, ?_⟩⟩
      · have n12 : p1 ∉ [b, L] := by simp [p1b, p1L]
        have n22 : p2 ∉ [b, L] := by simp [p2b, p2L]
        intro u hu
        rcases List.mem_or_eq_of_mem_set hu with q | q
        · exact allInts hm u q
        · rw [q]
          have dj : Do K (aw (upd H3 L (.lst ((ms.map V.int).set j v))) [b, L]) (.ref p1) (.list [.int ms[j]]) := .lst (sq_aw n12 (by rw [upd_ne p1L]; exact h13)) (by show 1 ≤ 1000; decide) (.cons (.int _) .nil)
          have d2 : Do K (aw (upd H3 L (.lst ((ms.map V.int).set j v))) [b, L]) (.ref p2) (.tuple []) := .tup (st_aw n22 (by rw [upd_ne p2L]; exact h23)) (by show 0 ≤ 1000; decide) .nil
          simp only [List.mem_cons, List.not_mem_nil, or_false] at hv
          rcases hv with e | e | e | e | e | e
          · exact ⟨.none, by rw [e]; exact .non, Nat.zero_le _, fun i z => by cases z⟩
          · exact ⟨_, by rw [e]; exact .bl true, Nat.zero_le _, fun i z => by cases z⟩
          · exact ⟨_, by rw [e]; exact .bl false, Nat.zero_le _, fun i z => by cases z⟩
          · exact ⟨_, by rw [e]; exact .str _, Nat.zero_le _, fun i z => by cases z⟩
          · exact ⟨_, by rw [e]; exact e ▸ dj, by show deep (.list _) ≤ 1; rw [deep_of (ds := [.int ms[j]]) rfl]; show max 0 0 + 1 ≤ 1; decide, fun i z => by cases z⟩
          · exact ⟨_, by rw [e]; exact e ▸ d2, by rw [deep_of (ds := []) rfl]; show 0 + 1 ≤ 1; decide, fun i z => by cases z⟩
      · exact (((x5 _).trans x6).le (m := 3) (by have := x6.hi; omega)).set h0 Lb Lc
    rintro σ' H' J2
    refine cut (fun σ' H' => Jb K H b c p ns ms t wy j 3 σ' H') ?t2 ?f2
    case f2 =>
      intro nx hnx
      obtain ⟨L, xs, t', r', rfl, h0, Lb, Lc, hL, hA, hlen, hk, x⟩ := J2
      have skip : Jb K H b c p ns ms t wy j 3 _ H' := Jb.skip ⟨L, xs, t', r', rfl, h0, Lb, Lc, hL, hA, hlen, hk, x⟩
      refine ⟨_, rfl, rfl, _, rfl, ite2 (fun e => ?_) (fun _ => hnx _ _ skip)⟩
      rw [eqInt] at e
      have e' := of_decide_eq_true e
      obtain ⟨rfl, ht'⟩ := hk (by omega)
      refine ⟨_, rfl, .inl ⟨rfl, _, SqL.of hL⟩, _, rfl, _, rfl, by show 3 ≤ sizeLine; decide, fun p5 n5 => ?_⟩
      have x5 := x.new n5 (o := .lst [.int 0, .int 1, .non])
      have p5b : p5 ≠ b := fun e => by rw [e, x.bowl.hb] at n5; cases n5
      refine ⟨b, c, ns, t', r', p5, _, rfl, x5.bowl, by omega, SqL.of upd_same, p5b, by decide, by decide, fun v t2 r2 H2 hv x2 => ?_⟩
      have hL2 : H2 L = some (.lst (ms.map V.int)) := x2.but L _ Lb (by rw [upd_ne (ne_of_none hL n5)]; exact hL)
      have hjl := j
      refine ⟨L, _, _, v, rfl, rfl, hL2, by rw [List.length_map]; exact Nat.lt_of_le_of_lt hlm (by decide), by omega, ?_, hnx _ _ ⟨L, _, t2, r2, rfl, h0, Lb, Lc, upd_same, ?_, ?_, fun z => by omega, ?_⟩⟩
      · exact Int.lt_of_le_of_lt (b := 48) (by omega) (by decide)
      · intro u hu
        simp only [List.mem_append, List.mem_singleton] at hu
        rcases hu with (q | q) | q
        · exact allInts hm u (List.mem_of_mem_take q)
        · rw [q]
          simp only [List.mem_cons, List.not_mem_nil, or_false] at hv
          rcases hv with e | e | e
          · exact ⟨_, by rw [e]; exact .int 0, okI (by decide)⟩
          · exact ⟨_, by rw [e]; exact .int 1, okI (by decide)⟩
          · exact ⟨.none, by rw [e]; exact .non, Nat.zero_le _, fun i z => by cases z⟩
        · exact allInts hm u (List.mem_of_mem_drop q)
      · simp only [List.length_append, List.length_take, List.length_drop, List.length_map, List.length_singleton]
        omega
      · exact ((x5.trans x2).le (m := 3) (by have := x2.hi; omega)).set h0 Lb Lc
    rintro σ' H' J3
    refine cut (fun σ' H' => Jb K H b c p ns ms t wy j 4 σ' H') ?t3 ?f3
    case f3 =>
      intro nx hnx
      obtain ⟨L, xs, t', r', rfl, h0, Lb, Lc, hL, hA, hlen, hk, x⟩ := J3
      have skip : Jb K H b c p ns ms t wy j 4 _ H' := Jb.skip ⟨L, xs, t', r', rfl, h0, Lb, Lc, hL, hA, hlen, hk, x⟩
      refine ⟨_, rfl, rfl, _, rfl, ite2 (fun e => ?_) (fun _ => hnx _ _ skip)⟩
      rw [eqInt] at e
      have e' := of_decide_eq_true e
      obtain ⟨rfl, ht'⟩ := hk (by omega)
      refine ⟨_, rfl, _, rfl, _, rfl, L, _, rfl, SqL.of hL, fun p1 n1 => ?_⟩
      have x1 := fun o => x.new n1 (o := o)
      have L1 := ne_of_none hL n1
      refine ⟨_, rfl, _, rfl, _, _, rfl, rfl, _, rfl, L, _, rfl, SqL.of (newO n1 _ _ hL), fun p2 n2 => ?_⟩
      have x2 := fun o => (x1 _).new n2 (o := o)
      refine ⟨p1, p2, _, _, rfl, rfl, newO n2 _ _ upd_same, upd_same, ?_, fun p3 n3 => ?_⟩
      · have h1 := cutV_length (ms.map V.int) none (some (j : Int))
        have h2 := cutV_length (ms.map V.int) (some ((j : Int) + 1)) none
        exact Nat.le_trans (Nat.add_le_add h1 h2) (Nat.le_trans (Nat.add_le_add hlen hlen) (by decide))
      have x3 := fun o => (x2 _).new n3 (o := o)
      have p3b : p3 ≠ b := fun e => by rw [e, (x2 _).bowl.hb] at n3; cases n3
      have p3c : p3 ≠ c := fun e => by rw [e, (x2 _).bowl.hc] at n3; cases n3
      have f3 : H p3 = none := (x2 _).free B n3
      have L3 : L ≠ p3 := ne_of_none (newO n2 _ _ (newO n1 _ _ hL)) n3
      refine hnx _ _ ⟨p3, _, t', r', rfl, f3, p3b, p3c, upd_same, ?_, ?_, fun z => by omega, x3 _⟩
      · intro u hu
        rcases List.mem_append.mp hu with q | q
        · exact allInts hm u (cut_mem q)
        · exact allInts hm u (cut_mem q)
      · exact Nat.le_trans (cut_len j) hlen
    rintro σ' H' J4
    refine cut (fun σ' H' => Jb K H b c p ns ms t wy j 5 σ' H') ?t4 ?f4
    case f4 =>
      intro nx hnx
      obtain ⟨L, xs, t', r', rfl, h0, Lb, Lc, hL, hA, hlen, hk, x⟩ := J4
      have skip : Jb K H b c p ns ms t wy j 5 _ H' := Jb.skip ⟨L, xs, t', r', rfl, h0, Lb, Lc, hL, hA, hlen, hk, x⟩
      refine ⟨_, rfl, rfl, _, rfl, ite2 (fun e => ?_) (fun _ => hnx _ _ skip)⟩
      rw [eqInt] at e
      have e' := of_decide_eq_true e
      obtain ⟨rfl, ht'⟩ := hk (by omega)
      refine ⟨_, rfl, L, _, rfl, SqL.of hL, fun p3 n3 => ?_⟩
      have p3b : p3 ≠ b := fun e => by rw [e, x.bowl.hb] at n3; cases n3
      have p3c : p3 ≠ c := fun e => by rw [e, x.bowl.hc] at n3; cases n3
      exact hnx _ _ ⟨p3, _, t', r', rfl, x.free B n3, p3b, p3c, upd_same, fun u hu => allInts hm u (List.mem_reverse.mp hu), by rw [List.length_reverse]; exact hlen, fun z => by omega, x.new n3⟩
    rintro σ' H' ⟨L, xs, t', r', rfl, h0, Lb, Lc, hL, hA, hlen, hk, x⟩
    have hLb : L ∉ [b] := by simp [Lb]
    obtain ⟨ds, hds, hP⟩ := (hA.step (aw_sub (aw' := [b]) (by simp))).all
    have dlen := hds.length
    have dL : deep (.list ds) ≤ 2 := by
      rw [deep_of (ds := ds) rfl]
      exact Nat.succ_le_succ (deepA_bound fun d hd => (hP d hd).1)
    have bL : areI (.list ds) = true → Bnd (intsOf (.list ds)) := fun _ => bnd_of fun es e y hy i ei => by
      cases e
      exact Nat.lt_of_lt_of_le ((hP y hy).2 i ei) (Nat.pow_le_pow_right (by decide) (by decide))
    refine ⟨_, rfl, rfl, _, rfl, ite2 (fun e => ?_) (fun _ => ?_)⟩
    · rw [eqInt] at e
      have e' := of_decide_eq_true e
      obtain ⟨_, ht'⟩ := hk (by omega)
      refine ⟨_, rfl, fun pd nd => ?_⟩
      have x1 := x.new nd (o := .dK [])
      have pdb : pd ≠ b := fun e => by rw [e, x.bowl.hb] at nd; cases nd
      refine ⟨_, rfl, by show 1 ≤ sizeLine; decide, fun pt nt => ?_⟩
      have x2 := x1.new nt (o := .tup [.ref L])
      have ptb : pt ≠ b := fun e => by rw [e, x1.bowl.hb] at nt; cases nt
      refine ⟨by show 6 ≤ sizeLine; decide, fun p5 n5 => ?_⟩
      have x5 := x2.new n5 (o := .lst [.non, .int 7, .str "12", .ref pd, .ref pt, .bl true])
      have p5b : p5 ≠ b := fun e => by rw [e, x2.bowl.hb] at n5; cases n5
      refine ⟨b, c, ns, t', r', p5, _, rfl, x5.bowl, by omega, SqL.of upd_same, p5b, by show 0 < 6; decide, by show 6 ≤ 1000; decide, fun v t2 r2 H2 hv x6 => ?_⟩
      have up : ∀ a o, a ≠ b → H' a = some o → H2 a = some o := fun a o ne q => x6.but a o ne (newO n5 _ _ (newO nt _ _ (newO nd _ _ q)))
      have hd2 : H2 pd = some (.dK []) := x6.but pd _ pdb (newO n5 _ _ (newO nt _ _ upd_same))
      have ht2 : H2 pt = some (.tup [.ref L]) := x6.but pt _ ptb (newO n5 _ _ upd_same)
      have dl2 : Do K (aw H2 [b]) (.ref L) (.list ds) := .lst (sq_aw hLb (up L _ Lb hL)) (by omega) (DoAll.same (aw_step fun a o n q => up a o (by simpa using n) q) _ _ hds)
      have fin := fun d D e1 e2 => k H2 v d t2 r2 ((x5.trans x6).le (by have := x6.hi; omega)) D e1 e2
      simp only [List.mem_cons, List.not_mem_nil, or_false] at hv
      rcases hv with e | e | e | e | e | e
      · exact fin .none (by rw [e]; exact .non) (Nat.zero_le _) (fun z => by cases z)
      · exact fin _ (by rw [e]; exact .int 7) (Nat.zero_le _) (fun z => by cases z)
      · exact fin _ (by rw [e]; exact .str _) (Nat.zero_le _) (fun z => by cases z)
      · exact fin (.dict []) (by rw [e]; exact .dic (by rw [aw_ne (by simp [pdb])]; exact hd2)) (Nat.zero_le _) (fun z => by cases z)
      · refine fin (.tuple [.list ds]) (by rw [e]; exact .tup (st_aw (by simp [ptb]) ht2) (by show 1 ≤ 1000; decide) (.cons dl2 .nil)) ?_ (fun z => by cases z)
        rw [deep_of (ds := [.list ds]) rfl]
        exact Nat.succ_le_succ (Nat.max_le.mpr ⟨dL, Nat.zero_le _⟩)
      · exact fin _ (by rw [e]; exact .bl true) (Nat.zero_le _) (fun z => by cases z)
    · exact ⟨_, rfl, k _ _ (.list ds) t' r' (x.le (by have := x.hi; omega)) (.lst (sq_aw hLb hL) (by omega) hds) (by omega) bL⟩
end
end K11

set_option Elab.async false
set_option linter.all false
set_option maxRecDepth 100000
set_option maxHeartbeats 4000000
/-! Comprehensions that draw. -/
namespace K11
open PySem L2 SG
section
variable {K : PySem.W.Frag} {wi : TI} {te : TE} {i : Nat} {vs : List Nat} {σ : L2.St} {H : Hp} {Q : VK} {b c : Addr} {ns : List Int} {t r : Int} {n : Nat} {lo hi : Int}
def Pd (H : Hp) (b c : Addr) (ns : List Int) (t lo hi : Int) (L : Addr) (j : Nat) (H' : Hp) : Prop := ∃ t' r' zs, Aft j H H' b c ns t t' r' ∧ H' L = some (.lst ((zs : List Int).map V.int)) ∧ zs.length = j ∧ ∀ z ∈ zs, lo ≤ z ∧ z ≤ hi
theorem pd_start (B : Bowl H b c ns t r) {L : Addr} (hL : H L = none) : Pd H b c ns t lo hi L 0 (upd H L (.lst [])) :=
  ⟨t, r, [], (Aft.refl B).new hL, upd_same, rfl, fun z hz => by cases hz⟩
theorem pd_turn (B : Bowl H b c ns t r) (hn : n ≤ 50) (ht : t + n < 2 ^ 20 - 1) (hw : ∀ x, wipe ((wipe σ vs).set i (some x)) vs = wipe σ vs) {x : V} {j : Nat} (hj : j < n)
    (he : ∀ (H' : Hp) (t1 r1 : Int) (R : VK), Aft j H H' b c ns t t1 r1 → t1 + 1 < 2 ^ 20 → (∀ v H'' t2 r2, lo ≤ v → v ≤ hi → Aft 1 H' H'' b c ns t1 t2 r2 → R (.int v) H'') → te ((wipe σ vs).set i (some x)) H' R)
    {L : Addr} (hL : H L = none) {H' : Hp} (p : Pd H b c ns t lo hi L j H') :
    gName i x (wipe σ vs) H' fun σ2 H2 => wipe σ2 vs = wipe σ vs ∧ tYes σ2 H2 fun bb H3 =>
      if bb = true then te σ2 H3 fun y H4 => ∃ acc, H4 L = some (.lst acc) ∧ acc.length < sizeLine ∧ Pd H b c ns t lo hi L (j + 1) (upd H4 L (.lst (acc ++ [y]))) else Pd H b c ns t lo hi L (j + 1) H3 := by
  obtain ⟨t', r', zs, x1, q, hz, hb⟩ := p
  have Lb : L ≠ b := fun e => by rw [e, B.hb] at hL; cases hL
  have Lc : L ≠ c := fun e => by rw [e, B.hc] at hL; cases hL
  refine ⟨hw x, ?_⟩
  refine he H' t' r' _ x1 (by have := x1.hi; omega) fun v H'' t2 r2 v0 v1 x2 => ?_
  have q2 := x2.but L _ Lb q
  refine ⟨_, q2, ?_, t2, r2, zs ++ [v], ?_, ?_, by rw [List.length_append, hz]; rfl, fun z hzm => ?_⟩
  · rw [List.length_map, hz]
    exact Nat.lt_of_lt_of_le (by omega : j < 51) (by decide)
  · have := (x1.trans x2).set (o := .lst ((zs.map V.int) ++ [.int v])) hL Lb Lc
    exact this.le (by have := this.hi; push_cast; omega)
  · rw [upd_same, List.map_append]; rfl
  · rcases List.mem_append.mp hzm with e | e
    · exact hb z e
    · rw [List.mem_singleton.mp e]; exact ⟨v0, v1⟩
/-- [.. for x in range(n)] -/
theorem lc_draws (B : Bowl H b c ns t r) (hn : n ≤ 50) (ht : t + n < 2 ^ 20 - 1) (hwi : ∀ R : It → Hp → Prop, R (Itr 0 n) H → wi σ H R) (hw : ∀ x, wipe ((wipe σ vs).set i (some x)) vs = wipe σ vs)
    (he : ∀ (j : Nat) (H' : Hp) (t1 r1 : Int) (R : VK), j < n → Aft j H H' b c ns t t1 r1 → t1 + 1 < 2 ^ 20 → (∀ v H'' t2 r2, lo ≤ v → v ≤ hi → Aft 1 H' H'' b c ns t1 t2 r2 → R (.int v) H'') → te ((wipe σ vs).set i (some (.int (0 + (j : Nat))))) H' R)
    (k : ∀ (L : Addr) (H' : Hp) (t' r' : Int) (zs : List Int), Aft n H H' b c ns t t' r' → H L = none → L ≠ b → H' L = some (.lst (zs.map V.int)) → zs.length = n → (∀ z ∈ zs, lo ≤ z ∧ z ≤ hi) → Q (.ref L) H') : tLc wi (gName i) tYes te vs σ H Q := by
  refine hwi _ fun L hL => ?_
  have Lb : L ≠ b := fun e => by rw [e, B.hb] at hL; cases hL
  refine lc_range (lo := 0) (n := n) (Pd H b c ns t lo hi L) (pd_start B hL) (fun j H' hj p => pd_turn B hn ht hw hj (fun H' t1 r1 R x1 h1 h2 => he j H' t1 r1 R hj x1 h1 h2) hL p) fun H' ⟨t', r', zs, x1, q, hz, hb⟩ => k L H' t' r' zs x1 hL Lb q hz hb
/-- [.. for x in a list], its list at L -/
theorem lc_drawsL {Qd : Hp → Prop} {L : Addr} {a : Addr} {xs : List V} (B : Bowl H b c ns t r) (hn : xs.length ≤ 50) (ht : t + xs.length < 2 ^ 20 - 1) (hs : SqL K H a xs) (ab : a ≠ b) (hL : H L = none) (hw : ∀ x, wipe ((wipe σ vs).set i (some x)) vs = wipe σ vs)
    (he : ∀ (x : V) (j : Nat) (H' : Hp) (t1 r1 : Int) (R : VK), j < xs.length → Aft j H H' b c ns t t1 r1 → t1 + 1 < 2 ^ 20 → (∀ v H'' t2 r2, lo ≤ v → v ≤ hi → Aft 1 H' H'' b c ns t1 t2 r2 → R (.int v) H'') → te ((wipe σ vs).set i (some x)) H' R)
    (k : ∀ (H' : Hp) (t' r' : Int) (zs : List Int), Aft xs.length H H' b c ns t t' r' → L ≠ b → H' L = some (.lst (zs.map V.int)) → zs.length = xs.length → (∀ z ∈ zs, lo ≤ z ∧ z ≤ hi) → Qd H') :
    ∃ W : Nat → Nat → Hp → Prop, (∃ m, W 0 m (upd H L (.lst []))) ∧ ∀ k m H, W k m H →
      ((Itl K a).stop k H ∧ Qd H) ∨ ((Itl K a).go k H ∧ ∃ Nx : Hp → Prop, (∀ H', Nx H' → ∃ m', m' < m ∧ W (k + 1) m' H') ∧ ∀ x H', (Itl K a).yld k H x H' → gName i x (wipe σ vs) H' fun σ2 H2 => wipe σ2 vs = wipe σ vs ∧ tYes σ2 H2 fun b H3 =>
        if b = true then te σ2 H3 fun y H4 => ∃ acc, H4 L = some (.lst acc) ∧ acc.length < sizeLine ∧ Nx (upd H4 L (.lst (acc ++ [y]))) else Nx H3) := by
  have Lb : L ≠ b := fun e => by rw [e, B.hb] at hL; cases hL
  refine lc_list (K := K) (a := a) (xs := xs) (Pd H b c ns t lo hi L) (pd_start B hL) (fun j H' _ ⟨_, _, _, x1, _⟩ => x1.but.seq ab hs) (fun j x H' hx p => pd_turn B hn ht hw (List.getElem?_eq_some_iff.mp hx).1 (fun H' t1 r1 R x1 h1 h2 => he x j H' t1 r1 R (List.getElem?_eq_some_iff.mp hx).1 x1 h1 h2) hL p) fun H' ⟨t', r', zs, x1, q, hz, hb⟩ => k H' t' r' zs x1 Lb q hz hb
end
/-- a list of rows that is being drawn -/
def Pr (K : PySem.W.Frag) (H : Hp) (b c : Addr) (ns : List Int) (t lo hi : Int) (m : Nat) (L : Addr) (j : Nat) (H' : Hp) : Prop := ∃ t' r' acc rs, Aft (j * m : Nat) H H' b c ns t t' r' ∧ H' L = some (.lst acc) ∧ DoAll K (aw H' [b, L]) acc ((rs : List (List Int)).map fun r => .list (r.map PyData.int)) ∧ rs.length = j ∧ ∀ r ∈ rs, r.length = m ∧ ∀ z ∈ r, lo ≤ z ∧ z ≤ hi
section
variable {K : PySem.W.Frag} {wi : TI} {te : TE} {i : Nat} {vs : List Nat} {σ : L2.St} {H : Hp} {Q : VK} {b c : Addr} {ns : List Int} {t r : Int} {n m : Nat} {lo hi : Int}
/-- [[.. draws ..] for x in range(n)] -/
theorem lc_drawsR (B : Bowl H b c ns t r) (hn : n ≤ 50) (hm : m ≤ 50) (ht : t + (n * m : Nat) < 2 ^ 20 - 1) (hwi : ∀ R : It → Hp → Prop, R (Itr 0 n) H → wi σ H R) (hw : ∀ x, wipe ((wipe σ vs).set i (some x)) vs = wipe σ vs)
    (he : ∀ (x : V) (j : Nat) (H' : Hp) (t1 r1 : Int) (R : VK), j < n → Bowl H' b c ns t1 r1 → t1 ≤ t + (j * m : Nat) → (∀ L' H'' t2 r2 zs, Aft m H' H'' b c ns t1 t2 r2 → H' L' = none → H'' L' = some (.lst ((zs : List Int).map V.int)) → zs.length = m → (∀ z ∈ zs, lo ≤ z ∧ z ≤ hi) → R (.ref L') H'') → te ((wipe σ vs).set i (some x)) H' R)
    (k : ∀ (L : Addr) (H' : Hp) (t' r' : Int) (rs : List (List Int)), Aft (n * m : Nat) H H' b c ns t t' r' → H L = none → L ≠ b → Do K (aw H' [b]) (.ref L) (.list (rs.map fun r => .list (r.map PyData.int))) → rs.length = n → (∀ r ∈ rs, r.length = m ∧ ∀ z ∈ r, lo ≤ z ∧ z ≤ hi) → Q (.ref L) H') : tLc wi (gName i) tYes te vs σ H Q := by
  refine hwi _ fun L hL => ?_
  have Lb : L ≠ b := fun e => by rw [e, B.hb] at hL; cases hL
  have Lc : L ≠ c := fun e => by rw [e, B.hc] at hL; cases hL
  refine lc_range (lo := 0) (n := n) (Pr K H b c ns t lo hi m L) ⟨t, r, [], [], by rw [Nat.zero_mul]; exact (Aft.refl B).new hL, upd_same, .nil, rfl, fun z hz => by cases hz⟩ (fun j H' hj ⟨t', r', acc, rs, x1, q, da, hl, hb⟩ => ?_) fun H' ⟨t', r', acc, rs, x1, q, da, hl, hb⟩ => ?_
  · refine ⟨hw _, ?_⟩
    have hlen := da.length
    rw [List.length_map, hl] at hlen
    refine he _ j H' t' r' _ hj x1.bowl (by have := x1.hi; omega) fun L' H'' t2 r2 zs x2 nL' q' hz hzb => ?_
    have q2 := x2.but L _ Lb q
    have L'L : L' ≠ L := fun e => by rw [e, q] at nL'; cases nL'
    have L'b : L' ≠ b := fun e => by rw [e, x1.bowl.hb] at nL'; cases nL'
    refine ⟨_, q2, ?_, t2, r2, acc ++ [.ref L'], rs ++ [zs], ?_, upd_same, ?_, by rw [List.length_append, hl]; rfl, fun r' hr => ?_⟩
    · rw [hlen]
      exact Nat.lt_of_lt_of_le (by omega : j < 51) (by decide)
    · have := (x1.trans x2).set (o := .lst (acc ++ [.ref L'])) hL Lb Lc
      refine this.le ?_
      have := this.hi
      rw [Nat.succ_mul]
      push_cast at this ⊢
      omega
    · rw [List.map_append]
      have st : Same (aw H' [b, L]) (aw (upd H'' L (.lst (acc ++ [.ref L']))) [b, L]) := aw_step fun a o n q => by
        simp at n
        rw [upd_ne n.2]; exact x2.but a o n.1 q
      refine DoAll.snoc (DoAll.same st _ _ da) (.lst (sq_aw (by simp [L'b, L'L]) (by rw [upd_ne L'L]; exact q')) (by rw [List.length_map, hz]; omega) (doAllInts zs))
    · rcases List.mem_append.mp hr with e | e
      · exact hb _ e
      · rw [List.mem_singleton.mp e]; exact ⟨hz, hzb⟩
  · have hlen := da.length
    rw [List.length_map, hl] at hlen
    exact k L H' t' r' rs x1 hL Lb (.lst (sq_aw (by simp [Lb]) q) (by omega) (DoAll.same (aw_sub (by simp)) _ _ da)) hl hb
end
end K11

set_option Elab.async false
set_option linter.all false
set_option maxRecDepth 100000
set_option maxHeartbeats 4000000
namespace K11
open PySem L2 SG
def rowsD (rs : List (List Int)) : PyData := .list (rs.map fun r => .list (r.map PyData.int))
theorem do_lst {K : PySem.W.Frag} {G : Hp} {v : V} {ns : List Int} (D : Do K G v (.list (ns.map PyData.int))) : ∃ a, v = .ref a ∧ SqL K G a (ns.map V.int) := by
  cases D with
  | lst hs hl ha => rw [doInts ha] at hs; exact ⟨_, rfl, hs⟩
/-- the numbers, or None -/
def NumV (K : PySem.W.Frag) (G : Hp) (v : V) : Option (List Int) → Prop
  | some n => ∃ a, v = .ref a ∧ SqL K G a (n.map V.int)
  | none => v = .non
/-- what a case is -/
structure Case (rs : List (List Int)) (wd : Nat) (gs : List Int) (nums : Option (List Int)) (ws : List Int) (m : Int) : Prop where
  h1 : rs ≠ []
  h2 : rs.length ≤ 4
  hw : wd ≤ 3
  hr : ∀ r ∈ rs, r.length = wd ∧ ∀ z ∈ r, z.natAbs < 2 ^ 100
  hg : gs.length = rs.length ∧ ∀ z ∈ gs, z.natAbs < 2 ^ 100
  hn : ∀ n, nums = some n → n.length = wd ∧ (∀ z ∈ n, z.natAbs < 2 ^ 100) ∧ gs = rs.map fun r => dot r n
  hz : nums = none → ∃ g0 gt ws', gs = g0 :: gt ∧ g0 = 1 - dot ws' gt
  hs : ws.length = rs.length ∧ ∀ z ∈ ws, z.natAbs < 2 ^ 100
  hm : m.natAbs < 2 ^ 100
  m2 : 2 ≤ m
def spCase (K : PySem.W.Frag) : Sp := fun vs H Q _ => ∃ (b c : Addr) (ns : List Int) (t r : Int), vs = [.ref b] ∧ Bowl H b c ns t r ∧ t + 60 < 2 ^ 20 ∧
  ∀ (H' : Hp) (t' r' : Int) (U : Addr) (vr vg vn vw : V) (rs : List (List Int)) (wd : Nat) (gs : List Int) (nums : Option (List Int)) (ws : List Int) (m : Int), Aft 40 H H' b c ns t t' r' → H' U = some (.tup [vr, vg, vn, vw, .int m]) → U ≠ b →
    Do K (aw H' [b]) vr (rowsD rs) → Do K (aw H' [b]) vg (.list (gs.map PyData.int)) → NumV K (aw H' [b]) vn nums → Do K (aw H' [b]) vw (.list (ws.map PyData.int)) → Case rs wd gs nums ws m → Q (.ref U) H'
theorem Aft.ext {n : Int} {H H' H'' : Hp} {b c : Addr} {ns : List Int} {t t' r' : Int} (x : Aft n H H' b c ns t t' r') (s : Same H' H'') : Aft n H H'' b c ns t t' r' := ⟨x.bowl.same s, fun a o ne q => s _ _ (x.but a o ne q), x.lo, x.hi⟩
theorem aw_ext {H H' : Hp} {b : Addr} (s : Same H H') : Same (aw H [b]) (aw H' [b]) := aw_step fun a o _ q => s _ _ q
theorem aw_but {H H' : Hp} {b : Addr} (x : But b H H') : Same (aw H [b]) (aw H' [b]) := aw_step fun a o n q => x a o (by simpa using n) q
theorem dot_cons (x y : Int) (a b : List Int) : dot (x :: a) (y :: b) = x * y + dot a b := by rw [dot, List.zipWith_cons_cons, List.sum_cons]; rfl
theorem dot_nil (a : List Int) : dot [] a = 0 := by rw [dot, List.zipWith_nil_left]; rfl
theorem dot_nil' (a : List Int) : dot a [] = 0 := by rw [dot, List.zipWith_nil_right]; rfl
theorem dot_bound {A B : Nat} : ∀ {a b : List Int}, (∀ z ∈ a, z.natAbs ≤ A) → (∀ z ∈ b, z.natAbs ≤ B) → (dot a b).natAbs ≤ a.length * (A * B)
  | [], b, _, _ => by rw [dot_nil]; exact Nat.zero_le _
  | x :: a, [], _, _ => by rw [dot_nil']; exact Nat.zero_le _
  | x :: a, y :: b, ha, hb => by
    rw [dot_cons, List.length_cons, Nat.succ_mul]
    have h1 := dot_bound (fun z hz => ha z (List.mem_cons_of_mem _ hz)) (fun z hz => hb z (List.mem_cons_of_mem _ hz))
    have h2 : (x * y).natAbs ≤ A * B := by
      rw [Int.natAbs_mul]
      exact Nat.mul_le_mul (ha x List.mem_cons_self) (hb y List.mem_cons_self)
    exact Nat.le_trans (Int.natAbs_add_le _ _) (by omega)
theorem rep_flat (n : Nat) (z : Int) : (List.replicate n [V.int z]).flatten = (List.replicate n z).map V.int := by
  induction n with
  | zero => rfl
  | succ n ih => rw [List.replicate_succ, List.replicate_succ, List.flatten_cons, ih]; rfl
theorem cut1 (xs : List V) : cutV xs (some 1) none = xs.drop 1 := by
  unfold cutV
  rw [show ((1 : Int)) = ((1 : Nat) : Int) from rfl, HT.sIx_nat]
  show ((xs.drop (min 1 xs.length)).take (xs.length - min 1 xs.length)) = _
  cases xs with
  | nil => rfl
  | cons x xs =>
    have h : min 1 (x :: xs).length = 1 := by rw [List.length_cons]; omega
    rw [h, List.take_of_length_le (by rw [List.length_drop]; exact Nat.le_refl _)]
theorem DoAll.drop {K : PySem.W.Frag} {G : Hp} : ∀ {xs : List V} {ds : List PyData} (n : Nat), DoAll K G xs ds → DoAll K G (xs.drop n) (ds.drop n)
  | _, _, 0, h => by simpa using h
  | _, _, n + 1, .nil => by simp; exact .nil
  | _, _, n + 1, .cons _ r => by simpa using DoAll.drop n r
theorem abs_le {z : Int} {n : Nat} (h : -(n : Int) ≤ z ∧ z ≤ n) : z.natAbs ≤ n := by omega
section
variable {P : Program} {w : World} {K : PySem.W.Frag} {mg : Str → Option Value} {base : Heap}
theorem ok_l_case (T : Tk K mg) {f : Addr} {fd : FuncData} (F : Fun K "_law_case" "_law_case" s_l_case f fd) : FnOk P w K mg base CX0 3 f fd ["cask"] (spCase K) := by
  refine F.ok sc_l_case (fun vs H Q E h => ?_) (fun cdv A outer s H vs Q E hr h => ?_)
  · obtain ⟨b, c, ns, t, r, rfl, _⟩ := h
    rfl
  · obtain ⟨b, c, ns, t, r, rfl, B, ht, k⟩ := h
    refine ⟨_, (pss_cons (ps_asg (pe_call (ok_choose T.toTx T.d_l_one_of.F) (hr.mono (by decide)) rfl T.d_l_one_of.m T.d_l_one_of.k T.d_l_one_of.b .nil pass0 (pa_cons (pv 0) (pa_cons (pe_lst (pa_cons (pe_tup (pa_cons pe_int (pa_cons pe_int pa_nil))) (pa_cons (pe_tup (pa_cons pe_int (pa_cons pe_int pa_nil))) (pa_cons (pe_tup (pa_cons pe_int (pa_cons pe_int pa_nil))) (pa_cons (pe_tup (pa_cons pe_int (pa_cons pe_int pa_nil))) (pa_cons (pe_tup (pa_cons pe_int (pa_cons pe_int pa_nil))) (pa_cons (pe_tup (pa_cons pe_int (pa_cons pe_int pa_nil))) pa_nil))))))) pa_nil))) (pg_tup (by rfl) (pgs_cons (pg_name (i := 1) sc_l_case.nd rfl (Or.inl rfl)) (pgs_cons (pg_name (i := 2) sc_l_case.nd rfl (Or.inr rfl)) pgs_nil))))
  (pss_cons (ps_set (i := 3) sc_l_case.nd rfl (Or.inr rfl) (pe_lc (own := [("row", 11)]) (g := (gName 11)) (tt := tYes) rfl sc_l_case.nd (pi_range1 (by rfl) T.nm.n_range (pa_cons (pv 1) pa_nil)) (blkOk_by (N := ["cask", "many", "wide", "rows", "numbers", "goals", "modulus", "weights", "first", "goal", "place", "row", "mine", "its", "weight"]) (sc := defScope s_l_case) (by decide +kernel)) (fun _ _ _ _ _ => pg_name (i := 11) sc_l_case.nd rfl (Or.inl rfl)) (fun _ _ _ _ _ => pts_nil) (fun _ _ _ _ _ => (pe_lc (own := [("place", 10)]) (g := (gName 10)) (tt := tYes) rfl sc_l_case.nd (pi_range1 (by rfl) T.nm.n_range (pa_cons (pv 2) pa_nil)) (blkOk_by (N := ["cask", "many", "wide", "rows", "numbers", "goals", "modulus", "weights", "first", "goal", "place", "row", "mine", "its", "weight"]) (by kernel_rfl)) (fun _ _ _ _ _ => pg_name (i := 10) sc_l_case.nd rfl (Or.inl rfl)) (fun _ _ _ _ _ => pts_nil) (fun _ _ _ _ _ => (pe_op op_sub (pe_call (ok_dip T.nm T.d_l_tap.F) (hr.mono (by decide)) rfl T.d_l_tap.m T.d_l_tap.k T.d_l_tap.b .nil pass0 (pa_cons (pv 0) (pa_cons pe_int pa_nil))) pe_int))))))
  (pss_cons (ps_set (i := 4) sc_l_case.nd rfl (Or.inr rfl) (pe_lc (own := [("place", 10)]) (g := (gName 10)) (tt := tYes) rfl sc_l_case.nd (pi_range1 (by rfl) T.nm.n_range (pa_cons (pv 2) pa_nil)) (blkOk_by (N := ["cask", "many", "wide", "rows", "numbers", "goals", "modulus", "weights", "first", "goal", "place", "row", "mine", "its", "weight"]) (sc := defScope s_l_case) (by decide +kernel)) (fun _ _ _ _ _ => pg_name (i := 10) sc_l_case.nd rfl (Or.inl rfl)) (fun _ _ _ _ _ => pts_nil) (fun _ _ _ _ _ => (pe_op op_sub (pe_call (ok_dip T.nm T.d_l_tap.F) (hr.mono (by decide)) rfl T.d_l_tap.m T.d_l_tap.k T.d_l_tap.b .nil pass0 (pa_cons (pv 0) (pa_cons pe_int pa_nil))) pe_int))))
  (pss_cons (ps_setLc (i := 5) (own := [("row", 11)]) (g := (gName 11)) (tt := tYes) rfl sc_l_case.nd rfl rfl (sw_true rfl rfl (by rfl) (by decide +kernel)) (pi_seq (pv 3)) (blkOk_by (N := ["cask", "many", "wide", "rows", "numbers", "goals", "modulus", "weights", "first", "goal", "place", "row", "mine", "its", "weight"]) (sc := defScope s_l_case) (by decide +kernel)) (fun _ _ _ _ _ => pg_name (i := 11) sc_l_case.nd rfl (Or.inl rfl)) (fun _ _ _ _ _ => pts_nil) (fun _ _ _ _ _ => (pe_callB (id := "sum") (r := rSum K) (cr_sum rfl) (by rfl) T.nm.n_sum (by decide +kernel) (pa_cons (pe_lc (wi := SGZ.iZipP K (tCons (tVar 11) (tCons (tVar 4) tNil))) (own := [("mine", 12), ("its", 13)]) (g := (gTup K 2 (gCons (gName 12) (gCons (gName 13) gNil)))) (tt := tYes) rfl sc_l_case.nd (SGZ.pi_zipP (by rfl) T.nm.n_zip (pa_cons (pv 11) (pa_cons (pv 4) pa_nil))) (blkOk_by (N := ["cask", "many", "wide", "rows", "numbers", "goals", "modulus", "weights", "first", "goal", "place", "row", "mine", "its", "weight"]) (by kernel_rfl)) (fun _ _ _ _ _ => pg_tup rfl (pgs_cons (pg_name (i := 12) sc_l_case.nd rfl (Or.inl rfl)) (pgs_cons (pg_name (i := 13) sc_l_case.nd rfl (Or.inl rfl)) pgs_nil))) (fun _ _ _ _ _ => pts_nil) (fun _ _ _ _ _ => (pe_op op_mulW (pv 12) (pv 13)))) pa_nil))))
  (pss_cons (ps_if (pt_cmpR op_eq (pe_call (ok_dip T.nm T.d_l_tap.F) (hr.mono (by decide)) rfl T.d_l_tap.m T.d_l_tap.k T.d_l_tap.b .nil pass0 (pa_cons (pv 0) (pa_cons pe_int pa_nil))) pe_int (nomark _))
  (pss_one (ps_ret (pe_tup (pa_cons (pv 3) (pa_cons (pv 5) (pa_cons (pv 4) (pa_cons (pe_op op_rep (pe_lst (pa_cons pe_int pa_nil)) (pv 1)) (pa_cons pe_int pa_nil))))))))
  pss_nil)
  (pss_cons (ps_asg (pe_tup (pa_cons (pe_call (ok_choose T.toTx T.d_l_one_of.F) (hr.mono (by decide)) rfl T.d_l_one_of.m T.d_l_one_of.k T.d_l_one_of.b .nil pass0 (pa_cons (pv 0) (pa_cons (pe_lst (pa_cons pe_int (pa_cons pe_int (pa_cons pe_int (pa_cons pe_int (pa_cons (pe_op op_pow pe_int pe_int) pa_nil)))))) pa_nil))) (pa_cons (pe_lc (own := [("row", 11)]) (g := (gName 11)) (tt := tYes) rfl sc_l_case.nd (pi_list (pe_slice sl_list (pv 3) (po_some pe_int) po_none)) (blkOk_by (N := ["cask", "many", "wide", "rows", "numbers", "goals", "modulus", "weights", "first", "goal", "place", "row", "mine", "its", "weight"]) (sc := defScope s_l_case) (by decide +kernel)) (fun _ _ _ _ _ => pg_name (i := 11) sc_l_case.nd rfl (Or.inl rfl)) (fun _ _ _ _ _ => pts_nil) (fun _ _ _ _ _ => (pe_op op_sub (pe_call (ok_dip T.nm T.d_l_tap.F) (hr.mono (by decide)) rfl T.d_l_tap.m T.d_l_tap.k T.d_l_tap.b .nil pass0 (pa_cons (pv 0) (pa_cons pe_int pa_nil))) pe_int))) pa_nil))) (pg_tup (by rfl) (pgs_cons (pg_name (i := 6) sc_l_case.nd rfl (Or.inr rfl)) (pgs_cons (pg_name (i := 7) sc_l_case.nd rfl (Or.inr rfl)) pgs_nil))))
  (pss_cons (ps_setLc (i := 8) (own := [("place", 10)]) (g := (gName 10)) (tt := tYes) rfl sc_l_case.nd rfl rfl (sw_true rfl rfl (by rfl) (by decide +kernel)) (pi_range1 (by rfl) T.nm.n_range (pa_cons (pv 2) pa_nil)) (blkOk_by (N := ["cask", "many", "wide", "rows", "numbers", "goals", "modulus", "weights", "first", "goal", "place", "row", "mine", "its", "weight"]) (sc := defScope s_l_case) (by decide +kernel)) (fun _ _ _ _ _ => pg_name (i := 10) sc_l_case.nd rfl (Or.inr rfl)) (fun _ _ _ _ _ => pts_nil) (fun _ _ _ _ _ => (pe_op op_sub (pe_op op_mulW (pv 6) (pe_op op_sub (pe_call (ok_dip T.nm T.d_l_tap.F) (hr.mono (by decide)) rfl T.d_l_tap.m T.d_l_tap.k T.d_l_tap.b .nil pass0 (pa_cons (pv 0) (pa_cons pe_int pa_nil))) pe_int)) (pe_callB (id := "sum") (r := rSum K) (cr_sum rfl) (by rfl) T.nm.n_sum (by decide +kernel) (pa_cons (pe_lc (wi := SGZ.iZipP K (tCons (tVar 7) (tCons (tSl (rSlL K) (tVar 3) (tPart (tC (.int 1))) tNoPart) tNil))) (own := [("weight", 14), ("row", 11)]) (g := (gTup K 2 (gCons (gName 14) (gCons (gName 11) gNil)))) (tt := tYes) rfl sc_l_case.nd (SGZ.pi_zipP (by rfl) T.nm.n_zip (pa_cons (pv 7) (pa_cons (pe_slice (r := rSlL K) sl_list (pv 3) (po_some pe_int) po_none) pa_nil))) (blkOk_by (N := ["cask", "many", "wide", "rows", "numbers", "goals", "modulus", "weights", "first", "goal", "place", "row", "mine", "its", "weight"]) (by kernel_rfl)) (fun _ _ _ _ _ => pg_tup rfl (pgs_cons (pg_name (i := 14) sc_l_case.nd rfl (Or.inl rfl)) (pgs_cons (pg_name (i := 11) sc_l_case.nd rfl (Or.inl rfl)) pgs_nil))) (fun _ _ _ _ _ => pts_nil) (fun _ _ _ _ _ => (pe_op op_mulW (pv 14) (pe_ix (r := rIx K) ix_seq (pv 11) (pv 10) (fun _ _ => rfl))))) pa_nil)))))
  (pss_cons (ps_set (i := 9) sc_l_case.nd rfl (Or.inl rfl) (pe_op op_sub pe_int (pe_callB (cr_sum rfl) (by rfl) T.nm.n_sum (by decide +kernel) (pa_cons (pe_lc (own := [("weight", 14), ("goal", 9)]) (g := (gTup K 2 (gCons (gName 14) (gCons (gName 9) gNil)))) (tt := tYes) rfl sc_l_case.nd (SGZ.pi_zipP (by rfl) T.nm.n_zip (pa_cons (pv 7) (pa_cons (pe_slice sl_list (pv 5) (po_some pe_int) po_none) pa_nil))) (blkOk_by (N := ["cask", "many", "wide", "rows", "numbers", "goals", "modulus", "weights", "first", "goal", "place", "row", "mine", "its", "weight"]) (sc := defScope s_l_case) (by decide +kernel)) (fun _ _ _ _ _ => pg_tup rfl (pgs_cons (pg_name (i := 14) sc_l_case.nd rfl (Or.inl rfl)) (pgs_cons (pg_name (i := 9) sc_l_case.nd rfl (Or.inl rfl)) pgs_nil))) (fun _ _ _ _ _ => pts_nil) (fun _ _ _ _ _ => (pe_op op_mulW (pv 14) (pv 9)))) pa_nil))))
  (pss_one (ps_ret (pe_tup (pa_cons (pe_op op_cat (pe_lst (pa_cons (pv 8) pa_nil)) (pe_slice sl_list (pv 3) (po_some pe_int) po_none)) (pa_cons (pe_op op_cat (pe_lst (pa_cons (pv 9) pa_nil)) (pe_slice sl_list (pv 5) (po_some pe_int) po_none)) (pa_cons pe_non (pa_cons (pe_op op_cat (pe_lst (pa_cons pe_int pa_nil)) (pv 7)) (pa_cons (pv 6) pa_nil)))))))))))))))), ?_⟩
    refine cut (fun σ' H' => ∃ (n m : Nat) (t' r' : Int), σ' = [some (.ref b), some (.int (n : Nat)), some (.int (m : Nat)), none, none, none, none, none, none, none, none, none, none, none, none] ∧ 1 ≤ n ∧ n ≤ 4 ∧ m ≤ 3 ∧ Aft 1 H H' b c ns t t' r') ?tail ?first
    case first =>
      intro nx hnx
      refine ⟨_, rfl, by show 2 ≤ sizeLine; decide, fun p1 n1 => ?_⟩
      have x1 := (Aft.refl B).new n1 (o := .tup [.int 2, .int 2])
      refine ⟨by show 2 ≤ sizeLine; decide, fun p2 n2 => ?_⟩
      have x2 := x1.new n2 (o := .tup [.int 1, .int 3])
      refine ⟨by show 2 ≤ sizeLine; decide, fun p3 n3 => ?_⟩
      have x3 := x2.new n3 (o := .tup [.int 3, .int 1])
      refine ⟨by show 2 ≤ sizeLine; decide, fun p4 n4 => ?_⟩
      have x4 := x3.new n4 (o := .tup [.int 4, .int 3])
      refine ⟨by show 2 ≤ sizeLine; decide, fun p5 n5 => ?_⟩
      have x5 := x4.new n5 (o := .tup [.int 1, .int 0])
      refine ⟨by show 2 ≤ sizeLine; decide, fun p6 n6 => ?_⟩
      have x6 := x5.new n6 (o := .tup [.int 2, .int 0])
      refine ⟨by show 6 ≤ sizeLine; decide, fun p7 n7 => ?_⟩
      have x7 := x6.new n7 (o := .lst [.ref p1, .ref p2, .ref p3, .ref p4, .ref p5, .ref p6])
      have nb : ∀ {p : Addr} {H' : Hp} {t' r' : Int}, Bowl H' b c ns t' r' → H' p = none → p ≠ b := fun B' n e => by rw [e, B'.hb] at n; cases n
      refine ⟨b, c, ns, t, r, p7, _, rfl, x7.bowl, by omega, SqL.of upd_same, nb x6.bowl n7, by show 0 < 6; decide, by show 6 ≤ 1000; decide, fun v t8 r8 H8 hv x8 => ?_⟩
      have fin : ∀ (p : Addr) (n m : Nat), v = .ref p → H8 p = some (.tup [.int (n : Nat), .int (m : Nat)]) → 1 ≤ n → n ≤ 4 → m ≤ 3 → _ := fun p n m e q h1 h2 h3 =>
        (show gTup K 2 (gCons (gName 1) (gCons (gName 2) gNil)) v (L2.start ["cask", "many", "wide", "rows", "numbers", "goals", "modulus", "weights", "first", "goal", "place", "row", "mine", "its", "weight"] [.ref b]) H8 nx from
          ⟨p, _, e, SqT.of q, rfl, _, _, rfl, _, _, rfl, rfl, hnx _ _ ⟨n, m, t8, r8, rfl, h1, h2, h3, (x7.trans x8).le (by have := x8.hi; have := x8.lo; omega)⟩⟩)
      have u7 : ∀ p o, p ≠ b → (upd (upd (upd (upd (upd (upd H p1 (.tup [.int 2, .int 2])) p2 (.tup [.int 1, .int 3])) p3 (.tup [.int 3, .int 1])) p4 (.tup [.int 4, .int 3])) p5 (.tup [.int 1, .int 0])) p6 (.tup [.int 2, .int 0])) p = some o → H8 p = some o := fun p o ne q => x8.but p o ne (newO n7 _ _ q)
      simp only [List.mem_cons, List.not_mem_nil, or_false] at hv
      rcases hv with e | e | e | e | e | e
      · exact fin p1 2 2 e (u7 _ _ (nb B n1) (newO n6 _ _ (newO n5 _ _ (newO n4 _ _ (newO n3 _ _ (newO n2 _ _ upd_same)))))) (by decide) (by decide) (by decide)
      · exact fin p2 1 3 e (u7 _ _ (nb x1.bowl n2) (newO n6 _ _ (newO n5 _ _ (newO n4 _ _ (newO n3 _ _ upd_same))))) (by decide) (by decide) (by decide)
      · exact fin p3 3 1 e (u7 _ _ (nb x2.bowl n3) (newO n6 _ _ (newO n5 _ _ (newO n4 _ _ upd_same)))) (by decide) (by decide) (by decide)
      · exact fin p4 4 3 e (u7 _ _ (nb x3.bowl n4) (newO n6 _ _ (newO n5 _ _ upd_same))) (by decide) (by decide) (by decide)
      · exact fin p5 1 0 e (u7 _ _ (nb x4.bowl n5) (newO n6 _ _ upd_same)) (by decide) (by decide) (by decide)
      · exact fin p6 2 0 e (u7 _ _ (nb x5.bowl n6) upd_same) (by decide) (by decide) (by decide)
    rintro σ' H1 ⟨n, m, t1, r1, rfl, hn1, hn4, hm3, x1⟩
    have hnm : n * m ≤ 12 := Nat.le_trans (Nat.mul_le_mul hn4 hm3) (by decide)
    dsimp only [tSeq, tAsg]
    refine lc_drawsR (K := K) (n := n) (m := m) (lo := -6) (hi := 6) x1.bowl (by omega) (by omega) (by have := x1.hi; omega) (fun R r => ⟨_, rfl, (n : Int), rfl, by omega, by omega, r⟩) (fun _ => rfl) (fun x j H' t2 r2 R hj B2 ht2 r => ?_) fun Lr H2 t2 r2 rs x2 nLr Lrb Dr lr hr => ?_
    · refine lc_draws (n := m) (lo := -6) (hi := 6) B2 (by omega) ?_ (fun R r => ⟨_, rfl, (m : Int), rfl, by omega, by omega, r⟩) (fun _ => rfl) (fun j2 H'' t3 r3 R2 hj2 x3 ht3 r2' => ⟨_, rfl, b, c, ns, t3, r3, 13, rfl, by decide, by decide, x3.bowl, by omega, fun v t4 r4 H4 v0 v1 x4 => ⟨_, _, rfl, rfl, r2' _ _ _ _ (by omega) (by omega) x4⟩⟩) fun L' H4 t4 r4 zs x4 nL' L'b q hz hb => r L' H4 t4 r4 zs x4 nL' q hz hb
      have h1 := x1.hi
      have h2 : j * m ≤ 12 := Nat.le_trans (Nat.mul_le_mul (Nat.le_of_lt hj) (Nat.le_refl m)) hnm
      have h3 : ((j * m : Nat) : Int) ≤ 12 := by exact_mod_cast h2
      omega
    · have X2 := x1.trans x2
      have hb2 : t2 ≤ t + 13 := by
        have h1 := X2.hi
        have h3 : ((n * m : Nat) : Int) ≤ 12 := by exact_mod_cast hnm
        omega
      dsimp only [gName, tNext, tSeq, tAsg]
      refine lc_draws (n := m) (lo := -5) (hi := 5) X2.bowl (by omega) (by omega) (fun R r => ⟨_, rfl, (m : Int), rfl, by omega, by omega, r⟩) (fun _ => rfl) (fun j2 H'' t3 r3 R2 hj2 x3 ht3 r2' => ⟨_, rfl, b, c, ns, t3, r3, 11, rfl, by decide, by decide, x3.bowl, by omega, fun v t4 r4 H4 v0 v1 x4 => ⟨_, _, rfl, rfl, r2' _ _ _ _ (by omega) (by omega) x4⟩⟩) fun Ln H3 t3 r3 nums x3 nLn Lnb qn hzn hbn => ?_
      have X3 := (X2.trans x3).le (m := 17) (by have := x3.hi; omega)
      have Dr3 : Do K (aw H3 [b]) (.ref Lr) (rowsD rs) := Do.same (aw_but x3.but) _ _ Dr
      have Dn3 : Do K (aw H3 [b]) (.ref Ln) (.list (nums.map PyData.int)) := .lst (sq_aw (by simp [Lnb]) qn) (by rw [List.length_map]; omega) (doAllInts nums)
      have rB : ∀ r ∈ rs, (∀ z ∈ r, z.natAbs ≤ 6) := fun r hr1 z hz => abs_le ((hr r hr1).2 z hz)
      have nB : ∀ z ∈ nums, z.natAbs ≤ 5 := fun z hz => abs_le (hbn z hz)
      have isN : IsR (.list (nums.map PyData.int)) nums := ⟨rfl, fun z hz => Nat.lt_of_le_of_lt (nB z hz) (by decide), by omega⟩
      have isRow : ∀ x ∈ (rs.map fun r => PyData.list (r.map PyData.int)), ∃ ms, IsR x ms ∧ ms.length = m := fun x hx => by
        obtain ⟨r, h1, rfl⟩ := List.mem_map.mp hx
        exact ⟨r, ⟨rfl, fun z hz => Nat.lt_of_le_of_lt (rB r h1 z hz) (by decide), by rw [(hr r h1).1]; omega⟩, (hr r h1).1⟩
      refine lo_data (fun x => .int (dot (intsOf x) nums)) (ds := rs.map fun r => PyData.list (r.map PyData.int)) rfl (Do.same (aw_same _ _) _ _ Dr3) (fun R r => ⟨_, rfl, r⟩) (fun _ => rfl) (fun x e2 H' R s3 D1 hm' r => ?_) fun Lg H4 s4 nLg qg => ?_
      · obtain ⟨ms, g1, g2⟩ := isRow e2 hm'
        dsimp only [tCB, tCons]
        refine lz_dot D1 (Do.same ((aw_same _ _).trans s3) _ _ Dn3) g1 isN (by rw [g2, hzn]) (fun R r => ⟨_, rfl, _, rfl, r⟩) (fun _ _ => rfl) (fun x y H' R bx by_ r => ⟨_, rfl, _, rfl, _, _, rfl, rfl, wide_mul bx by_ (by decide) (by decide) (by decide), r⟩) fun L H4 s4 nL q => ?_
        refine ⟨L, _, rfl, SqL.of q, ?_⟩
        have := r H4 s4
        rw [intsOf_of g1.1] at this
        exact this
      · have X4 := X3.ext s4
        have lrs : (rs.map fun r => dot r nums).length = n := by rw [List.length_map, lr]
        have qg' : H4 Lg = some (.lst ((rs.map fun r => dot r nums).map V.int)) := by
          rw [qg, List.map_map, List.map_map]
          congr 2
          refine List.map_congr_left fun r hr1 => ?_
          show V.int (dot (intsOf (.list (r.map PyData.int))) nums) = V.int (dot r nums)
          rw [intsOf_of rfl]
        have gB : ∀ z ∈ rs.map (fun r => dot r nums), z.natAbs ≤ 90 := fun z hz => by
          obtain ⟨r, h1, rfl⟩ := List.mem_map.mp hz
          have := dot_bound (rB r h1) nB
          rw [(hr r h1).1] at this
          exact Nat.le_trans this (Nat.le_trans (Nat.mul_le_mul hm3 (Nat.le_refl _)) (by decide))
        generalize hgs : rs.map (fun r => dot r nums) = gs at *
        have Lgb : Lg ≠ b := fun e => by rw [e, X3.bowl.hb] at nLg; cases nLg
        have Dr4 := Do.same (aw_ext (b := b) s4) _ _ Dr3
        have Dn4 := Do.same (aw_ext (b := b) s4) _ _ Dn3
        have Dg4 : Do K (aw H4 [b]) (.ref Lg) (.list (gs.map PyData.int)) := .lst (sq_aw (by simp [Lgb]) qg') (by rw [List.length_map, lrs]; omega) (doAllInts gs)
        refine ⟨_, rfl, b, c, ns, t3, r3, 2, rfl, by decide, by decide, X4.bowl, by have := X4.hi; omega, fun v t5 r5 H5 v0 v1 x5 => ⟨rfl, _, rfl, ?_⟩⟩
        have X5 := (X4.trans x5).le (m := 18) (by have := X4.hi; have := x5.hi; omega)
        have Dr5 := Do.same (aw_but x5.but) _ _ Dr4
        have Dn5 := Do.same (aw_but x5.but) _ _ Dn4
        have Dg5 := Do.same (aw_but x5.but) _ _ Dg4
        have nb : ∀ {p : Addr} {H' : Hp} {t' r' : Int}, Bowl H' b c ns t' r' → H' p = none → p ≠ b := fun B' n e => by rw [e, B'.hb] at n; cases n
        refine ite2 (fun _ => ?_) (fun _ => ?_)
        · refine ⟨_, rfl, _, rfl, _, rfl, by show 1 ≤ sizeLine; decide, fun pz nz => ?_⟩
          have X6 := X5.new nz (o := .lst [.int 0])
          refine ⟨_, rfl, pz, _, _, rfl, rfl, upd_same, by omega, by omega, ?_, fun pw nw => ?_⟩
          · exact Nat.le_trans (by show 1 * n ≤ 4; omega) (by decide : 4 ≤ sizeLine)
          have e0 : (List.replicate (n : Int).toNat [V.int 0]).flatten = (List.replicate n 0).map V.int := rep_flat n 0
          have X7 := fun o => X6.new nw (o := o)
          refine ⟨by show 5 ≤ sizeLine; decide, fun U nU => ?_⟩
          have X8 := fun o => (X7 _).new nU (o := o)
          have sA := (newO nz (o := .lst [.int 0])).trans ((newO nw (o := .lst (List.replicate (n : Int).toNat [V.int 0]).flatten)).trans (newO nU (o := .tup [.ref Lr, .ref Lg, .ref Ln, .ref pw, .int 2])))
          have pwb : pw ≠ b := nb X6.bowl nw
          refine k _ t5 r5 U (.ref Lr) (.ref Lg) (.ref Ln) (.ref pw) rs m gs (some nums) (List.replicate n 0) 2 ((X8 _).le (by have := X5.hi; omega)) upd_same (nb (X7 _).bowl nU) (Do.same (aw_ext sA) _ _ Dr5) (Do.same (aw_ext sA) _ _ Dg5) (do_lst (Do.same (aw_ext sA) _ _ Dn5)) ?_ ?_
          · refine .lst (sq_aw (by simp [pwb]) ?_) (by rw [List.length_map, List.length_replicate]; omega) (doAllInts _)
            rw [← e0]
            exact newO nU _ _ upd_same
          · refine ⟨fun z => ?_, by omega, hm3, fun r h1 => ⟨(hr r h1).1, fun z hz => Nat.lt_of_le_of_lt (rB r h1 z hz) (by decide)⟩, ⟨by rw [lrs, lr], fun z hz => Nat.lt_of_le_of_lt (gB z hz) (by decide)⟩, fun n' e => ?_, (fun z => by cases z), ⟨by rw [List.length_replicate, lr], fun z hz => ?_⟩, by decide, by decide⟩
            · rw [z] at lr; simp at lr; omega
            · cases e
              exact ⟨hzn, fun z hz => Nat.lt_of_le_of_lt (nB z hz) (by decide), hgs.symm⟩
            · rw [List.eq_of_mem_replicate hz]; decide
        · have h5 := X5.hi
          refine ⟨_, rfl, _, _, rfl, rfl, ⟨by decide, by decide, by decide⟩, by show 5 ≤ sizeLine; decide, fun p5 n5 => ?_⟩
          have X6 := X5.new n5 (o := .lst [.int 2, .int 3, .int 6, .int 4, .int (10 ^ (12 : Int).toNat)])
          refine ⟨b, c, ns, t5, r5, p5, _, rfl, X6.bowl, by omega, SqL.of upd_same, nb X5.bowl n5, by decide, by decide, fun vm t6 r6 H6 hv x6 => ?_⟩
          obtain ⟨md, rfl, hmd, hm2⟩ : ∃ z : Int, vm = .int z ∧ z.natAbs ≤ 10 ^ 12 ∧ 2 ≤ z := by
            simp only [List.mem_cons, List.not_mem_nil, or_false] at hv
            rcases hv with e | e | e | e | e <;> exact ⟨_, e, by decide, by decide⟩
          have X7 := (X6.trans x6).le (m := 19) (by have := X6.hi; have := x6.hi; omega)
          have sA := fun a o q => (aw_but (b := b) x6.but) a o (aw_ext (newO n5 (o := .lst [.int 2, .int 3, .int 6, .int 4, .int (10 ^ (12 : Int).toNat)])) a o q)
          have Dr7 := Do.same sA _ _ Dr5
          have Dg7 := Do.same sA _ _ Dg5
          have h7 := X7.hi
          obtain ⟨acc, hacc, hal, hda⟩ : ∃ acc, SqL K (aw H6 [b]) Lr acc ∧ acc.length ≤ 1000 ∧ DoAll K (aw H6 [b]) acc (rs.map fun r => .list (r.map PyData.int)) := by
            cases Dr7 with
            | lst hs hl ha => exact ⟨_, hs, hl, ha⟩
          have lacc : acc.length = n := by rw [hda.length, List.length_map, lr]
          have hgL : SqL K (aw H6 [b]) Lg (gs.map V.int) := by
            cases Dg7 with
            | lst hs hl ha => rw [doInts ha] at hs; exact hs
          have lgs : gs.length = n := lrs
          refine ⟨_, rfl, _, rfl, Lr, _, rfl, (aw_same _ _).seq hacc, fun pa na => ?_⟩
          rw [cut1]
          have X8 := X7.new na (o := .lst (acc.drop 1))
          have pab : pa ≠ b := nb X7.bowl na
          refine ⟨pa, rfl, ⟨_, SqL.of upd_same⟩, fun Lw nLw => ?_⟩
          refine lc_drawsL (K := K) (a := pa) (xs := acc.drop 1) (lo := -3) (hi := 3) X8.bowl (by rw [List.length_drop]; omega) (by rw [List.length_drop]; omega) (SqL.of upd_same) pab nLw (fun _ => rfl) (fun x j2 H'' t9 r9 R2 hj2 x9 ht9 r2' => ⟨_, rfl, b, c, ns, t9, r9, 7, rfl, by decide, by decide, x9.bowl, by omega, fun v t4 r4 H4 v0 v1 x4 => ⟨_, _, rfl, rfl, r2' _ _ _ _ (by omega) (by omega) x4⟩⟩) fun H9 t9 r9 ws x9 Lwb qw hws hwb => ?_
          have lw : ws.length = n - 1 := by rw [hws, List.length_drop, lacc]
          have X9 := (X8.trans x9).le (m := 24) (by have := x9.hi; rw [List.length_drop, lacc] at this; omega)
          have sB : Same (aw H6 [b]) (aw H9 [b]) := fun a o q => (aw_but (b := b) x9.but) a o (aw_ext (newO na (o := .lst (acc.drop 1))) a o q)
          refine ⟨by show 2 ≤ sizeLine; decide, fun pt nt => ?_⟩
          have X10 := X9.new nt (o := .tup [.int md, .ref Lw])
          have sC : Same (aw H6 [b]) (aw (upd H9 pt (.tup [.int md, .ref Lw])) [b]) := fun a o q => aw_ext (newO nt (o := .tup [.int md, .ref Lw])) a o (sB a o q)
          have wB : ∀ z ∈ ws, z.natAbs ≤ 3 := fun z hz => abs_le (hwb z hz)
          have isW : IsR (.list (ws.map PyData.int)) ws := ⟨rfl, fun z hz => Nat.lt_of_le_of_lt (wB z hz) (by decide), by omega⟩
          have Dw10 : Do K (aw (upd H9 pt (.tup [.int md, .ref Lw])) [b]) (.ref Lw) (.list (ws.map PyData.int)) := .lst (sq_aw (by simp [Lwb]) (newO nt _ _ qw)) (by rw [List.length_map]; omega) (doAllInts ws)
          have Dr10 := Do.same sC _ _ Dr7
          have hacc10 := sC.seq hacc
          have hda10 := DoAll.same sC _ _ hda
          have hgL10 := sC.seq hgL
          generalize hH10 : upd H9 pt (.tup [.int md, .ref Lw]) = H10 at *
          have h10 := X10.hi
          refine ⟨pt, _, rfl, SqT.of (by rw [← hH10]; exact upd_same), rfl, _, _, rfl, _, _, rfl, rfl, ?_⟩
          have isRow10 : ∀ x ∈ ((rs.map fun r => PyData.list (r.map PyData.int)).drop 1), ∃ ms, IsR x ms ∧ ms.length = m := fun x hx => isRow x (List.mem_of_mem_drop hx)
          have lws : ws.length = ((rs.map fun r => PyData.list (r.map PyData.int)).drop 1).length := by rw [lw, List.length_drop, List.length_map, lr]
          dsimp only [gName, tNext, tSeq, tAsg]
          refine lc_draws (n := m) (lo := -(3 * 10 ^ 12)) (hi := 3 * 10 ^ 12) X10.bowl (by omega) (by omega) (fun R r => ⟨_, rfl, (m : Int), rfl, by omega, by omega, r⟩) (fun _ => rfl) (fun j2 H11 t11 r11 R2 hj2 x11 ht11 r2' => ?_) fun Lf H12 t12 r12 fs x12 nLf Lfb qf hfs hfb => ?_
          · refine ⟨_, rfl, _, rfl, b, c, ns, t11, r11, 5, rfl, by decide, by decide, x11.bowl, by omega, fun v tA rA HA v0 v1 xA => ⟨_, _, rfl, rfl, _, _, rfl, rfl, wide_mul (a := 41) (b := 10) (Nat.lt_of_le_of_lt hmd (by decide)) (by omega) (by decide) (by decide) (by decide), ?_⟩⟩
            have sD : Same (aw H10 [b]) (aw HA [b]) := fun a o q => aw_but xA.but a o (aw_but x11.but a o q)
            refine ⟨_, rfl, _, rfl, _, rfl, Lr, _, rfl, (sD.trans (aw_same _ _)).seq hacc10, fun pb npb => ?_⟩
            rw [cut1]
            have sE : Same (aw H10 [b]) (upd HA pb (.lst (acc.drop 1))) := (sD.trans (aw_same _ _)).trans (newO npb)
            have qw' : SqL K (upd HA pb (.lst (acc.drop 1))) Lw (ws.map V.int) := by
              cases Dw10 with
              | lst hs hl ha => rw [doInts ha] at hs; exact sE.seq hs
            refine ⟨[(true, Lw), (true, pb)], [ws.map V.int, acc.drop 1], rfl, .cons qw' (.cons (SqL.of upd_same) .nil), by show 2 ≤ 1000; decide, fun L nL => ?_⟩
            refine lz_colb (place := j2) (w := m) qw' (SqL.of upd_same) (DoAll.same sE _ _ (DoAll.drop 1 hda10)) isW.2.1 isW.2.2 lws isRow10 nL (fun _ _ => rfl) (fun x y2 e2 ms H4 R s4 D2 hm hml bx r => ?_) fun H13 s13 q13 => ?_
            · obtain ⟨p2, rfl, hp2, _⟩ := D2.ints hm.1
              have hlt : j2 < ms.length := by rw [hml]; exact hj2
              have em : ms.getD j2 0 = ms[j2] := by rw [List.getD_eq_getElem?_getD, List.getElem?_eq_getElem hlt]; rfl
              have hp3 : SqL K H4 p2.2 (ms.map V.int) ∨ SqT K H4 p2.2 (ms.map V.int) := by
                obtain ⟨bb, ap⟩ := p2
                cases bb
                · exact .inr hp2
                · exact .inl hp2
              refine ⟨_, rfl, _, rfl, _, rfl, ?_⟩
              rw [Int.zero_add]
              exact rIx_at hp3 (x := .int (ms.getD j2 0)) (by rw [List.getElem?_map, List.getElem?_eq_getElem hlt, em]; rfl) ⟨_, _, rfl, rfl, wide_mul bx (hm.2.1 _ (by rw [em]; exact List.getElem_mem hlt)) (by decide) (by decide) (by decide), r⟩
            · have cB : ∀ z ∈ (((rs.map fun r => PyData.list (r.map PyData.int)).drop 1).map fun x => (intsOf x).getD j2 0), z.natAbs ≤ 6 := fun z hz => by
                obtain ⟨x, hx, rfl⟩ := List.mem_map.mp hz
                obtain ⟨r, h1, rfl⟩ := List.mem_map.mp (List.mem_of_mem_drop hx)
                rw [intsOf_of rfl, List.getD_eq_getElem?_getD]
                cases e : r[j2]? with
                | none => exact Nat.zero_le _
                | some z => exact rB r h1 z (List.mem_of_getElem? e)
              have db := dot_bound wB cB
              rw [lw] at db
              have db2 : (dot ws (((rs.map fun r => PyData.list (r.map PyData.int)).drop 1).map fun x => (intsOf x).getD j2 0)).natAbs ≤ 54 := Nat.le_trans db (Nat.le_trans (Nat.mul_le_mul (by omega : n - 1 ≤ 3) (Nat.le_refl _)) (by decide))
              have mb : (md * (v - 2)).natAbs ≤ 10 ^ 12 * 2 := by
                rw [Int.natAbs_mul]
                exact Nat.mul_le_mul hmd (by omega)
              have fin : ∀ u1 u2 : Int, u1.natAbs ≤ 10 ^ 12 * 2 → u2.natAbs ≤ 54 → -(3 * 10 ^ 12) ≤ u1 - u2 ∧ u1 - u2 ≤ 3 * 10 ^ 12 := fun u1 u2 h1 h2 => by omega
              exact ⟨L, _, rfl, SqL.of q13, _, _, rfl, rfl, r2' _ H13 tA rA (fin _ _ mb db2).1 (fin _ _ mb db2).2 (xA.ext ((newO npb).trans s13))⟩
          · have X12 := (X10.trans x12).le (m := 27) (by have := x12.hi; omega)
            have sF : Same (aw H10 [b]) (aw H12 [b]) := aw_but x12.but
            have fB : ∀ z ∈ fs, z.natAbs ≤ 3 * 10 ^ 12 := fun z hz => abs_le (hfb z hz)
            refine ⟨_, rfl, _, rfl, _, rfl, Lg, _, rfl, (sF.trans (aw_same _ _)).seq hgL10, fun pc nc => ?_⟩
            rw [cut1, ← List.map_drop]
            have sG : Same (aw H10 [b]) (upd H12 pc (.lst ((gs.drop 1).map V.int))) := (sF.trans (aw_same _ _)).trans (newO nc)
            have qw' : SqL K (upd H12 pc (.lst ((gs.drop 1).map V.int))) Lw (ws.map V.int) := by
              cases Dw10 with
              | lst hs hl ha => rw [doInts ha] at hs; exact sG.seq hs
            have gB' : ∀ z ∈ gs.drop 1, z.natAbs ≤ 90 := fun z hz => gB z (List.mem_of_mem_drop hz)
            refine ⟨[(true, Lw), (true, pc)], [ws.map V.int, (gs.drop 1).map V.int], rfl, .cons qw' (.cons (SqL.of upd_same) .nil), by show 2 ≤ 1000; decide, fun L nL => ?_⟩
            refine lz_dotb qw' (SqL.of upd_same) isW.2.1 (fun z hz => Nat.lt_of_le_of_lt (gB' z hz) (by decide)) isW.2.2 (by rw [lw, List.length_drop, lgs]) nL (fun _ _ => rfl) (fun x y H' R bx by_ r => ⟨_, rfl, _, rfl, _, _, rfl, rfl, wide_mul bx by_ (by decide) (by decide) (by decide), r⟩) fun H13 s13 q13 => ?_
            refine ⟨L, _, rfl, SqL.of q13, _, _, rfl, rfl, ?_⟩
            have X13 := X12.ext ((newO nc (o := .lst ((gs.drop 1).map V.int))).trans s13)
            have sH : Same (aw H10 [b]) (aw H13 [b]) := fun a o q => aw_ext s13 a o (aw_ext (newO nc) a o (sF a o q))
            have gd := dot_bound wB gB'
            rw [lw] at gd
            have gd2 : (dot ws (gs.drop 1)).natAbs ≤ 810 := Nat.le_trans gd (Nat.le_trans (Nat.mul_le_mul (by omega : n - 1 ≤ 3) (Nat.le_refl _)) (by decide))
            have qf13 : H13 Lf = some (.lst (fs.map V.int)) := s13 _ _ (newO nc _ _ qf)
            have qw13 : H13 Lw = some (.lst (ws.map V.int)) := s13 _ _ (newO nc _ _ (x12.but Lw _ Lwb (by rw [← hH10]; exact newO nt _ _ qw)))
            have hacc13 := sH.seq hacc10
            have hda13 := DoAll.same sH _ _ hda10
            have hgL13 := sH.seq hgL10
            have X13b := X13.bowl
            -- the rows
            refine ⟨_, rfl, by show 1 ≤ sizeLine; decide, fun q1 m1 => ⟨_, rfl, _, rfl, Lr, _, rfl, (newO m1).seq ((aw_same _ _).seq hacc13), fun q2 m2 => ?_⟩⟩
            rw [cut1]
            have lsm : ∀ k : Nat, k ≤ 100 → k ≤ sizeLine := fun k h => Nat.le_trans h (by decide)
            refine ⟨q1, q2, _, _, rfl, rfl, newO m2 _ _ upd_same, upd_same, lsm _ (by rw [List.length_drop, lacc]; show 1 + (n - 1) ≤ 100; omega), fun q3 m3 => ?_⟩
            have s3 : Same H13 _ := (newO m1).trans ((newO m2 (o := .lst (acc.drop 1))).trans (newO m3 (o := .lst ([V.ref Lf] ++ acc.drop 1))))
            have f3 := upd_same (H := upd (upd H13 q1 (.lst [V.ref Lf])) q2 (.lst (acc.drop 1))) (a := q3) (o := .lst ([V.ref Lf] ++ acc.drop 1))
            generalize upd (upd (upd H13 q1 (.lst [V.ref Lf])) q2 (.lst (acc.drop 1))) q3 (.lst ([V.ref Lf] ++ acc.drop 1)) = H14 at s3 f3 ⊢
            have q3b : q3 ≠ b := by
              intro e
              have := newO m2 (o := .lst (acc.drop 1)) _ _ (newO m1 (o := .lst [V.ref Lf]) _ _ X13b.hb)
              rw [e] at m3
              rw [this] at m3
              cases m3
            -- the goals
            refine ⟨_, rfl, by show 1 ≤ sizeLine; decide, fun q4 m4 => ⟨_, rfl, _, rfl, Lg, _, rfl, (newO m4).seq (s3.seq ((aw_same _ _).seq hgL13)), fun q5 m5 => ?_⟩⟩
            rw [cut1, ← List.map_drop]
            refine ⟨q4, q5, _, _, rfl, rfl, newO m5 _ _ upd_same, upd_same, lsm _ (by rw [List.length_map, List.length_drop, lgs]; show 1 + (n - 1) ≤ 100; omega), fun q6 m6 => ?_⟩
            have s6 : Same H14 _ := (newO m4).trans ((newO m5 (o := .lst ((gs.drop 1).map V.int))).trans (newO m6 (o := .lst ([V.int (1 - (List.zipWith (· * ·) ws (gs.drop 1)).sum)] ++ (gs.drop 1).map V.int))))
            have f6 := upd_same (H := upd (upd H14 q4 (.lst [V.int (1 - (List.zipWith (· * ·) ws (gs.drop 1)).sum)])) q5 (.lst ((gs.drop 1).map V.int))) (a := q6) (o := .lst ([V.int (1 - (List.zipWith (· * ·) ws (gs.drop 1)).sum)] ++ (gs.drop 1).map V.int))
            have q6b : q6 ≠ b := Ne.symm (ne_of_none (newO m5 (o := .lst ((gs.drop 1).map V.int)) _ _ (newO m4 (o := .lst [V.int (1 - (List.zipWith (· * ·) ws (gs.drop 1)).sum)]) _ _ (s3 _ _ X13b.hb))) m6)
            generalize upd (upd (upd H14 q4 (.lst [V.int (1 - (List.zipWith (· * ·) ws (gs.drop 1)).sum)])) q5 (.lst ((gs.drop 1).map V.int))) q6 (.lst ([V.int (1 - (List.zipWith (· * ·) ws (gs.drop 1)).sum)] ++ (gs.drop 1).map V.int)) = H15 at s6 f6 ⊢
            -- the weights
            refine ⟨by show 1 ≤ sizeLine; decide, fun q7 m7 => ⟨_, rfl, q7, Lw, _, _, rfl, rfl, upd_same, newO m7 _ _ (s6 _ _ (s3 _ _ qw13)), lsm _ (by rw [List.length_map, lw]; show 1 + (n - 1) ≤ 100; omega), fun q8 m8 => ?_⟩⟩
            have s8 : Same H15 _ := (newO m7).trans (newO m8 (o := .lst ([V.int 1] ++ ws.map V.int)))
            have f8 := upd_same (H := upd H15 q7 (.lst [V.int 1])) (a := q8) (o := .lst ([V.int 1] ++ ws.map V.int))
            have q8b : q8 ≠ b := Ne.symm (ne_of_none (newO m7 (o := .lst [V.int 1]) _ _ (s6 _ _ (s3 _ _ X13b.hb))) m8)
            generalize upd (upd H15 q7 (.lst [V.int 1])) q8 (.lst ([V.int 1] ++ ws.map V.int)) = H16 at s8 f8 ⊢
            refine ⟨_, rfl, by show 5 ≤ sizeLine; decide, fun U mU => ?_⟩
            have sU := newO mU (o := .tup [.ref q3, .ref q6, .non, .ref q8, .int md])
            have sAll : Same H13 (upd H16 U (.tup [.ref q3, .ref q6, .non, .ref q8, .int md])) := s3.trans (s6.trans (s8.trans sU))
            have Ub : U ≠ b := Ne.symm (ne_of_none (s8 _ _ (s6 _ _ (s3 _ _ X13b.hb))) mU)
            have sI := aw_ext (b := b) sAll
            have e1 : ([V.int (1 - (List.zipWith (· * ·) ws (gs.drop 1)).sum)] ++ (gs.drop 1).map V.int) = ((1 - dot ws (gs.drop 1)) :: gs.drop 1).map V.int := rfl
            have e2 : ([V.int 1] ++ ws.map V.int) = (1 :: ws).map V.int := rfl
            have lfs : Do K (aw (upd H16 U (.tup [.ref q3, .ref q6, .non, .ref q8, .int md])) [b]) (.ref Lf) (.list (fs.map PyData.int)) := .lst (sq_aw (by simp [Lfb]) (sAll _ _ qf13)) (by rw [List.length_map, hfs]; omega) (doAllInts fs)
            rw [e1] at f6
            rw [e2] at f8
            refine k _ t12 r12 U (.ref q3) (.ref q6) .non (.ref q8) (fs :: rs.drop 1) m ((1 - dot ws (gs.drop 1)) :: gs.drop 1) none (1 :: ws) md ((X13.ext sAll).le (by have := X13.hi; omega)) upd_same Ub ?_ ?_ rfl ?_ ?_
            · refine .lst (xs := .ref Lf :: acc.drop 1) (sq_aw (by simp [q3b]) (sU _ _ (s8 _ _ (s6 _ _ f3)))) (by rw [List.length_cons, List.length_drop]; omega) (.cons lfs ?_)
              rw [List.map_drop]
              exact DoAll.same sI _ _ (DoAll.drop 1 hda13)
            · exact .lst (sq_aw (by simp [q6b]) (sU _ _ (s8 _ _ f6))) (by rw [List.length_map, List.length_cons, List.length_drop]; omega) (doAllInts _)
            · exact .lst (sq_aw (by simp [q8b]) (sU _ _ f8)) (by rw [List.length_map, List.length_cons, lw]; omega) (doAllInts _)
            · refine ⟨List.cons_ne_nil _ _, by rw [List.length_cons, List.length_drop]; omega, hm3, fun r h1 => ?_, ⟨by rw [List.length_cons, List.length_cons, List.length_drop, List.length_drop, lgs, lr], fun z hz => ?_⟩, (fun n' e => by cases e), fun _ => ⟨_, _, ws, rfl, rfl⟩, ⟨by rw [List.length_cons, List.length_cons, List.length_drop, lw, lr], fun z hz => ?_⟩, Nat.lt_of_le_of_lt hmd (by decide), hm2⟩
              · rcases List.mem_cons.mp h1 with e | e
                · rw [e]; exact ⟨hfs, fun z hz => Nat.lt_of_le_of_lt (fB z hz) (by decide)⟩
                · have h2 := List.mem_of_mem_drop e
                  exact ⟨(hr r h2).1, fun z hz => Nat.lt_of_le_of_lt (rB r h2 z hz) (by decide)⟩
              · rcases List.mem_cons.mp hz with e | e
                · rw [e]
                  have : (1 - dot ws (gs.drop 1)).natAbs ≤ 811 := by omega
                  exact Nat.lt_of_le_of_lt this (by decide)
                · exact Nat.lt_of_le_of_lt (gB' z e) (by decide)
              · rcases List.mem_cons.mp hz with e | e
                · rw [e]; decide
                · exact Nat.lt_of_le_of_lt (wB z e) (by decide)
end
end K11

set_option Elab.async false
set_option linter.all false
set_option maxRecDepth 100000
set_option maxHeartbeats 4000000
/-! Papers made. -/
namespace K11
open PySem L2 SG
theorem toI_fix (d : PyData) : toI (fixD d) = toI d := by cases d <;> (rw [fixD]; first | done | rfl)
theorem isI_fix (d : PyData) : isI (fixD d) = isI d := by cases d <;> (rw [fixD]; first | done | rfl)
theorem intsOf_fix (d : PyData) : intsOf (fixD d) = intsOf d := by
  rw [intsOf, intsOf, parts_fixD]
  cases parts d with
  | none => rfl
  | some ds =>
    show (ds.map fixD).map toI = ds.map toI
    rw [List.map_map]
    exact List.map_congr_left fun x _ => toI_fix x
theorem areI_fix (d : PyData) : areI (fixD d) = areI d := by
  rw [areI, areI, parts_fixD]
  cases parts d with
  | none => rfl
  | some ds =>
    show (ds.map fixD).all isI = ds.all isI
    rw [List.all_map]
    congr 1
    funext x
    exact isI_fix x
theorem rowI_fix (d : PyData) (w : Int) : rowI (fixD d) w = rowI d w := by
  rw [rowI, rowI, areI_fix, parts_fixD]
  cases parts d with
  | none => rfl
  | some ds =>
    show (areI d && decide (((ds.map fixD).length : Int) = w)) = _
    rw [List.length_map]
section
variable {K : PySem.W.Frag} {mg : Str → Option Value} {H : Hp} {b : Addr} {Q : Addr → Hp → Prop} {E : XK}
/-- a new instance: what stood stands -/
theorem made_same {C x dx : Addr} {f1 fs : List (Str × V)} {G H2 G2 : Hp} (nx : H x = none) (nd : H dx = none) (g : Gh (upd (upd (upd H dx (.own x)) x (.ins C dx [])) x (.ins C dx f1)) G H2 G2) : Same H (upd H2 x (.ins C dx fs)) := fun a o q => by
  have h1 := ne_of_none q nx
  have h2 := ne_of_none q nd
  rw [upd_ne h1]
  exact g.hh _ _ (by rw [upd_ne h1, upd_ne h1, upd_ne h2]; exact q)
theorem made_aw {C x dx : Addr} {f1 fs : List (Str × V)} {H2 G2 : Hp} (hb : ∃ o, H b = some o) (nx : H x = none) (nd : H dx = none) (g : Gh (upd (upd (upd H dx (.own x)) x (.ins C dx [])) x (.ins C dx f1)) (aw H [b]) H2 G2) : Same G2 (aw (upd H2 x (.ins C dx fs)) [b]) := by
  obtain ⟨o, hb⟩ := hb
  have bx : b ≠ x := ne_of_none hb nx
  have bd : b ≠ dx := ne_of_none hb nd
  have gx : G2 x = none := g.nw _ _ upd_same (gh_free (aw_same _ _) nx)
  have gb : G2 b = none := g.nw _ _ (by rw [upd_ne bx, upd_ne bx, upd_ne bd]; exact hb) (aw_in (by simp))
  exact aw_max (fun a o q => by rw [upd_ne (ne_of_none q gx)]; exact g.gh _ _ q) fun a h => by rw [List.mem_singleton.mp h]; exact gb
theorem made_S1 {C x dx : Addr} (nx : H x = none) (nd : H dx = none) : Same (aw H [b]) (upd (upd H dx (.own x)) x (.ins C dx [])) := fun a o q => by
  have q' := aw_same _ _ a o q
  rw [upd_ne (ne_of_none q' nx), upd_ne (ne_of_none q' nd)]
  exact q'
theorem mk_whole (T : Tk K mg) {v : V} {d : PyData} (D : Do K (aw H [b]) v d) (hd : deep d ≤ 4) (hb : ∃ o, H b = some o) (k : ∀ x H', Same H H' → Pv T (aw H' [b]) (.ref x) (.whole (fixD d)) → H x = none → Q x H') :
    ∀ x dx, H x = none → H dx = none → dx ≠ x → spIW K T.c_Whole.C [.ref x, v] (upd (upd H dx (.own x)) x (.ins T.c_Whole.C dx [])) (fun v H2 => v = .non ∧ Q x H2) E := by
  intro x dx nx nd ne
  refine ⟨x, dx, v, d, aw H [b], rfl, upd_same, made_S1 nx nd, gh_free (aw_same _ _) nx, D, hd, fun H2 G2 v' p g D2 => ⟨rfl, k x _ (made_same nx nd g) (.whole (dx := dx) (p := p) ?_ (Do.same (made_aw hb nx nd g) _ _ D2)) nx⟩⟩
  obtain ⟨o, hb⟩ := hb
  rw [aw_ne (by simpa using (ne_of_none hb nx).symm)]
  exact upd_same
theorem mk_barred (T : Tk K mg) {v u : V} {d e : PyData} (D : Do K (aw H [b]) v d) (De : Do K (aw H [b]) u e) (hd : deep d ≤ 4) (he : deep e ≤ 4) (hb : ∃ o, H b = some o) (k : ∀ x H', Same H H' → Pv T (aw H' [b]) (.ref x) (.barred (fixD d) (fixD e)) → Q x H') :
    ∀ x dx, H x = none → H dx = none → dx ≠ x → spIB K T.c_Barred.C [.ref x, v, u] (upd (upd H dx (.own x)) x (.ins T.c_Barred.C dx [])) (fun v H2 => v = .non ∧ Q x H2) E := by
  intro x dx nx nd ne
  refine ⟨x, dx, v, u, d, e, aw H [b], rfl, upd_same, made_S1 nx nd, gh_free (aw_same _ _) nx, D, De, hd, he, fun H2 G2 v' u' p g D2 D3 => ⟨rfl, k x _ (made_same nx nd g) (.barred (dx := dx) (p := p) ?_ (Do.same (made_aw hb nx nd g) _ _ D2) (Do.same (made_aw hb nx nd g) _ _ D3))⟩⟩
  obtain ⟨o, hb⟩ := hb
  rw [aw_ne (by simpa using (ne_of_none hb nx).symm)]
  exact upd_same
/-- Paper(w, ..), Denial(w, ..) -/
theorem mk_paper {C : Addr} {wd : Str} {us : List V} {ds : List PyData} (D : DoAll K (aw H [b]) us ds) (hl : us.length ≤ 100) (hd : deepA ds ≤ 4) (hb : ∃ o, H b = some o) (k : ∀ x dx H' fs, Same H H' → aw H' [b] x = some (.ins C dx fs) → Q x H') :
    ∀ x dx, H x = none → H dx = none → dx ≠ x → ∃ ws rest, (V.ref x :: V.str wd :: us) = ws ++ rest ∧ ws.length = (["self", "word"] : List Str).length ∧ rest.length ≤ sizeLine ∧ ∀ p, (upd (upd H dx (.own x)) x (.ins C dx [])) p = none →
      spIP K C (ws ++ [V.ref p]) (upd (upd (upd H dx (.own x)) x (.ins C dx [])) p (.tup rest)) (fun v H2 => v = .non ∧ Q x H2) E := by
  intro x dx nx nd ne
  refine ⟨[.ref x, .str wd], us, rfl, rfl, Nat.le_trans hl (by decide), fun p np => ?_⟩
  have S1 := made_S1 (C := C) (b := b) nx nd
  have gp := gh_free S1 np
  have px : x ≠ p := ne_of_none upd_same np
  have gx : aw H [b] x = none := gh_free (aw_same _ _) nx
  have S2 : Same (upd (aw H [b]) p (.tup us)) (upd (upd (upd H dx (.own x)) x (.ins C dx [])) p (.tup us)) := fun a o q => by
    by_cases e : a = p
    · rw [e, upd_same] at q ⊢; exact q
    · rw [upd_ne e] at q ⊢; exact S1 _ _ q
  refine ⟨x, dx, p, wd, .tuple ds, upd (aw H [b]) p (.tup us), rfl, by rw [upd_ne px]; exact upd_same, S2, by rw [upd_ne px]; exact gx, .tup (SqT.of upd_same) (by omega) (DoAll.same (newO gp) _ _ D), by rw [deep_of (ds := ds) rfl]; omega, fun H2 G2 f1 fs g => ⟨rfl, ?_⟩⟩
  have sm : Same H (upd H2 x (.ins C dx fs)) := fun a o q => by
    have h1 := ne_of_none q nx
    have h2 := ne_of_none q nd
    have h3 : a ≠ p := ne_of_none (show (upd (upd H dx (.own x)) x (.ins C dx [])) a = some o by rw [upd_ne h1, upd_ne h2]; exact q) np
    rw [upd_ne h1]
    exact g.hh _ _ (by rw [upd_ne h1, upd_ne h3, upd_ne h1, upd_ne h2]; exact q)
  refine k x dx _ fs sm ?_
  obtain ⟨o, hb⟩ := hb
  rw [aw_ne (by simpa using (ne_of_none hb nx).symm)]
  exact upd_same
theorem bnd_whole {d : PyData} (h : areI d = true → Bnd (intsOf d)) : bndP (.whole (fixD d)) := fun z => by rw [intsOf_fix]; exact h (by rw [← areI_fix]; exact z)
theorem bnd_barred {d e : PyData} (h : areI d = true → Bnd (intsOf d)) : bndP (.barred (fixD d) (fixD e)) := fun z => by rw [intsOf_fix]; exact h (by rw [← areI_fix]; exact z)
end
theorem bi_Whole {K : PySem.W.Frag} {mg : Str → Option Value} (R : Pc K mg "Whole" "Whole.__init__" i_Whole) : Binds K R.fd ["self", "numbers"] [] := R.F.binds fun _ _ _ _ _ _ us l => match us, l with | [_, _], _ => rfl
theorem bi_Barred {K : PySem.W.Frag} {mg : Str → Option Value} (R : Pc K mg "Barred" "Barred.__init__" i_Barred) : Binds K R.fd ["self", "row", "modulus"] [] := R.F.binds fun _ _ _ _ _ _ us l => match us, l with | [_, _, _], _ => rfl
def o1 {α : Type} (l : List α) : List α := l
theorem kn_Whole {K : PySem.W.Frag} {mg : Str → Option Value} (R : Pc K mg "Whole" "Whole.__init__" i_Whole) : KBn K R.fd ["self", "numbers"] 1 ["numbers"] (fun us ws => us ++ o1 ws) (fun vs zs => vs ++ o1 zs) :=
  kb_keys1 R.F o1 (fun r => r) fun _ _ _ _ _ _ u ws l => match ws, l with | [_], _ => by rfl
theorem kn_Barred {K : PySem.W.Frag} {mg : Str → Option Value} (R : Pc K mg "Barred" "Barred.__init__" i_Barred) : KBn K R.fd ["self", "row", "modulus"] 1 ["modulus", "row"] (fun us ws => us ++ o21 ws) (fun vs zs => vs ++ o21 zs) :=
  kb_keys1 R.F o21 vals21 fun _ _ _ _ _ _ u ws l => match ws, l with | [_, _], _ => by rfl
end K11

set_option Elab.async false
set_option linter.all false
set_option maxRecDepth 100000
set_option maxHeartbeats 4000000
namespace K11
open PySem L2 SG
section
variable {K : PySem.W.Frag} {mg : Str → Option Value}
/-- values that are told as papers, their integers within bounds -/
def AllP (T : Tk K mg) (G : Hp) (xs : List V) : Prop := ∀ v ∈ xs, ∃ p, Pv T G v p ∧ bndP p
theorem AllP.step {T : Tk K mg} {G G' : Hp} {xs : List V} (s : Same G G') (h : AllP T G xs) : AllP T G' xs := fun v hv => by
  obtain ⟨p, h1, h2⟩ := h v hv
  exact ⟨p, h1.same s, h2⟩
theorem AllP.nil {T : Tk K mg} {G : Hp} : AllP T G [] := fun v hv => by cases hv
theorem AllP.cons {T : Tk K mg} {G : Hp} {v : V} {xs : List V} {p : PVal} (h : Pv T G v p) (hb : bndP p) (r : AllP T G xs) : AllP T G (v :: xs) := fun u hu => by
  rcases List.mem_cons.mp hu with e | e
  · rw [e]; exact ⟨p, h, hb⟩
  · exact r u e
theorem AllP.app {T : Tk K mg} {G : Hp} {xs ys : List V} (h : AllP T G xs) (r : AllP T G ys) : AllP T G (xs ++ ys) := fun u hu => by
  rcases List.mem_append.mp hu with e | e
  · exact h u e
  · exact r u e
theorem AllP.sub {T : Tk K mg} {G : Hp} {xs ys : List V} (h : AllP T G xs) (s : ∀ v ∈ ys, v ∈ xs) : AllP T G ys := fun u hu => h u (s u hu)
theorem dwInts {H : Hp} : ∀ ns : List Int, DwAll K H (ns.map V.int) (ns.map PyData.int)
  | [] => .nil
  | n :: ns => .cons (.int n) (dwInts ns)
def spValues (T : Tk K mg) : Sp := fun vs H Q _ => ∃ (b c : Addr) (ns : List Int) (t r : Int) (vr vg vn vw : V) (rs : List (List Int)) (wd : Nat) (gs : List Int) (nums : Option (List Int)) (ws : List Int) (m : Int), vs = [.ref b, vr, vg, vn, vw, .int m] ∧ Bowl H b c ns t r ∧ t + 60 < 2 ^ 20 ∧
  Do K (aw H [b]) vr (rowsD rs) ∧ NumV K (aw H [b]) vn nums ∧ Do K (aw H [b]) vw (.list (ws.map PyData.int)) ∧ Case rs wd gs nums ws m ∧
  ∀ (H' : Hp) (t' r' : Int) (L : Addr) (xs : List V), Aft 40 H H' b c ns t t' r' → H' L = some (.lst xs) → L ≠ b → xs.length ≤ 100 → AllP T (aw H' [b]) xs → Q (.ref L) H'
end
section
variable {P : Program} {w : World} {K : PySem.W.Frag} {mg : Str → Option Value} {base : Heap}
theorem ok_l_values (T : Tk K mg) (hlaw : ∃ o, K.lookup T.d_law.f = some o ∧ o.cls = .type "function") {f : Addr} {fd : FuncData} (F : Fun K "_law_values" "_law_values" s_l_values f fd) : FnOk P w K mg base CX0 9 f fd ["cask", "rows", "goals", "numbers", "row", "modulus"] (spValues T) := by
  refine F.ok sc_l_values (fun vs H Q E h => ?_) (fun cdv A outer s H vs Q E hr h => ?_)
  · obtain ⟨b, c, ns, t, r, vr, vg, vn, vw, rs, wd, gs, nums, ws, m, rfl, _⟩ := h
    rfl
  · obtain ⟨b, c, ns, t, r, vr, vg, vn, vw, rs, wd, gs, nums, ws, m, rfl, B, ht, Dr, Dn, Dw, C, k⟩ := h
    refine ⟨_, (pss_cons (ps_set (i := 6) sc_l_values.nd rfl (Or.inl rfl) (pe_ifExp (pt_cmpR op_notN (pv 3) pe_non (nomark _)) (pv 3) (pe_op op_rep (pe_lst (pa_cons pe_int pa_nil)) (pe_callB call_len_seq (by rfl) T.nm.n_len (by decide +kernel) (pa_cons (pe_ix ix_seq (pv 1) pe_int (fun _ _ => rfl)) pa_nil)))))
  (pss_cons (ps_set (i := 7) sc_l_values.nd rfl (Or.inr rfl) (pe_call (ok_choose T.toTx T.d_l_one_of.F) (hr.mono (by decide)) rfl T.d_l_one_of.m T.d_l_one_of.k T.d_l_one_of.b .nil pass0 (pa_cons (pv 0) (pa_cons (pe_lst (pa_cons pe_int (pa_cons (pe_un un_neg pe_int) (pa_cons pe_int (pa_cons (pv 5) (pa_cons (pe_op op_add pe_int (pv 5)) pa_nil)))))) pa_nil))))
  (pss_cons (ps_set (i := 8) sc_l_values.nd rfl (Or.inl rfl) (pe_call (ok_choose T.toTx T.d_l_one_of.F) (hr.mono (by decide)) rfl T.d_l_one_of.m T.d_l_one_of.k T.d_l_one_of.b .nil pass0 (pa_cons (pv 0) (pa_cons (pe_lst (pa_cons (pv 5) (pa_cons pe_int (pa_cons pe_int (pa_cons (pe_un un_neg (pv 5)) (pa_cons (pe_op op_mul pe_int (pv 5)) (pa_cons (pe_op op_add (pv 5) pe_int) (pa_cons pe_non (pa_cons pe_bl (pa_cons (pe_callTy call_str_int (by rfl) T.nm.n_str (by decide +kernel) (pa_cons (pv 5) pa_nil)) (pa_cons (pe_lst (pa_cons (pv 5) pa_nil)) (pa_cons (pv 5) pa_nil)))))))))))) pa_nil))))
  (pss_cons (ps_set (i := 9) sc_l_values.nd rfl (Or.inl rfl) (pe_lst (pa_cons (pe_make T.c_Whole.M (ok_iW T.toTz) (hr.mono (by decide)) rfl T.c_Whole.m (bi_Whole T.c_Whole) .nil pass0 (pa_cons (pv 6) pa_nil)) (pa_cons (pe_makeK0 T.c_Whole.M (ok_iW T.toTz) (hr.mono (by decide)) rfl T.c_Whole.m (kn_Whole T.c_Whole) pass0 (pk_cons (pe_call (ok_l_bent T T.d_l_bent.F) (hr.mono (by decide)) rfl T.d_l_bent.m T.d_l_bent.k T.d_l_bent.b .nil pass0 (pa_cons (pv 0) (pa_cons (pv 6) pa_nil))) pk_nil)) (pa_cons (pe_make T.c_Whole.M (ok_iW T.toTz) (hr.mono (by decide)) rfl T.c_Whole.m (bi_Whole T.c_Whole) .nil pass0 (pa_cons (pe_call (ok_l_bent T T.d_l_bent.F) (hr.mono (by decide)) rfl T.d_l_bent.m T.d_l_bent.k T.d_l_bent.b .nil pass0 (pa_cons (pv 0) (pa_cons (pv 6) pa_nil))) pa_nil)) (pa_cons (pe_make T.c_Barred.M (ok_iB T.toTz) (hr.mono (by decide)) rfl T.c_Barred.m (bi_Barred T.c_Barred) .nil pass0 (pa_cons (pv 4) (pa_cons (pv 5) pa_nil))) (pa_cons (pe_makeK0 T.c_Barred.M (ok_iB T.toTz) (hr.mono (by decide)) rfl T.c_Barred.m (kn_Barred T.c_Barred) pass0 (pk_cons (pv 5) (pk_cons (pe_callTy call_tuple_of (by rfl) T.nm.n_tuple (by decide +kernel) (pa_cons (pv 4) pa_nil)) pk_nil))) pa_nil)))))))
  (pss_cons (ps_set (i := 9) sc_l_values.nd rfl (Or.inl rfl) (pe_op op_cat (pv 9) (pe_lst (pa_cons (pe_make T.c_Barred.M (ok_iB T.toTz) (hr.mono (by decide)) rfl T.c_Barred.m (bi_Barred T.c_Barred) .nil pass0 (pa_cons (pe_call (ok_l_bent T T.d_l_bent.F) (hr.mono (by decide)) rfl T.d_l_bent.m T.d_l_bent.k T.d_l_bent.b .nil pass0 (pa_cons (pv 0) (pa_cons (pv 4) pa_nil))) (pa_cons (pv 5) pa_nil))) (pa_cons (pe_make T.c_Barred.M (ok_iB T.toTz) (hr.mono (by decide)) rfl T.c_Barred.m (bi_Barred T.c_Barred) .nil pass0 (pa_cons (pv 4) (pa_cons (pv 8) pa_nil))) (pa_cons (pe_make T.c_Barred.M (ok_iB T.toTz) (hr.mono (by decide)) rfl T.c_Barred.m (bi_Barred T.c_Barred) .nil pass0 (pa_cons (pe_lc (own := [("one", 10)]) (g := (gName 10)) (tt := tYes) rfl sc_l_values.nd (pi_seq (pv 4)) (blkOk_by (N := ["cask", "rows", "goals", "numbers", "row", "modulus", "some", "times", "by", "found", "one"]) (sc := defScope s_l_values) (by decide +kernel)) (fun _ _ _ _ _ => pg_name (i := 10) sc_l_values.nd rfl (Or.inl rfl)) (fun _ _ _ _ _ => pts_nil) (fun _ _ _ _ _ => (pe_op op_mulW (pv 7) (pv 10)))) (pa_cons (pv 5) pa_nil))) (pa_cons (pe_make T.c_Barred.M (ok_iB T.toTz) (hr.mono (by decide)) rfl T.c_Barred.m (bi_Barred T.c_Barred) .nil pass0 (pa_cons (pe_call (ok_l_bent T T.d_l_bent.F) (hr.mono (by decide)) rfl T.d_l_bent.m T.d_l_bent.k T.d_l_bent.b .nil pass0 (pa_cons (pv 0) (pa_cons (pv 4) pa_nil))) (pa_cons (pv 8) pa_nil))) pa_nil)))))))
  (pss_cons (ps_set (i := 9) sc_l_values.nd rfl (Or.inl rfl) (pe_op op_cat (pv 9) (pe_lst (pa_cons (pe_make T.c_Barred.M (ok_iB T.toTz) (hr.mono (by decide)) rfl T.c_Barred.m (bi_Barred T.c_Barred) .nil pass0 (pa_cons (pe_lc (own := [("one", 10)]) (g := (gName 10)) (tt := tYes) rfl sc_l_values.nd (pi_seq (pv 4)) (blkOk_by (N := ["cask", "rows", "goals", "numbers", "row", "modulus", "some", "times", "by", "found", "one"]) (sc := defScope s_l_values) (by decide +kernel)) (fun _ _ _ _ _ => pg_name (i := 10) sc_l_values.nd rfl (Or.inl rfl)) (fun _ _ _ _ _ => pts_nil) (fun _ _ _ _ _ => (pe_op op_mul pe_int (pv 10)))) (pa_cons (pe_op op_mul pe_int (pv 5)) pa_nil))) (pa_cons (pe_make T.c_Barred.M (ok_iB T.toTz) (hr.mono (by decide)) rfl T.c_Barred.m (bi_Barred T.c_Barred) .nil pass0 (pa_cons (pe_lc (own := [("one", 10)]) (g := (gName 10)) (tt := tYes) rfl sc_l_values.nd (pi_seq (pv 4)) (blkOk_by (N := ["cask", "rows", "goals", "numbers", "row", "modulus", "some", "times", "by", "found", "one"]) (sc := defScope s_l_values) (by decide +kernel)) (fun _ _ _ _ _ => pg_name (i := 10) sc_l_values.nd rfl (Or.inl rfl)) (fun _ _ _ _ _ => pts_nil) (fun _ _ _ _ _ => (pe_op op_modN (pe_callTy (T := "int") call_int1 (by rfl) T.nm.n_int (by decide +kernel) (pa_cons (pv 10) pa_nil)) (pv 5)))) (pa_cons (pv 5) pa_nil))) pa_nil)))))
  (pss_one (ps_ret (pe_op op_cat (pv 9) (pe_lst (pa_cons (StX.pe_makeR T.c_Paper.M (ok_iPaper T.toTz) (hr.mono (by decide)) rfl T.c_Paper.m pass0 (pa_cons pe_str (pa_cons (pv 6) pa_nil))) (pa_cons (StX.pe_makeR T.c_Denial.M (ok_iDenial T.toTz) (hr.mono (by decide)) rfl T.c_Denial.m pass0 (pa_cons pe_str (pa_cons (pv 4) (pa_cons (pv 5) pa_nil)))) (pa_cons (pv 6) (pa_cons (pv 4) (pa_cons pe_non (pa_cons (pe_tup (pa_cons (pv 6) pa_nil)) (pa_cons pe_str (pa_cons pe_bl (pa_cons (pe_make T.c_Whole.M (ok_iW T.toTz) (hr.mono (by decide)) rfl T.c_Whole.m (bi_Whole T.c_Whole) .nil pass0 (pa_cons (pe_make T.c_Whole.M (ok_iW T.toTz) (hr.mono (by decide)) rfl T.c_Whole.m (bi_Whole T.c_Whole) .nil pass0 (pa_cons (pv 6) pa_nil)) pa_nil)) (pa_cons (pe_glob (v := .ref T.d_law.f) rfl T.d_law.m rfl) (pa_cons (pe_lst pa_nil) pa_nil))))))))))))))))))))), ?_⟩
    obtain ⟨pw, rfl, hpw⟩ : ∃ pw, vw = .ref pw ∧ SqL K (aw H [b]) pw (ws.map V.int) := by
      cases Dw with
      | lst hs hl ha => rw [doInts ha] at hs; exact ⟨_, rfl, hs⟩
    have wB : ∀ z ∈ ws, z.natAbs < 2 ^ 100 := C.hs.2
    have lws : ws.length ≤ 4 := by rw [C.hs.1]; exact C.h2
    have B100 : ∀ {l : List Int}, (∀ z ∈ l, z.natAbs < 2 ^ 100) → Bnd l := fun h z hz => Nat.lt_of_lt_of_le (h z hz) (Nat.pow_le_pow_right (by decide) (by decide))
    have B200 : ∀ {l : List Int}, (∀ z ∈ l, z.natAbs < 2 ^ 100) → ∀ z ∈ l, z.natAbs < 2 ^ 200 := fun h z hz => Nat.lt_of_lt_of_le (h z hz) (Nat.pow_le_pow_right (by decide) (by decide))
    have hb0 : ∀ {H' : Hp} {t' r' : Int}, Bowl H' b c ns t' r' → ∃ o, H' b = some o := fun B' => ⟨_, B'.hb⟩
    have nb : ∀ {p : Addr} {H' : Hp} {t' r' : Int}, Bowl H' b c ns t' r' → H' p = none → p ≠ b := fun B' n => Ne.symm (ne_of_none B'.hb n)
    have m2 := C.m2
    have mB := C.hm
    -- some
    refine cut (fun σ' H1 => ∃ (ps : Addr) (sn : List Int), σ' = [some (.ref b), some vr, some vg, some vn, some (.ref pw), some (.int m), some (.ref ps), none, none, none, none] ∧ Same H H1 ∧ SqL K (aw H1 [b]) ps (sn.map V.int) ∧ sn.length ≤ 3 ∧ ∀ z ∈ sn, z.natAbs < 2 ^ 100) ?t0 ?f0
    case f0 =>
      intro nx hnx
      cases hnums : nums with
      | some n =>
        rw [hnums] at Dn
        obtain ⟨an, rfl, hs⟩ := Dn
        refine ⟨_, rfl, rfl, _, rfl, ite2 (fun _ => ?_) (fun z => absurd (by simp) z)⟩
        exact ⟨_, rfl, hnx _ _ ⟨_, n, rfl, Same.refl H, hs, by rw [(C.hn n hnums).1]; exact C.hw, (C.hn n hnums).2.1⟩⟩
      | none =>
        rw [hnums] at Dn
        cases (show vn = .non from Dn)
        refine ⟨_, rfl, rfl, _, rfl, ite2 (fun z => absurd z (by simp)) (fun _ => ?_)⟩
        refine ⟨by show 1 ≤ sizeLine; decide, fun pz nz => ?_⟩
        have sz := newO nz (o := .lst [.int 0])
        obtain ⟨ar, acc, rfl, hacc, hda⟩ : ∃ ar acc, vr = .ref ar ∧ SqL K (aw H [b]) ar acc ∧ DoAll K (aw H [b]) acc (rs.map fun r => .list (r.map PyData.int)) := by
          cases Dr with
          | lst hs hl ha => exact ⟨_, _, rfl, hs, ha⟩
        cases rs with
        | nil => exact absurd rfl C.h1
        | cons r0 rs =>
          cases hda with
          | cons D0 hda =>
            obtain ⟨a0, rfl, h0⟩ := do_lst D0
            refine ⟨_, rfl, rIx_at (i := 0) (.inl (sz.seq ((aw_same _ _).seq hacc))) rfl ⟨a0, _, rfl, .inl (sz.seq ((aw_same _ _).seq h0)), pz, _, _, rfl, rfl, upd_same, ?_, ?_, ?_, fun pq nq => ?_⟩⟩
            · omega
            · have := (C.hr r0 List.mem_cons_self).1; have := C.hw; rw [List.length_map]; omega
            · have := (C.hr r0 List.mem_cons_self).1
              have := C.hw
              rw [List.length_map]
              exact Nat.le_trans (by show 1 * r0.length ≤ 3; omega) (by decide : 3 ≤ sizeLine)
            have sq := sz.trans (newO nq (o := .lst (List.replicate (((r0.map V.int).length : Nat) : Int).toNat [V.int 0]).flatten))
            refine hnx _ _ ⟨pq, List.replicate r0.length 0, rfl, sq, ?_, ?_, ?_⟩
            · refine sq_aw (by simpa using Ne.symm (ne_of_none (newO nz _ _ B.hb) nq)) ?_
              rw [upd_same, ← rep_flat, List.length_map]
              rfl
            · rw [List.length_replicate, (C.hr r0 List.mem_cons_self).1]; exact C.hw
            · intro z hz; rw [List.eq_of_mem_replicate hz]; decide
    rintro σ' H1 ⟨ps, sn, rfl, s1, hps, lsn, snB⟩
    have X1 := (Aft.refl B).ext s1
    have S1 := aw_ext (b := b) s1
    -- times
    refine ⟨_, rfl, _, rfl, _, rfl, _, rfl, _, _, rfl, rfl, by show 5 ≤ sizeLine; decide, fun p5 n5 => ?_⟩
    have s5 := newO n5 (o := .lst [.int 1, .int (-1), .int 3, .int m, .int (1 + m)])
    refine ⟨b, c, ns, t, r, p5, _, rfl, X1.bowl.same s5, by omega, SqL.of upd_same, nb X1.bowl n5, by show 0 < 5; decide, by show 5 ≤ 1000; decide, fun v t2 r2 H2 hv x2 => ?_⟩
    obtain ⟨tm, rfl, htm⟩ : ∃ z : Int, v = .int z ∧ z.natAbs < 2 ^ 101 := by
      have h1 : m.natAbs < 2 ^ 101 := Nat.lt_of_lt_of_le mB (Nat.pow_le_pow_right (by decide) (by decide))
      have h2 : (1 + m).natAbs < 2 ^ 101 := by
        have e : (2 : Nat) ^ 101 = 2 ^ 100 + 2 ^ 100 := by rw [show (101 : Nat) = 100 + 1 from rfl, Nat.pow_succ, Nat.mul_two]
        have h3 : 1 < 2 ^ 100 := Nat.one_lt_two_pow (by decide)
        omega
      simp only [List.mem_cons, List.not_mem_nil, or_false] at hv
      rcases hv with e | e | e | e | e
      · exact ⟨_, e, by decide⟩
      · exact ⟨_, e, by decide⟩
      · exact ⟨_, e, by decide⟩
      · exact ⟨_, e, h1⟩
      · exact ⟨_, e, h2⟩
    have X2 := ((X1.ext s5).trans x2).le (m := 1) (by have := x2.hi; omega)
    have S2 : Same (aw H [b]) (aw H2 [b]) := S1.trans ((aw_ext s5).trans (aw_but x2.but))
    have T2 := X2.hi
    -- by
    refine ⟨_, rfl, _, rfl, _, rfl, _, rfl, _, rfl, _, _, rfl, rfl, .inl ⟨by decide, by decide⟩, _, rfl, _, _, rfl, rfl, _, rfl, _, rfl, ?_, ?_⟩
    · exact PySem.Flt.log2_lt_of (by decide) (Nat.lt_of_lt_of_le mB (by decide : 2 ^ 100 ≤ 2 ^ 250)) |> fun z => Nat.lt_of_lt_of_le z (by decide)
    refine ⟨_, rfl, by show 1 ≤ sizeLine; decide, fun pl nl => ⟨_, rfl, by show 11 ≤ sizeLine; decide, fun p6 n6 => ?_⟩⟩
    have sl := newO nl (o := .lst [.int m])
    have s6 := fun o => newO n6 (o := o)
    refine ⟨b, c, ns, t2, r2, p6, _, rfl, (X2.bowl.same sl).same (s6 _), by omega, SqL.of upd_same, nb (X2.bowl.same sl) n6, by show 0 < 11; decide, by show 11 ≤ 1000; decide, fun vb t3 r3 H3 hvb x3 => ?_⟩
    have X3 := (((X2.ext sl).ext (s6 _)).trans x3).le (m := 2) (by have := x3.hi; omega)
    have S3 : Same (aw H [b]) (aw H3 [b]) := S2.trans ((aw_ext sl).trans ((aw_ext (s6 _)).trans (aw_but x3.but)))
    have T3 := X3.hi
    obtain ⟨eb, Db, db⟩ : ∃ e, Do K (aw H3 [b]) vb e ∧ deep e ≤ 1 := by
      have hl3 : H3 pl = some (.lst [.int m]) := x3.but pl _ (nb X2.bowl nl) (s6 _ _ _ upd_same)
      simp only [List.mem_cons, List.not_mem_nil, or_false] at hvb
      rcases hvb with e | e | e | e | e | e | e | e | e | e | e
      · exact ⟨_, by rw [e]; exact .int _, Nat.zero_le _⟩
      · exact ⟨_, by rw [e]; exact .int _, Nat.zero_le _⟩
      · exact ⟨_, by rw [e]; exact .int _, Nat.zero_le _⟩
      · exact ⟨_, by rw [e]; exact .int _, Nat.zero_le _⟩
      · exact ⟨_, by rw [e]; exact .int _, Nat.zero_le _⟩
      · exact ⟨_, by rw [e]; exact .int _, Nat.zero_le _⟩
      · exact ⟨.none, by rw [e]; exact .non, Nat.zero_le _⟩
      · exact ⟨_, by rw [e]; exact .bl true, Nat.zero_le _⟩
      · exact ⟨_, by rw [e]; exact .str _, Nat.zero_le _⟩
      · refine ⟨.list [.int m], by rw [e]; exact .lst (sq_aw (by simpa using nb X2.bowl nl) hl3) (by show 1 ≤ 1000; decide) (.cons (.int m) .nil), ?_⟩
        rw [deep_of (ds := [.int m]) rfl]
        show max 0 0 + 1 ≤ 1
        decide
      · exact ⟨_, by rw [e]; exact .int _, Nat.zero_le _⟩
    have Dps : ∀ {H' : Hp}, Same (aw H1 [b]) (aw H' [b]) → Do K (aw H' [b]) (.ref ps) (.list (sn.map PyData.int)) := fun s => .lst (s.seq hps) (by rw [List.length_map]; omega) (doAllInts sn)
    have Dpw : ∀ {H' : Hp}, Same (aw H [b]) (aw H' [b]) → Do K (aw H' [b]) (.ref pw) (.list (ws.map PyData.int)) := fun s => .lst (s.seq hpw) (by rw [List.length_map]; omega) (doAllInts ws)
    have dInts : ∀ l : List Int, deep (.list (l.map PyData.int)) ≤ 4 := fun l => by
      rw [deep_of (ds := l.map PyData.int) rfl]
      exact Nat.le_trans (Nat.succ_le_succ (deepA_bound (n := 0) fun d hd => by obtain ⟨z, _, rfl⟩ := List.mem_map.mp hd; exact Nat.le_refl _)) (by decide)
    have bI : ∀ {l : List Int}, (∀ z ∈ l, z.natAbs < 2 ^ 100) → areI (.list (l.map PyData.int)) = true → Bnd (intsOf (.list (l.map PyData.int))) := fun h _ => by rw [intsOf_of rfl]; exact B100 h
    have S13 : Same (aw H1 [b]) (aw H3 [b]) := (aw_ext s5).trans ((aw_but x2.but).trans ((aw_ext sl).trans ((aw_ext (s6 _)).trans (aw_but x3.but))))
    -- found, the first five
    have R3 := S13
    have A3 : AllP T (aw H3 [b]) [] := AllP.nil
    refine ⟨_, rfl, mk_whole T (b := b) (Dps R3) (dInts sn) (hb0 X3.bowl) fun y4 H4 z4 P4 _ => ?_⟩
    have X4 := X3.ext z4
    have F4 : Same (aw H3 [b]) (aw H4 [b]) := aw_ext z4
    have S4 : Same (aw H [b]) (aw H4 [b]) := S3.trans F4
    have R4 : Same (aw H1 [b]) (aw H4 [b]) := R3.trans F4
    have A4 := A3.step F4
    have T4 := X4.hi
    have A4 := A4.cons P4 (bnd_whole (bI snB))
    refine ⟨_, rfl, _, rfl, b, c, ns, t3, r3, ps, sn, rfl, X4.bowl, by omega, R4.seq hps, B200 snB, by omega, fun H5 v5 d5 t5 r5 x5 D5 e5 f5 => ?_⟩
    have X5 := (X4.trans x5).le (m := 6) (by have := x5.hi; have := X4.hi; omega)
    have F5 : Same (aw H4 [b]) (aw H5 [b]) := aw_but x5.but
    have S5 : Same (aw H [b]) (aw H5 [b]) := S4.trans F5
    have R5 : Same (aw H1 [b]) (aw H5 [b]) := R4.trans F5
    have A5 := A4.step F5
    have T5 := X5.hi
    refine ⟨rfl, rfl, mk_whole T (b := b) (D5) (by omega) (hb0 X5.bowl) fun y6 H6 z6 P6 _ => ?_⟩
    have X6 := X5.ext z6
    have F6 : Same (aw H5 [b]) (aw H6 [b]) := aw_ext z6
    have S6 : Same (aw H [b]) (aw H6 [b]) := S5.trans F6
    have R6 : Same (aw H1 [b]) (aw H6 [b]) := R5.trans F6
    have A6 := A5.step F6
    have T6 := X6.hi
    have A6 := A6.cons P6 (bnd_whole (f5))
    refine ⟨_, rfl, _, rfl, b, c, ns, t5, r5, ps, sn, rfl, X6.bowl, by omega, R6.seq hps, B200 snB, by omega, fun H7 v7 d7 t7 r7 x7 D7 e7 f7 => ?_⟩
    have X7 := (X6.trans x7).le (m := 10) (by have := x7.hi; have := X6.hi; omega)
    have F7 : Same (aw H6 [b]) (aw H7 [b]) := aw_but x7.but
    have S7 : Same (aw H [b]) (aw H7 [b]) := S6.trans F7
    have R7 : Same (aw H1 [b]) (aw H7 [b]) := R6.trans F7
    have A7 := A6.step F7
    have T7 := X7.hi
    refine mk_whole T (b := b) (D7) (by omega) (hb0 X7.bowl) fun y8 H8 z8 P8 _ => ?_
    have X8 := X7.ext z8
    have F8 : Same (aw H7 [b]) (aw H8 [b]) := aw_ext z8
    have S8 : Same (aw H [b]) (aw H8 [b]) := S7.trans F8
    have R8 : Same (aw H1 [b]) (aw H8 [b]) := R7.trans F8
    have A8 := A7.step F8
    have T8 := X8.hi
    have A8 := A8.cons P8 (bnd_whole (f7))
    refine ⟨_, rfl, _, rfl, mk_barred T (b := b) (Dpw S8) (.int m) (dInts ws) (Nat.zero_le _) (hb0 X8.bowl) fun y9 H9 z9 P9 => ?_⟩
    have X9 := X8.ext z9
    have F9 : Same (aw H8 [b]) (aw H9 [b]) := aw_ext z9
    have S9 : Same (aw H [b]) (aw H9 [b]) := S8.trans F9
    have R9 : Same (aw H1 [b]) (aw H9 [b]) := R8.trans F9
    have A9 := A8.step F9
    have T9 := X9.hi
    have A9 := A9.cons P9 (bnd_barred (bI wB))
    refine ⟨_, rfl, _, rfl, pw, _, rfl, .inl ⟨(S9.trans (aw_same _ _)).seq hpw, fun pt npt => ?_⟩⟩
    have z10 := newO npt (o := .tup (ws.map V.int))
    have bpt : pt ≠ b := nb X9.bowl npt
    have upt := upd_same (H := H9) (a := pt) (o := .tup (ws.map V.int))
    generalize hH10 : upd H9 pt (.tup (ws.map V.int)) = H10 at z10 upt ⊢
    have X10 := X9.ext z10
    have F10 : Same (aw H9 [b]) (aw H10 [b]) := aw_ext z10
    have S10 : Same (aw H [b]) (aw H10 [b]) := S9.trans F10
    have R10 : Same (aw H1 [b]) (aw H10 [b]) := R9.trans F10
    have A10 := A9.step F10
    have T10 := X10.hi
    have Dt : Do K (aw H10 [b]) (.ref pt) (.tuple (ws.map PyData.int)) := .tup (st_aw (by simpa using bpt) upt) (by rw [List.length_map]; omega) (doAllInts ws)
    have dT : deep (.tuple (ws.map PyData.int)) ≤ 4 := by rw [deep_of (ds := ws.map PyData.int) rfl]; exact (deep_of (d := .list (ws.map PyData.int)) (ds := ws.map PyData.int) rfl) ▸ dInts ws
    refine ⟨rfl, rfl, mk_barred T (b := b) (Dt) (.int m) (dT) (Nat.zero_le _) (hb0 X10.bowl) fun y11 H11 z11 P11 => ?_⟩
    have X11 := X10.ext z11
    have F11 : Same (aw H10 [b]) (aw H11 [b]) := aw_ext z11
    have S11 : Same (aw H [b]) (aw H11 [b]) := S10.trans F11
    have R11 : Same (aw H1 [b]) (aw H11 [b]) := R10.trans F11
    have A11 := A10.step F11
    have T11 := X11.hi
    have A11 := A11.cons P11 (bnd_barred (fun _ => by rw [intsOf_of rfl]; exact B100 wB))
    refine ⟨by show 5 ≤ sizeLine; decide, fun pL npL => ?_⟩
    have z12 := newO npL (o := .lst [.ref y4, .ref y6, .ref y8, .ref y9, .ref y11])
    have bpL : pL ≠ b := nb X11.bowl npL
    have upL := upd_same (H := H11) (a := pL) (o := .lst [.ref y4, .ref y6, .ref y8, .ref y9, .ref y11])
    generalize hH12 : upd H11 pL (.lst [.ref y4, .ref y6, .ref y8, .ref y9, .ref y11]) = H12 at z12 upL ⊢
    have X12 := X11.ext z12
    have F12 : Same (aw H11 [b]) (aw H12 [b]) := aw_ext z12
    have S12 : Same (aw H [b]) (aw H12 [b]) := S11.trans F12
    have R12 : Same (aw H1 [b]) (aw H12 [b]) := R11.trans F12
    have A12 := A11.step F12
    have T12 := X12.hi
    refine ⟨_, rfl, ?_⟩
    refine ⟨_, rfl, _, rfl, b, c, ns, t7, r7, pw, ws, rfl, X12.bowl, by omega, S12.seq hpw, B200 wB, by omega, fun H13 v13 d13 t13 r13 x13 D13 e13 f13 => ?_⟩
    have X13 := (X12.trans x13).le (m := 14) (by have := x13.hi; have := X12.hi; omega)
    have F13 : Same (aw H12 [b]) (aw H13 [b]) := aw_but x13.but
    have S13 : Same (aw H [b]) (aw H13 [b]) := S12.trans F13
    have R13 : Same (aw H1 [b]) (aw H13 [b]) := R12.trans F13
    have A13 := A12.step F13
    have T13 := X13.hi
    refine ⟨_, rfl, mk_barred T (b := b) (D13) (.int m) (by omega) (Nat.zero_le _) (hb0 X13.bowl) fun y14 H14 z14 P14 => ?_⟩
    have X14 := X13.ext z14
    have F14 : Same (aw H13 [b]) (aw H14 [b]) := aw_ext z14
    have S14 : Same (aw H [b]) (aw H14 [b]) := S13.trans F14
    have R14 : Same (aw H1 [b]) (aw H14 [b]) := R13.trans F14
    have A14 := A13.step F14
    have T14 := X14.hi
    have A14 := A14.cons P14 (bnd_barred (f13))
    refine ⟨_, rfl, _, rfl, mk_barred T (b := b) (Dpw S14) (Do.same (F4.trans (F5.trans (F6.trans (F7.trans (F8.trans (F9.trans (F10.trans (F11.trans (F12.trans (F13.trans (F14))))))))))) _ _ Db) (dInts ws) (by omega) (hb0 X14.bowl) fun y15 H15 z15 P15 => ?_⟩
    have X15 := X14.ext z15
    have F15 : Same (aw H14 [b]) (aw H15 [b]) := aw_ext z15
    have S15 : Same (aw H [b]) (aw H15 [b]) := S14.trans F15
    have R15 : Same (aw H1 [b]) (aw H15 [b]) := R14.trans F15
    have A15 := A14.step F15
    have T15 := X15.hi
    have A15 := A15.cons P15 (bnd_barred (bI wB))
    dsimp only [tCons, tMake]
    refine lo_data (fun x => .int (tm * toI x)) (ds := ws.map PyData.int) rfl (Do.same (aw_same _ _) _ _ (Dpw S15)) (fun R r => ⟨_, rfl, r⟩) (fun _ => rfl) (fun x e1 H' R s1 D1 hm r => ?_) fun pc1 H16 z16 npc1 qpc1 => ?_
    · obtain ⟨z, hz, rfl⟩ := List.mem_map.mp hm
      cases Do.isInt D1
      exact ⟨_, rfl, _, rfl, _, _, rfl, rfl, wide_mul htm (wB z hz) (by decide) (by decide) (by decide), r H' (Same.refl H')⟩
    have bpc1 : pc1 ≠ b := nb X15.bowl npc1
    have X16 := X15.ext z16
    have F16 : Same (aw H15 [b]) (aw H16 [b]) := aw_ext z16
    have S16 : Same (aw H [b]) (aw H16 [b]) := S15.trans F16
    have R16 : Same (aw H1 [b]) (aw H16 [b]) := R15.trans F16
    have A16 := A15.step F16
    have T16 := X16.hi
    have qpc1' : H16 pc1 = some (.lst ((ws.map fun z => tm * z).map V.int)) := by rw [qpc1, List.map_map, List.map_map]; rfl
    have Dc1 : Do K (aw H16 [b]) (.ref pc1) (.list ((ws.map fun z => tm * z).map PyData.int)) := .lst (sq_aw (by simpa using bpc1) qpc1') (by rw [List.length_map, List.length_map]; omega) (doAllInts _)
    have Bc1 : Bnd (ws.map fun z => tm * z) := fun u hu => by
      obtain ⟨z, hz, rfl⟩ := List.mem_map.mp hu
      have hz1 := wB z hz
      exact Nat.lt_of_lt_of_le (wide_lt htm hz1) (Nat.pow_le_pow_right (by decide) (by decide))
    refine ⟨_, rfl, mk_barred T (b := b) (Dc1) (.int m) (dInts _) (Nat.zero_le _) (hb0 X16.bowl) fun y17 H17 z17 P17 => ?_⟩
    have X17 := X16.ext z17
    have F17 : Same (aw H16 [b]) (aw H17 [b]) := aw_ext z17
    have S17 : Same (aw H [b]) (aw H17 [b]) := S16.trans F17
    have R17 : Same (aw H1 [b]) (aw H17 [b]) := R16.trans F17
    have A17 := A16.step F17
    have T17 := X17.hi
    have A17 := A17.cons P17 (bnd_barred (fun _ => by rw [intsOf_of rfl]; exact Bc1))
    refine ⟨_, rfl, _, rfl, b, c, ns, t13, r13, pw, ws, rfl, X17.bowl, by omega, S17.seq hpw, B200 wB, by omega, fun H18 v18 d18 t18 r18 x18 D18 e18 f18 => ?_⟩
    have X18 := (X17.trans x18).le (m := 18) (by have := x18.hi; have := X17.hi; omega)
    have F18 : Same (aw H17 [b]) (aw H18 [b]) := aw_but x18.but
    have S18 : Same (aw H [b]) (aw H18 [b]) := S17.trans F18
    have R18 : Same (aw H1 [b]) (aw H18 [b]) := R17.trans F18
    have A18 := A17.step F18
    have T18 := X18.hi
    refine ⟨_, rfl, mk_barred T (b := b) (D18) (Do.same (F4.trans (F5.trans (F6.trans (F7.trans (F8.trans (F9.trans (F10.trans (F11.trans (F12.trans (F13.trans (F14.trans (F15.trans (F16.trans (F17.trans (F18))))))))))))))) _ _ Db) (by omega) (by omega) (hb0 X18.bowl) fun y19 H19 z19 P19 => ?_⟩
    have X19 := X18.ext z19
    have F19 : Same (aw H18 [b]) (aw H19 [b]) := aw_ext z19
    have S19 : Same (aw H [b]) (aw H19 [b]) := S18.trans F19
    have R19 : Same (aw H1 [b]) (aw H19 [b]) := R18.trans F19
    have A19 := A18.step F19
    have T19 := X19.hi
    have A19 := A19.cons P19 (bnd_barred (f18))
    refine ⟨by show 4 ≤ sizeLine; decide, fun pM npM => ?_⟩
    have z20 := newO npM (o := .lst [.ref y14, .ref y15, .ref y17, .ref y19])
    have bpM : pM ≠ b := nb X19.bowl npM
    have upM := upd_same (H := H19) (a := pM) (o := .lst [.ref y14, .ref y15, .ref y17, .ref y19])
    generalize hH20 : upd H19 pM (.lst [.ref y14, .ref y15, .ref y17, .ref y19]) = H20 at z20 upM ⊢
    have X20 := X19.ext z20
    have F20 : Same (aw H19 [b]) (aw H20 [b]) := aw_ext z20
    have S20 : Same (aw H [b]) (aw H20 [b]) := S19.trans F20
    have R20 : Same (aw H1 [b]) (aw H20 [b]) := R19.trans F20
    have A20 := A19.step F20
    have T20 := X20.hi
    have hL1 : H20 pL = some (.lst [.ref y4, .ref y6, .ref y8, .ref y9, .ref y11]) := aw_same _ _ _ _ ((F13.trans (F14.trans (F15.trans (F16.trans (F17.trans (F18.trans (F19.trans (F20)))))))) _ _ (by rw [aw_ne (by simpa using bpL)]; exact upL))
    refine ⟨pL, pM, _, _, rfl, rfl, hL1, upM, by show 5 + 4 ≤ sizeLine; decide, fun pN npN => ?_⟩
    have z21 := newO npN (o := .lst ([.ref y4, .ref y6, .ref y8, .ref y9, .ref y11] ++ [.ref y14, .ref y15, .ref y17, .ref y19]))
    have bpN : pN ≠ b := nb X20.bowl npN
    have upN := upd_same (H := H20) (a := pN) (o := .lst ([.ref y4, .ref y6, .ref y8, .ref y9, .ref y11] ++ [.ref y14, .ref y15, .ref y17, .ref y19]))
    generalize hH21 : upd H20 pN (.lst ([.ref y4, .ref y6, .ref y8, .ref y9, .ref y11] ++ [.ref y14, .ref y15, .ref y17, .ref y19])) = H21 at z21 upN ⊢
    have X21 := X20.ext z21
    have F21 : Same (aw H20 [b]) (aw H21 [b]) := aw_ext z21
    have S21 : Same (aw H [b]) (aw H21 [b]) := S20.trans F21
    have R21 : Same (aw H1 [b]) (aw H21 [b]) := R20.trans F21
    have A21 := A20.step F21
    have T21 := X21.hi
    refine ⟨_, rfl, ?_⟩
    dsimp only [tLst, tCons, tMake]
    refine lo_data (fun x => .int (5 * toI x)) (ds := ws.map PyData.int) rfl (Do.same (aw_same _ _) _ _ (Dpw S21)) (fun R r => ⟨_, rfl, r⟩) (fun _ => rfl) (fun x e1 H' R s1 D1 hm r => ?_) fun pc2 H22 z22 nppc2 qpc2 => ?_
    · obtain ⟨z, hz, rfl⟩ := List.mem_map.mp hm
      cases Do.isInt D1
      exact ⟨_, rfl, _, _, rfl, rfl, .inl ⟨by decide, by decide⟩, r H' (Same.refl H')⟩
    have bpc2 : pc2 ≠ b := nb X21.bowl nppc2
    have X22 := X21.ext z22
    have F22 : Same (aw H21 [b]) (aw H22 [b]) := aw_ext z22
    have S22 : Same (aw H [b]) (aw H22 [b]) := S21.trans F22
    have R22 : Same (aw H1 [b]) (aw H22 [b]) := R21.trans F22
    have A22 := A21.step F22
    have T22 := X22.hi
    have qpc2' : H22 pc2 = some (.lst ((ws.map fun z => 5 * z).map V.int)) := by rw [qpc2, List.map_map, List.map_map]; rfl
    have Dpc2 : Do K (aw H22 [b]) (.ref pc2) (.list ((ws.map fun z => 5 * z).map PyData.int)) := .lst (sq_aw (by simpa using bpc2) qpc2') (by rw [List.length_map, List.length_map]; omega) (doAllInts _)
    have Bpc2 : Bnd (ws.map fun z => 5 * z) := fun u hu => by
      obtain ⟨z, hz, rfl⟩ := List.mem_map.mp hu
      exact Nat.lt_of_lt_of_le (wide_lt (show (5 : Int).natAbs < 2 ^ 101 by decide) (wB z hz)) (Nat.pow_le_pow_right (by decide) (by decide))
    refine ⟨_, rfl, _, _, rfl, rfl, .inl ⟨by decide, by decide⟩, mk_barred T (b := b) (Dpc2) (.int (5 * m)) (dInts _) (Nat.zero_le _) (hb0 X22.bowl) fun y23 H23 z23 P23 => ?_⟩
    have X23 := X22.ext z23
    have F23 : Same (aw H22 [b]) (aw H23 [b]) := aw_ext z23
    have S23 : Same (aw H [b]) (aw H23 [b]) := S22.trans F23
    have R23 : Same (aw H1 [b]) (aw H23 [b]) := R22.trans F23
    have A23 := A22.step F23
    have T23 := X23.hi
    have A23 := A23.cons P23 (bnd_barred (fun _ => by rw [intsOf_of rfl]; exact Bpc2))
    refine lo_data (fun x => .int ((toI x).fmod m)) (ds := ws.map PyData.int) rfl (Do.same (aw_same _ _) _ _ (Dpw S23)) (fun R r => ⟨_, rfl, r⟩) (fun _ => rfl) (fun x e1 H' R s1 D1 hm r => ?_) fun pc3 H24 z24 nppc3 qpc3 => ?_
    · obtain ⟨z, hz, rfl⟩ := List.mem_map.mp hm
      cases Do.isInt D1
      exact ⟨_, rfl, .inl ⟨_, rfl, _, rfl, _, _, rfl, rfl, by omega, r H' (Same.refl H')⟩⟩
    have bpc3 : pc3 ≠ b := nb X23.bowl nppc3
    have X24 := X23.ext z24
    have F24 : Same (aw H23 [b]) (aw H24 [b]) := aw_ext z24
    have S24 : Same (aw H [b]) (aw H24 [b]) := S23.trans F24
    have R24 : Same (aw H1 [b]) (aw H24 [b]) := R23.trans F24
    have A24 := A23.step F24
    have T24 := X24.hi
    have qpc3' : H24 pc3 = some (.lst ((ws.map fun z => (z).fmod m).map V.int)) := by rw [qpc3, List.map_map, List.map_map]; rfl
    have Dpc3 : Do K (aw H24 [b]) (.ref pc3) (.list ((ws.map fun z => (z).fmod m).map PyData.int)) := .lst (sq_aw (by simpa using bpc3) qpc3') (by rw [List.length_map, List.length_map]; omega) (doAllInts _)
    have Bpc3 : Bnd (ws.map fun z => (z).fmod m) := fun u hu => by
      obtain ⟨z, hz, rfl⟩ := List.mem_map.mp hu
      have h1 := Int.emod_nonneg z (show m ≠ 0 by omega)
      have h2 := Int.emod_lt_of_pos z (show 0 < m by omega)
      rw [Int.fmod_eq_emod_of_nonneg z (by omega)]
      exact Nat.lt_of_le_of_lt (show (z % m).natAbs ≤ m.natAbs by omega) (Nat.lt_of_lt_of_le mB (Nat.pow_le_pow_right (by decide) (by decide)))
    refine ⟨_, rfl, mk_barred T (b := b) (Dpc3) (.int m) (dInts _) (Nat.zero_le _) (hb0 X24.bowl) fun y25 H25 z25 P25 => ?_⟩
    have X25 := X24.ext z25
    have F25 : Same (aw H24 [b]) (aw H25 [b]) := aw_ext z25
    have S25 : Same (aw H [b]) (aw H25 [b]) := S24.trans F25
    have R25 : Same (aw H1 [b]) (aw H25 [b]) := R24.trans F25
    have A25 := A24.step F25
    have T25 := X25.hi
    have A25 := A25.cons P25 (bnd_barred (fun _ => by rw [intsOf_of rfl]; exact Bpc3))
    refine ⟨by show 2 ≤ sizeLine; decide, fun pO npO => ?_⟩
    have z26 := newO npO (o := .lst [.ref y23, .ref y25])
    have bpO : pO ≠ b := nb X25.bowl npO
    have upO := upd_same (H := H25) (a := pO) (o := .lst [.ref y23, .ref y25])
    generalize hH26 : upd H25 pO (.lst [.ref y23, .ref y25]) = H26 at z26 upO ⊢
    have X26 := X25.ext z26
    have F26 : Same (aw H25 [b]) (aw H26 [b]) := aw_ext z26
    have S26 : Same (aw H [b]) (aw H26 [b]) := S25.trans F26
    have R26 : Same (aw H1 [b]) (aw H26 [b]) := R25.trans F26
    have A26 := A25.step F26
    have T26 := X26.hi
    have hL2 : H26 pN = some (.lst ([.ref y4, .ref y6, .ref y8, .ref y9, .ref y11] ++ [.ref y14, .ref y15, .ref y17, .ref y19])) := aw_same _ _ _ _ ((F22.trans (F23.trans (F24.trans (F25.trans (F26))))) _ _ (by rw [aw_ne (by simpa using bpN)]; exact upN))
    refine ⟨pN, pO, _, _, rfl, rfl, hL2, upO, by show 9 + 2 ≤ sizeLine; decide, fun pR npR => ?_⟩
    have z27 := newO npR (o := .lst (([.ref y4, .ref y6, .ref y8, .ref y9, .ref y11] ++ [.ref y14, .ref y15, .ref y17, .ref y19]) ++ [.ref y23, .ref y25]))
    have bpR : pR ≠ b := nb X26.bowl npR
    have upR := upd_same (H := H26) (a := pR) (o := .lst (([.ref y4, .ref y6, .ref y8, .ref y9, .ref y11] ++ [.ref y14, .ref y15, .ref y17, .ref y19]) ++ [.ref y23, .ref y25]))
    generalize hH27 : upd H26 pR (.lst (([.ref y4, .ref y6, .ref y8, .ref y9, .ref y11] ++ [.ref y14, .ref y15, .ref y17, .ref y19]) ++ [.ref y23, .ref y25])) = H27 at z27 upR ⊢
    have X27 := X26.ext z27
    have F27 : Same (aw H26 [b]) (aw H27 [b]) := aw_ext z27
    have S27 : Same (aw H [b]) (aw H27 [b]) := S26.trans F27
    have R27 : Same (aw H1 [b]) (aw H27 [b]) := R26.trans F27
    have A27 := A26.step F27
    have T27 := X27.hi
    refine ⟨_, rfl, ?_⟩
    refine ⟨_, rfl, mk_paper (us := [.ref ps]) (ds := [.list (sn.map PyData.int)]) (.cons (Dps R27) .nil) (by show 1 ≤ 100; decide) (Nat.max_le.mpr ⟨dInts sn, Nat.zero_le _⟩) (hb0 X27.bowl) fun y28 dy28 H28 fs28 z28 q28 => ?_⟩
    have X28 := X27.ext z28
    have F28 : Same (aw H27 [b]) (aw H28 [b]) := aw_ext z28
    have S28 : Same (aw H [b]) (aw H28 [b]) := S27.trans F28
    have R28 : Same (aw H1 [b]) (aw H28 [b]) := R27.trans F28
    have A28 := A27.step F28
    have T28 := X28.hi
    have A28 := A28.cons (.paper q28) trivial
    refine ⟨_, rfl, _, rfl, mk_paper (us := [.ref pw, .int m]) (ds := [.list (ws.map PyData.int), .int m]) (.cons (Dpw S28) (.cons (.int m) .nil)) (by show 2 ≤ 100; decide) (Nat.max_le.mpr ⟨dInts ws, (by show max 0 0 ≤ 4; decide)⟩) (hb0 X28.bowl) fun y29 dy29 H29 fs29 z29 q29 => ?_⟩
    have X29 := X28.ext z29
    have F29 : Same (aw H28 [b]) (aw H29 [b]) := aw_ext z29
    have S29 : Same (aw H [b]) (aw H29 [b]) := S28.trans F29
    have R29 : Same (aw H1 [b]) (aw H29 [b]) := R28.trans F29
    have A29 := A28.step F29
    have T29 := X29.hi
    have A29 := A29.cons (.denial q29) trivial
    have wps : ∀ {G : Hp}, Same (aw H1 [b]) G → SG.Dw K G (.ref ps) (.list (sn.map PyData.int)) := fun s => .lst (s.seq hps) (by rw [List.length_map]; omega) (dwInts sn)
    have wpw : ∀ {G : Hp}, Same (aw H [b]) G → SG.Dw K G (.ref pw) (.list (ws.map PyData.int)) := fun s => .lst (s.seq hpw) (by rw [List.length_map]; omega) (dwInts ws)
    have A29 := A29.cons (.dat (wps R29)) trivial
    have A29 := A29.cons (.dat (wpw S29)) trivial
    have A29 := A29.cons (.dat .non) trivial
    have A29 := A29.cons (.dat (.str "whole")) trivial
    have A29 := A29.cons (.dat (.bl true)) trivial
    have A29 := A29.cons (.fn (Exists.choose_spec hlaw).1 (Exists.choose_spec hlaw).2) trivial
    refine ⟨_, rfl, _, rfl, _, rfl, by show 1 ≤ sizeLine; decide, fun pU npU => ?_⟩
    have z30 := newO npU (o := .tup [.ref ps])
    have bpU : pU ≠ b := nb X29.bowl npU
    have upU := upd_same (H := H29) (a := pU) (o := .tup [.ref ps])
    generalize hH30 : upd H29 pU (.tup [.ref ps]) = H30 at z30 upU ⊢
    have X30 := X29.ext z30
    have F30 : Same (aw H29 [b]) (aw H30 [b]) := aw_ext z30
    have S30 : Same (aw H [b]) (aw H30 [b]) := S29.trans F30
    have R30 : Same (aw H1 [b]) (aw H30 [b]) := R29.trans F30
    have A30 := A29.step F30
    have T30 := X30.hi
    have A30 := A30.cons (.dat (.tup (st_aw (by simpa using bpU) upU) (by show 1 ≤ 1000; decide) (.cons (wps R30) .nil))) trivial
    refine ⟨_, rfl, mk_whole T (b := b) (Dps R30) (dInts sn) (hb0 X30.bowl) fun y31 H31 z31 P31 _ => ?_⟩
    have X31 := X30.ext z31
    have F31 : Same (aw H30 [b]) (aw H31 [b]) := aw_ext z31
    have S31 : Same (aw H [b]) (aw H31 [b]) := S30.trans F31
    have R31 : Same (aw H1 [b]) (aw H31 [b]) := R30.trans F31
    have A31 := A30.step F31
    have T31 := X31.hi
    obtain ⟨fsI, dxI, qI⟩ : ∃ fs dx, aw H31 [b] y31 = some (.ins T.c_Whole.C dx fs) := by
      cases P31 with
      | whole q _ => exact ⟨_, _, q⟩
    refine mk_whole T (b := b) (d := .none) (.ins qI T.c_Whole.I) (Nat.zero_le _) (hb0 X31.bowl) fun y32 H32 z32 P32 _ => ?_
    have X32 := X31.ext z32
    have F32 : Same (aw H31 [b]) (aw H32 [b]) := aw_ext z32
    have S32 : Same (aw H [b]) (aw H32 [b]) := S31.trans F32
    have R32 : Same (aw H1 [b]) (aw H32 [b]) := R31.trans F32
    have A32 := A31.step F32
    have T32 := X32.hi
    have A32 := A32.cons P32 (bnd_whole (fun z => by cases z))
    refine ⟨by show 0 ≤ sizeLine; decide, fun pE npE => ?_⟩
    have z33 := newO npE (o := .lst [])
    have bpE : pE ≠ b := nb X32.bowl npE
    have upE := upd_same (H := H32) (a := pE) (o := .lst [])
    generalize hH33 : upd H32 pE (.lst []) = H33 at z33 upE ⊢
    have X33 := X32.ext z33
    have F33 : Same (aw H32 [b]) (aw H33 [b]) := aw_ext z33
    have S33 : Same (aw H [b]) (aw H33 [b]) := S32.trans F33
    have R33 : Same (aw H1 [b]) (aw H33 [b]) := R32.trans F33
    have A33 := A32.step F33
    have T33 := X33.hi
    have A33 := A33.cons (.dat (.lst (sq_aw (by simpa using bpE) upE) (by show 0 ≤ 1000; decide) .nil)) trivial
    refine ⟨by show 11 ≤ sizeLine; decide, fun pW npW => ?_⟩
    have z34 := newO npW (o := .lst [.ref y28, .ref y29, .ref ps, .ref pw, .non, .ref pU, .str "whole", .bl true, .ref y32, .ref T.d_law.f, .ref pE])
    have bpW : pW ≠ b := nb X33.bowl npW
    have upW := upd_same (H := H33) (a := pW) (o := .lst [.ref y28, .ref y29, .ref ps, .ref pw, .non, .ref pU, .str "whole", .bl true, .ref y32, .ref T.d_law.f, .ref pE])
    generalize hH34 : upd H33 pW (.lst [.ref y28, .ref y29, .ref ps, .ref pw, .non, .ref pU, .str "whole", .bl true, .ref y32, .ref T.d_law.f, .ref pE]) = H34 at z34 upW ⊢
    have X34 := X33.ext z34
    have F34 : Same (aw H33 [b]) (aw H34 [b]) := aw_ext z34
    have S34 : Same (aw H [b]) (aw H34 [b]) := S33.trans F34
    have R34 : Same (aw H1 [b]) (aw H34 [b]) := R33.trans F34
    have A34 := A33.step F34
    have T34 := X34.hi
    have hL3 : H34 pR = some (.lst (([.ref y4, .ref y6, .ref y8, .ref y9, .ref y11] ++ [.ref y14, .ref y15, .ref y17, .ref y19]) ++ [.ref y23, .ref y25])) := aw_same _ _ _ _ ((F28.trans (F29.trans (F30.trans (F31.trans (F32.trans (F33.trans (F34))))))) _ _ (by rw [aw_ne (by simpa using bpR)]; exact upR))
    refine ⟨pR, pW, _, _, rfl, rfl, hL3, upW, by show 11 + 11 ≤ sizeLine; decide, fun pZ npZ => ?_⟩
    have z35 := newO npZ (o := .lst ((([.ref y4, .ref y6, .ref y8, .ref y9, .ref y11] ++ [.ref y14, .ref y15, .ref y17, .ref y19]) ++ [.ref y23, .ref y25]) ++ [.ref y28, .ref y29, .ref ps, .ref pw, .non, .ref pU, .str "whole", .bl true, .ref y32, .ref T.d_law.f, .ref pE]))
    have bpZ : pZ ≠ b := nb X34.bowl npZ
    have upZ := upd_same (H := H34) (a := pZ) (o := .lst ((([.ref y4, .ref y6, .ref y8, .ref y9, .ref y11] ++ [.ref y14, .ref y15, .ref y17, .ref y19]) ++ [.ref y23, .ref y25]) ++ [.ref y28, .ref y29, .ref ps, .ref pw, .non, .ref pU, .str "whole", .bl true, .ref y32, .ref T.d_law.f, .ref pE]))
    generalize hH35 : upd H34 pZ (.lst ((([.ref y4, .ref y6, .ref y8, .ref y9, .ref y11] ++ [.ref y14, .ref y15, .ref y17, .ref y19]) ++ [.ref y23, .ref y25]) ++ [.ref y28, .ref y29, .ref ps, .ref pw, .non, .ref pU, .str "whole", .bl true, .ref y32, .ref T.d_law.f, .ref pE])) = H35 at z35 upZ ⊢
    have X35 := X34.ext z35
    have F35 : Same (aw H34 [b]) (aw H35 [b]) := aw_ext z35
    have S35 : Same (aw H [b]) (aw H35 [b]) := S34.trans F35
    have R35 : Same (aw H1 [b]) (aw H35 [b]) := R34.trans F35
    have A35 := A34.step F35
    have T35 := X35.hi
    refine k _ _ _ pZ _ (X35.le (by omega)) upZ bpZ (by show 22 ≤ 100; decide) (A35.sub fun v hv => ?_)
    simp only [List.mem_append, List.mem_cons, List.not_mem_nil, or_false, false_or] at hv ⊢
    rcases hv with (((h | h | h | h | h) | (h | h | h | h)) | (h | h)) | (h | h | h | h | h | h | h | h | h | h | h)
    all_goals simp [h]
end
end K11

set_option Elab.async false
set_option linter.all false
set_option maxRecDepth 100000
set_option maxHeartbeats 4000000
/-! SG4's rule, the wish told how many slots there are. -/
namespace SG
open PySem PySem.Spec PyProof.Rows L2
section
variable {X : Cx} {x n : Str} {c : Value} {i : Nat} {body suite : List Stmt} {b₀ : Stmt} {np pos pos' : Pos} {tb : WX → TS} {ts : Addr → Value → Option Addr → TS} {Wout : WX}
theorem ps_try_keepL (hs : X.stack = X.env :: X.outer) (hf : X.env.frame = some X.env.locals) (hN : X.N.Nodup) (hi : X.N[i]? = some n) (hln : X.env.kindOf n = some .local) (hex : X.ex = []) (hc : Names X x c) (tk : Takes X Wout)
    (hb : ∀ (W : WX) (pn : List (Addr × Obj)) (xe : Value → Shared → Prop), Takes (X.tr pn xe) W → PassesOwn (model X.prog X.w) X.A X.env xe → PSs (X.tr pn xe) body (tb W))
    (hsu : ∀ (a : Addr) (oe : Obj) (cls : Value) (d : Option Addr) (pn : List (Addr × Obj)), Zc cls d oe → (∃ vs, oe.data = .fields vs) → PSs (X.suite a ((a, oe) :: pn)) (b₀ :: suite) (ts a cls d)) :
    PS X (.Try body [.ExceptHandler (some (.Name x np)) (some n) (b₀ :: suite) pos'] [] [] pos) (fun D σ H => tb (fun cls d σ' H' => σ'.length = X.N.length → wKeep X.K c i ts Wout D cls d σ' H') D σ H) := by
  refine ⟨fun pins s σ H D I h => wpAny_Try_except ?_⟩
  have ok := I.ok
  have hfr : X.A.frames = some (X.env :: X.outer) := by rw [ok.frames, hs]
  have hloc : Loc X.env.scope n := .inl hln
  refine wpAny_mono ((hb (fun cls d σ' H' => σ'.length = X.N.length → wKeep X.K c i ts Wout D cls d σ' H') (X.pn ++ pins) (fun e s1 => wpAny (model X.prog X.w) X.A (noteFrame e X.env) (fun _ s2 => wpAny (model X.prog X.w) X.A (setFlight e none) (fun _ s3 =>
    wpAny (model X.prog X.w) X.A (handleBy e X.env [.ExceptHandler (some (.Name x np)) (some n) (b₀ :: suite) pos']) (SP X pins D) X.xe s3) X.xe s2) X.xe s1) ?caught PassesOwn.looking).run [] s σ H D (I.toTry _) h) ?thru (fun e s1 he => he)
  case thru =>
    intro f s1 hsp
    cases f with
    | next =>
      obtain ⟨σ', H', J', q⟩ := hsp
      exact wpAny_execs_nil ⟨σ', H', J'.ofTry ok, q⟩
    | brk =>
      obtain ⟨σ', H', J', q⟩ := hsp
      exact ⟨σ', H', J'.ofTry ok, q⟩
    | cont =>
      obtain ⟨σ', H', J', q⟩ := hsp
      exact ⟨σ', H', J'.ofTry ok, q⟩
    | ret u =>
      obtain ⟨v, σ', H', J', r, q⟩ := hsp
      exact ⟨v, σ', H', J'.ofTry ok, r, q⟩
  case caught =>
    rintro u s' ⟨a, B, sI, pins', σ', H', cls, d, rfl, J', nb, up, sky, na, os, ag, wish⟩
    have J : Inv X pins σ' H' sI := J'.ofTry ok
    obtain ⟨b, hb1, hyes, hno⟩ := wish J.len
    have sky' : Sky B (X.env :: X.outer) a (Zc cls d) X.env.locals s'.heap := hs ▸ sky
    show wpAny (model X.prog X.w) X.A (noteFrame (.ref a) X.env) _ _ _
    refine Sky.land Zc.steady hfr hf sky' ?_
    intro h3 fl3 up3
    have J3 : Inv X pins σ' H' { s' with heap := h3 } := J.landed nb fl3.1 (up.trans up3) os ag
    obtain ⟨oe3, vs3, he3, hz3, hd3⟩ := fl3.there
    have apart : ∀ {h : Heap} {o : Obj} {vs : Array Value}, h.FunFrames B (X.env :: X.outer) → h.get? a = some o → o.data = .fields vs → a ∉ frs (X.env :: X.outer) := by
      intro h o vs ff e dd hm
      obtain ⟨_, o', e', hnf⟩ := ff.mem hm
      rw [e] at e'
      cases e'
      exact hnf _ dd
    have nfr := apart fl3.2.2.1 he3 hd3
    have nL : a ≠ X.env.locals := fun z => nfr (List.mem_filterMap.mpr ⟨X.env, List.mem_cons_self, by rw [hf, z]⟩)
    have nF : a ∉ X.fs := by
      intro hm
      obtain ⟨e, he, q⟩ := List.mem_filterMap.mp hm
      exact nfr (List.mem_filterMap.mpr ⟨e, List.mem_cons_of_mem _ he, q⟩)
    -- it stood nowhere ahead of the body
    have nI : sI.heap.get? a = none := by
      cases e : sI.heap.get? a with
      | none => rfl
      | some u =>
        have z := nb a u e (by rw [hs]; exact nfr)
        rw [fl3.2.1] at z
        cases z
    have n0 : X.s_0.heap.get? a = none := by
      cases e : X.s_0.heap.get? a with
      | none => rfl
      | some u =>
        obtain ⟨u', z⟩ := J.base.there a u e (by rw [hex]; exact fun z => nomatch z)
        rw [nI] at z
        cases z
    have np' : ∀ p ∈ X.pn ++ pins, p.1 ≠ a := by
      intro p hm z
      have q := (J.pin p hm).1
      rw [z, nI] at q
      cases q
    have S3 := J3.suite he3 hd3 na nL nF
    refine wpAny_handleBy_cons (codeAny_handlers_test ?_) (by intro q; cases q)
    have LT : PySem.W.Looks (model X.prog X.w) h3 (typeOf (.ref a)) cls := fun A Q E s k q => wpAny_typeOf_ref (k _ _ he3) (by rw [hz3.1]; exact q)
    have LM := PySem.W.exm_one (M := model X.prog X.w) J3.kIn LT hb1
    have test : ∀ {Q : Value → Shared → Prop} {E : Value → Shared → Prop}, Q c { s' with heap := h3 } → wpAny (model X.prog X.w) (X.A.mark (some (.ref a))) (eval (.Name x np) X.env) Q E { s' with heap := h3 } := by
      intro Q E q
      obtain ⟨hg, hdbg, hm | ⟨hm, hv, hnn⟩⟩ := hc
      · exact ld_glob (X := X.suite a ((a, oe3) :: (X.pn ++ pins))) S3 hg hm q hdbg
      · exact ld_blt (X := X.suite a ((a, oe3) :: (X.pn ++ pins))) S3 hg hm hv q hnn hdbg
    refine test (LM.here ?_)
    cases b with
    | true =>
      refine codeAny_handlers_suite_as (HandSPX.lands_againZ fl3 ?_)
      intro h4 fl4 up4
      have J4 : Inv X pins σ' H' { s' with heap := h4 } := J.landed nb fl4.1 ((up.trans up3).trans up4) os ag
      obtain ⟨oe4, vs4, he4, hz4, hd4⟩ := fl4.there
      have S4 := J4.suite he4 hd4 na nL nF
      refine store_ok (X := X.suite a ((a, oe4) :: (X.pn ++ pins))) (v := .ref a) S4 hN hi hloc rfl (fun s5 S5 => ?_) (.inr hln)
      refine wpAny_mono ((hsu a oe4 cls d (X.pn ++ pins) hz4 ⟨_, hd4⟩).run [] s5 _ H' _ S5 (hyes rfl a na)) ?_ (fun _ _ z => z.elim)
      intro f s6 hsp
      have leave : ∀ {σ6 : L2.St} {H6 : Hp} {Q : Shared → Prop}, Inv (X.suite a ((a, oe4) :: (X.pn ++ pins))) [] σ6 H6 s6 → (∀ s7, Inv X pins (σ6.set i none) (upd H6 a (exv a cls d)) s7 → Q s7) →
          wpAny (model X.prog X.w) X.A (do bindName X.env n .none; unbindBehindTheSuite X.env n pos') (fun _ s7 => Q s7) X.xe s6 := by
        intro σ6 H6 Q S6 hq
        obtain ⟨q1, q2, _⟩ := S6.pin (a, oe4) (List.mem_append_left _ List.mem_cons_self)
        exact gone_ok (Inv.keepErr (S6.unsuite ok) q1 hz4 hd4 q2 nL n0 np') hN hi hln hq
      cases f with
      | next =>
        obtain ⟨σ6, H6, S6, q6⟩ := hsp
        exact leave S6 fun s7 J7 => ⟨_, _, J7, q6⟩
      | brk =>
        obtain ⟨σ6, H6, S6, q6⟩ := hsp
        exact leave S6 fun s7 J7 => ⟨_, _, J7, q6⟩
      | cont =>
        obtain ⟨σ6, H6, S6, q6⟩ := hsp
        exact leave S6 fun s7 J7 => ⟨_, _, J7, q6⟩
      | ret u =>
        obtain ⟨v6, σ6, H6, S6, r6, q6⟩ := hsp
        exact leave S6 fun s7 J7 => ⟨_, _, _, J7, r6, q6⟩
    | false =>
      show wpAny _ X.A (handleBy (.ref a) X.env []) _ _ _
      refine wpAny_handleBy_nil ?_
      obtain ⟨k1, k2, k3, oe, vs, T, oT, ts', he, hz, hd, h1, hr⟩ := id fl3
      unfold PySem.passOn
      refine wpAny_bind (wpAny_field he hd h1 ?_)
      rw [if_neg (show ¬ ((Value.ref T == Value.none) = true) from by simp)]
      have fin : wpAny (model X.prog X.w) X.A (setFlight (.ref a) X.env.frame) (fun _ s4 => wpAny (model X.prog X.w) X.A (throw (.ref a) : Sem Flow) (SP X pins D) X.xe s4) X.xe { s' with heap := h3 } := by
        rw [hf]
        refine HandSPX.setFlight_upZ fl3 fun h4 hh4 up4 => wpAny_throw (tk _ _ ?_)
        exact ⟨a, B, sI, pins, σ', H', cls, d, rfl, J, nb, (up.trans up3).trans up4, .inr (.inr (by rw [hs]; exact hh4)), na, os, ag, hno rfl⟩
      first
        | exact wpAny_bind (wpAny_pure (wpAny_bind fin))
        | exact wpAny_bind fin
end
end SG

set_option Elab.async false
set_option linter.all false
set_option maxRecDepth 100000
set_option maxHeartbeats 2000000
/-! A lambda with one default, handed to a def that calls it without arguments. -/
namespace SGL
open PySem PySem.Spec PyProof.Rows L2 LamX
section
variable {X : Cx} {pins : List (Addr × Obj)} {σ : L2.St} {H HZ : Hp} {s s1 : Shared}
abbrev dObj (q : Str) (params : Arguments) (body : Expr) (scope : Scope) (cl : List (Str × Addr)) (D : Addr) (doc pm : Value) (c' : Addr) (ctv : Value) : Obj :=
  PySem.W.kdv_obj "<lambda>" q params (.expr body) scope cl (.ref D) doc pm c' ctv
theorem lam_makeD {T : List (Addr × Str)} {c P : Addr} {params : Arguments} {body e0 : Expr} {v0 : V} {scope : Scope} {pos : Pos} {Q : Value → Shared → Prop} (I : Inv X pins σ H s) (TB : TabB X.base X.mg c P) (hcode : X.env.code = .ref c)
    (hm : (P, X.env.qual ++ "<lambda>") ∈ T) (hu : ∀ p ∈ T, p.1 = P → p.2 = X.env.qual ++ "<lambda>") (hT : Tabs T H) (hd0 : params.defaults = [e0]) (hk0 : params.kw_defaults = []) (he0 : PE X e0 (tC v0)) (hfree : ∀ y ∈ scope.names, y.2 = .free → ∃ c, X.env.cells.lookup y.1 = some c)
    (h : ∀ (f c' D : Addr) (u doc pm ctv : Value) (H1 : Hp) (s' : Shared), Inv X pins σ H1 s' → ExtN H H1 → Tabs T H1 →
      s'.heap.get? f = some (dObj (X.env.qual ++ "<lambda>") params body scope (cloFrom X.env.cells scope.names []) D doc pm c' ctv) → H1 f = none → f ∉ frs X.stack →
      s'.heap.get? D = some (PySem.W.kdv_tup [u]) → H1 D = none → D ∉ frs X.stack → L2.RelV v0 u → H1 c' = some (CodeO c' (X.env.qual ++ "<lambda>")) → Q (.ref f) s') :
    wpAny (model X.prog X.w) X.A (eval (.Lambda params body scope pos) X.env) Q X.xe s := by
  refine PySem.W.kdv_lam (by rw [hd0]; rfl) hk0 ?_
  rw [hd0]
  refine PySem.W.kdv_all1 (thn (he0.run pins s σ H (fun v H1 => v = v0 ∧ H1 = H) I ⟨rfl, rfl⟩) fun u s1 z => ?_)
  obtain ⟨v, H1, I1, r1, e1, e2⟩ := z
  rw [e1] at r1
  rw [e2] at I1
  refine PySem.W.kdv_all0 ?_
  rw [makeFunction_eq]
  simp only [List.zip_nil_right, List.filterMap_nil, List.isEmpty_nil, List.isEmpty_cons, if_true, pure_bind, Bool.false_eq_true, if_false]
  refine wpAny_bind (wpAny_newTextTuple ?_)
  have hD : (s1.heap.push (PySem.W.kdv_tup [u])).get? s1.heap.objs.size = some (PySem.W.kdv_tup [u]) := Heap.get?_push_size _ rfl
  have nD : H s1.heap.objs.size = none := I1.hok.fresh (Nat.le_refl _)
  have lD : s1.heap.objs.size < (s1.heap.push (PySem.W.kdv_tup [u])).objs.size := Heap.lt_size hD
  have I2 : Inv X pins σ H { s1 with heap := s1.heap.push (PySem.W.kdv_tup [u]) } := I1.kept fun b o e => Heap.get?_push_of_some _ e
  have nofr : ∀ f, s1.heap.objs.size ≤ f → f ∉ frs X.stack := fun f hf z => by
    rcases List.mem_cons.mp (I1.stkSub _ z) with e | e
    · have h1 := I1.lt
      rw [← e] at h1
      exact Nat.lt_irrefl _ (Nat.lt_of_lt_of_le h1 hf)
    · exact I1.nofs hf e
  have frD := nofr _ (Nat.le_refl _)
  generalize s1.heap.objs.size = D at hD nD lD nofr frD ⊢
  generalize hs2 : ({ s1 with heap := s1.heap.push (PySem.W.kdv_tup [u]) } : Shared) = s2 at I2 ⊢
  have hD2 : s2.heap.get? D = some (PySem.W.kdv_tup [u]) := by rw [← hs2]; exact hD
  have lD2 : D < s2.heap.objs.size := by rw [← hs2]; exact lD
  obtain ⟨ps, hP, ht, ha⟩ := hT _ hm
  have bP : s2.heap.BuiltinsAt X.mg P := TB.bm.keeps I2.bk
  have hP' : s2.heap.get? P = some { cls := .none, data := .fields ps } := I2.hok P _ hP
  have nPD : D ≠ P := Ne.symm (ne_of_none hP nD)
  cases hc : codeAmong pos ps.toList with
  | none =>
    refine PySem.W.kdv_makeTail (mg := X.mg) (c := c) (P := P) (ps := ps) (closure_ok hfree) I2.ok.glob (I2.mod.glob.keeps I2.bk) hcode (TB.code.keeps I2.bk) hP' ht hc TB.gP bP fun c' ctv doc h' tk hx hge hlt hrec htb => ?_
    obtain ⟨c2, oc, vs, t, e2, hoc, hd, hv⟩ := hrec
    cases e2
    have hsz : s2.heap.objs.size ≤ h'.objs.size := Nat.le_trans hge (Nat.le_of_lt hlt)
    have nC : H c' = none := I2.hok.fresh hge
    have I3 := inv_table (t' := tk) (more := #[rawInt pos.line, rawInt pos.col, .ref c']) (h' := h'.push (dObj (X.env.qual ++ "<lambda>") params body scope (cloFrom X.env.cells scope.names []) D doc ((X.mg "__name__").getD .none) c' ctv)) I2 hP
      (fun b o hb e => Heap.get?_push_of_some _ (hx b o hb e)) (Heap.get?_push_of_some _ htb) hge ⟨oc, vs, t, Heap.get?_push_of_some _ hoc, hd, hv⟩
    have hE : ExtN H (upd (upd H P (.tbl (ps ++ #[rawInt pos.line, rawInt pos.col, .ref c']))) c' (CodeO c' (X.env.qual ++ "<lambda>"))) := fun b o e n => by
      rw [upd_ne (ne_of_none e nC), upd_ne (fun z => n ps (Option.some.inj (e.symm.trans (by rw [z]; exact hP))))]
      exact e
    have eL : (ps ++ #[rawInt pos.line, rawInt pos.col, .ref c']).toList = ps.toList ++ [rawInt pos.line, rawInt pos.col, .ref c'] := by simp
    have nfree : ∀ b, b ≠ P → b ≠ c' → H b = none → upd (upd H P (.tbl (ps ++ #[rawInt pos.line, rawInt pos.col, .ref c']))) c' (CodeO c' (X.env.qual ++ "<lambda>")) b = none := fun b h1 h2 h3 => by
      rw [upd_ne h2, upd_ne h1]
      exact h3
    refine h h'.objs.size c' D u doc ((X.mg "__name__").getD .none) ctv _ _ I3 hE (fun p hp => ?_) (Heap.get?_push_size _ rfl) ?_ (nofr _ (Nat.le_trans (Nat.le_of_lt lD2) hsz)) (Heap.get?_push_of_some _ (hx _ _ nPD hD2)) ?_ frD r1 upd_same
    · by_cases hb : p.1 = P
      · rw [hu p hp hb, hb]
        refine ⟨_, by rw [upd_ne (ne_of_none hP nC), upd_same], by rw [eL]; exact PySem.TriplesOk_snoc _ _ _ _ ht, fun p' cv hcv => ?_⟩
        rw [eL] at hcv
        rcases among_app _ ht hcv with z | z
        · obtain ⟨c0, e1, e2⟩ := ha p' cv z
          exact ⟨c0, e1, hE _ _ e2 codeO_ne⟩
        · exact ⟨c', z, upd_same⟩
      · obtain ⟨ps', a1, a2, a3⟩ := hT p hp
        refine ⟨ps', by rw [upd_ne (ne_of_none a1 nC), upd_ne hb]; exact a1, a2, fun p' cv hcv => ?_⟩
        obtain ⟨c0, e1, e2⟩ := a3 p' cv hcv
        exact ⟨c0, e1, hE _ _ e2 codeO_ne⟩
    · exact nfree _ (Nat.ne_of_gt (Nat.lt_of_lt_of_le (Heap.lt_size hP') hsz)) (Nat.ne_of_gt hlt) (I2.hok.fresh hsz)
    · exact nfree _ nPD (Nat.ne_of_lt (Nat.lt_of_lt_of_le lD2 hge)) nD
  | some cv =>
    obtain ⟨c', e, hco⟩ := ha pos cv hc
    subst e
    refine PySem.W.kdv_makeTailHit (mg := X.mg) (c := c) (P := P) (ps := ps) (closure_ok hfree) I2.ok.glob (I2.mod.glob.keeps I2.bk) hcode (TB.code.keeps I2.bk) hP' ht hc bP fun ctv doc h' tk hx hsz => ?_
    have I3 : Inv X pins σ H { s2 with heap := h'.push (dObj (X.env.qual ++ "<lambda>") params body scope (cloFrom X.env.cells scope.names []) D doc ((X.mg "__name__").getD .none) c' ctv), toks := tk } := I2.kept fun b o e => Heap.get?_push_of_some _ (hx b o e)
    exact h h'.objs.size c' D u doc ((X.mg "__name__").getD .none) ctv H _ I3 (ExtN.refl H) hT (Heap.get?_push_size _ rfl) (I2.hok.fresh hsz) (nofr _ (Nat.le_trans (Nat.le_of_lt lD2) hsz)) (Heap.get?_push_of_some _ (hx _ _ hD2)) nD frD r1 hco
end
/-- one parameter, nm, that the maker's names know not; captured ones and globals -/
structure LamD (N : List Str) (nm : Str) (sc scope : Scope) : Prop where
  kind : scope.kind = .function
  co : scope.isCoroutine = false
  gen : scope.isGenerator = false
  own : ∀ y ∈ scope.names, y.2 ≠ .cell ∧ (y.2 = .local → y.1 = nm)
  loc : scope.names.lookup nm = some .local
  new : nm ∉ N
  free : ∀ y ∈ scope.names, y.2 = .free → sc.names.lookup y.1 = some .cell ∨ sc.names.lookup y.1 = some .free
def lamDB (N : List Str) (nm : Str) (sc scope : Scope) : Bool :=
  decide (scope.kind = .function) && !scope.isCoroutine && !scope.isGenerator && (scope.names.all fun y => !decide (y.2 = .cell) && (!decide (y.2 = .local) || decide (y.1 = nm)) && (!decide (y.2 = .free) || decide (sc.names.lookup y.1 = some .cell) || decide (sc.names.lookup y.1 = some .free))) &&
    decide (scope.names.lookup nm = some .local) && !decide (nm ∈ N)
theorem lamD_by {N : List Str} {nm : Str} {sc scope : Scope} (h : lamDB N nm sc scope = true) : LamD N nm sc scope := by
  unfold lamDB at h
  simp only [Bool.and_eq_true, Bool.or_eq_true, Bool.not_eq_true', decide_eq_true_eq, decide_eq_false_iff_not, List.all_eq_true] at h
  obtain ⟨⟨⟨⟨⟨h1, h2⟩, h3⟩, h4⟩, h5⟩, h6⟩ := h
  refine ⟨h1, h2, h3, fun y hy => ⟨(h4 y hy).1.1, fun e => ?_⟩, h5, h6, fun y hy e => ?_⟩
  · rcases (h4 y hy).1.2 with z | z
    · exact absurd e z
    · exact z
  · rcases (h4 y hy).2 with (z | z) | z
    · exact absurd e z
    · exact .inl z
    · exact .inr z
theorem LamD.has {X : Cx} {nm : Str} {scope : Scope} (L : LamD X.N nm X.env.scope scope) (ok : X.Ok) : ∀ y ∈ scope.names, y.2 = .free → ∃ c, X.env.cells.lookup y.1 = some c := fun y hy e => by
  rcases L.free y hy e with k | k
  · exact ok.has _ (.inl k)
  · exact ok.has _ (.inr k)
section
variable {X : Cx} {pins : List (Addr × Obj)} {σ : L2.St} {H HZ : Hp} {s s1 : Shared}
theorem lam_startD {A : Around} {outer : List Env} {E : XK} {nm : Str} {u : Value} {scope : Scope} {f c' : Addr} {h₁ : Heap} {tk : Nat} (I : Inv X pins σ H s) (L : LamD X.N nm X.env.scope scope) (e0 : Env0 X.prog X.w X.K X.mg X.base A outer s1 HZ) (hd : A.handled = none)
    (un : Un (frs X.stack) [] H HZ s.heap s1.heap) (hns : h₁.Ns s1.heap.objs.size fun y => ([(nm, u)] : List (Str × Value)).reverse.lookup y) (kp : ∀ b o, s1.heap.get? b = some o → h₁.get? b = some o) :
    Inv (lamCx X A outer s1 HZ E scope f c') [] σ HZ { s1 with heap := h₁, toks := tk } := by
  have hfree := L.has I.ok
  have cm : ∀ {y c}, (cloFrom X.env.cells scope.names []).lookup y = some c → X.env.cells.lookup y = some c := fun {y c} e => by
    rcases cloFrom_mem (PySem.mem_of_lookup e) with hm | ⟨h1, h2⟩
    · cases hm
    · obtain ⟨c1, hc⟩ := hfree _ h1 rfl
      have hc : X.env.cells.lookup y = some c1 := hc
      have e2 : c = c1 := by
        rw [h2, hc] <;> rfl
      rw [e2]
      exact hc
  have look : ∀ {y}, scope.names.lookup y = some .free → ∃ c, (cloFrom X.env.cells scope.names []).lookup y = some c := fun {y} hl => by
    have hy : (y, NameKind.free) ∈ scope.names := PySem.mem_of_lookup hl
    exact mem_lookup (cloFrom_has (cells := X.env.cells) (acc := []) hy)
  have cellK : ∀ {c : Addr} {v : Option Value}, H c = none → s.heap.IsCell c v → h₁.IsCell c v := fun {c v} n ⟨o, ho, hd⟩ => by
    obtain ⟨sl, q⟩ := un.any ho n (by simp)
    exact ⟨_, kp _ _ q, hd⟩
  have noA : ∀ b : Addr, b ∉ (lamCx X A outer s1 HZ E scope f c').ex := fun b z => absurd (show b ∈ ([] : List Addr) from z) (by simp)
  refine ⟨⟨e0.mod, L.kind, rfl, rfl, Nat.le_refl _, fun y z c e1 e2 => I.ok.inj y z c (cm e1) (cm e2), fun y hy => ?_, fun y c z _ => ?_, fun _ => hd, Around.frames_deeper e0.frames, .inr ⟨rfl, rfl⟩, fun b z => absurd z (noA b), e0.bs, e0.bsz, fun b _ _ => noA b,
      fun b z => absurd z (noA b), e0.funs, e0.frf⟩,
    rfl, e0.bare, Un.kept kp, ⟨_, hns, fun i y v e1 e2 e3 => ?_⟩, fun y c e => ?_, e0.hok.fresh (Nat.le_refl _), fun y c e => ?_, fun q hq => absurd (show q ∈ ([] : List (Addr × Obj)) ++ [] from hq) (by simp), e0.hok.kept kp, I.len⟩
  · have hy : scope.names.lookup y = some .cell ∨ scope.names.lookup y = some .free := hy
    rcases hy with hy | hy
    · exact absurd rfl (L.own _ (PySem.mem_of_lookup hy)).1
    · exact look hy
  · have z : false = true := z
    cases z
  · have e3 : Vis scope y := e3
    rcases e3 with k | k | k
    · have en : y = nm := (L.own _ (PySem.mem_of_lookup k)).2 rfl
      have e1' : X.N[i]? = some y := e1
      exact absurd (en ▸ List.mem_of_getElem? e1') L.new
    · exact absurd rfl (L.own _ (PySem.mem_of_lookup k)).1
    · obtain ⟨m, hn, hl⟩ := I.loc
      have hvis : Vis X.env.scope y := (L.free _ (PySem.mem_of_lookup k) rfl).elim (fun k => .inr (.inl k)) (fun k => .inr (.inr k))
      obtain ⟨w', r, q⟩ := hl i y v e1 e2 hvis
      obtain ⟨c2, h2⟩ := look k
      refine ⟨w', r, .inr ⟨.inr k, c2, h2, ?_⟩⟩
      have c1 := cm h2
      rcases q with ⟨k', _⟩ | ⟨_, c3, e', z⟩
      · have k' : X.env.scope.names.lookup y = some .local := k'
        rcases L.free _ (PySem.mem_of_lookup k) rfl with k2 | k2 <;> rw [show X.env.scope.names.lookup y = _ from k2] at k' <;> cases k'
      · rw [c1] at e'
        cases e'
        exact cellK (I.freeC y _ c1) z
  · obtain ⟨w', z⟩ := I.cell y c (cm e)
    exact ⟨w', cellK (I.freeC y c (cm e)) z⟩
  · obtain ⟨v, o, ho, hd⟩ := I.cell y c (cm e)
    exact un.free c o ho (I.freeC y c (cm e)) (by simp)
/-- what binding asks: the tuple of the defaults is read, the name bound -/
def BindD (nm : Str) (params : Arguments) (body : Expr) (scope : Scope) : Prop := ∀ (D : Addr) (q : Str) (cl : List (Str × Addr)) (doc pm cv ctv u : Value),
  ∃ k, bindArgs (PySem.W.kdv_fn "<lambda>" q params (.expr body) scope cl (.ref D) doc pm cv ctv) ⟨[], []⟩ = seqItems? (.ref D) >>= k ∧ k (some #[u]) = pure [(nm, u)]
theorem pe_actD {CXg : CXT} {Eg : XK} {Ng : List Str} {qg : Str} {sg : Scope} {g f c' D : Addr} {u cdg doc pm ctv : Value} {nm : Str} {params : Arguments} {body : Expr} {scope : Scope} {k i : Nat} {a : Str} {pn : List (Addr × Obj)} {xe : Value → Shared → Prop} {W : WX} {E : XK} {tb : TE} {p1 p2 : Pos}
    (I : Inv X pins σ H s) (L : LamD X.N nm X.env.scope scope) (hf : s.heap.get? f = some (dObj (X.env.qual ++ "<lambda>") params body scope (cloFrom X.env.cells scope.names []) D doc pm c' ctv)) (hfn : H f = none) (hfr : f ∉ frs X.stack)
    (hDt : s.heap.get? D = some (PySem.W.kdv_tup [u])) (hDn : H D = none) (hDr : D ∉ frs X.stack) (hbind : BindD nm params body scope)
    (tk : Takes ((cxOf CXg X.prog X.w X.K X.mg X.base Ng qg sg g cdg X.A X.stack s H Eg).tr pn xe) W) (hW : ∀ cls d σ' H', E cls d H' → W cls d σ' H') (hr : Room (k + 1) (X.A.deeper (envOfC qg sg s.heap.objs.size g cdg)))
    (hbody : ∀ (A : Around) (outer : List Env) (s : Shared) (H : Hp), Room k (A.deeper (lamEnv X scope s.heap.objs.size f c')) → PE (lamCx X A outer s H E scope f c') body tb)
    (hN : Ng[i]? = some a) (hv : Vis sg a) (hd : (a == ("__debug__" : Str)) = false := by decide) (hcd : (a == ("__classdict__" : Str)) = false := by decide) :
    PE ((cxOf CXg X.prog X.w X.K X.mg X.base Ng qg sg g cdg X.A X.stack s H Eg).tr pn xe) (.Call (.Name a p1) [] [] p2)
      (fun σZ HZ Q => σZ[i]? = some (some (.ref f)) ∧ HZ c' = some (CodeO c' (X.env.qual ++ "<lambda>")) ∧ tb σ HZ Q) := by
  refine ⟨fun pinsZ sZ σZ HZ Q IZ h => ?_⟩
  obtain ⟨hs, hc, ht⟩ := h
  refine wpAny_Call_Name_kw (thn ((pe_var (pos := p1) (i := i) hN hv hd hcd).run pinsZ sZ σZ HZ (fun v H1 => v = .ref f ∧ H1 = HZ) IZ ⟨.ref f, hs, rfl, rfl⟩) fun u' s1 z => ?_)
  obtain ⟨v, H1, I1, r1, ev, eH⟩ := z
  subst ev
  rw [eH] at I1
  obtain rfl : u' = Value.ref f := r1
  have of1 : s1.heap.get? f = some (dObj (X.env.qual ++ "<lambda>") params body scope (cloFrom X.env.cells scope.names []) D doc pm c' ctv) := I1.base.keep f _ hf hfn hfr (fun z => nomatch (show f ∈ ([] : List Addr) from z))
  have oD1 : s1.heap.get? D = some (PySem.W.kdv_tup [u]) := I1.base.keep D _ hDt hDn hDr (fun z => nomatch (show D ∈ ([] : List Addr) from z))
  refine PySem.W.callWith_F0 ⟨_, _, _, _, of1⟩ ?_
  have un : Un (frs X.stack) [] H HZ s.heap s1.heap := I1.base
  obtain ⟨⟨oc, vs, t, hoc, hdc, hvc⟩, _, _⟩ := I1.hok c' _ hc
  have rc : codeAny (model X.prog X.w) (X.A.deeper (envOfC qg sg s.heap.objs.size g cdg)) (.call (.ref f) ⟨[], []⟩) (CR (L2.CX X.prog X.w) (envOfC qg sg s.heap.objs.size g cdg :: X.stack) X.prog X.w HZ s1 Q E) s1 := by
    refine PySem.W.kla_callFunE hr.depth of1 rfl L.co L.gen rfl ⟨c', oc, vs, t, rfl, hoc, hdc, hvc⟩ ?_
    obtain ⟨kk, e1, e2⟩ := hbind D (X.env.qual ++ "<lambda>") (cloFrom X.env.cells scope.names []) doc pm (.ref c') ctv u
    rw [e1]
    refine wpAny_bind (wpAny_seqItems oD1 rfl ?_)
    rw [show kk (some ([u] : List Value).toArray) = _ from e2]
    refine wpAny_pure (wpAny_newFunctionEnv (fun y hy => (L.own y hy).1) (fun y hy => ?_) (fun h₁ hns hsb => ⟨I1.nolimit.fresh _ hsb, ?_⟩) L.kind)
    · rw [List.mem_singleton.mp hy]
      exact L.loc
    show codeAny _ _ (.expr body (lamEnv X scope s1.heap.objs.size f c')) _ _
    have kp : ∀ b o, s1.heap.get? b = some o → h₁.get? b = some o := fun b o e => hsb.extBut b o (Nat.ne_of_lt (Heap.lt_size e)) (Heap.get?_push_of_some _ e)
    have J : Inv (lamCx X (X.A.deeper (envOfC qg sg s.heap.objs.size g cdg)) (envOfC qg sg s.heap.objs.size g cdg :: X.stack) s1 HZ E scope f c') [] σ HZ { s1 with heap := h₁, toks := s1.toks + ([(nm, u)] : List (Str × Value)).length } :=
      lam_startD I L I1.env0 hr.hd un hns kp
    refine PySem.W.kla_codeExpr (wpAny_mono ((hbody _ _ s1 HZ (hr.deeper _)).run [] _ _ HZ Q J ht) (fun v s' hq => ?_) fun e s' hq => hq)
    obtain ⟨w', H', J', rv, q⟩ := hq
    exact ⟨w', H', J'.os, J'.bare, J'.base, J'.hok, rv, q⟩
  have hx : Passes (L2.CX X.prog X.w) ((cxOf CXg X.prog X.w X.K X.mg X.base Ng qg sg g cdg X.A X.stack s H Eg).tr pn xe) E := passes_call tk hW
  refine wpAny_call (codeAny_mono rc fun r s' hq => ?_)
  cases r with
  | error e => exact hx pinsZ σZ HZ s1 e s' I1 hq
  | ok fl =>
    cases fl with
    | ret u => exact I1.after hq
    | next => exact False.elim hq
    | brk => exact False.elim hq
    | cont => exact False.elim hq
end
section
variable {X : Cx}
/-- x(lambda nm=e0: body) -/
theorem pe_lamcallD {T : List (Addr × Str)} {TT : (XK → Hp → VK → Prop) → Hp → VK → Prop} {x a nm : Str} {g c P : Addr} {k : Nat} {pg : Arguments} {bg : List Stmt} {sg : Scope} {dV kV doc pm cdv ct oc : Value} {an od : Option Addr} {osl : Array (Option Value)} {Ng : List Str}
    {params : Arguments} {body e0 : Expr} {v0 : V} {scope : Scope} {t : XK → TE} {p lpos pos : Pos} (hg : Gl X x) (hm : X.mg x = some (.ref g)) (hk : PySem.W.keepIn X.K (.ref g) = true)
    (lk : X.K.lookup g = some ⟨oc, od, .func (PySem.W.fnOf x x pg bg sg dV kV doc pm an cdv ct), osl⟩) (hcg : PySem.W.codeIn X.K cdv x = true) (hb : L2.Binds X.K (PySem.W.fnOf x x pg bg sg dV kV doc pm an cdv ct) [a] []) (Sg : FnScope Ng [a] sg) (hNg : Ng[0]? = some a) (hva : Vis sg a)
    (hG : GivesTo X Ng x sg g cdv bg a (X.env.qual ++ "<lambda>") TT)
    (TB : TabB X.base X.mg c P) (hcode : X.env.code = .ref c) (hmT : (P, X.env.qual ++ "<lambda>") ∈ T) (hu : ∀ p ∈ T, p.1 = P → p.2 = X.env.qual ++ "<lambda>") (hr : Room (k + 2) X.A) (L : LamD X.N nm X.env.scope scope) (hd0 : params.defaults = [e0]) (hk0 : params.kw_defaults = []) (he0 : PE X e0 (tC v0))
    (hbind : BindD nm params body scope)
    (hbody : ∀ (A : Around) (outer : List Env) (s : Shared) (H : Hp) (E : XK) (f c' : Addr), Room k (A.deeper (lamEnv X scope s.heap.objs.size f c')) → PE (lamCx X A outer s H E scope f c') body (t E))
    (hdb : (x == ("__debug__" : Str)) = false := by decide) (hd : (a == ("__debug__" : Str)) = false := by decide) (hcd : (a == ("__classdict__" : Str)) = false := by decide) :
    PE X (.Call (.Name x p) [.Lambda params body scope lpos] [] pos) (tLam T TT t) := by
  refine ⟨fun pins s σ H Q I h => ?_⟩
  obtain ⟨hT, h⟩ := h
  refine wpAny_Call_Name_kw (ld_glob I hg hm ?_ hdb)
  refine PySem.W.callWith_K (h₀ := X.base) I.ok.mod.kin hk ?_ (by rfl) (by rfl)
  show wpAny _ _ (spliced ((false, eval (.Lambda params body scope lpos) X.env) :: backTo pos (starEach [] X.env))) _ _ s
  refine Calls.spliced_cons (lam_makeD I TB hcode hmT hu hT hd0 hk0 he0 (L.has I.ok) fun f c' D u doc' pm' ctv H1 s' I1 eN T1 hf hfn hfr hDt hDn hDr rv hco => ?_)
  refine Calls.spliced_nil ⟨I1.kIn, ?_⟩
  have rc : codeAny (model X.prog X.w) X.A (.call (.ref g) ⟨[.ref f], []⟩) (CR C8.CX0 X.stack X.prog X.w H1 s' Q C8.E0) s' := by
    refine run_ofS (N := Ng) (ps := [a]) (us := [.ref f]) (vs := [.ref f]) lk hcg Sg hr I1.env0 (hb s' [.ref f] I1.kIn rfl) (.cons rfl .nil) rfl fun hr' => ?_
    obtain ⟨t', ht', hq'⟩ := hG f c' s' H1 Q (fun E H' Q' => t E σ H' Q') (fun W pn xe E p1 p2 tk hW => pe_actD (i := 0) I1 L hf hfn hfr hDt hDn hDr hbind tk hW hr' (fun A outer s H hr2 => hbody A outer s H E f c' hr2) hNg hva hd hcd) hco (h H1 eN T1)
    exact ⟨t', ht'.nox, hq'⟩
  refine wpAny_call (codeAny_mono rc fun r s2 hq => ?_)
  cases r with
  | error e => exact (show False from hq).elim
  | ok fl =>
    cases fl with
    | ret u => exact I1.after hq
    | next => exact False.elim hq
    | brk => exact False.elim hq
    | cont => exact False.elim hq
end
end SGL

set_option Elab.async false
set_option linter.all false
set_option maxRecDepth 100000
set_option maxHeartbeats 4000000
/-! What _law_heard makes of an error. -/
namespace K11
open PySem L2 SG
/-- .. the errors' classes beside one another -/
structure Tl (K : PySem.W.Frag) (mg : Str → Option Value) extends Tk K mg where
  CS : Addr
  mS : mg "ScrewError" = some (.ref CS)
  xb : PySem.W.exmOne K (.ref e_BadNumber.C) (.ref CS) = some true
  kbb : PySem.W.kitOne K (.ref e_BadNumber.C) (.ref e_BadNumber.C) = some true
  law : ∃ o, K.lookup d_law.f = some o ∧ o.cls = .type "function"
def heardX {K : PySem.W.Frag} {mg : Str → Option Value} (T : Tl K mg) (Q : VK) : XK := fun cls d H =>
  cls = .ref T.e_BadNumber.C ∧ ∃ (dd : Addr) (v : V), d = some dd ∧ H dd = some (.xd [("part", v)]) ∧ ∀ H', Same H H' → Q v H'
def TTh {K : PySem.W.Frag} {mg : Str → Option Value} (T : Tl K mg) : (XK → Hp → VK → Prop) → Hp → VK → Prop := fun tl H Q => ∀ R : VK, tl (heardX T Q) H R
theorem heard_gives {X : Cx} {K : PySem.W.Frag} {mg : Str → Option Value} (T : Tl K mg) (hK : X.K = K) (hm : X.mg = mg) {g : Addr} {cdg : Value} {q : Str} : LamX.GivesTo X ["ask", "caught", "error"] "_law_heard" (defScope s_l_heard) g cdg (defBody s_l_heard) "ask" q (TTh T) := by
  subst hK hm
  intro f c' s H Q tl act hc h
  refine ⟨_, pss_cons (ps_set (i := 1) sc_l_heard.nd rfl (Or.inl rfl) pe_non) (pss_cons (ps_try_keepL (X := (cxOf C8.CX0 X.prog X.w X.K X.mg X.base ["ask", "caught", "error"] "_law_heard" (defScope s_l_heard) g cdg X.A X.stack s H C8.E0).nox) (i := 2)
    (tb := fun W D σ H => ∃ Ech : XK, (∀ cls d σ' H', Ech cls d H' → W cls d σ' H') ∧ σ[0]? = some (some (.ref f)) ∧ H c' = some (LamX.CodeO c' q) ∧ tl Ech H fun _ H' => D.nx σ H') (Wout := fun _ _ _ _ => False) rfl rfl sc_l_heard.nd rfl rfl rfl ⟨rfl, by decide, .inl T.mS⟩ L2.takes0 (fun W pn xe tk _ => ?_)
    (fun a oe cls d pn hz hf => pss_one (ps_set (i := 1) sc_l_heard.nd rfl (Or.inl rfl) (pv 2))))
   (pss_cons (ps_if (pt_val (pe_callB call_isx (by rfl) T.nm.n_isinstance (by decide +kernel) (pa_cons (pv 1) (pa_cons (pe_glob (v := .ref T.e_BadNumber.C) rfl T.e_BadNumber.m rfl) pa_nil))))
     (pss_one (ps_ret (pe_exf (pv 1)))) pss_nil)
   (pss_one (ps_ret (pe_ifExp (pt_cmpR op_isN (pv 1) pe_non (nomark _)) pe_non pe_str))))), ?_⟩
  · refine ⟨fun pins s' σ H' D I h' => ?_⟩
    obtain ⟨Ech, hW, h1, h2, h3⟩ := h'
    exact (pss_one (ps_expr (act W pn xe Ech _ _ tk hW))).run pins s' σ H' D I ⟨h1, h2, h3⟩
  · refine ⟨heardX T Q, ?_, rfl, hc, h _⟩
    intro cls d σ' H1 hx hlen
    obtain ⟨rfl, dd, v, rfl, hd, k⟩ := hx
    obtain ⟨x0, x1, x2, rfl⟩ : ∃ x0 x1 x2, σ' = [x0, x1, x2] := by
      match σ', hlen with
      | [x0, x1, x2], _ => exact ⟨x0, x1, x2, rfl⟩
    refine ⟨true, T.xb, fun _ a na => ?_, fun z => nomatch z⟩
    refine ⟨_, rfl, ?_⟩
    dsimp only [gName]
    have zA := newO na (o := exv a (.ref T.e_BadNumber.C) (some dd))
    have qa : (upd H1 a (exv a (.ref T.e_BadNumber.C) (some dd))) a = some (exv a (.ref T.e_BadNumber.C) (some dd)) := upd_same
    have qd := zA _ _ hd
    generalize upd H1 a (exv a (.ref T.e_BadNumber.C) (some dd)) = HA at zA qa qd ⊢
    refine ⟨_, rfl, a, T.e_BadNumber.C, some dd, _, _, true, rfl, .inr qa, (fun d' e => by cases e; exact ⟨_, .inr qd⟩), T.e_BadNumber.E, .own _, T.kbb, ?_⟩
    exact ⟨_, rfl, _, rfl, a, T.e_BadNumber.C, dd, _, v, rfl, .inr qa, .inr qd, T.e_BadNumber.X, T.no_BadNumber, rfl, k _ zA⟩
end K11

set_option Elab.async false
set_option linter.all false
set_option maxRecDepth 100000
set_option maxHeartbeats 4000000
/-! What the law needs of its case. -/
namespace K11
open PySem L2 SG
theorem areI_ints {d : PyData} {ns : List Int} (e : parts d = some (ns.map PyData.int)) : areI d = true := by
  rw [areI, e]
  show (ns.map PyData.int).all isI = true
  rw [List.all_map, List.all_eq_true]
  intro x _
  rfl
theorem rowI_ints {d : PyData} {ns : List Int} {w : Int} (e : parts d = some (ns.map PyData.int)) (h : (ns.length : Int) = w) : rowI d w = true := by
  rw [rowI, areI_ints e, e]
  simp [h]
def rowsF (f : List PyData → PyData) (rs : List (List Int)) : List PyData := rs.map fun r => f (r.map PyData.int)
section
variable {f : List PyData → PyData} (hf : ∀ l, parts (f l) = some l)
include hf
theorem even_of {d : PyData} {rs : List (List Int)} {wd : Nat} (e : parts d = some (rowsF f rs)) (h1 : rs ≠ []) (h2 : rs.length ≤ 4) (hw : wd ≤ 3) (hr : ∀ r ∈ rs, r.length = wd) : evenI d = true := by
  cases rs with
  | nil => exact absurd rfl h1
  | cons r rs =>
    rw [evenI, e]
    show (decide (((rowsF f rs).length : Int) + 1 ≤ 48) && (match parts (f (r.map PyData.int)) with
      | some es => decide ((es.length : Int) ≤ 12) && rowsI d (((rowsF f rs).length : Int) + 1) es.length
      | none => false)) = true
    rw [hf]
    have l1 : (rowsF f rs).length = rs.length := List.length_map ..
    have l2 := hr r List.mem_cons_self
    simp only [List.length_cons] at h2
    have a1 : (decide (((rowsF f rs).length : Int) + 1 ≤ 48)) = true := decide_eq_true (by rw [l1]; omega)
    have a2 : (decide (((r.map PyData.int).length : Int) ≤ 12)) = true := decide_eq_true (by rw [List.length_map, l2]; omega)
    have a3 : rowsI d (((rowsF f rs).length : Int) + 1) (r.map PyData.int).length = true := by
      rw [rowsI, e]
      show (decide (((rowsF f (r :: rs)).length : Int) = ((rowsF f rs).length : Int) + 1) && (rowsF f (r :: rs)).all (rowI · (r.map PyData.int).length)) = true
      rw [Bool.and_eq_true]
      refine ⟨decide_eq_true ?_, List.all_eq_true.mpr fun x hx => ?_⟩
      · rw [show rowsF f (r :: rs) = f (r.map PyData.int) :: rowsF f rs from rfl, List.length_cons]; omega
      · obtain ⟨r', hr', rfl⟩ := List.mem_map.mp hx
        refine rowI_ints (hf _) ?_
        rw [List.length_map, hr r' hr', l2]
    rw [a1, Bool.true_and]
    show (decide (((r.map PyData.int).length : Int) ≤ 12) && rowsI d (((rowsF f rs).length : Int) + 1) (r.map PyData.int).length) = true
    rw [a2, a3]
    rfl
theorem rows_of {rs : List (List Int)} {wd : Nat} (hw : wd ≤ 3) (hr : ∀ r ∈ rs, r.length = wd ∧ ∀ z ∈ r, z.natAbs < 2 ^ 100) : ∀ z ∈ rowsF f rs, ∃ ms, IsR z ms ∧ ms.length = wd := fun z hz => by
  obtain ⟨r, h, rfl⟩ := List.mem_map.mp hz
  obtain ⟨h1, h2⟩ := hr r h
  exact ⟨r, ⟨hf _, fun n hn => Nat.lt_of_lt_of_le (h2 n hn) (Nat.pow_le_pow_right (by decide) (by decide)), by omega⟩, h1⟩
theorem ints_rows (rs : List (List Int)) : (rowsF f rs).map intsOf = rs := by
  rw [rowsF, List.map_map]
  conv => rhs; rw [← List.map_id rs]
  exact List.map_congr_left fun r _ => intsOf_of (hf _)
end
/-- what shows_whole and the law's own look are asked -/
structure Asked {K : PySem.W.Frag} {mg : Str → Option Value} (T : Tk K mg) (H : Hp) (v u x : V) (rs : List (List Int)) (wd : Nat) (gs : List Int) (p : PVal) : Prop where
  da : ∃ d e ds, Do K H v d ∧ Do K H u e ∧ parts d = some ds ∧ ds.map intsOf = rs ∧ evenI d = true ∧ ds ≠ [] ∧ (∀ z ∈ ds, ∃ ms, IsR z ms ∧ ms.length = wd) ∧ IsR e gs ∧ gs.length = ds.length
  wi : wd ≤ 1000
  pv : Pv T H x p
  bn : bndP p
section
variable {K : PySem.W.Frag} {mg : Str → Option Value} {T : Tk K mg} {H : Hp} {v u x : V} {rs : List (List Int)} {wd : Nat} {gs : List Int} {p : PVal}
theorem Asked.shows (A : Asked T H v u x rs wd gs p) {Q : VK} {E : XK} (k : ∀ H', Same H H' → Q (.bl (shown rs wd gs p)) H') : ∃ v' u' x' d e p, [v, u, x] = [v', u', x'] ∧ Do K H v' d ∧ Do K H u' e ∧ Pv T H x' p ∧
  (evenI d = false → Thrown E T.e_BadNumber.C "rows" H) ∧ (evenI d = true → rowI e (lenD d : Nat) = false → Thrown E T.e_BadNumber.C "goals" H) ∧
  (evenI d = true → rowI e (lenD d : Nat) = true → ∃ ds gs wd, parts d = some ds ∧ ds ≠ [] ∧ wd ≤ 1000 ∧ (∀ z ∈ ds, ∃ ms, IsR z ms ∧ ms.length = wd) ∧ IsR e gs ∧ gs.length = ds.length ∧ bndP p ∧ ∀ H', Same H H' → Q (.bl (shown (ds.map intsOf) wd gs p)) H') := by
  obtain ⟨⟨d, e, ds, Dv, Du, hd, hm, he, hn, hr, hg, hl⟩, hw, hp, hb⟩ := A
  have rw_ : rowI e (lenD d : Nat) = true := rowI_ints hg.1 (by rw [lenD_of hd, hl])
  refine ⟨v, u, x, d, e, p, rfl, Dv, Du, hp, fun z => (by rw [he] at z; cases z), fun _ z => (by rw [rw_] at z; cases z), fun _ _ => ⟨ds, gs, wd, hd, hn, hw, hr, hg, hl, hb, fun H' s => ?_⟩⟩
  rw [hm]
  exact k H' s
theorem Asked.right (A : Asked T H v u x rs wd gs p) {Q : VK} (k : ∀ H', Same H H' → Q (.bl (shown rs wd gs p)) H') : ∃ v' u' x' d e p ds gs wd, [v, u, x] = [v', u', x'] ∧ Do K H v' d ∧ Do K H u' e ∧ Pv T H x' p ∧
  parts d = some ds ∧ ds ≠ [] ∧ wd ≤ 1000 ∧ (∀ z ∈ ds, ∃ ms, IsR z ms ∧ ms.length = wd) ∧ IsR e gs ∧ gs.length = ds.length ∧ bndP p ∧ ∀ H', Same H H' → Q (.bl (shown (ds.map intsOf) wd gs p)) H' := by
  obtain ⟨⟨d, e, ds, Dv, Du, hd, hm, he, hn, hr, hg, hl⟩, hw, hp, hb⟩ := A
  refine ⟨v, u, x, d, e, p, ds, gs, wd, rfl, Dv, Du, hp, hd, hn, hw, hr, hg, hl, hb, fun H' s => ?_⟩
  rw [hm]
  exact k H' s
theorem asked {f g : List PyData → PyData} {nums : Option (List Int)} {ws : List Int} {m : Int} (hf : ∀ l, parts (f l) = some l) (hg : ∀ l, parts (g l) = some l) (C : Case rs wd gs nums ws m) (Dv : Do K H v (f (rowsF f rs))) (Du : Do K H u (g (gs.map PyData.int))) (hp : Pv T H x p) (hb : bndP p) : Asked T H v u x rs wd gs p := by
  refine ⟨⟨_, _, _, Dv, Du, hf _, ints_rows hf rs, even_of hf (hf _) C.h1 C.h2 C.hw fun r h => (C.hr r h).1, fun z => ?_, rows_of hf C.hw C.hr, ⟨hg _, fun n hn => Nat.lt_of_lt_of_le (C.hg.2 n hn) (Nat.pow_le_pow_right (by decide) (by decide)), ?_⟩, ?_⟩, by have := C.hw; omega, hp, hb⟩
  · have h1 := C.h1
    rw [rowsF, List.map_eq_nil_iff] at z
    exact h1 z
  · have := C.hg.1; have := C.h2; omega
  · rw [rowsF, List.length_map]; exact C.hg.1
end
/-! ### whether the numbers are there -/
theorem dot_zero : ∀ (a : List Int) (n : Nat), dot a (List.replicate n 0) = 0
  | [], n => dot_nil _
  | x :: a, 0 => dot_nil' _
  | x :: a, n + 1 => by rw [List.replicate_succ, dot_cons, dot_zero a n]; omega
theorem dot_zero' : ∀ (a b : List Int), (∀ z ∈ b, z = 0) → dot a b = 0
  | [], b, _ => dot_nil _
  | x :: a, [], _ => dot_nil' _
  | x :: a, y :: b, h => by rw [dot_cons, dot_zero' a b fun z hz => h z (List.mem_cons_of_mem _ hz), h y List.mem_cons_self]; omega
theorem shown_nums {rs : List (List Int)} {wd : Nat} {gs : List Int} {n ws : List Int} {m : Int} (C : Case rs wd gs (some n) ws m) : shown rs wd gs (.whole (fixD (.list (n.map PyData.int)))) = true := by
  obtain ⟨h1, h2, h3⟩ := C.hn n rfl
  show (rowI (fixD (.list (n.map PyData.int))) (wd : Nat) && decide (rs.map (fun r => dot r (intsOf (fixD (.list (n.map PyData.int))))) = gs)) = true
  rw [rowI_fix, intsOf_fix, rowI_ints rfl (by rw [h1]), intsOf_of rfl, h3]
  simp
theorem shown_zero {rs : List (List Int)} {wd : Nat} {gs : List Int} {ws : List Int} {m : Int} (C : Case rs wd gs none ws m) : shown rs wd gs (.whole (fixD (.list ((List.replicate wd 0).map PyData.int)))) = false := by
  show (rowI (fixD (.list ((List.replicate wd 0).map PyData.int))) (wd : Nat) && decide (rs.map (fun r => dot r (intsOf (fixD (.list ((List.replicate wd 0).map PyData.int))))) = gs)) = false
  rw [intsOf_fix, intsOf_of rfl]
  have z : ¬ (rs.map (fun r => dot r (List.replicate wd 0)) = gs) := fun e => by
    obtain ⟨g0, gt, w', e1, e2⟩ := C.hz rfl
    have all0 : ∀ z ∈ gs, z = 0 := fun z hz => by
      rw [← e] at hz
      obtain ⟨r, _, rfl⟩ := List.mem_map.mp hz
      exact dot_zero _ _
    rw [e1] at all0
    have h0 := all0 g0 List.mem_cons_self
    rw [dot_zero' _ _ fun z hz => all0 z (List.mem_cons_of_mem _ hz)] at e2
    omega
  rw [decide_eq_false z, Bool.and_false]
end K11

set_option Elab.async false
set_option linter.all false
set_option maxRecDepth 100000
set_option maxHeartbeats 4000000
namespace K11
open PySem L2 SG
section
variable {K : PySem.W.Frag} {mg : Str → Option Value} {H H' : Hp}
theorem ext_seq {a : Addr} {xs : List V} (s : LamX.ExtN H H') (h : SqL K H a xs) : SqL K H' a xs := by
  rcases h with (q | ⟨o, q⟩) | q
  · exact .inl (.inl (s _ _ q fun ps z => by cases z))
  · exact .inl (.inr ⟨o, s _ _ q fun ps z => by cases z⟩)
  · exact .inr q
theorem ext_tup {a : Addr} {xs : List V} (s : LamX.ExtN H H') (h : SqT K H a xs) : SqT K H' a xs := by
  rcases h with (q | ⟨o, q⟩) | q
  · exact .inl (.inl (s _ _ q fun ps z => by cases z))
  · exact .inl (.inr ⟨o, s _ _ q fun ps z => by cases z⟩)
  · exact .inr q
mutual
theorem doExt (s : LamX.ExtN H H') : ∀ (d : PyData) (v : V), Do K H v d → Do K H' v d
  | .none, _, h => by
    cases h with
    | non => exact .non
    | ins q i => exact .ins (s _ _ q fun ps z => by cases z) i
  | .bool _, _, h => by cases h; exact .bl _
  | .int _, _, h => by cases h; exact .int _
  | .str _, _, h => by cases h; exact .str _
  | .list ds, _, h => by
    cases h with
    | lst hs hl ha => exact .lst (ext_seq s hs) hl (doAllExt s ds _ ha)
  | .tuple ds, _, h => by
    cases h with
    | tup hs hl ha => exact .tup (ext_tup s hs) hl (doAllExt s ds _ ha)
  | .dict _, _, h => by
    cases h with
    | dic hs => exact .dic (s _ _ hs fun ps z => by cases z)
theorem doAllExt (s : LamX.ExtN H H') : ∀ (ds : List PyData) (vs : List V), DoAll K H vs ds → DoAll K H' vs ds
  | [], _, h => by cases h; exact .nil
  | d :: ds, _, h => by
    cases h with
    | cons h1 h2 => exact .cons (doExt s d _ h1) (doAllExt s ds _ h2)
end
mutual
theorem dwExt (s : LamX.ExtN H H') : ∀ (d : PyData) (v : V), SG.Dw K H v d → SG.Dw K H' v d
  | .none, _, h => by cases h; exact .non
  | .bool _, _, h => by cases h; exact .bl _
  | .int _, _, h => by cases h; exact .int _
  | .str _, _, h => by cases h; exact .str _
  | .list ds, _, h => by
    cases h with
    | lst hs hl ha => exact .lst (ext_seq s hs) hl (dwAllExt s ds _ ha)
  | .tuple ds, _, h => by
    cases h with
    | tup hs hl ha => exact .tup (ext_tup s hs) hl (dwAllExt s ds _ ha)
  | .dict _, _, h => by
    cases h with
    | dic hs => exact .dic (s _ _ hs fun ps z => by cases z)
theorem dwAllExt (s : LamX.ExtN H H') : ∀ (ds : List PyData) (vs : List V), DwAll K H vs ds → DwAll K H' vs ds
  | [], _, h => by cases h; exact .nil
  | d :: ds, _, h => by
    cases h with
    | cons h1 h2 => exact .cons (dwExt s d _ h1) (dwAllExt s ds _ h2)
end
theorem pvExt {T : Tk K mg} {v : V} {p : PVal} (s : LamX.ExtN H H') (h : Pv T H v p) : Pv T H' v p := by
  cases h with
  | whole e D => exact .whole (s _ _ e fun ps z => by cases z) (doExt s _ _ D)
  | barred e D D2 => exact .barred (s _ _ e fun ps z => by cases z) (doExt s _ _ D) (doExt s _ _ D2)
  | paper e => exact .paper (s _ _ e fun ps z => by cases z)
  | denial e => exact .denial (s _ _ e fun ps z => by cases z)
  | dat D => exact .dat (dwExt s _ _ D)
  | fn e c => exact .fn e c
theorem doAll_rep {v : V} {d : PyData} (D : Do K H v d) : ∀ n : Nat, DoAll K H (List.replicate n v) (List.replicate n d)
  | 0 => .nil
  | n + 1 => by rw [List.replicate_succ, List.replicate_succ]; exact .cons D (doAll_rep D n)
end
end K11

set_option Elab.async false
set_option linter.all false
set_option maxRecDepth 100000
set_option maxHeartbeats 4000000
namespace K11
open PySem L2 SG
def o321 {α : Type} : List α → List α | [c, b, a] => [a, b, c] | l => l
theorem vals321 {vs : List V} {us : List Value} (r : Vals vs us) : Vals (o321 vs) (o321 us) := by
  match vs, us, r with
  | _, _, .nil => exact .nil
  | _, _, .cons a .nil => exact .cons a .nil
  | _, _, .cons a (.cons b .nil) => exact .cons a (.cons b .nil)
  | _, _, .cons a (.cons b (.cons c .nil)) => exact .cons c (.cons b (.cons a .nil))
  | _, _, .cons a (.cons b (.cons c (.cons d e))) => exact .cons a (.cons b (.cons c (.cons d e)))
theorem kn_shows {K : PySem.W.Frag} {f : Addr} {fd : FuncData} (F : Fun K "shows_whole" "shows_whole" s_shows_whole f fd) : KBn K fd ["rows", "goals", "value"] 0 ["value", "goals", "rows"] (fun _ ws => o321 ws) (fun _ ws => o321 ws) :=
  kb_keys F (o321) vals321 fun _ _ _ _ _ _ ws l => match ws, l with | [_, _, _], _ => rfl
theorem tabs_but {Tb : List (Addr × Str)} {H H' : Hp} {b : Addr} {xs : List V} (h : LamX.Tabs Tb H) (hb : H b = some (.lst xs)) (x : But b H H') : LamX.Tabs Tb H' := fun p hp => by
  obtain ⟨ps, h1, h2, h3⟩ := h p hp
  refine ⟨ps, x _ _ (fun e => ?_) h1, h2, fun pos cv hc => ?_⟩
  · rw [e, hb] at h1; cases h1
  · obtain ⟨c, e1, e2⟩ := h3 pos cv hc
    refine ⟨c, e1, x _ _ (fun e => ?_) e2⟩
    rw [e, hb] at e2
    have z : HO.lst xs = LamX.CodeO b p.2 := Option.some.inj e2
    unfold LamX.CodeO at z
    cases z
theorem tabs_same {Tb : List (Addr × Str)} {H H' : Hp} (h : LamX.Tabs Tb H) (x : Same H H') : LamX.Tabs Tb H' := h.ext x
def rTupL (K : PySem.W.Frag) : List V → Hp → VK → Prop := fun xs H Q => ∃ p ys, xs = [.ref p] ∧ ((SqL K H p ys ∧ ∀ l, H l = none → Q (.ref l) (upd H l (.tup ys))) ∨ (SqT K H p ys ∧ Q (.ref p) H))
def spLaw (K : PySem.W.Frag) (Tb : List (Addr × Str)) : Sp := fun vs H Q _ => ∃ (a : Addr) (ns : List Int), vs = [.ref a] ∧ SqL K H a (ns.map V.int) ∧ LamX.Tabs Tb H ∧ ∀ H', Q (.bl true) H'
section
variable {P : Program} {w : World} {K : PySem.W.Frag} {mg : Str → Option Value} {base : Heap}
theorem ok_law (T : Tl K mg) {f cD PD : Addr} {oc kV doc pm ct : Value} {an od : Option Addr} {osl : Array (Option Value)} (lk : K.lookup f = some ⟨oc, od, .func (PySem.W.fnOf "law" "law" (defArgs s_law) (defBody s_law) (defScope s_law) .none kV doc pm an (.ref cD) ct), osl⟩)
    (hcd : PySem.W.codeIn K (.ref cD) "law" = true) (TB : LamX.TabB base mg cD PD) {Tb : List (Addr × Str)} (hmT : (PD, ("law.<locals>.<lambda>" : Str)) ∈ Tb) (huT : ∀ p ∈ Tb, p.1 = PD → p.2 = ("law.<locals>.<lambda>" : Str)) :
    FnOk P w K mg base CX0 10 f (PySem.W.fnOf "law" "law" (defArgs s_law) (defBody s_law) (defScope s_law) .none kV doc pm an (.ref cD) ct) ["script"] (spLaw K Tb) := by
  obtain ⟨ocH, odH, kVH, docH, pmH, anH, cdH, ctH, oslH, efH, lkH, hcH⟩ := T.d_l_heard.F.ex
  have hbH := T.d_l_heard.b
  rw [efH] at hbH lkH
  refine fn_of lk hcd sc_law (fun vs H Q E h => ?_) fun A outer s H vs Q E hr h => ?_
  · obtain ⟨a, ns, rfl, _⟩ := h
    rfl
  · obtain ⟨a, ns, rfl, hs, tabs, k⟩ := h
    suffices hh : ∃ t, PSs (cxOf CX0 P w K mg base ["script", "cask", "turn", "rows", "goals", "numbers", "row", "modulus", "value", "due", "odd", "none", "its"] "law" (defScope s_law) f (.ref cD) A outer s H E).nox (defBody s_law) t ∧ t { nx := fun _ H' => Q .non H', rt := Q } (start ["script", "cask", "turn", "rows", "goals", "numbers", "row", "modulus", "value", "due", "odd", "none", "its"] [.ref a]) H by
      obtain ⟨t, h1, h2⟩ := hh
      exact ⟨t, h1.nox, h2⟩
    refine ⟨_, (pss_cons (ps_set (i := 1) sc_law.nd rfl (Or.inl rfl) (pe_call (ok_bowl T.nm T.d_l_cask.F) (hr.mono (by decide)) rfl T.d_l_cask.m T.d_l_cask.k T.d_l_cask.b .nil pass0 (pa_cons (pv 0) pa_nil)))
  (pss_cons (ps_for PassesOwn.never rfl (pi_range1 (by rfl) T.nm.n_range (pa_cons pe_int pa_nil)) (pg_name (i := 2) sc_law.nd rfl (Or.inl rfl))
  (pss_cons (ps_asg (pe_call (ok_l_case T.toTk T.d_l_case.F) (hr.mono (by decide)) rfl T.d_l_case.m T.d_l_case.k T.d_l_case.b .nil pass0 (pa_cons (pv 1) pa_nil)) (pg_tup (by rfl) (pgs_cons (pg_name (i := 3) sc_law.nd rfl (Or.inl rfl)) (pgs_cons (pg_name (i := 4) sc_law.nd rfl (Or.inl rfl)) (pgs_cons (pg_name (i := 5) sc_law.nd rfl (Or.inl rfl)) (pgs_cons (pg_name (i := 6) sc_law.nd rfl (Or.inl rfl)) (pgs_cons (pg_name (i := 7) sc_law.nd rfl (Or.inl rfl)) pgs_nil)))))))
  (pss_cons (ps_for PassesOwn.never rfl (pi_list (pe_call (ok_l_values T.toTk T.law T.d_l_values.F) (hr.mono (by decide)) rfl T.d_l_values.m T.d_l_values.k T.d_l_values.b .nil pass0 (pa_cons (pv 1) (pa_cons (pv 3) (pa_cons (pv 4) (pa_cons (pv 5) (pa_cons (pv 6) (pa_cons (pv 7) pa_nil)))))))) (pg_name (i := 8) sc_law.nd rfl (Or.inr rfl))
  (pss_cons (ps_set (i := 9) sc_law.nd rfl (Or.inl rfl) (pe_callB call_repr0 (by rfl) T.nm.n_repr (by decide +kernel) (pa_cons (pe_call (ok_l_is_right T.toTk T.d_l_is_right.F) (hr.mono (by decide)) rfl T.d_l_is_right.m T.d_l_is_right.k T.d_l_is_right.b .nil pass0 (pa_cons (pv 3) (pa_cons (pv 4) (pa_cons (pv 8) pa_nil)))) pa_nil)))
  (pss_one (ps_if (PW.pt (pw_or (pt_cmpR op_ne (pe_callB call_repr0 (by rfl) T.nm.n_repr (by decide +kernel) (pa_cons (pe_call (ok_shows_whole T.toTk T.d_shows_whole.F) (hr.mono (by decide)) rfl T.d_shows_whole.m T.d_shows_whole.k T.d_shows_whole.b .nil passL (pa_cons (pv 3) (pa_cons (pv 4) (pa_cons (pv 8) pa_nil)))) pa_nil)) (pv 9) (nomark _)) (pw_or1 (pt_cmpR op_ne (pe_callB call_repr0 (by rfl) T.nm.n_repr (by decide +kernel) (pa_cons (pe_callK0 (ok_shows_whole T.toTk T.d_shows_whole.F) (hr.mono (by decide)) rfl T.d_shows_whole.m T.d_shows_whole.k (kn_shows T.d_shows_whole.F) passL (pk_cons (pv 8) (pk_cons (pe_callTy call_tuple_of (by rfl) T.nm.n_tuple (by decide +kernel) (pa_cons (pv 4) pa_nil)) (pk_cons (pe_callTy call_tuple_of (by rfl) T.nm.n_tuple (by decide +kernel) (pa_cons (pe_lc (own := [("its", 12)]) (g := (gName 12)) (tt := tYes) rfl sc_law.nd (pi_seq (pv 3)) (blkOk_by (N := ["script", "cask", "turn", "rows", "goals", "numbers", "row", "modulus", "value", "due", "odd", "none", "its"]) (sc := defScope s_law) (by decide +kernel)) (fun _ _ _ _ _ => pg_name (i := 12) sc_law.nd rfl (Or.inl rfl)) (fun _ _ _ _ _ => pts_nil) (fun _ _ _ _ _ => (pe_callTy (T := "tuple") (r := rTupL K) call_tuple_of (by rfl) T.nm.n_tuple (by decide +kernel) (pa_cons (pv 12) pa_nil)))) pa_nil)) pk_nil)))) pa_nil)) (pv 9) (nomark _)))))
  (pss_one (ps_ret pe_bl))
  pss_nil))))
  (pss_one (ps_if (pt_cmpR op_eq (pe_cmpR op_isN (pv 5) pe_non (nomark _)) (pe_call (ok_shows_whole T.toTk T.d_shows_whole.F) (hr.mono (by decide)) rfl T.d_shows_whole.m T.d_shows_whole.k T.d_shows_whole.b .nil passL (pa_cons (pv 3) (pa_cons (pv 4) (pa_cons (pe_make T.c_Whole.M (ok_iW T.toTz) (hr.mono (by decide)) rfl T.c_Whole.m (bi_Whole T.c_Whole) .nil pass0 (pa_cons (pe_ifExp (pt_cmpR op_notN (pv 5) pe_non (nomark _)) (pv 5) (pe_op op_rep (pe_lst (pa_cons pe_int pa_nil)) (pe_callB call_len_seq (by rfl) T.nm.n_len (by decide +kernel) (pa_cons (pe_ix ix_seq (pv 3) pe_int (fun _ _ => rfl)) pa_nil)))) pa_nil)) pa_nil)))) (nomark _))
  (pss_one (ps_ret pe_bl))
  pss_nil)))))
  (pss_cons (ps_set (i := 10) sc_law.nd rfl (Or.inr rfl) (pe_call (ok_choose T.toTx T.d_l_one_of.F) (hr.mono (by decide)) rfl T.d_l_one_of.m T.d_l_one_of.k T.d_l_one_of.b .nil pass0 (pa_cons (pv 1) (pa_cons (pe_lst (pa_cons pe_non (pa_cons pe_int (pa_cons (pe_lst pa_nil) (pa_cons (pe_lst (pa_cons (pe_lst (pa_cons pe_int pa_nil)) (pa_cons (pe_lst pa_nil) pa_nil))) (pa_cons (pe_lst (pa_cons (pe_lst (pa_cons pe_bl pa_nil)) pa_nil)) (pa_cons (pe_lst (pa_cons (pe_op op_rep (pe_lst (pa_cons pe_int pa_nil)) pe_int) pa_nil)) (pa_cons (pe_op op_rep (pe_lst (pa_cons (pe_lst (pa_cons pe_int pa_nil)) pa_nil)) pe_int) (pa_cons pe_str (pa_cons (pe_lst (pa_cons pe_int pa_nil)) pa_nil)))))))))) pa_nil))))
  (pss_cons (ps_set (i := 11) sc_law.nd rfl (Or.inr rfl) (pe_call (ok_choose T.toTx T.d_l_one_of.F) (hr.mono (by decide)) rfl T.d_l_one_of.m T.d_l_one_of.k T.d_l_one_of.b .nil pass0 (pa_cons (pv 1) (pa_cons (pe_lst (pa_cons pe_non (pa_cons pe_int (pa_cons (pe_lst pa_nil) (pa_cons (pe_lst (pa_cons pe_int (pa_cons pe_int pa_nil))) (pa_cons (pe_lst (pa_cons pe_non pa_nil)) (pa_cons pe_str (pa_cons (pe_lst (pa_cons pe_bl pa_nil)) (pa_cons (pe_disp (pps_cons pe_int pe_int pps_nil) (by rfl) (by rfl) (fun z => by cases z) (by decide)) pa_nil))))))))) pa_nil))))
  (pss_cons (ps_set (i := 8) sc_law.nd rfl (Or.inr rfl) (pe_call (ok_choose T.toTx T.d_l_one_of.F) (hr.mono (by decide)) rfl T.d_l_one_of.m T.d_l_one_of.k T.d_l_one_of.b .nil pass0 (pa_cons (pv 1) (pa_cons (pe_lst (pa_cons pe_non (pa_cons (pe_make T.c_Whole.M (ok_iW T.toTz) (hr.mono (by decide)) rfl T.c_Whole.m (bi_Whole T.c_Whole) .nil pass0 (pa_cons (pe_lst (pa_cons pe_int pa_nil)) pa_nil)) (pa_cons (pe_make T.c_Barred.M (ok_iB T.toTz) (hr.mono (by decide)) rfl T.c_Barred.m (bi_Barred T.c_Barred) .nil pass0 (pa_cons (pe_lst (pa_cons pe_int pa_nil)) (pa_cons pe_int pa_nil))) pa_nil)))) pa_nil))))
  (pss_one (ps_ret (pe_cmpR (op_eqD hr.units) (pe_lst (pa_cons (LamX.pe_lamcall (T := Tb) (TT := TTh T) (Ng := ["ask", "caught", "error"]) (k := 7) rfl T.d_l_heard.m T.d_l_heard.k lkH hcH hbH sc_l_heard rfl (Or.inl rfl) (heard_gives T rfl rfl) TB rfl hmT huT hr (LamX.lamS_by (by kernel_rfl)) rfl (fun _ _ _ _ _ => rfl) (fun A outer s H E f c' hr2 => pe_callS (ok_shows_whole T.toTk T.d_shows_whole.F) hr2 rfl T.d_shows_whole.m T.d_shows_whole.k T.d_shows_whole.b (fun σ => passAt (takes_of rfl rfl rfl rfl) σ) (pa_cons (pv 10) (pa_cons (pv 11) (pa_cons (pv 8) pa_nil))))) (pa_cons (SGL.pe_lamcallD (T := Tb) (TT := TTh T) (Ng := ["ask", "caught", "error"]) (k := 7) (nm := "more") (v0 := .int 0) rfl T.d_l_heard.m T.d_l_heard.k lkH hcH hbH sc_l_heard rfl (Or.inl rfl) (heard_gives T rfl rfl) TB rfl hmT huT hr (SGL.lamD_by (by kernel_rfl)) rfl rfl pe_int (fun _ _ _ _ _ _ _ _ => ⟨_, rfl, rfl⟩) (fun A outer s H E f c' hr2 => pe_callS (ok_shows_whole T.toTk T.d_shows_whole.F) hr2 rfl T.d_shows_whole.m T.d_shows_whole.k T.d_shows_whole.b (fun σ => passAt (takes_of rfl rfl rfl rfl) σ) (pa_cons (pe_lst (pa_cons (pe_lst (pa_cons pe_int pa_nil)) pa_nil)) (pa_cons (pv 11) (pa_cons (pv 8) pa_nil))))) pa_nil))) (pe_lst (pa_cons pe_str (pa_cons pe_str pa_nil))) (nomark _))))))))), ?_⟩
    refine ⟨_, rfl, a, ns, rfl, hs, fun H1 b c s1 hb0 hc0 B => ?_⟩
    dsimp only [gName]
    generalize ns.take 60 = ms at B
    have tabs1 := tabs_same tabs s1
    refine ⟨3, rfl, by decide, by decide, for_range (n := 3) (fun (j : Nat) σ' H' => ∃ s2 s3 s4 s5 s6 s7 s8 s9 t r, σ' = [some (.ref a), some (.ref b), s2, s3, s4, s5, s6, s7, s8, s9, none, none, none] ∧ Bowl H' b c ms t r ∧ t ≤ 100 * (j : Int) ∧ LamX.Tabs Tb H') ⟨_, _, _, _, _, _, _, _, 0, 0, rfl, B, by decide, tabs1⟩ ?turn ?end_⟩
    case turn =>
      rintro j σ' H' hj ⟨s2, s3, s4, s5, s6, s7, s8, s9, t, r, rfl, B', ht, tb⟩
      dsimp only [gName]
      refine ⟨_, rfl, b, c, ms, t, r, rfl, B', by omega, fun H2 t2 r2 U vr vg vn vw rs wd gs nums ws m x2 hU Ub Dr Dg Dn Dw C => ?_⟩
      refine ⟨U, _, rfl, SqT.of hU, rfl, _, _, rfl, _, _, rfl, _, _, rfl, _, _, rfl, _, _, rfl, rfl, ?_⟩
      have X2 := x2.hi
      obtain ⟨ag, rfl, hag⟩ := do_lst Dg
      have lgs : gs.length ≤ 1000 := by have := C.hg.1; have := C.h2; omega
      refine ⟨_, rfl, _, rfl, _, rfl, _, rfl, _, rfl, _, rfl, b, c, ms, t2, r2, vr, .ref ag, vn, vw, rs, wd, gs, nums, ws, m, rfl, x2.bowl, by omega, Dr, Dn, Dw, C, fun H3 t3 r3 L xs x3 hL Lb lxs AP => ⟨L, rfl, ⟨xs, SqL.of hL⟩, ?_⟩⟩
      refine for_list (xs := xs) (fun (_ : Nat) σ3 H4 => ∃ y8 y9, σ3 = [some (.ref a), some (.ref b), some (.int (0 + (j : Int))), some vr, some (.ref ag), some vn, some vw, some (.int m), y8, y9, none, none, none] ∧ Same H3 H4) ⟨_, _, rfl, Same.refl H3⟩ (fun i σ3 H4 _ h => ?same) ?inner ?after
      case same =>
        obtain ⟨_, _, _, s4⟩ := h
        exact SqL.of (s4 _ _ hL)
      case inner =>
        rintro i x σ3 H4 hx ⟨y8, y9, rfl, s4⟩
        dsimp only [gName]
        obtain ⟨p, hp, hb⟩ := AP x (List.mem_of_getElem? hx)
        have z3 : Same (aw H2 [b]) H4 := (aw_but x3.but).trans ((aw_same _ _).trans s4)
        have Ak : ∀ {G : Hp}, Same H4 G → Asked T.toTk G vr (.ref ag) x rs wd gs p := fun s => asked (f := .list) (g := .list) (fun _ => rfl) (fun _ => rfl) C (Do.same (z3.trans s) _ _ Dr) (Do.same (z3.trans s) _ _ Dg) (Pv.same (((aw_same _ _).trans s4).trans s) hp) hb
        obtain ⟨⟨d, e, ds, Dv, Du, hd, hm, he, hn, hrs, hg, hl⟩, hw, hp4, hb4⟩ := Ak (Same.refl _)
        have hre : rowI e (lenD d : Nat) = true := rowI_ints hg.1 (by rw [lenD_of hd, hl])
        refine ⟨_, rfl, _, rfl, _, rfl, vr, .ref ag, x, d, e, p, ds, gs, wd, rfl, Dv, Du, hp4, hd, hn, hw, hrs, hg, hl, hb, fun H5 s5 => .inr (.inl ⟨_, rfl, ?_⟩)⟩
        dsimp only [gName]
        refine ⟨_, rfl, _, rfl, _, rfl, vr, .ref ag, x, d, e, p, rfl, Do.same s5 _ _ Dv, Do.same s5 _ _ Du, hp4.same s5, (fun z => by rw [he] at z; cases z), (fun _ z => by rw [hre] at z; cases z), fun _ _ => ⟨ds, gs, wd, hd, hn, hw, hrs, hg, hl, hb, fun H6 s6 => .inr (.inl ⟨_, rfl, _, rfl, rfl, ?_⟩)⟩⟩
        refine ⟨_, rfl, ite2 (fun z => absurd z (by simp)) (fun _ => ?_)⟩
        have z6 : Same (aw H2 [b]) H6 := z3.trans (s5.trans s6)
        refine ⟨_, rfl, _, rfl, ag, _, rfl, .inl ⟨z6.seq hag, fun pg npg => ?_⟩⟩
        have s7 := newO npg (o := .tup (gs.map V.int))
        have Dg7 : Do K (upd H6 pg (.tup (gs.map V.int))) (.ref pg) (.tuple (gs.map PyData.int)) := .tup (SqT.of upd_same) (by rw [List.length_map]; exact lgs) (doAllInts gs)
        generalize upd H6 pg (.tup (gs.map V.int)) = H7 at s7 Dg7 ⊢
        dsimp only [tCB, tCons]
        refine lc_gh (H := H7) (G := H7) (fun e => .tuple ((parts e).getD [])) (ds := rowsF .list rs) rfl (Same.refl _) (Do.same (z6.trans s7) _ _ Dr) (fun R r => ⟨_, rfl, r⟩) (fun _ => rfl) (fun y e1 H' G' R g D1 hm' r' => ?_) fun Lr H8 G8 ys g8 nLr gLr qLr dys lys => ?_
        · obtain ⟨r0, hr0, rfl⟩ := List.mem_map.mp hm'
          obtain ⟨a0, rfl, h0⟩ := do_lst D1
          refine ⟨_, rfl, a0, _, rfl, .inl ⟨g.gh.seq h0, fun l nl => r' _ _ (.ref l) ((Gh.refl g.gh).new nl) (.tup (SqT.of upd_same) ?_ (doAllInts r0))⟩⟩
          have := (C.hr r0 hr0).1
          have := C.hw
          rw [List.length_map]
          omega
        · refine ⟨Lr, ys, rfl, .inl ⟨SqL.of qLr, fun pt npt => ?_⟩⟩
          have g9 := g8.new npt (o := .tup ys)
          have Dt : Do K (upd G8 pt (.tup ys)) (.ref pt) (.tuple (rowsF .tuple rs)) := by
            refine .tup (SqT.of upd_same) lys ?_
            have e2 : (rowsF .list rs).map (fun e => PyData.tuple ((parts e).getD [])) = rowsF .tuple rs := by
              rw [rowsF, rowsF, List.map_map]; rfl
            rw [← e2]
            exact DoAll.same (newO (gh_free g8.gh npt)) _ _ dys
          have s9 : Same H7 (upd H8 pt (.tup ys)) := g9.hh
          have D9 := Do.same g9.gh _ _ Dt
          generalize upd H8 pt (.tup ys) = H9 at s9 D9 ⊢
          have s49 : Same H4 H9 := ((s5.trans s6).trans s7).trans s9
          obtain ⟨⟨d', e', ds', Dv', Du', hd', hm2, he', hn', hrs', hg', hl'⟩, _, _, _⟩ := asked (T := T.toTk) (f := .tuple) (g := .tuple) (fun _ => rfl) (fun _ => rfl) C D9 (Do.same s9 _ _ Dg7) (hp4.same s49) hb
          have hre' : rowI e' (lenD d' : Nat) = true := rowI_ints hg'.1 (by rw [lenD_of hd', hl'])
          refine ⟨rfl, rfl, .ref pt, .ref pg, x, d', e', p, rfl, Dv', Du', hp4.same s49, (fun z => by rw [he'] at z; cases z), (fun _ z => by rw [hre'] at z; cases z), fun _ _ => ⟨ds', gs, wd, hd', hn', hw, hrs', hg', hl', hb, fun H10 s10 => .inr (.inl ⟨_, rfl, _, rfl, rfl, _, rfl, ?_⟩)⟩⟩
          rw [hm, hm2]
          exact ite2 (fun z => absurd z (by simp)) (fun _ => ⟨_, _, rfl, s4.trans (s49.trans s10)⟩)
      case after =>
        rintro σ3 H4 ⟨y8, y9, rfl, s4⟩
        have X3 := x3.hi
        have z4 : Same (aw H2 [b]) (aw H4 [b]) := (aw_but x3.but).trans (aw_ext s4)
        have hb4 : ∃ o, H4 b = some o := ⟨_, (x3.bowl.same s4).hb⟩
        have fin : ∀ {H' : Hp}, Same H4 H' → ∃ s2 s3 s4 s5 s6 s7 s8 s9 t r, ([some (.ref a), some (.ref b), some (.int (0 + (j : Int))), some vr, some (.ref ag), some vn, some vw, some (.int m), y8, y9, none, none, none] : L2.St) = [some (.ref a), some (.ref b), s2, s3, s4, s5, s6, s7, s8, s9, none, none, none] ∧ Bowl H' b c ms t r ∧ t ≤ 100 * ((j + 1 : Nat) : Int) ∧ LamX.Tabs Tb H' := fun s =>
          ⟨_, _, _, _, _, _, _, _, t3, r3, rfl, x3.bowl.same (s4.trans s), by omega, tabs_same (tabs_but (tabs_but tb B'.hb x2.but) x2.bowl.hb x3.but) (s4.trans s)⟩
        have dInts : ∀ l : List Int, deep (.list (l.map PyData.int)) ≤ 4 := fun l => by
          rw [deep_of (ds := l.map PyData.int) rfl]
          exact Nat.le_trans (Nat.succ_le_succ (deepA_bound (n := 0) fun d hd => by obtain ⟨z, _, rfl⟩ := List.mem_map.mp hd; exact Nat.le_refl _)) (by decide)
        have B100 : ∀ {l : List Int}, (∀ z ∈ l, z.natAbs < 2 ^ 100) → Bnd l := fun h z hz => Nat.lt_of_lt_of_le (h z hz) (Nat.pow_le_pow_right (by decide) (by decide))
        cases nums with
        | some n =>
          obtain ⟨hn1, hn2, hn3⟩ := C.hn n rfl
          have hw3 := C.hw
          obtain ⟨an, rfl, hsn⟩ := Dn
          refine ⟨_, rfl, rfl, _, rfl, _, rfl, _, rfl, rfl, _, rfl, ite2 (fun _ => ⟨_, rfl, mk_whole T.toTk (b := b) (d := .list (n.map PyData.int)) (.lst (z4.seq hsn) (by rw [List.length_map]; omega) (doAllInts n)) (dInts n) hb4 fun y H5 s5 P5 _ => ?_⟩) (fun z => absurd (by simp) z)⟩
          obtain ⟨⟨d, e, ds, Dv, Du, hd, hm, he, hn, hrs, hg, hl⟩, hw, hp4, hb5⟩ := asked (T := T.toTk) (f := .list) (g := .list) (fun _ => rfl) (fun _ => rfl) C (Do.same (z4.trans ((aw_same _ _).trans s5)) _ _ Dr) (Do.same (z4.trans ((aw_same _ _).trans s5)) _ _ Dg) (Pv.same (aw_same _ _) P5) (bnd_whole fun _ => by rw [intsOf_of rfl]; exact B100 hn2)
          have hre : rowI e (lenD d : Nat) = true := rowI_ints hg.1 (by rw [lenD_of hd, hl])
          refine ⟨vr, .ref ag, .ref y, d, e, _, rfl, Dv, Du, hp4, (fun z => by rw [he] at z; cases z), (fun _ z => by rw [hre] at z; cases z), fun _ _ => ⟨ds, gs, wd, hd, hn, hw, hrs, hg, hl, hb5, fun H6 s6 => ⟨rfl, _, rfl, ?_⟩⟩⟩
          rw [hm, shown_nums C]
          exact ite2 (fun z => absurd z (by simp)) (fun _ => fin (s5.trans s6))
        | none =>
          cases (show vn = .non from Dn)
          have hw3 := C.hw
          refine ⟨_, rfl, rfl, _, rfl, _, rfl, _, rfl, rfl, _, rfl, ite2 (fun z => absurd z (by simp)) (fun _ => ?_)⟩
          refine ⟨by show 1 ≤ sizeLine; decide, fun pz nz => ?_⟩
          have sz := newO nz (o := .lst [.int 0])
          obtain ⟨ar, acc, rfl, hacc, hda⟩ : ∃ ar acc, vr = .ref ar ∧ SqL K (aw H2 [b]) ar acc ∧ DoAll K (aw H2 [b]) acc (rs.map fun r => .list (r.map PyData.int)) := by
            cases Dr with
            | lst hs hl ha => exact ⟨_, _, rfl, hs, ha⟩
          cases rs with
          | nil => exact absurd rfl C.h1
          | cons r0 rs =>
            cases hda with
            | cons D0 hda =>
              obtain ⟨a0, rfl, h0⟩ := do_lst D0
              have lr0 := (C.hr r0 List.mem_cons_self).1
              have zz : Same (aw H2 [b]) (upd H4 pz (.lst [.int 0])) := z4.trans ((aw_same _ _).trans sz)
              refine ⟨_, rfl, rIx_at (i := 0) (.inl (zz.seq hacc)) rfl ⟨a0, _, rfl, .inl (zz.seq h0), pz, _, _, rfl, rfl, upd_same, ?_, ?_, ?_, fun pq nq => ?_⟩⟩
              · omega
              · rw [List.length_map]; omega
              · rw [List.length_map]
                exact Nat.le_trans (by show 1 * r0.length ≤ 3; omega) (by decide : 3 ≤ sizeLine)
              have sq := sz.trans (newO nq (o := .lst (List.replicate (((r0.map V.int).length : Nat) : Int).toNat [V.int 0]).flatten))
              have hq : SqL K (aw (upd (upd H4 pz (.lst [.int 0])) pq (.lst (List.replicate (((r0.map V.int).length : Nat) : Int).toNat [V.int 0]).flatten)) [b]) pq ((List.replicate wd 0).map V.int) := by
                refine sq_aw (by obtain ⟨o, h⟩ := hb4; simpa using Ne.symm (ne_of_none (newO nz _ _ h) nq)) ?_
                rw [upd_same, ← rep_flat, List.length_map, lr0]
                rfl
              generalize upd (upd H4 pz (.lst [.int 0])) pq (.lst (List.replicate (((r0.map V.int).length : Nat) : Int).toNat [V.int 0]).flatten) = Hq at sq hq ⊢
              refine mk_whole T.toTk (b := b) (d := .list ((List.replicate wd 0).map PyData.int)) (.lst hq (by rw [List.length_map, List.length_replicate]; omega) (doAllInts _)) (dInts _) ⟨_, sq _ _ hb4.choose_spec⟩ fun y H5 s5 P5 _ => ?_
              have z5 : Same (aw H2 [b]) H5 := z4.trans ((aw_same _ _).trans (sq.trans s5))
              obtain ⟨⟨d, e, ds, Dv, Du, hd, hm, he, hn, hrs, hg, hl⟩, hw, hp4, hb5⟩ := asked (T := T.toTk) (f := .list) (g := .list) (fun _ => rfl) (fun _ => rfl) C (Do.same z5 _ _ Dr) (Do.same z5 _ _ Dg) (Pv.same (aw_same _ _) P5) (bnd_whole fun _ => by rw [intsOf_of rfl]; exact B100 fun z hz => by rw [List.eq_of_mem_replicate hz]; decide)
              have hre : rowI e (lenD d : Nat) = true := rowI_ints hg.1 (by rw [lenD_of hd, hl])
              refine ⟨.ref ar, .ref ag, .ref y, d, e, _, rfl, Dv, Du, hp4, (fun z => by rw [he] at z; cases z), (fun _ z => by rw [hre] at z; cases z), fun _ _ => ⟨ds, gs, wd, hd, hn, hw, hrs, hg, hl, hb5, fun H6 s6 => ⟨rfl, _, rfl, ?_⟩⟩⟩
              rw [hm, shown_zero C]
              exact ite2 (fun z => absurd z (by simp)) (fun _ => fin (sq.trans (s5.trans s6)))
    case end_ =>
      rintro σ' Go0 ⟨s2, s3, s4, s5, s6, s7, s8, s9, t, r, rfl, B0, ht, tb0⟩
      have SGo0 : Same Go0 Go0 := Same.refl _
      dsimp only
      refine cut (fun σ1 H' => ∃ v d t1 r1, σ1 = [some (.ref a), some (.ref b), s2, s3, s4, s5, s6, s7, s8, s9, some v, none, none] ∧ Bowl H' b c ms t1 r1 ∧ t1 ≤ 301 ∧ LamX.Tabs Tb H' ∧ Do K (aw H' [b]) v d ∧ evenI d = false) ?odd1 ?odd0
      case odd0 =>
        intro nx hnx
        refine ⟨_, rfl, ?_⟩
        refine ⟨by show 0 ≤ sizeLine; decide, fun p1 n1 => ?_⟩
        have zGo1 := newO n1 (o := .lst [])
        have bp1 : p1 ≠ b := Ne.symm (ne_of_none (SGo0 _ _ B0.hb) n1)
        have up1 : (upd Go0 p1 (.lst [])) p1 = some (.lst []) := upd_same
        have SGo1 := SGo0.trans zGo1
        generalize upd Go0 p1 (.lst []) = Go1 at zGo1 up1 SGo1 ⊢
        refine ⟨by show 1 ≤ sizeLine; decide, fun p2 n2 => ?_⟩
        have zGo2 := newO n2 (o := .lst [.int 1])
        have bp2 : p2 ≠ b := Ne.symm (ne_of_none (SGo1 _ _ B0.hb) n2)
        have up2 : (upd Go1 p2 (.lst [.int 1])) p2 = some (.lst [.int 1]) := upd_same
        have SGo2 := SGo1.trans zGo2
        generalize upd Go1 p2 (.lst [.int 1]) = Go2 at zGo2 up2 SGo2 ⊢
        refine ⟨by show 0 ≤ sizeLine; decide, fun p3 n3 => ?_⟩
        have zGo3 := newO n3 (o := .lst [])
        have bp3 : p3 ≠ b := Ne.symm (ne_of_none (SGo2 _ _ B0.hb) n3)
        have up3 : (upd Go2 p3 (.lst [])) p3 = some (.lst []) := upd_same
        have SGo3 := SGo2.trans zGo3
        generalize upd Go2 p3 (.lst []) = Go3 at zGo3 up3 SGo3 ⊢
        refine ⟨by show 2 ≤ sizeLine; decide, fun p4 n4 => ?_⟩
        have zGo4 := newO n4 (o := .lst [.ref p2, .ref p3])
        have bp4 : p4 ≠ b := Ne.symm (ne_of_none (SGo3 _ _ B0.hb) n4)
        have up4 : (upd Go3 p4 (.lst [.ref p2, .ref p3])) p4 = some (.lst [.ref p2, .ref p3]) := upd_same
        have SGo4 := SGo3.trans zGo4
        generalize upd Go3 p4 (.lst [.ref p2, .ref p3]) = Go4 at zGo4 up4 SGo4 ⊢
        refine ⟨by show 1 ≤ sizeLine; decide, fun p5 n5 => ?_⟩
        have zGo5 := newO n5 (o := .lst [.bl true])
        have bp5 : p5 ≠ b := Ne.symm (ne_of_none (SGo4 _ _ B0.hb) n5)
        have up5 : (upd Go4 p5 (.lst [.bl true])) p5 = some (.lst [.bl true]) := upd_same
        have SGo5 := SGo4.trans zGo5
        generalize upd Go4 p5 (.lst [.bl true]) = Go5 at zGo5 up5 SGo5 ⊢
        refine ⟨by show 1 ≤ sizeLine; decide, fun p6 n6 => ?_⟩
        have zGo6 := newO n6 (o := .lst [.ref p5])
        have bp6 : p6 ≠ b := Ne.symm (ne_of_none (SGo5 _ _ B0.hb) n6)
        have up6 : (upd Go5 p6 (.lst [.ref p5])) p6 = some (.lst [.ref p5]) := upd_same
        have SGo6 := SGo5.trans zGo6
        generalize upd Go5 p6 (.lst [.ref p5]) = Go6 at zGo6 up6 SGo6 ⊢
        refine ⟨by show 1 ≤ sizeLine; decide, fun p7 n7 => ?_⟩
        have zGo7 := newO n7 (o := .lst [.int 0])
        have bp7 : p7 ≠ b := Ne.symm (ne_of_none (SGo6 _ _ B0.hb) n7)
        have up7 : (upd Go6 p7 (.lst [.int 0])) p7 = some (.lst [.int 0]) := upd_same
        have SGo7 := SGo6.trans zGo7
        generalize upd Go6 p7 (.lst [.int 0]) = Go7 at zGo7 up7 SGo7 ⊢
        refine ⟨p7, 13, _, rfl, rfl, up7, by decide, by decide, by show 1 * 13 ≤ sizeLine; decide, fun p8 n8 => ?_⟩
        have zGo8 := newO n8 (o := .lst (List.replicate ((13 : Int)).toNat [V.int 0]).flatten)
        have bp8 : p8 ≠ b := Ne.symm (ne_of_none (SGo7 _ _ B0.hb) n8)
        have up8 : (upd Go7 p8 (.lst (List.replicate ((13 : Int)).toNat [V.int 0]).flatten)) p8 = some (.lst (List.replicate ((13 : Int)).toNat [V.int 0]).flatten) := upd_same
        have SGo8 := SGo7.trans zGo8
        generalize upd Go7 p8 (.lst (List.replicate ((13 : Int)).toNat [V.int 0]).flatten) = Go8 at zGo8 up8 SGo8 ⊢
        refine ⟨by show 1 ≤ sizeLine; decide, fun p9 n9 => ?_⟩
        have zGo9 := newO n9 (o := .lst [.ref p8])
        have bp9 : p9 ≠ b := Ne.symm (ne_of_none (SGo8 _ _ B0.hb) n9)
        have up9 : (upd Go8 p9 (.lst [.ref p8])) p9 = some (.lst [.ref p8]) := upd_same
        have SGo9 := SGo8.trans zGo9
        generalize upd Go8 p9 (.lst [.ref p8]) = Go9 at zGo9 up9 SGo9 ⊢
        refine ⟨by show 1 ≤ sizeLine; decide, fun p10 n10 => ?_⟩
        have zGo10 := newO n10 (o := .lst [.int 1])
        have bp10 : p10 ≠ b := Ne.symm (ne_of_none (SGo9 _ _ B0.hb) n10)
        have up10 : (upd Go9 p10 (.lst [.int 1])) p10 = some (.lst [.int 1]) := upd_same
        have SGo10 := SGo9.trans zGo10
        generalize upd Go9 p10 (.lst [.int 1]) = Go10 at zGo10 up10 SGo10 ⊢
        refine ⟨by show 1 ≤ sizeLine; decide, fun p11 n11 => ?_⟩
        have zGo11 := newO n11 (o := .lst [.ref p10])
        have bp11 : p11 ≠ b := Ne.symm (ne_of_none (SGo10 _ _ B0.hb) n11)
        have up11 : (upd Go10 p11 (.lst [.ref p10])) p11 = some (.lst [.ref p10]) := upd_same
        have SGo11 := SGo10.trans zGo11
        generalize upd Go10 p11 (.lst [.ref p10]) = Go11 at zGo11 up11 SGo11 ⊢
        refine ⟨p11, 49, _, rfl, rfl, up11, by decide, by decide, by show 1 * 49 ≤ sizeLine; decide, fun p12 n12 => ?_⟩
        have zGo12 := newO n12 (o := .lst (List.replicate ((49 : Int)).toNat [V.ref p10]).flatten)
        have bp12 : p12 ≠ b := Ne.symm (ne_of_none (SGo11 _ _ B0.hb) n12)
        have up12 : (upd Go11 p12 (.lst (List.replicate ((49 : Int)).toNat [V.ref p10]).flatten)) p12 = some (.lst (List.replicate ((49 : Int)).toNat [V.ref p10]).flatten) := upd_same
        have SGo12 := SGo11.trans zGo12
        generalize upd Go11 p12 (.lst (List.replicate ((49 : Int)).toNat [V.ref p10]).flatten) = Go12 at zGo12 up12 SGo12 ⊢
        refine ⟨by show 1 ≤ sizeLine; decide, fun p13 n13 => ?_⟩
        have zGo13 := newO n13 (o := .lst [.int 1])
        have bp13 : p13 ≠ b := Ne.symm (ne_of_none (SGo12 _ _ B0.hb) n13)
        have up13 : (upd Go12 p13 (.lst [.int 1])) p13 = some (.lst [.int 1]) := upd_same
        have SGo13 := SGo12.trans zGo13
        generalize upd Go12 p13 (.lst [.int 1]) = Go13 at zGo13 up13 SGo13 ⊢
        refine ⟨by show 9 ≤ sizeLine; decide, fun p14 n14 => ?_⟩
        have zGo14 := newO n14 (o := .lst [.non, .int 5, .ref p1, .ref p4, .ref p6, .ref p9, .ref p12, .str "1", .ref p13])
        have bp14 : p14 ≠ b := Ne.symm (ne_of_none (SGo13 _ _ B0.hb) n14)
        have up14 : (upd Go13 p14 (.lst [.non, .int 5, .ref p1, .ref p4, .ref p6, .ref p9, .ref p12, .str "1", .ref p13])) p14 = some (.lst [.non, .int 5, .ref p1, .ref p4, .ref p6, .ref p9, .ref p12, .str "1", .ref p13]) := upd_same
        have SGo14 := SGo13.trans zGo14
        generalize upd Go13 p14 (.lst [.non, .int 5, .ref p1, .ref p4, .ref p6, .ref p9, .ref p12, .str "1", .ref p13]) = Go14 at zGo14 up14 SGo14 ⊢
        refine ⟨b, c, ms, t, r, p14, _, rfl, B0.same SGo14, by omega, SqL.of up14, bp14, by show 0 < 9; decide, by show 9 ≤ 1000; decide, fun v t1 r1 H1' hv x1 => ?_⟩
        have X1 := x1.hi
        obtain ⟨d, Dd, ed⟩ : ∃ d, Do K (aw Go14 [b]) v d ∧ evenI d = false := by
          simp only [List.mem_cons, List.not_mem_nil, or_false] at hv
          rcases hv with e | e | e | e | e | e | e | e | e <;> rw [e]
          · exact ⟨.none, .non, rfl⟩
          · exact ⟨.int 5, .int 5, rfl⟩
          · exact ⟨.list [], (.lst (sq_aw (by simpa using bp1) ((zGo2.trans (zGo3.trans (zGo4.trans (zGo5.trans (zGo6.trans (zGo7.trans (zGo8.trans (zGo9.trans (zGo10.trans (zGo11.trans (zGo12.trans (zGo13.trans (zGo14))))))))))))) _ _ up1)) (by show 0 ≤ 1000; decide) .nil), rfl⟩
          · exact ⟨.list [.list [.int 1], .list []], (.lst (sq_aw (by simpa using bp4) ((zGo5.trans (zGo6.trans (zGo7.trans (zGo8.trans (zGo9.trans (zGo10.trans (zGo11.trans (zGo12.trans (zGo13.trans (zGo14)))))))))) _ _ up4)) (by show 2 ≤ 1000; decide) (.cons (.lst (sq_aw (by simpa using bp2) ((zGo3.trans (zGo4.trans (zGo5.trans (zGo6.trans (zGo7.trans (zGo8.trans (zGo9.trans (zGo10.trans (zGo11.trans (zGo12.trans (zGo13.trans (zGo14)))))))))))) _ _ up2)) (by show 1 ≤ 1000; decide) (.cons (.int 1) .nil)) (.cons (.lst (sq_aw (by simpa using bp3) ((zGo4.trans (zGo5.trans (zGo6.trans (zGo7.trans (zGo8.trans (zGo9.trans (zGo10.trans (zGo11.trans (zGo12.trans (zGo13.trans (zGo14))))))))))) _ _ up3)) (by show 0 ≤ 1000; decide) .nil) .nil))), by decide +kernel⟩
          · exact ⟨.list [.list [.bool true]], (.lst (sq_aw (by simpa using bp6) ((zGo7.trans (zGo8.trans (zGo9.trans (zGo10.trans (zGo11.trans (zGo12.trans (zGo13.trans (zGo14)))))))) _ _ up6)) (by show 1 ≤ 1000; decide) (.cons (.lst (sq_aw (by simpa using bp5) ((zGo6.trans (zGo7.trans (zGo8.trans (zGo9.trans (zGo10.trans (zGo11.trans (zGo12.trans (zGo13.trans (zGo14))))))))) _ _ up5)) (by show 1 ≤ 1000; decide) (.cons (.bl true) .nil)) .nil)), by decide +kernel⟩
          · exact ⟨.list [.list ((List.replicate 13 0).map PyData.int)], (.lst (sq_aw (by simpa using bp9) ((zGo10.trans (zGo11.trans (zGo12.trans (zGo13.trans (zGo14))))) _ _ up9)) (by show 1 ≤ 1000; decide) (.cons (.lst (show SqL K _ p8 ((List.replicate 13 0).map V.int) from (sq_aw (by simpa using bp8) ((zGo9.trans (zGo10.trans (zGo11.trans (zGo12.trans (zGo13.trans (zGo14)))))) _ _ up8))) (by show 13 ≤ 1000; decide) (doAllInts _)) .nil)), by decide +kernel⟩
          · exact ⟨.list (List.replicate 49 (.list [.int 1])), .lst (show SqL K _ p12 (List.replicate 49 (.ref p10)) from (sq_aw (by simpa using bp12) ((zGo13.trans (zGo14)) _ _ up12))) (by rw [List.length_replicate]; decide) (doAll_rep (.lst (sq_aw (by simpa using bp10) ((zGo11.trans (zGo12.trans (zGo13.trans (zGo14)))) _ _ up10)) (by show 1 ≤ 1000; decide) (.cons (.int 1) .nil)) 49), by decide +kernel⟩
          · exact ⟨.str "1", .str "1", rfl⟩
          · exact ⟨.list [.int 1], (.lst (sq_aw (by simpa using bp13) ((zGo14) _ _ up13)) (by show 1 ≤ 1000; decide) (.cons (.int 1) .nil)), by decide +kernel⟩
        exact hnx _ _ ⟨v, d, t1, r1, rfl, x1.bowl, by omega, tabs_but (tabs_same tb0 SGo14) (B0.same SGo14).hb x1.but, Do.same (aw_but x1.but) _ _ Dd, ed⟩
      clear B0 tb0 SGo0
      rintro σ1 Gn0 ⟨v, d, t1, r1, rfl, B0, ht1, tb0, Dv, ed⟩
      have SGn0 : Same Gn0 Gn0 := Same.refl _
      refine cut (fun σ1 H' => ∃ u e t1 r1, σ1 = [some (.ref a), some (.ref b), s2, s3, s4, s5, s6, s7, s8, s9, some v, some u, none] ∧ Bowl H' b c ms t1 r1 ∧ t1 ≤ 302 ∧ LamX.Tabs Tb H' ∧ Do K (aw H' [b]) v d ∧ Do K (aw H' [b]) u e ∧ rowI e 1 = false) ?none1 ?none0
      case none0 =>
        intro nx hnx
        refine ⟨_, rfl, ?_⟩
        refine ⟨by show 0 ≤ sizeLine; decide, fun p1 n1 => ?_⟩
        have zGn1 := newO n1 (o := .lst [])
        have bp1 : p1 ≠ b := Ne.symm (ne_of_none (SGn0 _ _ B0.hb) n1)
        have up1 : (upd Gn0 p1 (.lst [])) p1 = some (.lst []) := upd_same
        have SGn1 := SGn0.trans zGn1
        generalize upd Gn0 p1 (.lst []) = Gn1 at zGn1 up1 SGn1 ⊢
        refine ⟨by show 2 ≤ sizeLine; decide, fun p2 n2 => ?_⟩
        have zGn2 := newO n2 (o := .lst [.int 1, .int 2])
        have bp2 : p2 ≠ b := Ne.symm (ne_of_none (SGn1 _ _ B0.hb) n2)
        have up2 : (upd Gn1 p2 (.lst [.int 1, .int 2])) p2 = some (.lst [.int 1, .int 2]) := upd_same
        have SGn2 := SGn1.trans zGn2
        generalize upd Gn1 p2 (.lst [.int 1, .int 2]) = Gn2 at zGn2 up2 SGn2 ⊢
        refine ⟨by show 1 ≤ sizeLine; decide, fun p3 n3 => ?_⟩
        have zGn3 := newO n3 (o := .lst [.non])
        have bp3 : p3 ≠ b := Ne.symm (ne_of_none (SGn2 _ _ B0.hb) n3)
        have up3 : (upd Gn2 p3 (.lst [.non])) p3 = some (.lst [.non]) := upd_same
        have SGn3 := SGn2.trans zGn3
        generalize upd Gn2 p3 (.lst [.non]) = Gn3 at zGn3 up3 SGn3 ⊢
        refine ⟨by show 1 ≤ sizeLine; decide, fun p4 n4 => ?_⟩
        have zGn4 := newO n4 (o := .lst [.bl true])
        have bp4 : p4 ≠ b := Ne.symm (ne_of_none (SGn3 _ _ B0.hb) n4)
        have up4 : (upd Gn3 p4 (.lst [.bl true])) p4 = some (.lst [.bl true]) := upd_same
        have SGn4 := SGn3.trans zGn4
        generalize upd Gn3 p4 (.lst [.bl true]) = Gn4 at zGn4 up4 SGn4 ⊢
        refine fun p5 n5 => ⟨upd_same, [(.inl 0, .int 1)], rfl, (by show 1 ≤ 15; decide), ?_⟩
        have zGn5 : Same Gn4 (upd (upd Gn4 p5 (.dK [])) p5 (.dK (mergeK [] [(.inl 0, .int 1)]))) := set_new n5 (newO n5)
        have bp5 : p5 ≠ b := Ne.symm (ne_of_none (SGn4 _ _ B0.hb) n5)
        have up5 : (upd (upd Gn4 p5 (.dK [])) p5 (.dK (mergeK [] [(.inl 0, .int 1)]))) p5 = some (.dK (mergeK [] [(.inl 0, .int 1)])) := upd_same
        have SGn5 := SGn4.trans zGn5
        generalize (upd (upd Gn4 p5 (.dK [])) p5 (.dK (mergeK [] [(.inl 0, .int 1)]))) = Gn5 at zGn5 up5 SGn5 ⊢
        refine ⟨by show 8 ≤ sizeLine; decide, fun p6 n6 => ?_⟩
        have zGn6 := newO n6 (o := .lst [.non, .int 4, .ref p1, .ref p2, .ref p3, .str "1", .ref p4, .ref p5])
        have bp6 : p6 ≠ b := Ne.symm (ne_of_none (SGn5 _ _ B0.hb) n6)
        have up6 : (upd Gn5 p6 (.lst [.non, .int 4, .ref p1, .ref p2, .ref p3, .str "1", .ref p4, .ref p5])) p6 = some (.lst [.non, .int 4, .ref p1, .ref p2, .ref p3, .str "1", .ref p4, .ref p5]) := upd_same
        have SGn6 := SGn5.trans zGn6
        generalize upd Gn5 p6 (.lst [.non, .int 4, .ref p1, .ref p2, .ref p3, .str "1", .ref p4, .ref p5]) = Gn6 at zGn6 up6 SGn6 ⊢
        refine ⟨b, c, ms, t1, r1, p6, _, rfl, B0.same SGn6, by omega, SqL.of up6, bp6, by show 0 < 8; decide, by show 8 ≤ 1000; decide, fun u t2 r2 H1' hv x1 => ?_⟩
        have X1 := x1.hi
        obtain ⟨e, De, ee⟩ : ∃ e, Do K (aw Gn6 [b]) u e ∧ rowI e 1 = false := by
          simp only [List.mem_cons, List.not_mem_nil, or_false] at hv
          rcases hv with e | e | e | e | e | e | e | e <;> rw [e]
          · exact ⟨.none, .non, rfl⟩
          · exact ⟨.int 4, .int 4, rfl⟩
          · exact ⟨.list [], (.lst (sq_aw (by simpa using bp1) ((zGn2.trans (zGn3.trans (zGn4.trans (zGn5.trans (zGn6))))) _ _ up1)) (by show 0 ≤ 1000; decide) .nil), by decide +kernel⟩
          · exact ⟨.list [.int 1, .int 2], (.lst (sq_aw (by simpa using bp2) ((zGn3.trans (zGn4.trans (zGn5.trans (zGn6)))) _ _ up2)) (by show 2 ≤ 1000; decide) (.cons (.int 1) (.cons (.int 2) .nil))), by decide +kernel⟩
          · exact ⟨.list [.none], (.lst (sq_aw (by simpa using bp3) ((zGn4.trans (zGn5.trans (zGn6))) _ _ up3)) (by show 1 ≤ 1000; decide) (.cons .non .nil)), by decide +kernel⟩
          · exact ⟨.str "1", .str "1", rfl⟩
          · exact ⟨.list [.bool true], (.lst (sq_aw (by simpa using bp4) ((zGn5.trans (zGn6)) _ _ up4)) (by show 1 ≤ 1000; decide) (.cons (.bl true) .nil)), by decide +kernel⟩
          · exact ⟨.dict [], .dic (show aw Gn6 [b] p5 = some _ from by rw [aw_ne (by simpa using bp5)]; exact ((zGn6) _ _ up5)), rfl⟩
        exact hnx _ _ ⟨u, e, t2, r2, rfl, x1.bowl, by omega, tabs_but (tabs_same tb0 SGn6) (B0.same SGn6).hb x1.but, Do.same ((aw_ext SGn6).trans (aw_but x1.but)) _ _ Dv, Do.same (aw_but x1.but) _ _ De, ee⟩
      clear B0 tb0 SGn0 Dv
      rintro σ1 Gv0 ⟨u, e, t2, r2, rfl, B0, ht2, tb0, Dv, Du, ee⟩
      have SGv0 : Same Gv0 Gv0 := Same.refl _
      refine cut (fun σ1 H' => ∃ x p t1 r1, σ1 = [some (.ref a), some (.ref b), s2, s3, s4, s5, s6, s7, some x, s9, some v, some u, none] ∧ Bowl H' b c ms t1 r1 ∧ LamX.Tabs Tb H' ∧ Do K (aw H' [b]) v d ∧ Do K (aw H' [b]) u e ∧ Pv T.toTk (aw H' [b]) x p) ?val1 ?val0
      case val0 =>
        intro nx hnx
        refine ⟨_, rfl, ?_⟩
        refine ⟨by show 1 ≤ sizeLine; decide, fun p1 n1 => ?_⟩
        have zGv1 := newO n1 (o := .lst [.int 1])
        have bp1 : p1 ≠ b := Ne.symm (ne_of_none (SGv0 _ _ B0.hb) n1)
        have up1 : (upd Gv0 p1 (.lst [.int 1])) p1 = some (.lst [.int 1]) := upd_same
        have SGv1 := SGv0.trans zGv1
        generalize upd Gv0 p1 (.lst [.int 1]) = Gv1 at zGv1 up1 SGv1 ⊢
        have D1 : Do K (aw Gv1 [b]) (.ref p1) (.list [.int 1]) := .lst (sq_aw (by simpa using bp1) up1) (by show 1 ≤ 1000; decide) (.cons (.int 1) .nil)
        refine mk_whole T.toTk (b := b) D1 (by show deep (.list [.int 1]) ≤ 4; rw [deep_of (ds := [.int 1]) rfl]; decide) ⟨_, SGv1 _ _ B0.hb⟩ fun y1 Gv2 zGv2 P1 _ => ?_
        have SGv2 := SGv1.trans zGv2
        refine ⟨by show 1 ≤ sizeLine; decide, fun p2 n2 => ?_⟩
        have zGv3 := newO n2 (o := .lst [.int 1])
        have bp2 : p2 ≠ b := Ne.symm (ne_of_none (SGv2 _ _ B0.hb) n2)
        have up2 : (upd Gv2 p2 (.lst [.int 1])) p2 = some (.lst [.int 1]) := upd_same
        have SGv3 := SGv2.trans zGv3
        generalize upd Gv2 p2 (.lst [.int 1]) = Gv3 at zGv3 up2 SGv3 ⊢
        have D2 : Do K (aw Gv3 [b]) (.ref p2) (.list [.int 1]) := .lst (sq_aw (by simpa using bp2) up2) (by show 1 ≤ 1000; decide) (.cons (.int 1) .nil)
        refine mk_barred T.toTk (b := b) D2 (.int 2) (by show deep (.list [.int 1]) ≤ 4; rw [deep_of (ds := [.int 1]) rfl]; decide) (Nat.zero_le _) ⟨_, SGv3 _ _ B0.hb⟩ fun y2 Gv4 zGv4 P2 => ?_
        have SGv4 := SGv3.trans zGv4
        refine ⟨by show 3 ≤ sizeLine; decide, fun p3 n3 => ?_⟩
        have zGv5 := newO n3 (o := .lst [.non, .ref y1, .ref y2])
        have bp3 : p3 ≠ b := Ne.symm (ne_of_none (SGv4 _ _ B0.hb) n3)
        have up3 : (upd Gv4 p3 (.lst [.non, .ref y1, .ref y2])) p3 = some (.lst [.non, .ref y1, .ref y2]) := upd_same
        have SGv5 := SGv4.trans zGv5
        generalize upd Gv4 p3 (.lst [.non, .ref y1, .ref y2]) = Gv5 at zGv5 up3 SGv5 ⊢
        refine ⟨b, c, ms, t2, r2, p3, _, rfl, B0.same SGv5, by omega, SqL.of up3, bp3, by show 0 < 3; decide, by show 3 ≤ 1000; decide, fun x t3 r3 H1' hv x1 => ?_⟩
        obtain ⟨p, hp⟩ : ∃ p, Pv T.toTk (aw Gv5 [b]) x p := by
          simp only [List.mem_cons, List.not_mem_nil, or_false] at hv
          rcases hv with e | e | e <;> rw [e]
          · exact ⟨_, .dat .non⟩
          · exact ⟨_, Pv.same ((aw_ext zGv3).trans ((aw_ext zGv4).trans (aw_ext zGv5))) P1⟩
          · exact ⟨_, Pv.same (aw_ext zGv5) P2⟩
        exact hnx _ _ ⟨x, p, t3, r3, rfl, x1.bowl, tabs_but (tabs_same tb0 SGv5) (B0.same SGv5).hb x1.but, Do.same ((aw_ext SGv5).trans (aw_but x1.but)) _ _ Dv, Do.same ((aw_ext SGv5).trans (aw_but x1.but)) _ _ Du, Pv.same (aw_but x1.but) hp⟩
      clear B0 tb0 SGv0 Dv Du
      rintro σ1 Gz ⟨x, p, t3, r3, rfl, B0, tb0, Dv, Du, hp⟩
      have Dv0 := Do.same (aw_same _ _) _ _ Dv
      have Du0 := Do.same (aw_same _ _) _ _ Du
      have hp0 := Pv.same (aw_same _ _) hp
      refine ⟨tb0, fun G1 eG tG R => ?_⟩
      refine ⟨_, rfl, _, rfl, _, rfl, v, u, x, d, e, p, rfl, doExt eG _ _ Dv0, doExt eG _ _ Du0, pvExt eG hp0, fun _ dd G2 g2 q2 => ⟨rfl, dd, .str "rows", rfl, q2, fun G3 s3 => ?_⟩, fun z => (by rw [ed] at z; cases z), fun z => (by rw [ed] at z; cases z)⟩
      have g3 := g2.trans s3
      refine ⟨tabs_same tG g3, fun G4 e4 t4 R => ?_⟩
      refine ⟨by show 1 ≤ sizeLine; decide, fun p1 n1 => ⟨by show 1 ≤ sizeLine; decide, fun p2 n2 => ?_⟩⟩
      have w1 := newO n1 (o := .lst [.int 3])
      have w2 := newO n2 (o := .lst [.ref p1])
      have Dr : Do K (upd (upd G4 p1 (.lst [.int 3])) p2 (.lst [.ref p1])) (.ref p2) (.list [.list [.int 3]]) := .lst (SqL.of upd_same) (by show 1 ≤ 1000; decide) (.cons (.lst (SqL.of (w2 _ _ upd_same)) (by show 1 ≤ 1000; decide) (.cons (.int 3) .nil)) .nil)
      have Du4 := Do.same (w1.trans w2) _ _ (doExt e4 _ _ (Do.same g3 _ _ (doExt eG _ _ Du0)))
      have hp4 := Pv.same (w1.trans w2) (pvExt e4 (Pv.same g3 (pvExt eG hp0)))
      generalize upd (upd G4 p1 (.lst [.int 3])) p2 (.lst [.ref p1]) = G5 at Dr Du4 hp4 ⊢
      have ev : evenI (.list [.list [.int 3]]) = true := by decide +kernel
      refine ⟨_, rfl, _, rfl, .ref p2, u, x, _, e, p, rfl, Dr, Du4, hp4, fun z => (by rw [ev] at z; cases z), fun _ _ dd G6 g6 q6 => ⟨rfl, dd, .str "goals", rfl, q6, fun G7 s7 => ?_⟩, fun _ z => (by rw [show ((lenD (.list [.list [.int 3]]) : Nat) : Int) = 1 from rfl, ee] at z; cases z)⟩
      refine ⟨by show 2 ≤ sizeLine; decide, fun p3 n3 => ⟨by show 2 ≤ sizeLine; decide, fun p4 n4 => ?_⟩⟩
      refine ⟨.list [.str "rows", .str "goals"], .list [.str "rows", .str "goals"], .lst (SqL.of (newO n4 _ _ upd_same)) (.cons (.str _) (.cons (.str _) .nil)), .lst (SqL.of upd_same) (.cons (.str _) (.cons (.str _) .nil)), by decide +kernel, by decide +kernel, ?_⟩
      rw [show PyData.eqv (.list [.str "rows", .str "goals"]) (.list [.str "rows", .str "goals"]) = true from by decide +kernel]
      exact k _

end
end K11

set_option Elab.async false
set_option linter.all false
set_option maxRecDepth 100000
set_option maxHeartbeats 0
namespace K11
open PySem L2 SG
theorem all_mk {l : PySem.W.OpenLaw} {w : World} {K : PySem.W.Frag} {h : Heap} {mg : Str → Option Value} {fa CS C0 fi0 W0 W1 W2 W3 fw0 fw1 fw2 fw3 cD PD f_is_integer f_is_within f_are_integers f_is_row f_are_rows f_fixed f__are_same f_along f_turned f_combined f_are_even_rows f_check_goals f_shows_whole f_are_barred f_l_cask f_l_tap f_l_one_of f_l_are_integers f_l_is_right f_l_bent f_l_case f_l_values f_l_heard f_law : Addr} {tR tM : Tok} (X : K.In h) (G : h.Ns mainGlobals mg) (hfa : mg "law" = some (.ref fa))
    {nm0 q0 : Str} {N0 : Addr} {bs0 bm0 : List Value} {sn0 : List Str} {sub0 : List Value} {ab0 : Bool} {col0 : Option Bool} {dd0 : Option Addr} {m00 m10 m20 m30 m50 : Option Value}
    {odi0 ani0 : Option Addr} {sli0 : Array (Option Value)} {oci0 kVi0 dci0 pmi0 cti0 : Value} {cdi0 : Value}
    {odw0 anw0 : Option Addr} {slw0 : Array (Option Value)} {ocw0 kVw0 dcw0 pmw0 ctw0 : Value} {cdw0 : Value}
    {odw1 anw1 : Option Addr} {slw1 : Array (Option Value)} {ocw1 kVw1 dcw1 pmw1 ctw1 : Value} {cdw1 : Value}
    {odw2 anw2 : Option Addr} {slw2 : Array (Option Value)} {ocw2 kVw2 dcw2 pmw2 ctw2 : Value} {cdw2 : Value}
    {odw3 anw3 : Option Addr} {slw3 : Array (Option Value)} {ocw3 kVw3 dcw3 pmw3 ctw3 : Value} {cdw3 : Value}
    {od_is_integer an_is_integer : Option Addr} {sl_is_integer : Array (Option Value)} {oc_is_integer kV_is_integer dc_is_integer pm_is_integer ct_is_integer : Value} {cd_is_integer : Value}
    {od_is_within an_is_within : Option Addr} {sl_is_within : Array (Option Value)} {oc_is_within kV_is_within dc_is_within pm_is_within ct_is_within : Value} {cd_is_within : Value}
    {od_are_integers an_are_integers : Option Addr} {sl_are_integers : Array (Option Value)} {oc_are_integers kV_are_integers dc_are_integers pm_are_integers ct_are_integers : Value} {cd_are_integers : Value}
    {od_is_row an_is_row : Option Addr} {sl_is_row : Array (Option Value)} {oc_is_row kV_is_row dc_is_row pm_is_row ct_is_row : Value} {cd_is_row : Value}
    {od_are_rows an_are_rows : Option Addr} {sl_are_rows : Array (Option Value)} {oc_are_rows kV_are_rows dc_are_rows pm_are_rows ct_are_rows : Value} {cd_are_rows : Value}
    {od_fixed an_fixed : Option Addr} {sl_fixed : Array (Option Value)} {oc_fixed kV_fixed dc_fixed pm_fixed ct_fixed : Value} {cd_fixed : Value}
    {od__are_same an__are_same : Option Addr} {sl__are_same : Array (Option Value)} {oc__are_same kV__are_same dc__are_same pm__are_same ct__are_same : Value} {cd__are_same : Value}
    {od_along an_along : Option Addr} {sl_along : Array (Option Value)} {oc_along kV_along dc_along pm_along ct_along : Value} {cd_along : Value}
    {od_turned an_turned : Option Addr} {sl_turned : Array (Option Value)} {oc_turned kV_turned dc_turned pm_turned ct_turned : Value} {cd_turned : Value}
    {od_combined an_combined : Option Addr} {sl_combined : Array (Option Value)} {oc_combined kV_combined dc_combined pm_combined ct_combined : Value} {cd_combined : Value}
    {od_are_even_rows an_are_even_rows : Option Addr} {sl_are_even_rows : Array (Option Value)} {oc_are_even_rows kV_are_even_rows dc_are_even_rows pm_are_even_rows ct_are_even_rows : Value} {cd_are_even_rows : Value}
    {od_check_goals an_check_goals : Option Addr} {sl_check_goals : Array (Option Value)} {oc_check_goals kV_check_goals dc_check_goals pm_check_goals ct_check_goals : Value} {cd_check_goals : Value}
    {od_shows_whole an_shows_whole : Option Addr} {sl_shows_whole : Array (Option Value)} {oc_shows_whole kV_shows_whole dc_shows_whole pm_shows_whole ct_shows_whole : Value} {cd_shows_whole : Value}
    {od_are_barred an_are_barred : Option Addr} {sl_are_barred : Array (Option Value)} {oc_are_barred kV_are_barred dc_are_barred pm_are_barred ct_are_barred : Value} {cd_are_barred : Value}
    {od_l_cask an_l_cask : Option Addr} {sl_l_cask : Array (Option Value)} {oc_l_cask kV_l_cask dc_l_cask pm_l_cask ct_l_cask : Value} {cd_l_cask : Value}
    {od_l_tap an_l_tap : Option Addr} {sl_l_tap : Array (Option Value)} {oc_l_tap kV_l_tap dc_l_tap pm_l_tap ct_l_tap : Value} {cd_l_tap : Value}
    {od_l_one_of an_l_one_of : Option Addr} {sl_l_one_of : Array (Option Value)} {oc_l_one_of kV_l_one_of dc_l_one_of pm_l_one_of ct_l_one_of : Value} {cd_l_one_of : Value}
    {od_l_are_integers an_l_are_integers : Option Addr} {sl_l_are_integers : Array (Option Value)} {oc_l_are_integers kV_l_are_integers dc_l_are_integers pm_l_are_integers ct_l_are_integers : Value} {cd_l_are_integers : Value}
    {od_l_is_right an_l_is_right : Option Addr} {sl_l_is_right : Array (Option Value)} {oc_l_is_right kV_l_is_right dc_l_is_right pm_l_is_right ct_l_is_right : Value} {cd_l_is_right : Value}
    {od_l_bent an_l_bent : Option Addr} {sl_l_bent : Array (Option Value)} {oc_l_bent kV_l_bent dc_l_bent pm_l_bent ct_l_bent : Value} {cd_l_bent : Value}
    {od_l_case an_l_case : Option Addr} {sl_l_case : Array (Option Value)} {oc_l_case kV_l_case dc_l_case pm_l_case ct_l_case : Value} {cd_l_case : Value}
    {od_l_values an_l_values : Option Addr} {sl_l_values : Array (Option Value)} {oc_l_values kV_l_values dc_l_values pm_l_values ct_l_values : Value} {cd_l_values : Value}
    {od_l_heard an_l_heard : Option Addr} {sl_l_heard : Array (Option Value)} {oc_l_heard kV_l_heard dc_l_heard pm_l_heard ct_l_heard : Value} {cd_l_heard : Value}
    {od_law an_law : Option Addr} {sl_law : Array (Option Value)} {kV_law dc_law pm_law ct_law : Value}
    {clD : Value} {cdD : Option Addr} {vsD : Array Value} {csD : Array (Option Value)}
    (aS : PySem.W.nsIn K mainGlobals "ScrewError" = some (some (.ref CS)))
    (aR : PySem.W.nsIn K mainGlobals "MOST_ROWS" = some (some (.int 48 tR)))
    (aM : PySem.W.nsIn K mainGlobals "MOST_PLACES" = some (some (.int 12 tM)))
    (z_int : PySem.W.nsIn K mainGlobals "int" = some none)
    (z_len : PySem.W.nsIn K mainGlobals "len" = some none)
    (z_abs : PySem.W.nsIn K mainGlobals "abs" = some none)
    (z_str : PySem.W.nsIn K mainGlobals "str" = some none)
    (z_range : PySem.W.nsIn K mainGlobals "range" = some none)
    (z_repr : PySem.W.nsIn K mainGlobals "repr" = some none)
    (z_isinstance : PySem.W.nsIn K mainGlobals "isinstance" = some none)
    (z_bool : PySem.W.nsIn K mainGlobals "bool" = some none)
    (z_list : PySem.W.nsIn K mainGlobals "list" = some none)
    (z_tuple : PySem.W.nsIn K mainGlobals "tuple" = some none)
    (z_all : PySem.W.nsIn K mainGlobals "all" = some none)
    (z_any : PySem.W.nsIn K mainGlobals "any" = some none)
    (z_sum : PySem.W.nsIn K mainGlobals "sum" = some none)
    (z_zip : PySem.W.nsIn K mainGlobals "zip" = some none)
    (z_type : PySem.W.nsIn K mainGlobals "type" = some none)
    (aC0 : PySem.W.nsIn K mainGlobals "BadNumber" = some (some (.ref C0)))
    (xC0 : K.lookup C0 = some (excClassObj nm0 q0 C0 N0 bs0 bm0 true sn0 sub0 ab0 col0 dd0 m00 m10 m20 m30 m50 "ValueError.__new__"))
    (rC0 : PySem.HandSPX.refsVE bm0 = true)
    (saC0 : PySem.W.findIn K (.ref C0) "__setattr__" = some (some (.builtin "object.__setattr__")))
    (exC0 : PySem.W.subIn K (.ref C0) (.type "BaseException") = some true)
    (tyC0 : PySem.W.typeIn K (.ref C0) = some (.type "type"))
    (keC0 : PySem.W.keepIn K (.ref C0) = true)
    (gaC0 : PySem.W.findIn K (.ref C0) "__getattribute__" = some (some (.builtin "BaseException.__getattribute__")))
    (ggC0 : PySem.W.findIn K (.ref C0) "__getattr__" = some none)
    (hdC0 : PySem.W.hasDictIn K C0 = true)
    (haC0 : PySem.W.findIn K (.ref C0) "__class__" = some (some (.builtin "object.__class__")))
    (hmC0 : PySem.W.mroIn K C0 (.type "object") = some true)
    (iCC0 : PySem.W.findIn K (.ref C0) "__init__" = some (some (.ref fi0)))
    (tI0 : PySem.W.typeIn K (.ref fi0) = some (.type "function"))
    (li0 : K.lookup fi0 = some ⟨oci0, odi0, .func (PySem.W.fnOf "__init__" "BadNumber.__init__" (defArgs i_BadNumber) (defBody i_BadNumber) (defScope i_BadNumber) .none kVi0 dci0 pmi0 ani0 cdi0 cti0), sli0⟩)
    (ci0 : PySem.W.codeIn K cdi0 "BadNumber.__init__" = true)
    (ki0 : PySem.W.keepIn K (.ref fi0) = true)
    (noC0 : PySem.W.findIn K (.ref C0) "part" = some none)
    (hn : PySem.W.specialIn K (.builtin "object.__class__") "__get__" = some (some (.builtin "getset_descriptor.__get__")))
    (ht : PySem.W.takesIn K (.builtin "object.__class__") = some true)
    (exS : PySem.W.subIn K (.ref CS) (.type "BaseException") = some true)
    (hdS : PySem.W.hasDictIn K CS = true)
    (tyS : PySem.W.typeIn K (.ref CS) = some (.type "type"))
    (uS : PySem.W.subIn K (.ref C0) (.ref CS) = some true)
    (kBB : PySem.W.kitOne K (.ref C0) (.ref C0) = some true)
    (aW0 : PySem.W.nsIn K mainGlobals "Paper" = some (some (.ref W0)))
    (inW0 : PySem.W.findIn K (.ref W0) "__init__" = some (some (.ref fw0)))
    (lw0 : K.lookup fw0 = some ⟨ocw0, odw0, .func (PySem.W.fnOf "__init__" "Paper.__init__" (defArgs i_Paper) (defBody i_Paper) (defScope i_Paper) .none kVw0 dcw0 pmw0 anw0 cdw0 ctw0), slw0⟩)
    (cw0 : PySem.W.codeIn K cdw0 "Paper.__init__" = true)
    (kw0 : PySem.W.keepIn K (.ref fw0) = true)
    (mkW0 : PySem.W.makesIn K W0 = true)
    (fnW0 : PySem.W.isFn K (.ref fw0) = true)
    (keW0 : PySem.W.keepIn K (.ref W0) = true)
    (pgW0 : PySem.W.plainGet K W0 Str.empty = true)
    (hdW0 : PySem.W.hasDictIn K W0 = true)
    (poW0 : PySem.W.plainOver K W0 = true)
    (saW0 : PySem.W.findIn K (.ref W0) "__setattr__" = some (some (.builtin "object.__setattr__")))
    (haW0 : PySem.W.findIn K (.ref W0) "__class__" = some (some (.builtin "object.__class__")))
    (hmW0 : PySem.W.mroIn K W0 (.type "object") = some true)
    (niW0 : PySem.W.kitOne K (.ref W0) (.type "int") = some false)
    (nsW0 : PySem.W.kitAny K (.ref W0) [.type "list", .type "tuple"] = some false)
    (nbW0 : PySem.W.kitOne K (.ref W0) (.type "bool") = some false)
    (no_word_W0 : PySem.W.findIn K (.ref W0) "word" = some none)
    (no_parts_W0 : PySem.W.findIn K (.ref W0) "parts" = some none)
    (aW1 : PySem.W.nsIn K mainGlobals "Denial" = some (some (.ref W1)))
    (inW1 : PySem.W.findIn K (.ref W1) "__init__" = some (some (.ref fw1)))
    (lw1 : K.lookup fw1 = some ⟨ocw1, odw1, .func (PySem.W.fnOf "__init__" "Denial.__init__" (defArgs i_Denial) (defBody i_Denial) (defScope i_Denial) .none kVw1 dcw1 pmw1 anw1 cdw1 ctw1), slw1⟩)
    (cw1 : PySem.W.codeIn K cdw1 "Denial.__init__" = true)
    (kw1 : PySem.W.keepIn K (.ref fw1) = true)
    (mkW1 : PySem.W.makesIn K W1 = true)
    (fnW1 : PySem.W.isFn K (.ref fw1) = true)
    (keW1 : PySem.W.keepIn K (.ref W1) = true)
    (pgW1 : PySem.W.plainGet K W1 Str.empty = true)
    (hdW1 : PySem.W.hasDictIn K W1 = true)
    (poW1 : PySem.W.plainOver K W1 = true)
    (saW1 : PySem.W.findIn K (.ref W1) "__setattr__" = some (some (.builtin "object.__setattr__")))
    (haW1 : PySem.W.findIn K (.ref W1) "__class__" = some (some (.builtin "object.__class__")))
    (hmW1 : PySem.W.mroIn K W1 (.type "object") = some true)
    (niW1 : PySem.W.kitOne K (.ref W1) (.type "int") = some false)
    (nsW1 : PySem.W.kitAny K (.ref W1) [.type "list", .type "tuple"] = some false)
    (nbW1 : PySem.W.kitOne K (.ref W1) (.type "bool") = some false)
    (no_word_W1 : PySem.W.findIn K (.ref W1) "word" = some none)
    (no_parts_W1 : PySem.W.findIn K (.ref W1) "parts" = some none)
    (aW2 : PySem.W.nsIn K mainGlobals "Whole" = some (some (.ref W2)))
    (inW2 : PySem.W.findIn K (.ref W2) "__init__" = some (some (.ref fw2)))
    (lw2 : K.lookup fw2 = some ⟨ocw2, odw2, .func (PySem.W.fnOf "__init__" "Whole.__init__" (defArgs i_Whole) (defBody i_Whole) (defScope i_Whole) .none kVw2 dcw2 pmw2 anw2 cdw2 ctw2), slw2⟩)
    (cw2 : PySem.W.codeIn K cdw2 "Whole.__init__" = true)
    (kw2 : PySem.W.keepIn K (.ref fw2) = true)
    (mkW2 : PySem.W.makesIn K W2 = true)
    (fnW2 : PySem.W.isFn K (.ref fw2) = true)
    (keW2 : PySem.W.keepIn K (.ref W2) = true)
    (pgW2 : PySem.W.plainGet K W2 Str.empty = true)
    (hdW2 : PySem.W.hasDictIn K W2 = true)
    (poW2 : PySem.W.plainOver K W2 = true)
    (saW2 : PySem.W.findIn K (.ref W2) "__setattr__" = some (some (.builtin "object.__setattr__")))
    (haW2 : PySem.W.findIn K (.ref W2) "__class__" = some (some (.builtin "object.__class__")))
    (hmW2 : PySem.W.mroIn K W2 (.type "object") = some true)
    (niW2 : PySem.W.kitOne K (.ref W2) (.type "int") = some false)
    (nsW2 : PySem.W.kitAny K (.ref W2) [.type "list", .type "tuple"] = some false)
    (nbW2 : PySem.W.kitOne K (.ref W2) (.type "bool") = some false)
    (no_word_W2 : PySem.W.findIn K (.ref W2) "word" = some none)
    (no_parts_W2 : PySem.W.findIn K (.ref W2) "parts" = some none)
    (aW3 : PySem.W.nsIn K mainGlobals "Barred" = some (some (.ref W3)))
    (inW3 : PySem.W.findIn K (.ref W3) "__init__" = some (some (.ref fw3)))
    (lw3 : K.lookup fw3 = some ⟨ocw3, odw3, .func (PySem.W.fnOf "__init__" "Barred.__init__" (defArgs i_Barred) (defBody i_Barred) (defScope i_Barred) .none kVw3 dcw3 pmw3 anw3 cdw3 ctw3), slw3⟩)
    (cw3 : PySem.W.codeIn K cdw3 "Barred.__init__" = true)
    (kw3 : PySem.W.keepIn K (.ref fw3) = true)
    (mkW3 : PySem.W.makesIn K W3 = true)
    (fnW3 : PySem.W.isFn K (.ref fw3) = true)
    (keW3 : PySem.W.keepIn K (.ref W3) = true)
    (pgW3 : PySem.W.plainGet K W3 Str.empty = true)
    (hdW3 : PySem.W.hasDictIn K W3 = true)
    (poW3 : PySem.W.plainOver K W3 = true)
    (saW3 : PySem.W.findIn K (.ref W3) "__setattr__" = some (some (.builtin "object.__setattr__")))
    (haW3 : PySem.W.findIn K (.ref W3) "__class__" = some (some (.builtin "object.__class__")))
    (hmW3 : PySem.W.mroIn K W3 (.type "object") = some true)
    (niW3 : PySem.W.kitOne K (.ref W3) (.type "int") = some false)
    (nsW3 : PySem.W.kitAny K (.ref W3) [.type "list", .type "tuple"] = some false)
    (nbW3 : PySem.W.kitOne K (.ref W3) (.type "bool") = some false)
    (no_word_W3 : PySem.W.findIn K (.ref W3) "word" = some none)
    (no_parts_W3 : PySem.W.findIn K (.ref W3) "parts" = some none)
    (noNum : PySem.W.findIn K (.ref W2) "numbers" = some none)
    (noRow : PySem.W.findIn K (.ref W3) "row" = some none)
    (noMod : PySem.W.findIn K (.ref W3) "modulus" = some none)
    (kBW : PySem.W.kitOne K (.ref W3) (.ref W2) = some false)
    (kWB : PySem.W.kitOne K (.ref W2) (.ref W3) = some false)
    (kPw : PySem.W.kitOne K (.ref W0) (.ref W2) = some false)
    (kPb : PySem.W.kitOne K (.ref W0) (.ref W3) = some false)
    (kDw : PySem.W.kitOne K (.ref W1) (.ref W2) = some false)
    (kDb : PySem.W.kitOne K (.ref W1) (.ref W3) = some false)
    (kn_NoneTypew : PySem.W.kitOne K (.type "NoneType") (.ref W2) = some false)
    (kn_NoneTypeb : PySem.W.kitOne K (.type "NoneType") (.ref W3) = some false)
    (kn_boolw : PySem.W.kitOne K (.type "bool") (.ref W2) = some false)
    (kn_boolb : PySem.W.kitOne K (.type "bool") (.ref W3) = some false)
    (kn_intw : PySem.W.kitOne K (.type "int") (.ref W2) = some false)
    (kn_intb : PySem.W.kitOne K (.type "int") (.ref W3) = some false)
    (kn_strw : PySem.W.kitOne K (.type "str") (.ref W2) = some false)
    (kn_strb : PySem.W.kitOne K (.type "str") (.ref W3) = some false)
    (kn_listw : PySem.W.kitOne K (.type "list") (.ref W2) = some false)
    (kn_listb : PySem.W.kitOne K (.type "list") (.ref W3) = some false)
    (kn_tuplew : PySem.W.kitOne K (.type "tuple") (.ref W2) = some false)
    (kn_tupleb : PySem.W.kitOne K (.type "tuple") (.ref W3) = some false)
    (kn_dictw : PySem.W.kitOne K (.type "dict") (.ref W2) = some false)
    (kn_dictb : PySem.W.kitOne K (.type "dict") (.ref W3) = some false)
    (kn_functionw : PySem.W.kitOne K (.type "function") (.ref W2) = some false)
    (kn_functionb : PySem.W.kitOne K (.type "function") (.ref W3) = some false)
    (a_is_integer : PySem.W.nsIn K mainGlobals "is_integer" = some (some (.ref f_is_integer)))
    (l_is_integer : K.lookup f_is_integer = some ⟨oc_is_integer, od_is_integer, .func (PySem.W.fnOf "is_integer" "is_integer" (defArgs s_is_integer) (defBody s_is_integer) (defScope s_is_integer) .none kV_is_integer dc_is_integer pm_is_integer an_is_integer cd_is_integer ct_is_integer), sl_is_integer⟩)
    (c_is_integer : PySem.W.codeIn K cd_is_integer "is_integer" = true)
    (k_is_integer : PySem.W.keepIn K (.ref f_is_integer) = true)
    (a_is_within : PySem.W.nsIn K mainGlobals "is_within" = some (some (.ref f_is_within)))
    (l_is_within : K.lookup f_is_within = some ⟨oc_is_within, od_is_within, .func (PySem.W.fnOf "is_within" "is_within" (defArgs s_is_within) (defBody s_is_within) (defScope s_is_within) .none kV_is_within dc_is_within pm_is_within an_is_within cd_is_within ct_is_within), sl_is_within⟩)
    (c_is_within : PySem.W.codeIn K cd_is_within "is_within" = true)
    (k_is_within : PySem.W.keepIn K (.ref f_is_within) = true)
    (a_are_integers : PySem.W.nsIn K mainGlobals "are_integers" = some (some (.ref f_are_integers)))
    (l_are_integers : K.lookup f_are_integers = some ⟨oc_are_integers, od_are_integers, .func (PySem.W.fnOf "are_integers" "are_integers" (defArgs s_are_integers) (defBody s_are_integers) (defScope s_are_integers) .none kV_are_integers dc_are_integers pm_are_integers an_are_integers cd_are_integers ct_are_integers), sl_are_integers⟩)
    (c_are_integers : PySem.W.codeIn K cd_are_integers "are_integers" = true)
    (k_are_integers : PySem.W.keepIn K (.ref f_are_integers) = true)
    (a_is_row : PySem.W.nsIn K mainGlobals "is_row" = some (some (.ref f_is_row)))
    (l_is_row : K.lookup f_is_row = some ⟨oc_is_row, od_is_row, .func (PySem.W.fnOf "is_row" "is_row" (defArgs s_is_row) (defBody s_is_row) (defScope s_is_row) .none kV_is_row dc_is_row pm_is_row an_is_row cd_is_row ct_is_row), sl_is_row⟩)
    (c_is_row : PySem.W.codeIn K cd_is_row "is_row" = true)
    (k_is_row : PySem.W.keepIn K (.ref f_is_row) = true)
    (a_are_rows : PySem.W.nsIn K mainGlobals "are_rows" = some (some (.ref f_are_rows)))
    (l_are_rows : K.lookup f_are_rows = some ⟨oc_are_rows, od_are_rows, .func (PySem.W.fnOf "are_rows" "are_rows" (defArgs s_are_rows) (defBody s_are_rows) (defScope s_are_rows) .none kV_are_rows dc_are_rows pm_are_rows an_are_rows cd_are_rows ct_are_rows), sl_are_rows⟩)
    (c_are_rows : PySem.W.codeIn K cd_are_rows "are_rows" = true)
    (k_are_rows : PySem.W.keepIn K (.ref f_are_rows) = true)
    (a_fixed : PySem.W.nsIn K mainGlobals "fixed" = some (some (.ref f_fixed)))
    (l_fixed : K.lookup f_fixed = some ⟨oc_fixed, od_fixed, .func (PySem.W.fnOf "fixed" "fixed" (defArgs s_fixed) (defBody s_fixed) (defScope s_fixed) .none kV_fixed dc_fixed pm_fixed an_fixed cd_fixed ct_fixed), sl_fixed⟩)
    (c_fixed : PySem.W.codeIn K cd_fixed "fixed" = true)
    (k_fixed : PySem.W.keepIn K (.ref f_fixed) = true)
    (a__are_same : PySem.W.nsIn K mainGlobals "_are_same" = some (some (.ref f__are_same)))
    (l__are_same : K.lookup f__are_same = some ⟨oc__are_same, od__are_same, .func (PySem.W.fnOf "_are_same" "_are_same" (defArgs s__are_same) (defBody s__are_same) (defScope s__are_same) .none kV__are_same dc__are_same pm__are_same an__are_same cd__are_same ct__are_same), sl__are_same⟩)
    (c__are_same : PySem.W.codeIn K cd__are_same "_are_same" = true)
    (k__are_same : PySem.W.keepIn K (.ref f__are_same) = true)
    (a_along : PySem.W.nsIn K mainGlobals "along" = some (some (.ref f_along)))
    (l_along : K.lookup f_along = some ⟨oc_along, od_along, .func (PySem.W.fnOf "along" "along" (defArgs s_along) (defBody s_along) (defScope s_along) .none kV_along dc_along pm_along an_along cd_along ct_along), sl_along⟩)
    (c_along : PySem.W.codeIn K cd_along "along" = true)
    (k_along : PySem.W.keepIn K (.ref f_along) = true)
    (a_turned : PySem.W.nsIn K mainGlobals "turned" = some (some (.ref f_turned)))
    (l_turned : K.lookup f_turned = some ⟨oc_turned, od_turned, .func (PySem.W.fnOf "turned" "turned" (defArgs s_turned) (defBody s_turned) (defScope s_turned) .none kV_turned dc_turned pm_turned an_turned cd_turned ct_turned), sl_turned⟩)
    (c_turned : PySem.W.codeIn K cd_turned "turned" = true)
    (k_turned : PySem.W.keepIn K (.ref f_turned) = true)
    (a_combined : PySem.W.nsIn K mainGlobals "combined" = some (some (.ref f_combined)))
    (l_combined : K.lookup f_combined = some ⟨oc_combined, od_combined, .func (PySem.W.fnOf "combined" "combined" (defArgs s_combined) (defBody s_combined) (defScope s_combined) .none kV_combined dc_combined pm_combined an_combined cd_combined ct_combined), sl_combined⟩)
    (c_combined : PySem.W.codeIn K cd_combined "combined" = true)
    (k_combined : PySem.W.keepIn K (.ref f_combined) = true)
    (a_are_even_rows : PySem.W.nsIn K mainGlobals "are_even_rows" = some (some (.ref f_are_even_rows)))
    (l_are_even_rows : K.lookup f_are_even_rows = some ⟨oc_are_even_rows, od_are_even_rows, .func (PySem.W.fnOf "are_even_rows" "are_even_rows" (defArgs s_are_even_rows) (defBody s_are_even_rows) (defScope s_are_even_rows) .none kV_are_even_rows dc_are_even_rows pm_are_even_rows an_are_even_rows cd_are_even_rows ct_are_even_rows), sl_are_even_rows⟩)
    (c_are_even_rows : PySem.W.codeIn K cd_are_even_rows "are_even_rows" = true)
    (k_are_even_rows : PySem.W.keepIn K (.ref f_are_even_rows) = true)
    (a_check_goals : PySem.W.nsIn K mainGlobals "check_goals" = some (some (.ref f_check_goals)))
    (l_check_goals : K.lookup f_check_goals = some ⟨oc_check_goals, od_check_goals, .func (PySem.W.fnOf "check_goals" "check_goals" (defArgs s_check_goals) (defBody s_check_goals) (defScope s_check_goals) .none kV_check_goals dc_check_goals pm_check_goals an_check_goals cd_check_goals ct_check_goals), sl_check_goals⟩)
    (c_check_goals : PySem.W.codeIn K cd_check_goals "check_goals" = true)
    (k_check_goals : PySem.W.keepIn K (.ref f_check_goals) = true)
    (a_shows_whole : PySem.W.nsIn K mainGlobals "shows_whole" = some (some (.ref f_shows_whole)))
    (l_shows_whole : K.lookup f_shows_whole = some ⟨oc_shows_whole, od_shows_whole, .func (PySem.W.fnOf "shows_whole" "shows_whole" (defArgs s_shows_whole) (defBody s_shows_whole) (defScope s_shows_whole) .none kV_shows_whole dc_shows_whole pm_shows_whole an_shows_whole cd_shows_whole ct_shows_whole), sl_shows_whole⟩)
    (c_shows_whole : PySem.W.codeIn K cd_shows_whole "shows_whole" = true)
    (k_shows_whole : PySem.W.keepIn K (.ref f_shows_whole) = true)
    (a_are_barred : PySem.W.nsIn K mainGlobals "are_barred" = some (some (.ref f_are_barred)))
    (l_are_barred : K.lookup f_are_barred = some ⟨oc_are_barred, od_are_barred, .func (PySem.W.fnOf "are_barred" "are_barred" (defArgs s_are_barred) (defBody s_are_barred) (defScope s_are_barred) .none kV_are_barred dc_are_barred pm_are_barred an_are_barred cd_are_barred ct_are_barred), sl_are_barred⟩)
    (c_are_barred : PySem.W.codeIn K cd_are_barred "are_barred" = true)
    (k_are_barred : PySem.W.keepIn K (.ref f_are_barred) = true)
    (a_l_cask : PySem.W.nsIn K mainGlobals "_law_cask" = some (some (.ref f_l_cask)))
    (l_l_cask : K.lookup f_l_cask = some ⟨oc_l_cask, od_l_cask, .func (PySem.W.fnOf "_law_cask" "_law_cask" (defArgs s_l_cask) (defBody s_l_cask) (defScope s_l_cask) .none kV_l_cask dc_l_cask pm_l_cask an_l_cask cd_l_cask ct_l_cask), sl_l_cask⟩)
    (c_l_cask : PySem.W.codeIn K cd_l_cask "_law_cask" = true)
    (k_l_cask : PySem.W.keepIn K (.ref f_l_cask) = true)
    (a_l_tap : PySem.W.nsIn K mainGlobals "_law_tap" = some (some (.ref f_l_tap)))
    (l_l_tap : K.lookup f_l_tap = some ⟨oc_l_tap, od_l_tap, .func (PySem.W.fnOf "_law_tap" "_law_tap" (defArgs s_l_tap) (defBody s_l_tap) (defScope s_l_tap) .none kV_l_tap dc_l_tap pm_l_tap an_l_tap cd_l_tap ct_l_tap), sl_l_tap⟩)
    (c_l_tap : PySem.W.codeIn K cd_l_tap "_law_tap" = true)
    (k_l_tap : PySem.W.keepIn K (.ref f_l_tap) = true)
    (a_l_one_of : PySem.W.nsIn K mainGlobals "_law_one_of" = some (some (.ref f_l_one_of)))
    (l_l_one_of : K.lookup f_l_one_of = some ⟨oc_l_one_of, od_l_one_of, .func (PySem.W.fnOf "_law_one_of" "_law_one_of" (defArgs s_l_one_of) (defBody s_l_one_of) (defScope s_l_one_of) .none kV_l_one_of dc_l_one_of pm_l_one_of an_l_one_of cd_l_one_of ct_l_one_of), sl_l_one_of⟩)
    (c_l_one_of : PySem.W.codeIn K cd_l_one_of "_law_one_of" = true)
    (k_l_one_of : PySem.W.keepIn K (.ref f_l_one_of) = true)
    (a_l_are_integers : PySem.W.nsIn K mainGlobals "_law_are_integers" = some (some (.ref f_l_are_integers)))
    (l_l_are_integers : K.lookup f_l_are_integers = some ⟨oc_l_are_integers, od_l_are_integers, .func (PySem.W.fnOf "_law_are_integers" "_law_are_integers" (defArgs s_l_are_integers) (defBody s_l_are_integers) (defScope s_l_are_integers) .none kV_l_are_integers dc_l_are_integers pm_l_are_integers an_l_are_integers cd_l_are_integers ct_l_are_integers), sl_l_are_integers⟩)
    (c_l_are_integers : PySem.W.codeIn K cd_l_are_integers "_law_are_integers" = true)
    (k_l_are_integers : PySem.W.keepIn K (.ref f_l_are_integers) = true)
    (a_l_is_right : PySem.W.nsIn K mainGlobals "_law_is_right" = some (some (.ref f_l_is_right)))
    (l_l_is_right : K.lookup f_l_is_right = some ⟨oc_l_is_right, od_l_is_right, .func (PySem.W.fnOf "_law_is_right" "_law_is_right" (defArgs s_l_is_right) (defBody s_l_is_right) (defScope s_l_is_right) .none kV_l_is_right dc_l_is_right pm_l_is_right an_l_is_right cd_l_is_right ct_l_is_right), sl_l_is_right⟩)
    (c_l_is_right : PySem.W.codeIn K cd_l_is_right "_law_is_right" = true)
    (k_l_is_right : PySem.W.keepIn K (.ref f_l_is_right) = true)
    (a_l_bent : PySem.W.nsIn K mainGlobals "_law_bent" = some (some (.ref f_l_bent)))
    (l_l_bent : K.lookup f_l_bent = some ⟨oc_l_bent, od_l_bent, .func (PySem.W.fnOf "_law_bent" "_law_bent" (defArgs s_l_bent) (defBody s_l_bent) (defScope s_l_bent) .none kV_l_bent dc_l_bent pm_l_bent an_l_bent cd_l_bent ct_l_bent), sl_l_bent⟩)
    (c_l_bent : PySem.W.codeIn K cd_l_bent "_law_bent" = true)
    (k_l_bent : PySem.W.keepIn K (.ref f_l_bent) = true)
    (a_l_case : PySem.W.nsIn K mainGlobals "_law_case" = some (some (.ref f_l_case)))
    (l_l_case : K.lookup f_l_case = some ⟨oc_l_case, od_l_case, .func (PySem.W.fnOf "_law_case" "_law_case" (defArgs s_l_case) (defBody s_l_case) (defScope s_l_case) .none kV_l_case dc_l_case pm_l_case an_l_case cd_l_case ct_l_case), sl_l_case⟩)
    (c_l_case : PySem.W.codeIn K cd_l_case "_law_case" = true)
    (k_l_case : PySem.W.keepIn K (.ref f_l_case) = true)
    (a_l_values : PySem.W.nsIn K mainGlobals "_law_values" = some (some (.ref f_l_values)))
    (l_l_values : K.lookup f_l_values = some ⟨oc_l_values, od_l_values, .func (PySem.W.fnOf "_law_values" "_law_values" (defArgs s_l_values) (defBody s_l_values) (defScope s_l_values) .none kV_l_values dc_l_values pm_l_values an_l_values cd_l_values ct_l_values), sl_l_values⟩)
    (c_l_values : PySem.W.codeIn K cd_l_values "_law_values" = true)
    (k_l_values : PySem.W.keepIn K (.ref f_l_values) = true)
    (a_l_heard : PySem.W.nsIn K mainGlobals "_law_heard" = some (some (.ref f_l_heard)))
    (l_l_heard : K.lookup f_l_heard = some ⟨oc_l_heard, od_l_heard, .func (PySem.W.fnOf "_law_heard" "_law_heard" (defArgs s_l_heard) (defBody s_l_heard) (defScope s_l_heard) .none kV_l_heard dc_l_heard pm_l_heard an_l_heard cd_l_heard ct_l_heard), sl_l_heard⟩)
    (c_l_heard : PySem.W.codeIn K cd_l_heard "_law_heard" = true)
    (k_l_heard : PySem.W.keepIn K (.ref f_l_heard) = true)
    (a_law : PySem.W.nsIn K mainGlobals "law" = some (some (.ref f_law)))
    (l_law : K.lookup f_law = some ⟨.type "function", od_law, .func (PySem.W.fnOf "law" "law" (defArgs s_law) (defBody s_law) (defScope s_law) .none kV_law dc_law pm_law an_law (.ref cD) ct_law), sl_law⟩)
    (c_law : PySem.W.codeIn K (.ref cD) "law" = true)
    (k_law : PySem.W.keepIn K (.ref f_law) = true)
    (tD : K.lookup cD = some ⟨clD, cdD, .fields vsD, csD⟩)
    (vD : vsD[11]? = some (.ref PD))
    (hD : PySem.W.codeHdIn K cD PD = true)
    (gD : h.get? PD = some (PySem.W.tabObj #[]))
    (nD : K.lookup PD = none)
    : LamX.LawAtS l w K CX0 10 63 "script" mg fa h := by
  have e := hfa.symm.trans (PySem.W.mg_of X G a_law)
  cases e
  have E0 : ExcC K C0 := ⟨gaC0, ggC0, exC0, hdC0, haC0, hn, ht, hmC0⟩
  let R0 : Er K mg "BadNumber" "BadNumber.__init__" i_BadNumber := { C := C0, f := fi0, fd := _, F := fun_mk (st := i_BadNumber) li0 ci0 ki0, m := PySem.W.mg_of X G aC0, O := ⟨⟨_, _, _, _, _, _, _, _, _, _, _, _, _, _, _, xC0, rC0⟩, saC0, exC0, tyC0, keC0⟩, X := ⟨gaC0, ggC0, exC0, hdC0⟩, E := E0, iC := iCC0, tI := tI0 }
  let Q0 : Pc K mg "Paper" "Paper.__init__" i_Paper := { C := W0, f := fw0, fd := _, F := fun_mk (st := i_Paper) lw0 cw0 kw0, m := PySem.W.mg_of X G aW0, M := ⟨mkW0, inW0, fnW0, keW0⟩, I := ⟨⟨pgW0, hdW0, poW0, saW0⟩, haW0, hn, ht, hmW0, niW0, nsW0, nbW0⟩, nW := no_word_W0, nP := no_parts_W0 }
  let Q1 : Pc K mg "Denial" "Denial.__init__" i_Denial := { C := W1, f := fw1, fd := _, F := fun_mk (st := i_Denial) lw1 cw1 kw1, m := PySem.W.mg_of X G aW1, M := ⟨mkW1, inW1, fnW1, keW1⟩, I := ⟨⟨pgW1, hdW1, poW1, saW1⟩, haW1, hn, ht, hmW1, niW1, nsW1, nbW1⟩, nW := no_word_W1, nP := no_parts_W1 }
  let Q2 : Pc K mg "Whole" "Whole.__init__" i_Whole := { C := W2, f := fw2, fd := _, F := fun_mk (st := i_Whole) lw2 cw2 kw2, m := PySem.W.mg_of X G aW2, M := ⟨mkW2, inW2, fnW2, keW2⟩, I := ⟨⟨pgW2, hdW2, poW2, saW2⟩, haW2, hn, ht, hmW2, niW2, nsW2, nbW2⟩, nW := no_word_W2, nP := no_parts_W2 }
  let Q3 : Pc K mg "Barred" "Barred.__init__" i_Barred := { C := W3, f := fw3, fd := _, F := fun_mk (st := i_Barred) lw3 cw3 kw3, m := PySem.W.mg_of X G aW3, M := ⟨mkW3, inW3, fnW3, keW3⟩, I := ⟨⟨pgW3, hdW3, poW3, saW3⟩, haW3, hn, ht, hmW3, niW3, nsW3, nbW3⟩, nW := no_word_W3, nP := no_parts_W3 }
  let T0 : Tx K mg := { nm := { n_int := PySem.W.mg_none_of X G z_int, n_len := PySem.W.mg_none_of X G z_len, n_abs := PySem.W.mg_none_of X G z_abs, n_str := PySem.W.mg_none_of X G z_str, n_range := PySem.W.mg_none_of X G z_range, n_repr := PySem.W.mg_none_of X G z_repr, n_isinstance := PySem.W.mg_none_of X G z_isinstance, n_bool := PySem.W.mg_none_of X G z_bool, n_list := PySem.W.mg_none_of X G z_list, n_tuple := PySem.W.mg_none_of X G z_tuple, n_all := PySem.W.mg_none_of X G z_all, n_any := PySem.W.mg_none_of X G z_any, n_sum := PySem.W.mg_none_of X G z_sum, n_zip := PySem.W.mg_none_of X G z_zip, n_type := PySem.W.mg_none_of X G z_type }, d_is_integer := { f := _, fd := _, F := fun_mk (st := s_is_integer) l_is_integer c_is_integer k_is_integer, m := PySem.W.mg_of X G a_is_integer, k := k_is_integer, b := (fun_mk (st := s_is_integer) l_is_integer c_is_integer k_is_integer).binds (ps := ["value"]) (fun _ _ _ _ _ _ us hl => match us, hl with | [_], _ => rfl) }, d_is_within := { f := _, fd := _, F := fun_mk (st := s_is_within) l_is_within c_is_within k_is_within, m := PySem.W.mg_of X G a_is_within, k := k_is_within, b := (fun_mk (st := s_is_within) l_is_within c_is_within k_is_within).binds (ps := ["value", "least", "most"]) (fun _ _ _ _ _ _ us hl => match us, hl with | [_, _, _], _ => rfl) }, d_are_integers := { f := _, fd := _, F := fun_mk (st := s_are_integers) l_are_integers c_are_integers k_are_integers, m := PySem.W.mg_of X G a_are_integers, k := k_are_integers, b := (fun_mk (st := s_are_integers) l_are_integers c_are_integers k_are_integers).binds (ps := ["value"]) (fun _ _ _ _ _ _ us hl => match us, hl with | [_], _ => rfl) }, d_is_row := { f := _, fd := _, F := fun_mk (st := s_is_row) l_is_row c_is_row k_is_row, m := PySem.W.mg_of X G a_is_row, k := k_is_row, b := (fun_mk (st := s_is_row) l_is_row c_is_row k_is_row).binds (ps := ["value", "wide"]) (fun _ _ _ _ _ _ us hl => match us, hl with | [_, _], _ => rfl) }, d_are_rows := { f := _, fd := _, F := fun_mk (st := s_are_rows) l_are_rows c_are_rows k_are_rows, m := PySem.W.mg_of X G a_are_rows, k := k_are_rows, b := (fun_mk (st := s_are_rows) l_are_rows c_are_rows k_are_rows).binds (ps := ["value", "many", "wide"]) (fun _ _ _ _ _ _ us hl => match us, hl with | [_, _, _], _ => rfl) }, d_fixed := { f := _, fd := _, F := fun_mk (st := s_fixed) l_fixed c_fixed k_fixed, m := PySem.W.mg_of X G a_fixed, k := k_fixed, b := (fun_mk (st := s_fixed) l_fixed c_fixed k_fixed).binds (ps := ["value"]) (fun _ _ _ _ _ _ us hl => match us, hl with | [_], _ => rfl) }, d__are_same := { f := _, fd := _, F := fun_mk (st := s__are_same) l__are_same c__are_same k__are_same, m := PySem.W.mg_of X G a__are_same, k := k__are_same, b := (fun_mk (st := s__are_same) l__are_same c__are_same k__are_same).binds (ps := ["one", "other"]) (fun _ _ _ _ _ _ us hl => match us, hl with | [_, _], _ => rfl) }, d_along := { f := _, fd := _, F := fun_mk (st := s_along) l_along c_along k_along, m := PySem.W.mg_of X G a_along, k := k_along, b := (fun_mk (st := s_along) l_along c_along k_along).binds (ps := ["one", "other"]) (fun _ _ _ _ _ _ us hl => match us, hl with | [_, _], _ => rfl) }, d_turned := { f := _, fd := _, F := fun_mk (st := s_turned) l_turned c_turned k_turned, m := PySem.W.mg_of X G a_turned, k := k_turned, b := (fun_mk (st := s_turned) l_turned c_turned k_turned).binds (ps := ["square", "shift"]) (fun _ _ _ _ _ _ us hl => match us, hl with | [_, _], _ => rfl) }, d_combined := { f := _, fd := _, F := fun_mk (st := s_combined) l_combined c_combined k_combined, m := PySem.W.mg_of X G a_combined, k := k_combined, b := (fun_mk (st := s_combined) l_combined c_combined k_combined).binds (ps := ["row", "rows"]) (fun _ _ _ _ _ _ us hl => match us, hl with | [_, _], _ => rfl) }, d_are_even_rows := { f := _, fd := _, F := fun_mk (st := s_are_even_rows) l_are_even_rows c_are_even_rows k_are_even_rows, m := PySem.W.mg_of X G a_are_even_rows, k := k_are_even_rows, b := (fun_mk (st := s_are_even_rows) l_are_even_rows c_are_even_rows k_are_even_rows).binds (ps := ["value"]) (fun _ _ _ _ _ _ us hl => match us, hl with | [_], _ => rfl) }, d_check_goals := { f := _, fd := _, F := fun_mk (st := s_check_goals) l_check_goals c_check_goals k_check_goals, m := PySem.W.mg_of X G a_check_goals, k := k_check_goals, b := (fun_mk (st := s_check_goals) l_check_goals c_check_goals k_check_goals).binds (ps := ["rows", "goals"]) (fun _ _ _ _ _ _ us hl => match us, hl with | [_, _], _ => rfl) }, d_shows_whole := { f := _, fd := _, F := fun_mk (st := s_shows_whole) l_shows_whole c_shows_whole k_shows_whole, m := PySem.W.mg_of X G a_shows_whole, k := k_shows_whole, b := (fun_mk (st := s_shows_whole) l_shows_whole c_shows_whole k_shows_whole).binds (ps := ["rows", "goals", "value"]) (fun _ _ _ _ _ _ us hl => match us, hl with | [_, _, _], _ => rfl) }, d_are_barred := { f := _, fd := _, F := fun_mk (st := s_are_barred) l_are_barred c_are_barred k_are_barred, m := PySem.W.mg_of X G a_are_barred, k := k_are_barred, b := (fun_mk (st := s_are_barred) l_are_barred c_are_barred k_are_barred).binds (ps := ["rows", "goals", "row", "modulus"]) (fun _ _ _ _ _ _ us hl => match us, hl with | [_, _, _, _], _ => rfl) }, d_l_cask := { f := _, fd := _, F := fun_mk (st := s_l_cask) l_l_cask c_l_cask k_l_cask, m := PySem.W.mg_of X G a_l_cask, k := k_l_cask, b := (fun_mk (st := s_l_cask) l_l_cask c_l_cask k_l_cask).binds (ps := ["script"]) (fun _ _ _ _ _ _ us hl => match us, hl with | [_], _ => rfl) }, d_l_tap := { f := _, fd := _, F := fun_mk (st := s_l_tap) l_l_tap c_l_tap k_l_tap, m := PySem.W.mg_of X G a_l_tap, k := k_l_tap, b := (fun_mk (st := s_l_tap) l_l_tap c_l_tap k_l_tap).binds (ps := ["cask", "many"]) (fun _ _ _ _ _ _ us hl => match us, hl with | [_, _], _ => rfl) }, d_l_one_of := { f := _, fd := _, F := fun_mk (st := s_l_one_of) l_l_one_of c_l_one_of k_l_one_of, m := PySem.W.mg_of X G a_l_one_of, k := k_l_one_of, b := (fun_mk (st := s_l_one_of) l_l_one_of c_l_one_of k_l_one_of).binds (ps := ["cask", "some"]) (fun _ _ _ _ _ _ us hl => match us, hl with | [_, _], _ => rfl) }, d_l_are_integers := { f := _, fd := _, F := fun_mk (st := s_l_are_integers) l_l_are_integers c_l_are_integers k_l_are_integers, m := PySem.W.mg_of X G a_l_are_integers, k := k_l_are_integers, b := (fun_mk (st := s_l_are_integers) l_l_are_integers c_l_are_integers k_l_are_integers).binds (ps := ["row", "many"]) (fun _ _ _ _ _ _ us hl => match us, hl with | [_, _], _ => rfl) }, d_l_is_right := { f := _, fd := _, F := fun_mk (st := s_l_is_right) l_l_is_right c_l_is_right k_l_is_right, m := PySem.W.mg_of X G a_l_is_right, k := k_l_is_right, b := (fun_mk (st := s_l_is_right) l_l_is_right c_l_is_right k_l_is_right).binds (ps := ["rows", "goals", "value"]) (fun _ _ _ _ _ _ us hl => match us, hl with | [_, _, _], _ => rfl) }, d_l_bent := { f := _, fd := _, F := fun_mk (st := s_l_bent) l_l_bent c_l_bent k_l_bent, m := PySem.W.mg_of X G a_l_bent, k := k_l_bent, b := (fun_mk (st := s_l_bent) l_l_bent c_l_bent k_l_bent).binds (ps := ["cask", "row"]) (fun _ _ _ _ _ _ us hl => match us, hl with | [_, _], _ => rfl) }, d_l_case := { f := _, fd := _, F := fun_mk (st := s_l_case) l_l_case c_l_case k_l_case, m := PySem.W.mg_of X G a_l_case, k := k_l_case, b := (fun_mk (st := s_l_case) l_l_case c_l_case k_l_case).binds (ps := ["cask"]) (fun _ _ _ _ _ _ us hl => match us, hl with | [_], _ => rfl) }, d_l_values := { f := _, fd := _, F := fun_mk (st := s_l_values) l_l_values c_l_values k_l_values, m := PySem.W.mg_of X G a_l_values, k := k_l_values, b := (fun_mk (st := s_l_values) l_l_values c_l_values k_l_values).binds (ps := ["cask", "rows", "goals", "numbers", "row", "modulus"]) (fun _ _ _ _ _ _ us hl => match us, hl with | [_, _, _, _, _, _], _ => rfl) }, d_l_heard := { f := _, fd := _, F := fun_mk (st := s_l_heard) l_l_heard c_l_heard k_l_heard, m := PySem.W.mg_of X G a_l_heard, k := k_l_heard, b := (fun_mk (st := s_l_heard) l_l_heard c_l_heard k_l_heard).binds (ps := ["ask"]) (fun _ _ _ _ _ _ us hl => match us, hl with | [_], _ => rfl) }, d_law := { f := _, fd := _, F := fun_mk (st := s_law) l_law c_law k_law, m := PySem.W.mg_of X G a_law, k := k_law, b := (fun_mk (st := s_law) l_law c_law k_law).binds (ps := ["script"]) (fun _ _ _ _ _ _ us hl => match us, hl with | [_], _ => rfl) } }
  let T1 : Tz K mg := { toTx := T0, c_Paper := Q0, c_Denial := Q1, c_Whole := Q2, c_Barred := Q3, nNum := noNum, nRow := noRow, nMod := noMod }
  let T2 : Tv K mg := { toTz := T1, e_BadNumber := R0, no_BadNumber := noC0, mR := ⟨_, PySem.W.mg_of X G aR⟩, mPl := ⟨_, PySem.W.mg_of X G aM⟩ }
  let T3 : Tk K mg := { toTv := T2, kP := ⟨kPw, kPb⟩, kD := ⟨kDw, kDb⟩, kB := kBW, kW := kWB, kn := ⟨kn_NoneTypew, kn_NoneTypeb⟩, kb := ⟨kn_boolw, kn_boolb⟩, ki := ⟨kn_intw, kn_intb⟩, ks := ⟨kn_strw, kn_strb⟩, kl := ⟨kn_listw, kn_listb⟩, kt := ⟨kn_tuplew, kn_tupleb⟩, kd := ⟨kn_dictw, kn_dictb⟩, kf := ⟨kn_functionw, kn_functionb⟩ }
  let T : Tl K mg := { toTk := T3, CS := CS, mS := PySem.W.mg_of X G aS, xb := PySem.W.exm_ref exS hdS tyS uS, kbb := kBB, law := ⟨_, l_law, rfl⟩ }
  refine ⟨T.d_law.fd, [(cD, PD)], spLaw K [(PD, "law.<locals>.<lambda>")], fun p m => (by rw [List.mem_singleton.mp m]; exact gD), fun p m => (by rw [List.mem_singleton.mp m]; exact nD),
    fun p m => (by rw [List.mem_singleton.mp m]; exact PySem.W.codeHd_of_K X hD), fun s v => .of_eq rfl, fun H a ns _ _ tb hs => ⟨a, ns, rfl, hs, ?_, fun _ => rfl⟩, fun base _ _ tb => ?_⟩
  · intro p hp
    rw [List.mem_singleton.mp hp]
    exact LamX.TabS.nil (tb (cD, PD) List.mem_cons_self)
  · refine ok_law T l_law c_law (tb (cD, PD) List.mem_cons_self) List.mem_cons_self ?_
    intro p hp _
    rw [List.mem_singleton.mp hp]
end K11
open PySem PySem.W PyProof.Rows in
set_option maxRecDepth 100000 in
set_option maxHeartbeats 0 in
theorem PySem.Challenge.cw_screwsums_k11_papers_of_goals_bent_holds : PySem.Challenge.rw_screwsums_k11_papers_of_goals_bent.Holds := by
  w_on; o_law; k_head; (case hw => w_witness2)
  k_fill
  refine LamX.walk_ofTs (l := PySem.Challenge.rw_screwsums_k11_papers_of_goals_bent) (n := 63) (k := 10) (x := "script") (CX := fun _ => L2.CX0) rfl (by decide) rfl ⟨rfl, by decide, by decide⟩ (fun w h Y => PySem.W.km_in_of Y) ?F (fun _ _ _ _ _ z => z)
  case F =>
    intro w mg fa h Y KX G hmg
    refine' K11.all_mk KX G hmg ?aS ?aR ?aM ?z_int ?z_len ?z_abs ?z_str ?z_range ?z_repr ?z_isinstance ?z_bool ?z_list ?z_tuple ?z_all ?z_any ?z_sum ?z_zip ?z_type ?aC0 ?xC0 ?rC0 ?saC0 ?exC0 ?tyC0 ?keC0 ?gaC0 ?ggC0 ?hdC0 ?haC0 ?hmC0 ?iCC0 ?tI0 ?li0 ?ci0 ?ki0 ?noC0 ?hn ?ht ?exS ?hdS ?tyS ?uS ?kBB ?aW0 ?inW0 ?lw0 ?cw0 ?kw0 ?mkW0 ?fnW0 ?keW0 ?pgW0 ?hdW0 ?poW0 ?saW0 ?haW0 ?hmW0 ?niW0 ?nsW0 ?nbW0 ?no_word_W0 ?no_parts_W0 ?aW1 ?inW1 ?lw1 ?cw1 ?kw1 ?mkW1 ?fnW1 ?keW1 ?pgW1 ?hdW1 ?poW1 ?saW1 ?haW1 ?hmW1 ?niW1 ?nsW1 ?nbW1 ?no_word_W1 ?no_parts_W1 ?aW2 ?inW2 ?lw2 ?cw2 ?kw2 ?mkW2 ?fnW2 ?keW2 ?pgW2 ?hdW2 ?poW2 ?saW2 ?haW2 ?hmW2 ?niW2 ?nsW2 ?nbW2 ?no_word_W2 ?no_parts_W2 ?aW3 ?inW3 ?lw3 ?cw3 ?kw3 ?mkW3 ?fnW3 ?keW3 ?pgW3 ?hdW3 ?poW3 ?saW3 ?haW3 ?hmW3 ?niW3 ?nsW3 ?nbW3 ?no_word_W3 ?no_parts_W3 ?noNum ?noRow ?noMod ?kBW ?kWB ?kPw ?kPb ?kDw ?kDb ?kn_NoneTypew ?kn_NoneTypeb ?kn_boolw ?kn_boolb ?kn_intw ?kn_intb ?kn_strw ?kn_strb ?kn_listw ?kn_listb ?kn_tuplew ?kn_tupleb ?kn_dictw ?kn_dictb ?kn_functionw ?kn_functionb ?a_is_integer ?l_is_integer ?c_is_integer ?k_is_integer ?a_is_within ?l_is_within ?c_is_within ?k_is_within ?a_are_integers ?l_are_integers ?c_are_integers ?k_are_integers ?a_is_row ?l_is_row ?c_is_row ?k_is_row ?a_are_rows ?l_are_rows ?c_are_rows ?k_are_rows ?a_fixed ?l_fixed ?c_fixed ?k_fixed ?a__are_same ?l__are_same ?c__are_same ?k__are_same ?a_along ?l_along ?c_along ?k_along ?a_turned ?l_turned ?c_turned ?k_turned ?a_combined ?l_combined ?c_combined ?k_combined ?a_are_even_rows ?l_are_even_rows ?c_are_even_rows ?k_are_even_rows ?a_check_goals ?l_check_goals ?c_check_goals ?k_check_goals ?a_shows_whole ?l_shows_whole ?c_shows_whole ?k_shows_whole ?a_are_barred ?l_are_barred ?c_are_barred ?k_are_barred ?a_l_cask ?l_l_cask ?c_l_cask ?k_l_cask ?a_l_tap ?l_l_tap ?c_l_tap ?k_l_tap ?a_l_one_of ?l_l_one_of ?c_l_one_of ?k_l_one_of ?a_l_are_integers ?l_l_are_integers ?c_l_are_integers ?k_l_are_integers ?a_l_is_right ?l_l_is_right ?c_l_is_right ?k_l_is_right ?a_l_bent ?l_l_bent ?c_l_bent ?k_l_bent ?a_l_case ?l_l_case ?c_l_case ?k_l_case ?a_l_values ?l_l_values ?c_l_values ?k_l_values ?a_l_heard ?l_l_heard ?c_l_heard ?k_l_heard ?a_law ?l_law ?c_law ?k_law ?tD ?vD ?hD ?gD ?nD
    (case aS => k_is)
    (case aR => k_is)
    (case aM => k_is)
    (case z_int => k_is)
    (case z_len => k_is)
    (case z_abs => k_is)
    (case z_str => k_is)
    (case z_range => k_is)
    (case z_repr => k_is)
    (case z_isinstance => k_is)
    (case z_bool => k_is)
    (case z_list => k_is)
    (case z_tuple => k_is)
    (case z_all => k_is)
    (case z_any => k_is)
    (case z_sum => k_is)
    (case z_zip => k_is)
    (case z_type => k_is)
    (case aC0 => k_is)
    (case xC0 => k_is)
    (case rC0 => (decide +kernel))
    (case saC0 => k_is)
    (case exC0 => k_is)
    (case tyC0 => k_is)
    (case keC0 => k_is)
    (case gaC0 => k_is)
    (case ggC0 => k_is)
    (case hdC0 => k_is)
    (case haC0 => k_is)
    (case hmC0 => k_is)
    (case iCC0 => k_is)
    (case tI0 => k_is)
    (case li0 => k_is)
    (case ci0 => k_is)
    (case ki0 => k_is)
    (case noC0 => k_is)
    (case hn => k_is)
    (case ht => k_is)
    (case exS => k_is)
    (case hdS => k_is)
    (case tyS => k_is)
    (case uS => first | rfl | k_is)
    (case kBB => kit_is)
    (case aW0 => k_is)
    (case inW0 => k_is)
    (case lw0 => k_is)
    (case cw0 => k_is)
    (case kw0 => k_is)
    (case mkW0 => k_is)
    (case fnW0 => k_is)
    (case keW0 => k_is)
    (case pgW0 => k_is)
    (case hdW0 => k_is)
    (case poW0 => k_is)
    (case saW0 => k_is)
    (case haW0 => k_is)
    (case hmW0 => k_is)
    (case niW0 => kit_is)
    (case nsW0 => kit_is)
    (case nbW0 => kit_is)
    (case no_word_W0 => k_is)
    (case no_parts_W0 => k_is)
    (case aW1 => k_is)
    (case inW1 => k_is)
    (case lw1 => k_is)
    (case cw1 => k_is)
    (case kw1 => k_is)
    (case mkW1 => k_is)
    (case fnW1 => k_is)
    (case keW1 => k_is)
    (case pgW1 => k_is)
    (case hdW1 => k_is)
    (case poW1 => k_is)
    (case saW1 => k_is)
    (case haW1 => k_is)
    (case hmW1 => k_is)
    (case niW1 => kit_is)
    (case nsW1 => kit_is)
    (case nbW1 => kit_is)
    (case no_word_W1 => k_is)
    (case no_parts_W1 => k_is)
    (case aW2 => k_is)
    (case inW2 => k_is)
    (case lw2 => k_is)
    (case cw2 => k_is)
    (case kw2 => k_is)
    (case mkW2 => k_is)
    (case fnW2 => k_is)
    (case keW2 => k_is)
    (case pgW2 => k_is)
    (case hdW2 => k_is)
    (case poW2 => k_is)
    (case saW2 => k_is)
    (case haW2 => k_is)
    (case hmW2 => k_is)
    (case niW2 => kit_is)
    (case nsW2 => kit_is)
    (case nbW2 => kit_is)
    (case no_word_W2 => k_is)
    (case no_parts_W2 => k_is)
    (case aW3 => k_is)
    (case inW3 => k_is)
    (case lw3 => k_is)
    (case cw3 => k_is)
    (case kw3 => k_is)
    (case mkW3 => k_is)
    (case fnW3 => k_is)
    (case keW3 => k_is)
    (case pgW3 => k_is)
    (case hdW3 => k_is)
    (case poW3 => k_is)
    (case saW3 => k_is)
    (case haW3 => k_is)
    (case hmW3 => k_is)
    (case niW3 => kit_is)
    (case nsW3 => kit_is)
    (case nbW3 => kit_is)
    (case no_word_W3 => k_is)
    (case no_parts_W3 => k_is)
    (case noNum => k_is)
    (case noRow => k_is)
    (case noMod => k_is)
    (case kBW => kit_is)
    (case kWB => kit_is)
    (case kPw => kit_is)
    (case kPb => kit_is)
    (case kDw => kit_is)
    (case kDb => kit_is)
    (case kn_NoneTypew => kit_is)
    (case kn_NoneTypeb => kit_is)
    (case kn_boolw => kit_is)
    (case kn_boolb => kit_is)
    (case kn_intw => kit_is)
    (case kn_intb => kit_is)
    (case kn_strw => kit_is)
    (case kn_strb => kit_is)
    (case kn_listw => kit_is)
    (case kn_listb => kit_is)
    (case kn_tuplew => kit_is)
    (case kn_tupleb => kit_is)
    (case kn_dictw => kit_is)
    (case kn_dictb => kit_is)
    (case kn_functionw => kit_is)
    (case kn_functionb => kit_is)
    (case a_is_integer => k_is)
    (case l_is_integer => k_is)
    (case c_is_integer => k_is)
    (case k_is_integer => k_is)
    (case a_is_within => k_is)
    (case l_is_within => k_is)
    (case c_is_within => k_is)
    (case k_is_within => k_is)
    (case a_are_integers => k_is)
    (case l_are_integers => k_is)
    (case c_are_integers => k_is)
    (case k_are_integers => k_is)
    (case a_is_row => k_is)
    (case l_is_row => k_is)
    (case c_is_row => k_is)
    (case k_is_row => k_is)
    (case a_are_rows => k_is)
    (case l_are_rows => k_is)
    (case c_are_rows => k_is)
    (case k_are_rows => k_is)
    (case a_fixed => k_is)
    (case l_fixed => k_is)
    (case c_fixed => k_is)
    (case k_fixed => k_is)
    (case a__are_same => k_is)
    (case l__are_same => k_is)
    (case c__are_same => k_is)
    (case k__are_same => k_is)
    (case a_along => k_is)
    (case l_along => k_is)
    (case c_along => k_is)
    (case k_along => k_is)
    (case a_turned => k_is)
    (case l_turned => k_is)
    (case c_turned => k_is)
    (case k_turned => k_is)
    (case a_combined => k_is)
    (case l_combined => k_is)
    (case c_combined => k_is)
    (case k_combined => k_is)
    (case a_are_even_rows => k_is)
    (case l_are_even_rows => k_is)
    (case c_are_even_rows => k_is)
    (case k_are_even_rows => k_is)
    (case a_check_goals => k_is)
    (case l_check_goals => k_is)
    (case c_check_goals => k_is)
    (case k_check_goals => k_is)
    (case a_shows_whole => k_is)
    (case l_shows_whole => k_is)
    (case c_shows_whole => k_is)
    (case k_shows_whole => k_is)
    (case a_are_barred => k_is)
    (case l_are_barred => k_is)
    (case c_are_barred => k_is)
    (case k_are_barred => k_is)
    (case a_l_cask => k_is)
    (case l_l_cask => k_is)
    (case c_l_cask => k_is)
    (case k_l_cask => k_is)
    (case a_l_tap => k_is)
    (case l_l_tap => k_is)
    (case c_l_tap => k_is)
    (case k_l_tap => k_is)
    (case a_l_one_of => k_is)
    (case l_l_one_of => k_is)
    (case c_l_one_of => k_is)
    (case k_l_one_of => k_is)
    (case a_l_are_integers => k_is)
    (case l_l_are_integers => k_is)
    (case c_l_are_integers => k_is)
    (case k_l_are_integers => k_is)
    (case a_l_is_right => k_is)
    (case l_l_is_right => k_is)
    (case c_l_is_right => k_is)
    (case k_l_is_right => k_is)
    (case a_l_bent => k_is)
    (case l_l_bent => k_is)
    (case c_l_bent => k_is)
    (case k_l_bent => k_is)
    (case a_l_case => k_is)
    (case l_l_case => k_is)
    (case c_l_case => k_is)
    (case k_l_case => k_is)
    (case a_l_values => k_is)
    (case l_l_values => k_is)
    (case c_l_values => k_is)
    (case k_l_values => k_is)
    (case a_l_heard => k_is)
    (case l_l_heard => k_is)
    (case c_l_heard => k_is)
    (case k_l_heard => k_is)
    (case a_law => k_is)
    (case l_law => k_is)
    (case c_law => k_is)
    (case k_law => k_is)
    (case tD => k_is)
    (case vD => rfl)
    (case hD => first | kernel_rfl | k_is | rfl)
    (case gD => exact PySem.W.km_tabs_of Y _ (by simp))
    (case nD => first | kernel_rfl | k_is | rfl)
