import PyProof.Rows.All
import Wide.All
import OpenK.AllK
import Wide.FinOn
import HandS.Exc
import HandS.TryMany
import PyProof.ReprRoads
import HandS.Lambda
import HandS.EndTab
import HandS.HeadWalk
import HandS.Words
import HandS.ForMost
import HandS.Walk
import HandS.Defaults
import HandS.Codes
import HandS.IsInst
import HandS.ForExc
import KE.KDictZip
import PyProof.ListNew
import HandS.Iter
import HandS.Conv
import HandS.SortRule
import HandS.SetFor
import HandS.TupSets
import HandS.SortInts
import HandS.Style
import HandS.DictComp
import HandS.TupAny
import HandS.Zip
import HandS.WordsDict
import KE.SortData
import KE.DataCmp
import HandS.Strs
import PyProof.SetRoads
import KE.KRevSl
import HandS.TupMul
import HandS.HeadHook2
import HandS.ExcValue
import HandS.ExcIs
import HandS.Gcd
import KE.KMathGC
import KE.KStateDown
import HandS.Head0
import HandS.Head1
import HandS.Head2
import HandS.Head3
import HandS.HeadEnd
import HandS.HeadHook4
import PySem.Challenge.RW_sparebay_k42_whole_tours
set_option Elab.async false
set_option linter.all false
set_option maxRecDepth 100000
set_option maxHeartbeats 0

/-! ## MA -/
/-! Several except clauses that all bind one name. -/
namespace Sb
open PySem PySem.Spec PyProof.Rows L2
abbrev Suite := Addr → Value → Option Addr → TS
def goneAt (i : Nat) (D : Ends) : Ends := { nx := fun σ' H' => D.nx (σ'.set i none) H', rt := D.rt, bk := fun σ' H' => D.bk (σ'.set i none) H', ct := fun σ' H' => D.ct (σ'.set i none) H' }
def wRow (K : PySem.W.Frag) (i : Nat) (Wo : WX) (D : Ends) : List (Value × Suite) → WX
  | [] => Wo
  | q :: r => fun cls d σ H => ∃ b, PySem.W.exmOne K cls q.1 = some b ∧ (b = true → ∀ a, H a = none → q.2 a cls d (goneAt i D) (σ.set i (some (.ref a))) H) ∧ (b = false → wRow K i Wo D r cls d σ H)
inductive HdAs (X : Cx) (n : Str) : List ExceptHandler → List (Value × Suite) → Prop
  | nil : HdAs X n [] []
  | cons {x : Str} {c : Value} {ts : Suite} {b0 : Stmt} {su : List Stmt} {p1 p2 : Pos} {hd : List ExceptHandler} {l : List (Value × Suite)} (nm : Names X x c)
      (sok : ∀ (a : Addr) (oe : Obj) (cls : Value) (d : Option Addr) (pn : List (Addr × Obj)), Zc cls d oe → (∃ vs, oe.data = .fields vs) → PSs (X.suite a ((a, oe) :: pn)) (b0 :: su) (ts a cls d)) (r : HdAs X n hd l) :
      HdAs X n (.ExceptHandler (some (.Name x p1)) (some n) (b0 :: su) p2 :: hd) ((c, ts) :: l)
section
variable {X : Cx} {body : List Stmt} {h0 : ExceptHandler} {hds : List ExceptHandler} {l : List (Value × Suite)} {pos : Pos} {tb : WX → TS} {Wo : WX} {n : Str} {i : Nat}
theorem ps_try_row (hs : X.stack = X.env :: X.outer) (hf : X.env.frame = some X.env.locals) (hN : X.N.Nodup) (hi : X.N[i]? = some n) (hln : X.env.kindOf n = some .local) (tk : Takes X Wo)
    (hb : ∀ (W : WX) (pn : List (Addr × Obj)) (xe : Value → Shared → Prop), Takes (X.tr pn xe) W → PassesOwn (model X.prog X.w) X.A X.env xe → PSs (X.tr pn xe) body (tb W)) (hh : HdAs X n (h0 :: hds) l) :
    PS X (.Try body (h0 :: hds) [] [] pos) (fun D σ H => tb (wRow X.K i Wo D l) D σ H) := by
  refine ⟨fun pins st σ H D inv want => ?_⟩
  have ok := inv.ok
  have frs_ : X.A.frames = some (X.env :: X.outer) := by rw [ok.frames, hs]
  have loc_ : Loc X.env.scope n := .inl hln
  refine wpAny_Try_except (wpAny_mono ((hb (wRow X.K i Wo D l) (X.pn ++ pins) (fun e u1 => wpAny (model X.prog X.w) X.A (noteFrame e X.env) (fun _ u2 => wpAny (model X.prog X.w) X.A (setFlight e none) (fun _ u3 =>
    wpAny (model X.prog X.w) X.A (handleBy e X.env (h0 :: hds)) (SP X pins D) X.xe u3) X.xe u2) X.xe u1) (fun u t caught => ?_) PassesOwn.looking).run [] st σ H D (inv.toTry _) want) (fun f t hsp => ?_) (fun e _ he => he))
  · obtain ⟨a, B, sI, pins', σ', H', cls, d, rfl, J', nb, up, sky, na, os, ag, w⟩ := caught
    have J : Inv X pins σ' H' sI := J'.ofTry ok
    have sky2 : Sky B (X.env :: X.outer) a (Zc cls d) X.env.locals t.heap := by rw [← hs]; exact sky
    show wpAny (model X.prog X.w) X.A (noteFrame (.ref a) X.env) _ _ _
    refine Sky.land Zc.steady frs_ hf sky2 fun h3 fl3 up3 => ?_
    have J3 : Inv X pins σ' H' { t with heap := h3 } := J.landed nb fl3.1 (up.trans up3) os ag
    obtain ⟨o3, v3, get3, zc3, dat3⟩ := fl3.there
    have off : ∀ {h : Heap} {o : Obj} {vs : Array Value}, h.FunFrames B (X.env :: X.outer) → h.get? a = some o → o.data = .fields vs → a ∉ frs (X.env :: X.outer) := fun {h o vs} ff e dd hm => by
      obtain ⟨_, o', e', hnf⟩ := ff.mem hm
      exact hnf _ ((Option.some.inj (e'.symm.trans e)) ▸ dd)
    have offA := off fl3.2.2.1 get3 dat3
    have nL : a ≠ X.env.locals := fun z => offA (List.mem_filterMap.mpr ⟨X.env, List.mem_cons_self, by rw [hf, z]⟩)
    have nF : a ∉ X.fs := fun hm => by
      obtain ⟨e, he, q⟩ := List.mem_filterMap.mp hm
      exact offA (List.mem_filterMap.mpr ⟨e, List.mem_cons_of_mem _ he, q⟩)
    have S3 := J3.suite get3 dat3 na nL nF
    have walk : ∀ {hd : List ExceptHandler} {m : List (Value × Suite)}, HdAs X n hd m → wRow X.K i Wo D m cls d σ' H' → wpAny (model X.prog X.w) X.A (handleBy (.ref a) X.env hd) (SP X pins D) X.xe { t with heap := h3 } := by
      intro hd m hk
      induction hk with
      | nil =>
        intro w
        refine wpAny_handleBy_nil ?_
        obtain ⟨k1, k2, k3, oe, vs, T, oT, ts', he, hz, hd, h1, hr⟩ := id fl3
        unfold PySem.passOn
        refine wpAny_bind (wpAny_field he hd h1 ?_)
        rw [if_neg (by simp : ¬ ((Value.ref T == Value.none) = true))]
        have fin : wpAny (model X.prog X.w) X.A (setFlight (.ref a) X.env.frame) (fun _ u4 => wpAny (model X.prog X.w) X.A (throw (.ref a) : Sem Flow) (SP X pins D) X.xe u4) X.xe { t with heap := h3 } := by
          rw [hf]
          exact HandSPX.setFlight_upZ fl3 fun h4 hh4 up4 => wpAny_throw (tk _ _ ⟨a, B, sI, pins, σ', H', cls, d, rfl, J, nb, (up.trans up3).trans up4, .inr (.inr (by rw [hs]; exact hh4)), na, os, ag, w⟩)
        first
          | exact wpAny_bind (wpAny_pure (wpAny_bind fin))
          | exact wpAny_bind fin
      | @cons x c ts b0 su p1 p2 hd2 l2 nm sok r ih =>
        intro w
        obtain ⟨b, eb, yes, no⟩ := w
        refine wpAny_handleBy_cons (codeAny_handlers_test ?_) (by intro q; cases q)
        have look : PySem.W.Looks (model X.prog X.w) h3 (typeOf (.ref a)) cls := fun A Q E u k q => wpAny_typeOf_ref (k _ _ get3) (by rw [zc3.1]; exact q)
        have match_ := PySem.W.exm_one (M := model X.prog X.w) (J3.kIn) look eb
        have name_ : ∀ {Q : Value → Shared → Prop} {E : Value → Shared → Prop}, Q c { t with heap := h3 } → wpAny (model X.prog X.w) (X.A.mark (some (.ref a))) (eval (.Name x p1) X.env) Q E { t with heap := h3 } := fun {Q E} q => by
          obtain ⟨hg, hdbg, hm | ⟨hm, hv, hnn⟩⟩ := nm
          · exact ld_glob (X := X.suite a ((a, o3) :: (X.pn ++ pins))) S3 hg hm q hdbg
          · exact ld_blt (X := X.suite a ((a, o3) :: (X.pn ++ pins))) S3 hg hm hv q hnn hdbg
        refine name_ (match_.here ?_)
        cases b with
        | true =>
          refine codeAny_handlers_suite_as (HandSPX.lands_againZ fl3 fun h4 fl4 up4 => ?_)
          have J4 : Inv X pins σ' H' { t with heap := h4 } := J.landed nb fl4.1 ((up.trans up3).trans up4) os ag
          obtain ⟨o4, v4, get4, zc4, dat4⟩ := fl4.there
          have S4 := J4.suite get4 dat4 na nL nF
          refine store_ok (X := X.suite a ((a, o4) :: (X.pn ++ pins))) (v := .ref a) S4 hN hi loc_ rfl (fun u5 S5 => ?_) (.inr hln)
          refine wpAny_mono ((sok a o4 cls d (X.pn ++ pins) zc4 ⟨_, dat4⟩).run [] u5 _ H' _ S5 (yes rfl a na)) (fun f u6 hsp => ?_) (fun _ _ z => False.elim z)
          have done : ∀ {σ6 : L2.St} {H6 : Hp} {Q : Shared → Prop}, Inv (X.suite a ((a, o4) :: (X.pn ++ pins))) [] σ6 H6 u6 → (∀ u7, Inv X pins (σ6.set i none) H6 u7 → Q u7) →
              wpAny (model X.prog X.w) X.A (do bindName X.env n .none; unbindBehindTheSuite X.env n p2) (fun _ u7 => Q u7) X.xe u6 := fun {σ6 H6 Q} S6 hq => gone_ok (S6.unsuite ok) hN hi hln hq
          cases f with
          | next =>
            obtain ⟨σ6, H6, S6, q6⟩ := hsp
            exact done S6 fun u7 J7 => ⟨_, _, J7, q6⟩
          | brk =>
            obtain ⟨σ6, H6, S6, q6⟩ := hsp
            exact done S6 fun u7 J7 => ⟨_, _, J7, q6⟩
          | cont =>
            obtain ⟨σ6, H6, S6, q6⟩ := hsp
            exact done S6 fun u7 J7 => ⟨_, _, J7, q6⟩
          | ret u =>
            obtain ⟨v6, σ6, H6, S6, r6, q6⟩ := hsp
            exact done S6 fun u7 J7 => ⟨_, _, _, J7, r6, q6⟩
        | false =>
          show wpAny _ X.A (handleBy (.ref a) X.env hd2) _ _ _
          exact ih (no rfl)
    exact walk hh w
  · cases f with
    | next =>
      obtain ⟨σ', H', J', q⟩ := hsp
      exact wpAny_execs_nil ⟨σ', H', J'.ofTry ok, q⟩
    | brk =>
      obtain ⟨σ', H', J', q⟩ := hsp
      exact ⟨σ', H', J'.ofTry ok, q⟩
    | cont =>
      obtain ⟨σ', H', J', q⟩ := hsp
      exact ⟨σ', H', J'.ofTry ok, q⟩
    | ret u =>
      obtain ⟨v, σ', H', J', r, q⟩ := hsp
      exact ⟨v, σ', H', J'.ofTry ok, r, q⟩
end
end Sb

/-! ## GD -/
/-! repr of nested things: it asks that nothing is being shown; defs called where that is known. -/
namespace Sb
open PySem PySem.Spec PyProof.Rows L2
/-! ### things as data -/
mutual
/-- a thing: what it is, down to its leaves; a dict is empty -/
inductive Th (H : Hp) : V → PyData → Prop
  | non : Th H .non .none
  | bl (b : Bool) : Th H (.bl b) (.bool b)
  | int (i : Int) : Th H (.int i) (.int i)
  | str (x : Str) : Th H (.str x) (.str x)
  | lst {a : Addr} {xs : List V} {ds : List PyData} : H a = some (.lst xs) → ThAll H xs ds → Th H (.ref a) (.list ds)
  | tupR {a : Addr} {xs : List V} {ds : List PyData} : Rd H a (.tup xs) → ThAll H xs ds → Th H (.ref a) (.tuple ds)
  | dct {a : Addr} : H a = some (.dK []) → Th H (.ref a) (.dict [])
inductive ThAll (H : Hp) : List V → List PyData → Prop
  | nil : ThAll H [] []
  | cons {v : V} {vs : List V} {d : PyData} {ds : List PyData} : Th H v d → ThAll H vs ds → ThAll H (v :: vs) (d :: ds)
end
theorem Th.tup {H : Hp} {a : Addr} {xs : List V} {ds : List PyData} (h : H a = some (.tup xs)) (g : ThAll H xs ds) : Th H (.ref a) (.tuple ds) := .tupR (.inl h) g
theorem sqR {K : PySem.W.Frag} {H : Hp} {a : Addr} {xs : List V} (h : Rd H a (.tup xs)) : SqT K H a xs := .inl h
theorem rdS {H H' : Hp} {a : Addr} {u : HO} (S : ∀ b o, H b = some o → H' b = some o) (h : Rd H a u) : Rd H' a u := h.elim (fun e => .inl (S _ _ e)) fun ⟨o, e⟩ => .inr ⟨o, S _ _ e⟩
mutual
theorem Th.mono {H H2 : Hp} (k : ∀ b o, H b = some o → H2 b = some o) : ∀ {v : V} {d : PyData}, Th H v d → Th H2 v d
  | _, _, .non => .non
  | _, _, .bl b => .bl b
  | _, _, .int i => .int i
  | _, _, .str x => .str x
  | _, _, .lst e h => .lst (k _ _ e) (ThAll.mono k h)
  | _, _, .tupR e h => .tupR (e.elim (fun e => .inl (k _ _ e)) fun ⟨o, e⟩ => .inr ⟨o, k _ _ e⟩) (ThAll.mono k h)
  | _, _, .dct e => .dct (k _ _ e)
theorem ThAll.mono {H H2 : Hp} (k : ∀ b o, H b = some o → H2 b = some o) : ∀ {vs : List V} {ds : List PyData}, ThAll H vs ds → ThAll H2 vs ds
  | _, _, .nil => .nil
  | _, _, .cons h g => .cons (Th.mono k h) (ThAll.mono k g)
end
mutual
def noList : PyData → Bool
  | .none | .bool _ | .int _ | .str _ => true
  | .list _ => false
  | .tuple xs => noLists xs
  | .dict _ => true
def noLists : List PyData → Bool
  | [] => true
  | x :: xs => noList x && noLists xs
end
section
variable {X : Cx} {pins : List (Addr × Obj)} {σ : L2.St} {H : Hp} {s : Shared}
mutual
theorem Th.reads (I : Inv X pins σ H s) : ∀ (d : PyData) (v : V) (u : Value), Th H v d → RelV v u → ∃ as, Reads s.heap u d as ∧ (noList d = true → sysModules ∉ as)
  | .none, _, _, h, r => by
    cases h
    cases r
    exact ⟨[], .none, fun _ => List.not_mem_nil⟩
  | .bool b, _, _, h, r => by
    cases h
    cases r
    exact ⟨[], .bool b, fun _ => List.not_mem_nil⟩
  | .int i, _, _, h, r => by
    cases h
    obtain ⟨t, rfl⟩ := r
    exact ⟨[], .int i t, fun _ => List.not_mem_nil⟩
  | .str x, _, _, h, r => by
    cases h
    obtain ⟨t, rfl⟩ := r
    exact ⟨[], .str x t, fun _ => List.not_mem_nil⟩
  | .list ds, _, _, h, r => by
    cases h with
    | lst hs ha =>
      cases r
      obtain ⟨its, rv, ⟨o, n, ho, hc, _, hd⟩, _⟩ := I.list (SqL.of (K := X.K) hs)
      obtain ⟨as, hr, _⟩ := Th.readsAll I ds _ its ha rv
      exact ⟨_, .list ho hc hd hr, fun z => Bool.noConfusion z⟩
  | .tuple ds, _, _, h, r => by
    cases h with
    | tupR hs ha =>
      cases r
      obtain ⟨its, rv, ⟨o, ho, hc, n, hd⟩, _⟩ := I.tuple (show SqT X.K _ _ _ from .inl hs)
      obtain ⟨as, hr, hn⟩ := Th.readsAll I ds _ its ha rv
      exact ⟨_, .tuple ho hc hd hr, fun z => hn (by simpa [noList] using z)⟩
  | .dict kvs, _, _, h, r => by
    cases h with
    | @dct a hk =>
      cases r
      obtain ⟨_, hs, vs, kv, hd⟩ := I.hok a _ hk
      have hv : vs = [] := by
        have z := Paired.length kv
        exact List.eq_nil_of_length_eq_zero z.symm
      subst hv
      obtain ⟨o, es, ep, ho, hx, hdt, _, hp, _⟩ := hd
      have he : es.toList = [] := by
        cases e : es.toList with
        | nil => rfl
        | cons b l =>
          rw [e] at hp
          cases hp
      refine ⟨_, .dict (as := []) (bs := []) ho hx.1 hdt (by rw [he]; exact .nil) (by rw [he]; exact .nil), fun _ z => ?_⟩
      rcases List.mem_cons.mp z with e | e
      · rw [← e] at hs
        simp at hs
      · cases e
theorem Th.readsAll (I : Inv X pins σ H s) : ∀ (ds : List PyData) (vs : List V) (us : List Value), ThAll H vs ds → Vals vs us → ∃ as, ReadsAll s.heap us ds as ∧ (noLists ds = true → sysModules ∉ as)
  | [], _, _, h, r => by
    cases h
    cases r
    exact ⟨[], .nil, fun _ => List.not_mem_nil⟩
  | d :: ds, _, _, h, r => by
    cases h with
    | cons h1 h2 =>
      cases r with
      | cons r1 r2 =>
        obtain ⟨as, q1, n1⟩ := Th.reads I d _ _ h1 r1
        obtain ⟨bs, q2, n2⟩ := Th.readsAll I ds _ _ h2 r2
        refine ⟨_, .cons q1 q2, fun z m => ?_⟩
        unfold noLists at z
        rw [Bool.and_eq_true] at z
        rcases List.mem_append.mp m with m | m
        · exact n1 z.1 m
        · exact n2 z.2 m
end
end
/-! ### repr -/
def rRepr : List V → Hp → VK → Prop := fun vs H Q => ∃ (v : V) (d : PyData), vs = [v] ∧ Th H v d ∧ d.showable = true ∧ (d.hasDict = true → noList d = true) ∧ d.depth ≤ 50 ∧ d.shown.length ≤ sizeLine ∧ Q (.str d.shown) H
theorem cr_repr {X : Cx} (hg : X.A.guards = some []) (hu : X.A.units + 64 < cLine) : CallR X (.builtin "repr") rRepr := by
  intro pins s σ H vs us Q I r h
  obtain ⟨v, d, rfl, hv, hs, hd, hdp, hz, q⟩ := h
  obtain ⟨u, rfl, ru⟩ := vals1 r
  obtain ⟨as, hr, hn⟩ := Th.reads I d v u hv ru
  have hm : d.hasDict = true → sysModules ∉ as := fun z => hn (hd z)
  have done : ∀ (h2 : Heap) (tk u2 : Nat), (∀ b o, s.heap.get? b = some o → h2.get? b = some o) → EP X pins σ Q (.str d.shown u2) { s with heap := h2, toks := tk } := fun h2 tk u2 k => ⟨.str d.shown, H, I.kept (t' := tk) k, ⟨u2, rfl⟩, q⟩
  cases hv with
  | lst _ _ => 
    cases ru
    exact repr_of_reads' hr hs hm hg (by omega) (fun _ _ e => e) (fun h2 u2 tk k => done h2 tk u2 k) hz
  | tupR _ _ => 
    cases ru
    exact repr_of_reads' hr hs hm hg (by omega) (fun _ _ e => e) (fun h2 u2 tk k => done h2 tk u2 k) hz
  | dct _ => 
    cases ru
    exact repr_of_reads' hr hs hm hg (by omega) (fun _ _ e => e) (fun h2 u2 tk k => done h2 tk u2 k) hz
  | non =>
    cases ru
    exact P.repr_of_none (done s.heap _ _ fun _ _ e => e)
  | bl b =>
    cases ru
    exact P.repr_of_bool (done s.heap _ _ fun _ _ e => e)
  | int i =>
    obtain ⟨t, rfl⟩ := ru
    exact P.repr_of_int (by simpa [PyData.showable] using hs) (done s.heap _ _ fun _ _ e => e)
  | str x =>
    obtain ⟨t, rfl⟩ := ru
    exact P.repr_of_str (done s.heap _ _ fun _ _ e => e) (by simpa only [PyData.shown] using hz)
/-! ### defs called where nothing is being shown -/
structure FnOkG (P : Program) (w : World) (K : PySem.W.Frag) (mg : Str → Option Value) (base : Heap) (CX : CXT) (k : Nat) (f : Addr) (fd : FuncData) (ps : List Str) (sp : Sp) : Prop where
  len : ∀ vs H Q E, sp vs H Q E → vs.length = ps.length
  run : ∀ (A : Around) (outer : List Env) (s : Shared) (H : Hp) (args : Args) (us : List Value) (vs : List V) (Q : VK) (E : XK), A.guards = some [] → Room k A → Env0 P w K mg base A outer s H → BindsTo s fd args (ps.zip us) → Vals vs us → sp vs H Q E →
    codeAny (model P w) A (.call (.ref f) args) (CR CX outer P w H s Q E) s
section
variable {P : Program} {w : World} {K : PySem.W.Frag} {mg : Str → Option Value} {base : Heap} {CX : CXT} {k : Nat} {f : Addr} {qual : Str} {params : Arguments} {body : List Stmt} {scope : Scope} {dV kV doc pm cdv ct oc : Value} {an od : Option Addr} {osl : Array (Option Value)} {N ps : List Str} {sp : Sp}
theorem okG_of {name : Str} (lk : K.lookup f = some ⟨oc, od, .func (PySem.W.fnOf name qual params body scope dV kV doc pm an cdv ct), osl⟩) (hcd : PySem.W.codeIn K cdv qual = true) (S : FnScope N ps scope) (len : ∀ vs H Q E, sp vs H Q E → vs.length = ps.length)
    (hbody : ∀ (A : Around) (outer : List Env) (s : Shared) (H : Hp) (vs : List V) (Q : VK) (E : XK), (A.deeper (envOfC qual scope s.heap.objs.size f cdv)).guards = some [] → Room k (A.deeper (envOfC qual scope s.heap.objs.size f cdv)) → sp vs H Q E →
      ∃ t, PSs (cxOf CX P w K mg base N qual scope f cdv A outer s H E) body t ∧ t { nx := fun _ H' => Q .non H', rt := Q } (L2.start N vs) H) :
    FnOkG P w K mg base CX (k + 1) f (PySem.W.fnOf name qual params body scope dV kV doc pm an cdv ct) ps sp where
  len := len
  run := fun A outer s H args us vs Q E hg hr e0 hb r h => LamX.run_ofS lk hcd S hr e0 hb r (len _ _ _ _ h) fun hr2 => hbody A outer s H vs Q E hg hr2 h
end
section
variable {X : Cx} {CX : CXT} {k : Nat} {f : Addr} {fd : FuncData} {ps : List Str} {ds : List Value} {dvs : List V} {sp : Sp} {E : XK} {x : Str} {e : Expr} {es : List Expr} {t : TA} {p pos : Pos}
theorem pe_callG (F : FnOkG X.prog X.w X.K X.mg X.base CX k f fd ps sp) (hgd : X.A.guards = some []) (hr : Room k X.A) (hg : Gl X x) (hm : X.mg x = some (.ref f)) (hk : PySem.W.keepIn X.K (.ref f) = true) (hb : Binds X.K fd ps ds) (hd : Vals dvs ds) (hx : Passes CX X E) (ha : PA X (e :: es) t)
    (hdb : (x == ("__debug__" : Str)) = false := by decide) (he : starEach (e :: es) X.env = (false, eval e X.env) :: starEach es X.env := by rfl) (hpl : (backTo pos (starEach es X.env)).any (·.1) = false := by rfl) : PE X (.Call (.Name x p) (e :: es) [] pos) (tCall sp dvs E t) := by
  refine ⟨fun pins s σ H Q I h => wpAny_Call_Name_kw (ld_glob I hg hm (PySem.W.callWith_K (h₀ := X.base) I.ok.mod.kin hk (thn (ha.run pos pins s σ H _ I h) fun us s1 z => ?_) he hpl) hdb)⟩
  obtain ⟨vs, H1, I1, r, q⟩ := z
  have r2 := r.append hd
  have hl : (us ++ ds).length = ps.length := by rw [← r2.length, F.len _ _ _ _ q]
  have go := F.run X.A X.stack s1 H1 ⟨us, []⟩ (us ++ ds) (vs ++ dvs) Q E hgd hr I1.env0 (hb s1 us I1.kIn hl) r2 q
  refine ⟨I1.kIn, wpAny_call (codeAny_mono go fun res s2 hq => ?_)⟩
  rcases res with e2 | fl
  · exact hx pins σ H1 s1 e2 s2 I1 hq
  cases fl with
  | ret u => exact I1.after hq
  | next => exact hq.elim
  | brk => exact hq.elim
  | cont => exact hq.elim
end
/-! ### the law's own call -/
section
variable {P : Program} {w : World} {K : PySem.W.Frag} {mg mb : Str → Option Value} {CX : CXT} {k : Nat} {fa a : Addr} {cs : List (Addr × Addr)} {fd : FuncData} {x : Str} {sp : Sp} {s : Shared} {vs : List Value} {ns : List Int}
abbrev emptyTab : Obj := { cls := .none, data := .fields #[] }
abbrev scriptObj (vs : List Value) : Obj := { cls := .type "list", data := .seq vs.toArray }
/-- what is known when the law is called: its tables, all empty, and the script where no fact of the head knows it -/
def hp0 (K : PySem.W.Frag) (cs : List (Addr × Addr)) (a : Addr) (vs : List Value) (ns : List Int) : Hp := fun b => if b ∈ cs.map (·.2) then some (.tbl #[]) else if b = a ∧ K.lookup a = none then some (.frz (scriptObj vs) (.lst (ns.map V.int))) else none
theorem lawG (KX : K.In s.heap) (hns : s.heap.Ns mainGlobals mg) (hb : s.heap.Ns builtinsNs mb) (hbb : ∀ x : Str, x ≠ "__name__" → mb x = bootBuiltins x) (hlim : s.heap.NoLimit) (hg : s.gens = #[]) (hT : ∀ p ∈ cs, s.heap.get? p.2 = some emptyTab) (nT : ∀ p ∈ cs, K.lookup p.2 = none)
    (C : ∀ p ∈ cs, PySem.W.CodeHd s.heap p.1 p.2) (hbm : ∃ (bm : Addr) (ob : Obj), mg "__builtins__" = some (.ref bm) ∧ bm ≠ builtinsNs ∧ s.heap.get? bm = some ob ∧ ob.cls = .type "module" ∧ ob.dict = some builtinsNs ∧ ob.data = .plain)
    (ha : s.heap.get? a = some (scriptObj vs)) (hi : IntsAre vs ns) (hl : ns.length ≤ sizeLine) (hr : Room k callerA)
    (F : ∀ base : Heap, K.In base → base.Ns mainGlobals mg → (∀ p ∈ cs, LamX.TabB base mg p.1 p.2) → FnOkG P w K mg base CX k fa fd [x] sp) (hbind : ∀ (s : Shared) (u : Value), BindsTo s fd ⟨[u], []⟩ [(x, u)])
    (hsp : ∀ H : Hp, (∀ p ∈ cs, H p.2 = some (.tbl #[])) → SqL K H a (ns.map V.int) → sp [.ref a] H (fun v _ => v = .bl true) fun _ _ _ => False) (hCX : ∀ H e s', CX [] H s (fun _ _ _ => False) e s' → False) :
    codeAny (model P w) callerA (.call (.ref fa) ⟨[.ref a], []⟩) (fun r s' => r = .ok (.ret (.bool true)) ∧ OldK s.heap s'.heap ∧ s'.os = s.os ∧ AllBare s'.gens) s := by
  have tabOf : ∀ b ∈ cs.map (·.2), ∃ p ∈ cs, p.2 = b := fun b hb => List.mem_map.mp hb
  have isT : ∀ b ∈ cs.map (·.2), s.heap.get? b = some emptyTab := fun b hb => by
    obtain ⟨p, hp, rfl⟩ := tabOf b hb
    exact hT p hp
  have notA : a ∉ cs.map (·.2) := fun z => by
    have q := (isT a z).symm.trans ha
    cases q
  have inT : ∀ p ∈ cs, hp0 K cs a vs ns p.2 = some (.tbl #[]) := fun p hp => if_pos (List.mem_map.mpr ⟨p, hp, rfl⟩)
  -- what stands at a known place
  have known : ∀ b u, hp0 K cs a vs ns b = some u → (b ∈ cs.map (·.2) ∧ u = .tbl #[]) ∨ (b = a ∧ K.lookup a = none ∧ u = .frz (scriptObj vs) (.lst (ns.map V.int))) := fun b u z => by
    unfold hp0 at z
    by_cases h1 : b ∈ cs.map (·.2)
    · rw [if_pos h1] at z
      exact .inl ⟨h1, (Option.some.inj z).symm⟩
    · rw [if_neg h1] at z
      by_cases h2 : b = a ∧ K.lookup a = none
      · rw [if_pos h2] at z
        exact .inr ⟨h2.1, h2.2, (Option.some.inj z).symm⟩
      · rw [if_neg h2] at z
        cases z
  have plain : ∀ (b : Addr) (o : Obj), s.heap.get? b = some o → (∀ xs n, o.data ≠ .seq xs n) → o.data ≠ .fields #[] → hp0 K cs a vs ns b = none := fun b o e n1 n2 => by
    cases q : hp0 K cs a vs ns b with
    | none => rfl
    | some u =>
      rcases known b u q with ⟨z, _⟩ | ⟨z, _⟩
      · rw [isT b z] at e
        cases e
        exact absurd rfl n2
      · rw [z, ha] at e
        cases e
        exact absurd rfl (n1 _ _)
  have low : ∀ {b : Addr} {o : Obj}, s.heap.get? b = some o → hp0 K cs a vs ns b = none → (hidT s.heap (hp0 K cs a vs ns)).get? b = some o := fun e n => hidT_get e n
  have lowNs : ∀ {b : Addr} {m : Str → Option Value}, s.heap.Ns b m → (hidT s.heap (hp0 K cs a vs ns)).Ns b m := fun {b m} h => by
    obtain ⟨o, es, ep, e, d, r⟩ := h
    exact ⟨o, es, ep, low e (plain b o e (fun xs n z => by rw [d] at z; cases z) fun z => by rw [d] at z; cases z), d, r⟩
  have hK : K.In (hidT s.heap (hp0 K cs a vs ns)) := fun b o e => low (KX b o e) (by
    cases q : hp0 K cs a vs ns b with
    | none => rfl
    | some u =>
      rcases known b u q with ⟨z, _⟩ | ⟨z, z2, _⟩
      · obtain ⟨p, hp, rfl⟩ := tabOf b z
        rw [nT p hp] at e
        cases e
      · rw [z, z2] at e
        cases e)
  have M : L2.Mod K mg (hidT s.heap (hp0 K cs a vs ns)) := ⟨hK, lowNs hns, ⟨mb, lowNs hb, hbb⟩, by
    obtain ⟨mc, h1, h2⟩ := hlim
    exact ⟨mc, lowNs h1, h2⟩⟩
  have TB : ∀ p ∈ cs, LamX.TabB (hidT s.heap (hp0 K cs a vs ns)) mg p.1 p.2 := fun p hp => by
    refine ⟨?_, ?_, fun z => ?_⟩
    · obtain ⟨o, us, file, tf, flags, tg, inF, text, tt, e1, r1, r2, r3, rest⟩ := C p hp
      exact ⟨o, us, file, tf, flags, tg, inF, text, tt, low e1 (plain _ o e1 (fun xs n z => by rw [r2] at z; cases z) fun z => by
        rw [r2] at z
        cases z
        simp at r3), r1, r2, r3, rest⟩
    · obtain ⟨bm, ob, b1, b2, b3, b4, b5, b6⟩ := hbm
      refine ⟨bm, ob, b1, b2, fun q => ?_, fun q => ?_, low b3 (plain _ ob b3 (fun xs n z => by rw [b6] at z; cases z) fun z => by rw [b6] at z; cases z), b4, b5, b6⟩
      · obtain ⟨o, es, ep, e, hd, _⟩ := hns
        rw [q, e] at b3
        cases b3
        rw [hd] at b6
        cases b6
      · rw [q, hT p hp] at b3
        cases b3
        cases b6
    · obtain ⟨o, es, ep, e, hd, _⟩ := hns
      rw [z, hT p hp] at e
      cases e
      cases hd
  have ok : HOk P w (hp0 K cs a vs ns) s.heap := fun b u z => by
    rcases known b u z with ⟨h, rfl⟩ | ⟨rfl, _, rfl⟩
    · exact isT b h
    · exact ⟨ha, by rw [List.length_map]; exact hl, vs, _, vals_ints hi, ha⟩
  have hS : SqL K (hp0 K cs a vs ns) a (ns.map V.int) := by
    cases e : K.lookup a with
    | none => exact .inl (.inr ⟨scriptObj vs, (if_neg notA).trans (if_pos ⟨rfl, e⟩)⟩)
    | some o =>
      have eo := (KX a o e).symm.trans ha
      cases eo
      exact .inr ⟨_, vs.toArray, _, e, rfl, rfl, rfl, by rw [List.size_toArray, hi.length]; exact hl, by simpa using vals_ints hi⟩
  have e0 : Env0 P w K mg (hidT s.heap (hp0 K cs a vs ns)) callerA [] s (hp0 K cs a vs ns) := ⟨rfl, M, fun b o e => of_hidT e, Nat.le_of_eq (hidT_size _ _), trivial, fun b z => absurd (show b ∈ ([] : List Addr) from z) (by simp), ok, .of_eq hg⟩
  have go := (F _ hK (lowNs hns) TB).run callerA [] s (hp0 K cs a vs ns) ⟨[.ref a], []⟩ [.ref a] [.ref a] _ _ rfl hr e0 (hbind s (.ref a)) (.cons rfl .nil) (hsp _ inT hS)
  refine codeAny_mono go fun r s2 h => ?_
  rcases r with e | fl
  · exact (hCX _ e s2 h).elim
  cases fl with
  | next => exact h.elim
  | brk => exact h.elim
  | cont => exact h.elim
  | ret u =>
    obtain ⟨v, H2, os, bare, un, ok2, rv, q⟩ := h
    have q : v = .bl true := q
    subst q
    obtain rfl : u = Value.bool true := rv
    have stay : ∀ b o, b ∉ cs.map (·.2) → s.heap.get? b = some o → s2.heap.get? b = some o := fun b o nb e => by
      cases z : hp0 K cs a vs ns b with
      | none => exact un.keep b o e z (fun y => absurd (show b ∈ ([] : List Addr) from y) (by simp)) (by simp)
      | some u =>
        rcases known b u z with ⟨y, _⟩ | ⟨_, _, rfl⟩
        · exact absurd y nb
        · obtain ⟨e1, _⟩ := ok b _ z
          obtain ⟨e2, _⟩ := ok2 b _ (un.frzs b _ _ z)
          rw [e1] at e
          cases e
          exact e2
    have grew : ∀ p ∈ cs, ∃ more : Array Value, s2.heap.get? p.2 = some { cls := .none, data := .fields more } := fun p hp => by
      obtain ⟨more, z⟩ := un.tbls p.2 #[] (inT p hp)
      exact ⟨_, ok2 p.2 _ z⟩
    refine ⟨rfl, ⟨fun b o e => ?_, fun b o e => ?_⟩, os, bare⟩ <;> by_cases hb2 : b ∈ cs.map (·.2)
    · obtain ⟨p, hp, rfl⟩ := tabOf b hb2
      obtain ⟨more, hm⟩ := grew p hp
      have e3 := (hT p hp).symm.trans e
      cases e3
      exact .inr (.inl ⟨((C p hp).tab (hT p hp)).isCodeTable, rfl, #[], more, rfl, by rw [Array.empty_append]; exact hm⟩)
    · exact .inl (stay b o hb2 e)
    · obtain ⟨p, hp, rfl⟩ := tabOf b hb2
      obtain ⟨more, hm⟩ := grew p hp
      exact ⟨_, hm⟩
    · exact ⟨o, stay b o hb2 e⟩
end
def LawG (l : PySem.W.OpenLaw) (w : World) (K : PySem.W.Frag) (CX : CXT) (k n : Nat) (x : Str) (mg : Str → Option Value) (fa : Addr) (h : Heap) : Prop :=
  ∃ (fd : FuncData) (cs : List (Addr × Addr)) (sp : Sp), (∀ p ∈ cs, h.get? p.2 = some emptyTab) ∧ (∀ p ∈ cs, K.lookup p.2 = none) ∧ (∀ p ∈ cs, PySem.W.CodeHd h p.1 p.2) ∧ (∀ (s : Shared) (u : Value), BindsTo s fd ⟨[u], []⟩ [(x, u)]) ∧
    (∀ (H : Hp) (a : Addr) (ns : List Int), ns.length ≤ n → (∀ z ∈ ns, Builtin.Int.intBits z ≤ 1048576) → (∀ p ∈ cs, H p.2 = some (.tbl #[])) → SqL K H a (ns.map V.int) → sp [.ref a] H (fun v _ => v = .bl true) fun _ _ _ => False) ∧
    ∀ base : Heap, K.In base → base.Ns mainGlobals mg → (∀ p ∈ cs, LamX.TabB base mg p.1 p.2) → FnOkG l.prog w K mg base CX k fa fd [x] sp
theorem walkG {l : PySem.W.OpenLaw} {n k : Nat} {q : Program} {loose : List Str} {XP : (Str → Option Value) → Heap → Prop} {YP : World → Heap → Prop} {d : DefRec} {CX : World → CXT} {x : Str} (hn : l.most = some n) (hn2 : n ≤ sizeLine) (hdf : d.params.defaults = []) (hr : Room k callerA)
    (F : ∀ (w : World) (mg : Str → Option Value) (fa : Addr) (h : Heap), YP w h → h.Ns mainGlobals mg → mg d.name = some (.ref fa) → ∃ K : PySem.W.Frag, K.In h ∧ LawG l w K (CX w) k n x mg fa h)
    (hCX : ∀ (w : World) (H : Hp) (s : Shared) (e : Value) (s' : Shared), CX w [] H s (fun _ _ _ => False) e s' → False) : PySem.W.WalkO q loose XP YP l.row.toRowW d [] (fun f vs => PySem.call f vs) := by
  refine Att.attach_callB hn hdf fun w s0 s1 mg mb fa o pm cd doc a vs ns G Y ho hd hcd hmg hobj hints hlen hbits hg => ?_
  obtain ⟨K, KX, fd, cs, sp, h1, h2, h3, h4, h5, h6⟩ := F w mg fa _ Y G.T.g hmg
  exact lawG KX G.T.g G.T.b G.T.builtins G.T.nolimit hg h1 h2 h3 G.T.bmain hobj hints (Nat.le_trans hlen hn2) hr h6 h4 (fun H hH hS => h5 H a ns hlen hbits hH hS) fun H e s2 => hCX w H s1 e s2
end Sb

/-! ## U -/
/-! Branches that are known. -/
namespace Sb
theorem iteC {c : Bool} {A B : Prop} (hc : c = false) (h : B) : if c = true then A else B := by
  rw [hc, if_neg Bool.false_ne_true]
  exact h
theorem iteD {c : Bool} {A B : Prop} (hc : c = true) (h : A) : if c = true then A else B := by
  rw [if_pos hc]
  exact h
end Sb

/-! ## P42 -/
/-! The pen: a row of numbers made of the script, from which numbers below a bound are taken. -/
namespace Sb
open PySem PySem.Spec PyProof.Rows L2
def top (i : Nat) : Stmt := PySem.Challenge.pw_sparebay_k42_whole_tours.main.body.getD i (.Pass ⟨0, 0, 0, 0⟩)
abbrev sOpen : Stmt := top 44
abbrev sSpread : Stmt := top 45
abbrev sTake : Stmt := top 46
abbrev sOneOf : Stmt := top 47
abbrev FnP (K : PySem.W.Frag) (x : Str) (st : Stmt) (f : Addr) (fd : FuncData) : Prop := FunD K x x (defArgs st) (defBody st) (defScope st) [] [] f fd
/-- all that stood but the object at p stands as it was -/
def But (p : Addr) (H H' : Hp) : Prop := ∀ b o, b ≠ p → H b = some o → H' b = some o
theorem But.refl (p : Addr) (H : Hp) : But p H H := fun _ _ _ h => h
theorem But.trans {p : Addr} {H H1 H2 : Hp} (a : But p H H1) (b : But p H1 H2) : But p H H2 := fun c o n h => b c o n (a c o n h)
theorem sameBut {p : Addr} {H H' : Hp} (a : Same H H') : But p H H' := fun c o _ h => a c o h
theorem same_upd {H : Hp} {p : Addr} {o : HO} (h : H p = none) : Same H (upd H p o) := fun b u e => by
  rw [upd_ne (ne_of_none e h)]
  exact e
theorem but_upd {H : Hp} {p : Addr} {o : HO} : But p H (upd H p o) := fun b u n e => by
  rw [upd_ne n]
  exact e
/-- a pen at p, from which k cells have been taken -/
def Pen (H : Hp) (p c : Addr) (k : Nat) : Prop := ∃ (cells : List Int) (x : Int), H p = some (.lst [.ref c, .int (k : Int), .int x]) ∧ H c = some (.lst (cells.map V.int)) ∧ 0 ≤ x ∧ cells.length ≤ 12
theorem pen_ne {c : Addr} {k x : V} {cells : List Int} : HO.lst [.ref c, k, x] ≠ .lst (cells.map V.int) := fun q => by
  have q := HO.lst.inj q
  cases cells with
  | nil => cases q
  | cons a r => 
    rw [List.map_cons] at q
    cases (List.cons.inj q).1
theorem Pen.same {H H' : Hp} {p c : Addr} {k : Nat} (h : Pen H p c k) (s : Same H H') : Pen H' p c k := by
  obtain ⟨cells, x, h1, h2, h3, h4⟩ := h
  exact ⟨cells, x, s _ _ h1, s _ _ h2, h3, h4⟩
theorem Pen.at {H H' : Hp} {p c : Addr} {k : Nat} (h : Pen H p c k) (h1 : ∀ o, H p = some o → H' p = some o) (h2 : ∀ o, H c = some o → H' c = some o) : Pen H' p c k := by
  obtain ⟨cells, x, e1, e2, e3, e4⟩ := h
  exact ⟨cells, x, h1 _ e1, h2 _ e2, e3, e4⟩
theorem Pen.there {H : Hp} {p c : Addr} {k : Nat} (h : Pen H p c k) : (∃ o, H p = some o) ∧ ∃ o, H c = some o := by
  obtain ⟨cells, x, e1, e2, _⟩ := h
  exact ⟨⟨_, e1⟩, ⟨_, e2⟩⟩
theorem Pen.new {H : Hp} {p c b : Addr} {k : Nat} (h : Pen H p c k) (n : H b = none) : p ≠ b ∧ c ≠ b := by
  obtain ⟨⟨o, e1⟩, ⟨u, e2⟩⟩ := h.there
  exact ⟨ne_of_none e1 n, ne_of_none e2 n⟩
/-! ### the promises -/
def spOpen (K : PySem.W.Frag) : Sp := fun vs H Q _ => ∃ (a : Addr) (ns : List Int), vs = [.ref a] ∧ SqL K H a (ns.map V.int) ∧ ns.length ≤ 63 ∧ ∀ (p c : Addr) H', Same H H' → H p = none → H c = none → Pen H' p c 0 → Q (.ref p) H'
def spSpread : Sp := fun vs H Q _ => ∃ (cell : Int) (k : Nat), vs = [.int cell, .int (k : Int)] ∧ k < 1000000 ∧ ∀ r H', 0 ≤ r → Same H H' → Q (.int r) H'
def spTake : Sp := fun vs H Q _ => ∃ (p c : Addr) (k : Nat) (many : Int), vs = [.ref p, .int many] ∧ Pen H p c k ∧ 0 < many ∧ many < 1073741824 ∧ k < 1000000 ∧
  ∀ r H' k', 0 ≤ r → r < many → But p H H' → k' ≤ k + 1 → Pen H' p c k' → Q (.int r) H'
def spOneOf (K : PySem.W.Frag) : Sp := fun vs H Q _ => ∃ (p c a : Addr) (k : Nat) (xs : List V), vs = [.ref p, .ref a] ∧ Pen H p c k ∧ SqL K H a xs ∧ a ≠ p ∧ 0 < xs.length ∧ xs.length < 1000000 ∧ k < 1000000 ∧
  ∀ (i : Nat) v H' k', xs[i]? = some v → But p H H' → k' ≤ k + 1 → Pen H' p c k' → Q v H'
structure PenTxt (mg : Str → Option Value) : Prop where
  len : mg "len" = none
  int : mg "int" = none
  list : mg "list" = none
  enumerate : mg "enumerate" = none

section
variable {X : Cx}
theorem OpR.weak {f : Value → Value → Sem Value} {r r' : R2} (h : OpR X f r) (w : ∀ x y H Q, r' x y H Q → r x y H Q) : OpR X f r' := fun pins s σ H x y v u Q I rx ry q => h pins s σ H x y v u Q I rx ry (w x y H Q q)
/-- operators that hand on a letter -/
def rIL (C : Int → Int → Prop) (g : Int → Int → Int) : R2 := fun x y H Q => ∃ i j, x = .int i ∧ y = .int j ∧ C i j ∧ ∀ r, r = g i j → Q (.int r) H
def rIL0 (g : Int → Int → Int) : R2 := fun x y H Q => ∃ i j, x = .int i ∧ y = .int j ∧ ∀ r, r = g i j → Q (.int r) H
theorem op_addL : OpR X (binaryOp .Add) (rIL0 fun i j => i + j) := OpR.weak op_add fun _ _ _ _ ⟨i, j, a, b, q⟩ => ⟨i, j, a, b, q _ rfl⟩
theorem op_subL : OpR X (binaryOp .Sub) (rIL0 fun i j => i - j) := OpR.weak op_sub fun _ _ _ _ ⟨i, j, a, b, q⟩ => ⟨i, j, a, b, q _ rfl⟩
theorem op_mulL : OpR X (binaryOp .Mult) (rIL CMul fun i j => i * j) := OpR.weak op_mul fun _ _ _ _ ⟨i, j, a, b, c, q⟩ => ⟨i, j, a, b, c, q _ rfl⟩
theorem op_powL : OpR X (binaryOp .Pow) (rIL CPow fun i j => i ^ j.toNat) := OpR.weak op_pow fun _ _ _ _ ⟨i, j, a, b, c, q⟩ => ⟨i, j, a, b, c, q _ rfl⟩
theorem op_modL : OpR X (binaryOp .Mod) (rIL (fun _ j => 0 < j) fun i j => i % j) := OpR.weak op_mod fun _ _ _ _ ⟨i, j, a, b, c, q⟩ => ⟨i, j, a, b, c, q _ rfl⟩
/-- a rest: its bounds alone -/
def rMB : R2 := fun x y H Q => ∃ i j, x = .int i ∧ y = .int j ∧ 0 < j ∧ ∀ r, 0 ≤ r → r < j → Q (.int r) H
theorem op_modB : OpR X (binaryOp .Mod) rMB := OpR.weak op_mod fun _ _ _ _ ⟨i, j, a, b, c, q⟩ => ⟨i, j, a, b, c, q _ (Int.emod_nonneg _ (by omega)) (Int.emod_lt_of_pos _ c)⟩
/-- a new object -/
def New (H : Hp) (o : HO) (Q : VK) : Prop := ∀ p H', H p = none → Same H H' → H' p = some o → Q (.ref p) H'
theorem New.go {H : Hp} {o : HO} {Q : VK} (h : New H o Q) : ∀ p, H p = none → Q (.ref p) (upd H p o) := fun p n => h p _ n (same_upd n) upd_same
theorem PE.weak {e : Expr} {t t' : TE} (h : PE X e t) (w : ∀ σ H Q, t' σ H Q → t σ H Q) : PE X e t' := ⟨fun pins s σ H Q I q => h.run pins s σ H Q I (w σ H Q q)⟩
def TAMono (t : TA) : Prop := ∀ σ H (Q Q' : List V → Hp → Prop), (∀ xs H', Q xs H' → Q' xs H') → t σ H Q → t σ H Q'
def tLstN (t : TA) : TE := fun σ H Q => t σ H fun xs H1 => xs.length ≤ sizeLine ∧ New H1 (.lst xs) Q
def tTupN (t : TA) : TE := fun σ H Q => t σ H fun xs H1 => xs.length ≤ sizeLine ∧ New H1 (.tup xs) Q
theorem pe_lstL {es : List Expr} {t : TA} {pos : Pos} (h : PA X es t) : PE X (.List es pos) (tLstN t) := by
  refine ⟨fun pins s σ H Q I hq => ?_⟩
  refine wpAny_List_spliced (thn (h.run pos pins s σ H _ I hq) fun us s1 ⟨xs, H1, I1, r, z, q⟩ => ⟨by rw [← r.length]; exact z, ?_⟩)
  have hf : H1 s1.heap.objs.size = none := I1.hok.fresh (Nat.le_refl _)
  refine ⟨.ref s1.heap.objs.size, upd H1 s1.heap.objs.size (.lst xs), I1.laid (t' := s1.toks) (fun b u e => Heap.get?_push_of_some _ e) (Nat.le_refl _) ?_, rfl, q.go _ hf⟩
  exact ⟨z, us, 0, r, Heap.get?_push_size _ rfl⟩
theorem pe_tupL {es : List Expr} {t : TA} {pos : Pos} {x1} (h : PA X es t) : PE X (.Tuple es x1 pos) (tTupN t) := by
  refine ⟨fun pins s σ H Q I hq => ?_⟩
  refine wpAny_Tuple_spliced (thn (h.run pos pins s σ H _ I hq) fun us s1 ⟨xs, H1, I1, r, z, q⟩ => ⟨by rw [← r.length]; exact z, ?_⟩)
  have hf : H1 s1.heap.objs.size = none := I1.hok.fresh (Nat.le_refl _)
  refine ⟨.ref s1.heap.objs.size, upd H1 s1.heap.objs.size (.tup xs), I1.laid (t' := s1.toks) (fun b u e => Heap.get?_push_of_some _ e) (Nat.le_refl _) ?_, rfl, q.go _ hf⟩
  exact ⟨z, us, r, ⟨_, Heap.get?_push_size _ rfl, rfl, _, rfl⟩⟩
def rCatN : R2 := fun x y H Q => ∃ l b xs zs, x = .ref l ∧ y = .ref b ∧ H l = some (.lst xs) ∧ H b = some (.lst zs) ∧ xs.length + zs.length ≤ sizeLine ∧ New H (.lst (xs ++ zs)) Q
theorem op_catL : OpR X (binaryOp .Add) rCatN := OpR.weak op_cat fun _ _ _ _ ⟨l, b, xs, zs, a1, a2, a3, a4, a5, q⟩ => ⟨l, b, xs, zs, a1, a2, a3, a4, a5, q.go⟩
def rSlN (K : PySem.W.Frag) : V → Option Int → Option Int → Hp → VK → Prop := fun x lo hi H Q => ∃ a xs, x = .ref a ∧ SqL K H a xs ∧ New H (.lst (cutV xs lo hi)) Q
theorem sl_listL : SlR X (rSlN X.K) := by
  intro pins s σ H x v vl vu lo hi sl Q I rx hs pl pu h
  obtain ⟨a, xs, e, hS, q⟩ := h
  exact sl_list pins s σ H x v vl vu lo hi sl Q I rx hs pl pu ⟨a, xs, e, hS, q.go⟩
theorem call_list_ofL : CallR X (.type "list") (fun xs H Q => ∃ p ys, xs = [.ref p] ∧ (SqL X.K H p ys ∨ SqT X.K H p ys) ∧ New H (.lst ys) Q) := fun pins s σ H xs us Q I r ⟨p, ys, e, h, q⟩ => call_list_of pins s σ H xs us Q I r ⟨p, ys, e, h, q.go⟩
def rSetN : V → V → V → Hp → (Hp → Prop) → Prop := fun o i v H Q => ∃ p xs k j, o = .ref p ∧ i = .int k ∧ H p = some (.lst xs) ∧ ixN xs.length k = some j ∧ ∀ H', But p H H' → H' p = some (.lst (xs.set j v)) → Q H'
theorem set_listL : PSet X rSetN := fun pins s σ H o i v ov iv u Q I ro ri rv ⟨p, xs, k, j, a1, a2, a3, a4, q⟩ => set_list pins s σ H o i v ov iv u Q I ro ri rv ⟨p, xs, k, j, a1, a2, a3, a4, q _ but_upd upd_same⟩
theorem op_fdivL : OpR X (binaryOp .FloorDiv) (rIL CDiv fun i j => i / j) := OpR.weak op_fdiv fun _ _ _ _ ⟨i, j, a, b, c, q⟩ => ⟨i, j, a, b, c, q _ rfl⟩
end
section
variable {P : Program} {w : World} {K : PySem.W.Frag} {mg : Str → Option Value} {base : Heap} {x qual : Str} {params : Arguments} {body : List Stmt} {scope : Scope} {dvs : List V} {kws : List (Str × V)} {f : Addr} {fd : FuncData}
/-- a def that lets nothing out -/
theorem ok0 {N ps : List Str} {k : Nat} {sp : Sp} (F : FunD K x qual params body scope dvs kws f fd) (S : FnScope N ps scope) (len : ∀ vs H Q E, sp vs H Q E → vs.length = ps.length)
    (hbody : ∀ (cdv : Value) (A : Around) (outer : List Env) (s : Shared) (H : Hp) (vs : List V) (Q : VK) (E : XK), Room k (A.deeper (envOfC qual scope s.heap.objs.size f cdv)) → sp vs H Q E →
      ∃ t, PSs (cxOf CX0 P w K mg base N qual scope f cdv A outer s H E).nox body t ∧ t { nx := fun _ H' => Q .non H', rt := Q } (start N vs) H) : FnOk P w K mg base CX0 (k + 1) f fd ps sp := by
  refine F.ok S len fun cdv A outer s H vs Q E hr hsp => ?_
  obtain ⟨t, h, q⟩ := hbody cdv A outer s H vs Q E hr hsp
  exact ⟨t, h.nox, q⟩
end
section
variable {P : Program} {w : World} {K : PySem.W.Frag} {mg : Str → Option Value} {base : Heap}
theorem scSpread : FnScope ["cell", "k", "primes", "one", "two", "three"] ["cell", "k"] (defScope sSpread) := ⟨rfl, rfl, rfl, by decide +kernel, rfl, by decide +kernel, by decide +kernel⟩
/-- a place of a list of 13 -/
theorem at13 {xs : List V} (h : xs.length = 13) (k : Int) : ∃ v, atI xs (k % 13) = some v ∧ v ∈ xs := by
  have h1 : 0 ≤ k % 13 := Int.emod_nonneg _ (by decide)
  have h2 : k % 13 < 13 := Int.emod_lt_of_pos _ (by decide)
  have h3 : (k % 13).toNat < xs.length := by omega
  refine ⟨xs[(k % 13).toNat], ?_, List.getElem_mem h3⟩
  exact at_of (j := (k % 13).toNat) (by omega) (by simp [h3])
def prA : List Int := [2147483629, 2147483587, 2147483579, 2147483563, 2147483549, 2147483543, 2147483497, 2147483489]
def prB : List Int := [2147483477, 2147483423, 2147483399, 2147483353, 2147483323]
theorem pr_mem {v : V} (h : v ∈ (prA ++ prB).map V.int) : ∃ p : Int, v = .int p ∧ 0 < p ∧ p < 2147483648 := by
  obtain ⟨p, hp, rfl⟩ := List.mem_map.mp h
  refine ⟨p, rfl, ?_⟩
  have q : ∀ p ∈ prA ++ prB, 0 < p ∧ p < 2147483648 := by decide
  exact q p hp
theorem ok_spread {f : Addr} {fd : FuncData} (F : FnP K "_law_spread" sSpread f fd) (T : PenTxt mg) : FnOk P w K mg base CX0 1 f fd ["cell", "k"] spSpread := by
  refine ok0 F scSpread (fun vs H Q E h => ?_) (fun cdv A outer s H vs Q E hr h => ?_)
  · obtain ⟨cell, k, rfl, _⟩ := h
    rfl
  · obtain ⟨cell, k, rfl, hk, q⟩ := h
    refine ⟨_, (pss_cons (ps_if (pt_cmpR op_ge (pv 0) (pe_op op_pow pe_int pe_int) (nomark _))
      (pss_one (ps_ret (pv 0)))
      pss_nil)
    (pss_cons (ps_set (i := 2) scSpread.nd rfl (Or.inl rfl) (pe_lstL (pa_cons pe_int (pa_cons pe_int (pa_cons pe_int (pa_cons pe_int (pa_cons pe_int (pa_cons pe_int (pa_cons pe_int (pa_cons pe_int pa_nil))))))))))
    (pss_cons (ps_set (i := 2) scSpread.nd rfl (Or.inl rfl) (pe_op op_catL (pv 2) (pe_lstL (pa_cons pe_int (pa_cons pe_int (pa_cons pe_int (pa_cons pe_int (pa_cons pe_int pa_nil))))))))
    (pss_cons (ps_set (i := 3) scSpread.nd rfl (Or.inl rfl) (pe_op op_mulL (pe_op op_modB (pe_callTy (T := "int") call_int1 (by rfl) T.int (by decide +kernel) (pa_cons (pv 0) pa_nil)) pe_int) (pe_op op_add (pe_op op_mul pe_int (pv 1)) pe_int)))
    (pss_cons (ps_set (i := 3) scSpread.nd rfl (Or.inl rfl) (pe_op op_modB (pe_callTy (T := "int") call_int1 (by rfl) T.int (by decide +kernel) (pa_cons (pe_op op_powL (pe_op op_add (pe_op op_add (pv 3) (pe_op op_mul (pv 1) pe_int)) pe_int) pe_int) pa_nil)) (pe_ix ix_list (pv 2) (pe_op op_mod (pe_callTy (T := "int") call_int1 (by rfl) T.int (by decide +kernel) (pa_cons (pv 1) pa_nil)) pe_int) (fun _ _ => rfl))))
    (pss_cons (ps_set (i := 4) scSpread.nd rfl (Or.inl rfl) (pe_op op_modB (pe_callTy (T := "int") call_int1 (by rfl) T.int (by decide +kernel) (pa_cons (pe_op op_powL (pe_op op_add (pe_op op_add (pe_op op_mulL (pv 3) (pe_op op_add (pv 1) pe_int)) (pe_op op_modB (pe_callTy (T := "int") call_int1 (by rfl) T.int (by decide +kernel) (pa_cons (pv 0) pa_nil)) pe_int)) pe_int) pe_int) pa_nil)) (pe_ix ix_list (pv 2) (pe_op op_mod (pe_callTy (T := "int") call_int1 (by rfl) T.int (by decide +kernel) (pa_cons (pe_op op_add (pv 1) pe_int) pa_nil)) pe_int) (fun _ _ => rfl))))
    (pss_cons (ps_set (i := 5) scSpread.nd rfl (Or.inl rfl) (pe_op op_modB (pe_callTy (T := "int") call_int1 (by rfl) T.int (by decide +kernel) (pa_cons (pe_op op_powL (pe_op op_add (pe_op op_add (pv 4) (pe_op op_modB (pe_callTy (T := "int") call_int1 (by rfl) T.int (by decide +kernel) (pa_cons (pv 3) pa_nil)) pe_int)) (pv 1)) pe_int) pa_nil)) (pe_ix ix_list (pv 2) (pe_op op_mod (pe_callTy (T := "int") call_int1 (by rfl) T.int (by decide +kernel) (pa_cons (pe_op op_add (pv 1) pe_int) pa_nil)) pe_int) (fun _ _ => rfl))))
    (pss_one (ps_ret (pe_op op_add (pe_op op_mulL (pe_op op_add (pe_op op_mulL (pv 3) pe_int) (pv 4)) pe_int) (pv 5))))))))))), ?_⟩
    refine ⟨_, rfl, _, _, rfl, rfl, ⟨by decide, by decide, by decide⟩, _, _, rfl, rfl, _, rfl, ?_⟩
    refine ite2 (fun c => ?_) (fun _ => ?_)
    · have c := of_decide_eq_true c
      exact ⟨_, rfl, q cell H (Int.le_trans (by decide) c) (Same.refl H)⟩
    · refine ⟨by show 8 ≤ sizeLine; decide, fun l1 H1 n1 s1 h1 => ⟨_, rfl, by show 5 ≤ sizeLine; decide, fun l2 H2 n2 s2 h2 => ⟨l1, l2, prA.map V.int, prB.map V.int, rfl, rfl, s2 _ _ h1, h2, by show 13 ≤ sizeLine; decide, fun p H3 n3 s3 hp => ?_⟩⟩⟩
      have S : Same H H3 := (s1.trans s2).trans s3
      rw [← List.map_append] at hp
      have Kp : ∀ z : Int, ∃ v : Int, atI ((prA ++ prB).map V.int) (z % 13) = some (V.int v) ∧ 0 < v ∧ v < 2147483648 := fun z => by
        obtain ⟨v, h1, h2⟩ := at13 (xs := (prA ++ prB).map V.int) rfl z
        obtain ⟨w', rfl, h3⟩ := pr_mem h2
        exact ⟨w', h1, h3⟩
      obtain ⟨p1, hp1, lp1, up1⟩ := Kp k
      obtain ⟨p2, hp2, lp2, up2⟩ := Kp (k + 5)
      obtain ⟨p3, hp3, lp3, up3⟩ := Kp (k + 7)
      have hS : SqL K H3 p ((prA ++ prB).map V.int) := SqL.of hp
      -- one
      refine ⟨_, rfl, .inl ⟨_, rfl, _, _, rfl, rfl, (by show (0 : Int) < 1000000007; decide), fun a a0 a1 => ⟨_, rfl, _, _, rfl, rfl, .inl ⟨by decide, by decide⟩, _, _, rfl, rfl, _, _, rfl, rfl, .inl ⟨by omega, by omega⟩, fun one e1 => ?_⟩⟩⟩
      have f1 : 0 ≤ one := by rw [e1]; exact Int.mul_nonneg a0 (by omega)
      have f2 : one ≤ 1000000007 * 2069069 := by rw [e1]; exact Int.mul_le_mul (by omega) (by omega) (by omega) (by omega)
      refine ⟨_, rfl, _, rfl, _, _, rfl, rfl, .inr ⟨by decide, by decide⟩, _, _, rfl, rfl, _, _, rfl, rfl, _, _, rfl, rfl, ⟨by decide, by decide, by omega⟩, fun r1 g1 => .inl ⟨_, rfl, ?_⟩⟩
      refine ⟨_, rfl, _, rfl, .inl ⟨_, rfl, _, _, rfl, rfl, (by show (0 : Int) < 13; decide), p, _, _, _, rfl, rfl, hS, hp1, _, _, rfl, rfl, lp1, fun o o0 o1 => ?_⟩⟩
      -- two
      refine ⟨_, rfl, _, rfl, _, _, rfl, rfl, _, _, rfl, rfl, .inl ⟨by omega, by omega⟩, fun m em => ⟨_, rfl, .inl ⟨_, rfl, _, _, rfl, rfl, (by show (0 : Int) < 65537; decide), fun b b0 b1 => ?_⟩⟩⟩
      have g2 : 0 ≤ m := by rw [em]; exact Int.mul_nonneg o0 (by omega)
      have g3 : m ≤ 2147483648 * 1000003 := by rw [em]; exact Int.mul_le_mul (by omega) (by omega) (by omega) (by omega)
      refine ⟨_, _, rfl, rfl, _, _, rfl, rfl, _, _, rfl, rfl, ⟨by decide, by decide, by omega⟩, fun r2 _ => .inl ⟨_, rfl, _, rfl, _, rfl, _, _, rfl, rfl, .inl ⟨_, rfl, _, _, rfl, rfl, (by show (0 : Int) < 13; decide), p, _, _, _, rfl, rfl, hS, hp2, _, _, rfl, rfl, lp2, fun t t0 t1 => ?_⟩⟩⟩
      -- three
      refine ⟨_, rfl, _, rfl, .inl ⟨_, rfl, _, _, rfl, rfl, (by show (0 : Int) < 1009; decide), fun b2 b20 b21 => ⟨_, _, rfl, rfl, _, rfl, _, _, rfl, rfl, _, _, rfl, rfl, ⟨by decide, by decide, by omega⟩, fun r3 _ => .inl ⟨_, rfl, _, rfl, _, rfl, _, _, rfl, rfl, .inl ⟨_, rfl, _, _, rfl, rfl, (by show (0 : Int) < 13; decide), p, _, _, _, rfl, rfl, hS, hp3, _, _, rfl, rfl, lp3, fun u u0 u1 => ?_⟩⟩⟩⟩⟩
      refine ⟨_, rfl, _, _, rfl, rfl, .inr ⟨by decide, by decide⟩, fun z1 y1 => ⟨_, rfl, _, _, rfl, rfl, _, _, rfl, rfl, .inr ⟨by decide, by decide⟩, fun z2 y2 => ⟨_, rfl, _, _, rfl, rfl, ?_⟩⟩⟩
      have y1 : z1 = o * 2147483647 := y1
      have y2 : z2 = (z1 + t) * 2147483647 := y2
      exact q _ _ (by omega) S
theorem scTake : FnScope ["pen", "many", "k", "cell", "found"] ["pen", "many"] (defScope sTake) := ⟨rfl, rfl, rfl, by decide +kernel, rfl, by decide +kernel, by decide +kernel⟩
theorem at_pos {xs : List V} {n : Nat} (h : xs.length = n) (hn : 0 < n) (k : Int) : ∃ v, atI xs (k % (n : Int)) = some v ∧ v ∈ xs := by
  have h1 : 0 ≤ k % (n : Int) := Int.emod_nonneg _ (by omega)
  have h2 : k % (n : Int) < (n : Int) := Int.emod_lt_of_pos _ (by omega)
  have h3 : (k % (n : Int)).toNat < xs.length := by omega
  exact ⟨xs[(k % (n : Int)).toNat], at_of (j := (k % (n : Int)).toNat) (by omega) (by simp [h3]), List.getElem_mem h3⟩
theorem ix_pos {xs : List V} {n : Nat} (h : xs.length = n) (hn : 0 < n) (k : Int) : ixN xs.length (k % (n : Int)) = some (k % (n : Int)).toNat := by
  have h1 : 0 ≤ k % (n : Int) := Int.emod_nonneg _ (by omega)
  have h2 : k % (n : Int) < (n : Int) := Int.emod_lt_of_pos _ (by omega)
  unfold ixN
  rw [if_pos h1, if_pos (by omega)]
theorem ok_take {f fS : Addr} {fd fdS : FuncData} (F : FnP K "_law_take" sTake f fd) (T : PenTxt mg) (FS : FnP K "_law_spread" sSpread fS fdS) (gS : mg "_law_spread" = some (.ref fS)) : FnOk P w K mg base CX0 2 f fd ["pen", "many"] spTake := by
  have G_l_spread : FnOk P w K mg base CX0 1 fS fdS ["cell", "k"] spSpread := ok_spread FS T
  have b_l_spread : Binds K fdS ["cell", "k"] [] := FS.bindsN fun _ _ _ _ _ _ us hl => match us, hl with | [_, _], _ => rfl
  refine ok0 F scTake (fun vs H Q E h => ?_) (fun cdv A outer s H vs Q E hr h => ?_)
  · obtain ⟨p, c, k, many, rfl, _⟩ := h
    rfl
  · obtain ⟨p, c, k, many, rfl, ⟨cells, x, hp, hc, x0, cl⟩, m0, m1, hk, q⟩ := h
    have hr_l_spread : Room 1 _ := hr
    refine ⟨_, (C8.pss_cut (ps_if (pt_cmpR op_lt (pe_ix ix_list (pv 0) pe_int (fun _ _ => rfl)) (pv 1) (nomark _))
      (pss_cons (ps_set (i := 2) scTake.nd rfl (Or.inl rfl) (pe_ix ix_list (pv 0) pe_int (fun _ _ => rfl)))
    (pss_cons (ps_set (i := 3) scTake.nd rfl (Or.inl rfl) pe_int)
    (C8.pss_cut (ps_if (pt_cmpR op_lt (pv 2) (pe_callB (id := "len") call_len_seq (by rfl) T.len (by decide +kernel) (pa_cons (pe_ix ix_list (pv 0) pe_int (fun _ _ => rfl)) pa_nil)) (nomark _))
      (pss_one (ps_set (i := 3) scTake.nd rfl (Or.inl rfl) (pe_ix ix_list (pe_ix ix_list (pv 0) pe_int (fun _ _ => rfl)) (pv 2) (fun _ _ => rfl))))
      (pss_one (ps_if (pt_cmpR op_gt (pe_callB (id := "len") call_len_seq (by rfl) T.len (by decide +kernel) (pa_cons (pe_ix ix_list (pv 0) pe_int (fun _ _ => rfl)) pa_nil)) pe_int (nomark _))
      (pss_one (ps_set (i := 3) scTake.nd rfl (Or.inl rfl) (pe_op op_modL (pe_callTy (T := "int") call_int1 (by rfl) T.int (by decide +kernel) (pa_cons (pe_ix ix_list (pe_ix ix_list (pv 0) pe_int (fun _ _ => rfl)) (pe_op op_mod (pe_callTy (T := "int") call_int1 (by rfl) T.int (by decide +kernel) (pa_cons (pe_op op_add (pe_op op_mul (pv 2) pe_int) pe_int) pa_nil)) (pe_callB (id := "len") call_len_seq (by rfl) T.len (by decide +kernel) (pa_cons (pe_ix ix_list (pv 0) pe_int (fun _ _ => rfl)) pa_nil))) (fun _ _ => rfl)) pa_nil)) (pe_op op_add (pe_op op_pow pe_int pe_int) (pv 2)))))
      pss_nil)))
    (pss_cons (ps_asg (pe_op op_add (pv 2) pe_int) (pg_sub (pv 0) pe_int set_listL))
    (pss_one (ps_asg (pe_call G_l_spread hr_l_spread rfl gS FS.kp b_l_spread .nil pass0 (pa_cons (pv 3) (pa_cons (pv 2) pa_nil))) (pg_sub (pv 0) pe_int set_listL)))))))
      pss_nil)
    (pss_cons (ps_set (i := 4) scTake.nd rfl (Or.inl rfl) (pe_op op_modB (pe_callTy (T := "int") call_int1 (by rfl) T.int (by decide +kernel) (pa_cons (pe_ix ix_list (pv 0) pe_int (fun _ _ => rfl)) pa_nil)) (pv 1)))
    (pss_cons (ps_asg (pe_op op_fdivL (pe_ix ix_list (pv 0) pe_int (fun _ _ => rfl)) (pv 1)) (pg_sub (pv 0) pe_int set_listL))
    (pss_one (ps_ret (pv 4)))))), ?_⟩
    have ne : c ≠ p := ne_of hc hp (fun z => pen_ne z.symm)
    refine ⟨fun σ' H' => (∃ a b e, σ' = [some (.ref p), some (.int many), a, b, e]) ∧ But p H H' ∧ ∃ k', k' ≤ k + 1 ∧ Pen H' p c k', ?_, ?_⟩
    · -- if pen[2] < many:
      have hS : SqL K H p [.ref c, .int (k : Int), .int x] := SqL.of hp
      have hC : SqL K H c (cells.map V.int) := SqL.of hc
      have a0 : atI [V.ref c, .int (k : Int), .int x] 0 = some (.ref c) := rfl
      have a1 : atI [V.ref c, .int (k : Int), .int x] 1 = some (.int (k : Int)) := rfl
      have a2 : atI [V.ref c, .int (k : Int), .int x] 2 = some (.int x) := rfl
      refine ⟨_, rfl, p, _, _, _, rfl, rfl, hS, a2, _, rfl, _, _, rfl, rfl, _, rfl, ?_⟩
      refine ite2 (fun _ => ?_) (fun _ => ⟨⟨none, none, none, rfl⟩, But.refl _ _, k, Nat.le_succ _, cells, x, hp, hc, x0, cl⟩)
      refine ⟨_, rfl, p, _, _, _, rfl, rfl, hS, a1, ?_⟩
      refine ⟨fun σ' H' => H' = H ∧ ∃ cell : Int, σ' = [some (.ref p), some (.int many), some (.int (k : Int)), some (.int cell), none], ?_, ?_⟩
      · refine ⟨_, rfl, _, rfl, p, _, _, _, rfl, rfl, hS, a0, c, _, rfl, .inl hC, _, _, rfl, rfl, _, rfl, ?_⟩
        refine ite2 (fun e => ?_) (fun _ => ?_)
        · have e := of_decide_eq_true e
          have e1 : k < (cells.map V.int).length := by omega
          have e2 : k < cells.length := by rw [List.length_map] at e1; exact e1
          refine ⟨_, rfl, p, _, _, _, rfl, rfl, hS, a0, _, rfl, c, _, _, _, rfl, rfl, hC, at_of (j := k) rfl (by rw [List.getElem?_map, List.getElem?_eq_getElem e2]; rfl), rfl, cells[k], rfl⟩
        · refine ⟨_, rfl, p, _, _, _, rfl, rfl, hS, a0, c, _, rfl, .inl hC, _, _, rfl, rfl, _, rfl, ?_⟩
          refine ite2 (fun e => ?_) (fun _ => ⟨rfl, 0, rfl⟩)
          have e := of_decide_eq_true e
          have e1 : 0 < (cells.map V.int).length := by omega
          obtain ⟨v, h1, h2⟩ := at_pos (n := (cells.map V.int).length) rfl e1 ((k : Int) * 5 + 3)
          obtain ⟨z, hz, rfl⟩ := List.mem_map.mp h2
          refine ⟨_, rfl, p, _, _, _, rfl, rfl, hS, a0, _, rfl, _, _, rfl, rfl, .inr ⟨by decide, by decide⟩, _, _, rfl, rfl, .inl ⟨_, rfl, _, rfl, p, _, _, _, rfl, rfl, hS, a0, c, _, rfl, .inl hC, _, _, rfl, rfl, by omega, c, _, _, _, rfl, rfl, hC, h1, .inl ⟨_, rfl, _, _, rfl, rfl, ⟨by decide, by decide, by decide⟩, _, rfl, _, _, rfl, rfl, _, _, rfl, rfl, ?_, fun r _ => ⟨rfl, r, rfl⟩⟩⟩⟩
          show (0 : Int) < 10 ^ Int.toNat 17 + (k : Int)
          have : (0 : Int) < 10 ^ Int.toNat 17 := by decide
          omega
      · rintro σ' H' ⟨rfl, cell, rfl⟩
        refine ⟨_, rfl, _, _, rfl, rfl, _, rfl, p, _, 1, 1, rfl, rfl, hp, rfl, fun H1 B1 h1 => ⟨_, rfl, _, rfl, cell, k, rfl, hk, fun r H2 r0 s2 => ⟨_, rfl, p, _, 2, 2, rfl, rfl, s2 _ _ h1, rfl, fun H3 B3 h3 => ?_⟩⟩⟩
        exact ⟨⟨_, _, _, rfl⟩, (B1.trans (sameBut s2)).trans B3, k + 1, Nat.le_refl _, cells, r, h3, B3 _ _ ne (s2 _ _ (B1 _ _ ne hc)), r0, cl⟩
    · rintro σ' H' ⟨⟨a, b, e, rfl⟩, B, k', hk', cells', x', hp', hc', x0', cl'⟩
      have hS : SqL K H' p [.ref c, .int (k' : Int), .int x'] := SqL.of hp'
      have ne' : c ≠ p := ne
      refine ⟨_, rfl, p, _, _, _, rfl, rfl, hS, (show atI [V.ref c, .int (k' : Int), .int x'] 2 = some (.int x') from rfl), .inl ⟨_, rfl, _, rfl, _, _, rfl, rfl, m0, fun r r0 r1 => ?_⟩⟩
      refine ⟨_, rfl, p, _, _, _, rfl, rfl, hS, (show atI [V.ref c, .int (k' : Int), .int x'] 2 = some (.int x') from rfl), _, rfl, _, _, rfl, rfl, ⟨m0, m1⟩, fun d ed => ⟨_, rfl, p, _, 2, 2, rfl, rfl, hp', rfl, fun H2 B2 h2 => ⟨_, rfl, ?_⟩⟩⟩
      have d0 : 0 ≤ d := by rw [ed]; exact Int.ediv_nonneg x0' (by omega)
      exact q r H2 k' r0 r1 (B.trans B2) hk' ⟨cells', d, h2, B2 _ _ ne' hc', d0, cl'⟩
theorem scOneOf : FnScope ["pen", "some"] ["pen", "some"] (defScope sOneOf) := ⟨rfl, rfl, rfl, by decide +kernel, rfl, by decide +kernel, by decide +kernel⟩
theorem SqL.but {p a : Addr} {H H' : Hp} {xs : List V} (h : SqL K H a xs) (n : a ≠ p) (B : But p H H') : SqL K H' a xs := by
  rcases h with (h | ⟨o, h⟩) | h
  · exact .inl (.inl (B _ _ n h))
  · exact .inl (.inr ⟨o, B _ _ n h⟩)
  · exact .inr h
theorem ok_oneOf {f fT : Addr} {fd fdT : FuncData} (F : FnP K "_law_one_of" sOneOf f fd) (T : PenTxt mg) (FT : FnP K "_law_take" sTake fT fdT) (GT : FnOk P w K mg base CX0 2 fT fdT ["pen", "many"] spTake) (gT : mg "_law_take" = some (.ref fT)) : FnOk P w K mg base CX0 3 f fd ["pen", "some"] (spOneOf K) := by
  have bT : Binds K fdT ["pen", "many"] [] := FT.bindsN fun _ _ _ _ _ _ us hl => match us, hl with | [_, _], _ => rfl
  refine ok0 F scOneOf (fun vs H Q E h => ?_) (fun cdv A outer s H vs Q E hr h => ?_)
  · obtain ⟨p, c, a, k, xs, rfl, _⟩ := h
    rfl
  · obtain ⟨p, c, a, k, xs, rfl, hp, ha, na, x0, x1, hk, q⟩ := h
    refine ⟨_, (pss_one (ps_ret (pe_ix ix_list (pv 1) (pe_call GT hr rfl gT FT.kp bT .nil pass0 (pa_cons (pv 0) (pa_cons (pe_callB call_len_seq (by rfl) T.len (by decide +kernel) (pa_cons (pv 1) pa_nil)) pa_nil))) (fun _ _ => rfl)))), ?_⟩
    refine ⟨_, rfl, _, rfl, _, rfl, a, _, rfl, .inl ha, p, c, k, _, rfl, hp, by omega, by omega, hk, fun r H' k' r0 r1 B hk' hp' => ?_⟩
    have hi : r.toNat < xs.length := by omega
    refine ⟨a, xs, _, xs[r.toNat], rfl, rfl, SqL.but ha na B, at_of (j := r.toNat) (by omega) (by simp [hi]), ?_⟩
    exact q r.toNat _ H' k' (by simp [hi]) B hk' hp'
theorem scOpen : FnScope ["script", "cells", "k", "cell"] ["script"] (defScope sOpen) := ⟨rfl, rfl, rfl, by decide +kernel, rfl, by decide +kernel, by decide +kernel⟩
theorem ok_open {f : Addr} {fd : FuncData} (F : FnP K "_law_open" sOpen f fd) (T : PenTxt mg) : FnOk P w K mg base CX0 1 f fd ["script"] (spOpen K) := by
  refine ok0 F scOpen (fun vs H Q E h => ?_) (fun cdv A outer s H vs Q E hr h => ?_)
  · obtain ⟨a, ns, rfl, _⟩ := h
    rfl
  · obtain ⟨a, ns, rfl, hS, hl, q⟩ := h
    refine ⟨_, (pss_cons (ps_set (i := 1) scOpen.nd rfl (Or.inl rfl) (pe_callTy (T := "list") call_list_ofL (by rfl) T.list (by decide +kernel) (pa_cons (pe_slice sl_listL (pv 0) po_none (po_some pe_int)) pa_nil)))
    (pss_cons (ps_for PassesOwn.never rfl (pi_enum (by rfl) T.enumerate (pa_cons (pe_slice sl_listL (pv 0) (po_some pe_int) (po_some pe_int)) pa_nil)) (pg_tup (by rfl) (pgs_cons (pg_name (i := 2) scOpen.nd rfl (Or.inl rfl)) (pgs_cons (pg_name (i := 3) scOpen.nd rfl (Or.inl rfl)) pgs_nil)))
      (pss_one (ps_asg (pe_op op_add (pe_ix ix_list (pv 1) (pe_op op_mod (pe_callTy (T := "int") call_int1 (by rfl) T.int (by decide +kernel) (pa_cons (pv 2) pa_nil)) pe_int) (fun _ _ => rfl)) (pv 3)) (pg_sub (pv 1) (pe_op op_mod (pe_callTy (T := "int") call_int1 (by rfl) T.int (by decide +kernel) (pa_cons (pv 2) pa_nil)) pe_int) set_listL))))
    (pss_one (ps_ret (pe_lstL (pa_cons (pv 1) (pa_cons pe_int (pa_cons pe_int pa_nil)))))))), ?_⟩
    refine ⟨_, rfl, 12, rfl, a, _, rfl, hS, fun l1 H1 n1 s1 h1 => ⟨l1, _, rfl, .inl (SqL.of h1), fun c H2 n2 s2 h2 => ?_⟩⟩
    refine ⟨_, rfl, 12, rfl, 63, rfl, a, _, rfl, (s1.trans s2).seq hS, fun l3 H3 n3 s3 h3 => ?_⟩
    -- for k, cell in enumerate(script[12:63]): cells[int(k) % 12] = cells[int(k) % 12] + cell
    have e1 : cutV (ns.map V.int) none (some 12) = (ns.take 12).map V.int := by
      unfold cutV
      rw [HT.sIx_none, show ((12 : Int)) = ((12 : Nat) : Int) from rfl, HT.sIx_nat, List.drop_zero, List.map_take, List.length_map]
      rw [Nat.sub_zero]
      by_cases h : 12 ≤ ns.length
      · rw [Nat.min_eq_left h]
      · rw [Nat.min_eq_right (by omega), List.take_of_length_le (by simp), List.take_of_length_le (by simp; omega)]
    have e2 : (cutV (ns.map V.int) (some 12) (some 63)).length ≤ ns.length - 12 := by
      unfold cutV
      rw [List.length_take, List.length_drop, show ((12 : Int)) = ((12 : Nat) : Int) from rfl, HT.sIx_nat, List.length_map]
      omega
    have e3 : ∀ y ∈ cutV (ns.map V.int) (some 12) (some 63), ∃ z : Int, y = .int z := fun y hy => by
      have hy := List.mem_of_mem_drop (List.mem_of_mem_take hy)
      obtain ⟨z, _, rfl⟩ := List.mem_map.mp hy
      exact ⟨z, rfl⟩
    rw [e1] at h2
    generalize hX : cutV (ns.map V.int) (some 12) (some 63) = xs3 at h3 e2 e3
    have n3c : l3 ≠ c := (ne_of_none h2 n3).symm
    have hL3 : SqL K H3 l3 xs3 := SqL.of h3
    refine ⟨l3, xs3, rfl, SqL.of h3, for_it walk_enum (fun i σ H' => ∃ (u v : Option V) (cells : List Int), σ = [some (.ref a), some (.ref c), u, v] ∧ H' c = some (.lst (cells.map V.int)) ∧ cells.length = (ns.take 12).length ∧ But c H3 H')
      ⟨none, none, ns.take 12, rfl, s3 _ _ h2, rfl, But.refl _ _⟩ (fun i σ H' _ ⟨_, _, _, _, _, _, B⟩ => SqL.but hL3 n3c B) ?_ ?_⟩
    · rintro i x σ H' H'' hi ⟨u, v, cells, rfl, hc, hn, B⟩ ⟨t, y1, y2, rfl, nt, rfl, hx, hy⟩
      cases hx
      obtain ⟨z, rfl⟩ := e3 y2 (List.mem_of_getElem? hy)
      have hn : cells.length = 12 := by
        rw [hn, List.length_take]
        omega
      have ntc : c ≠ t := ne_of_none hc nt
      have S4 : Same H' (upd H' t (.tup [V.int (i : Nat), .int z])) := same_upd nt
      refine ⟨t, _, rfl, .inl (.inl upd_same), rfl, ?_⟩
      obtain ⟨v, h1, h2'⟩ := at_pos (n := 12) (xs := cells.map V.int) (by rw [List.length_map]; exact hn) (by decide) (i : Int)
      obtain ⟨z', _, rfl⟩ := List.mem_map.mp h2'
      refine ⟨_, _, rfl, _, _, rfl, rfl, _, rfl, _, rfl, .inl ⟨_, rfl, _, _, rfl, rfl, (by show (0 : Int) < 12; decide), c, _, _, _, rfl, rfl, SqL.of (S4 _ _ hc), h1, _, rfl, _, _, rfl, rfl, _, rfl, _, rfl, .inl ⟨_, rfl, _, _, rfl, rfl, (by show (0 : Int) < 12; decide), c, _, _, _, rfl, rfl, S4 _ _ hc, (ix_pos (n := 12) (by rw [List.length_map]; exact hn) (by decide) (i : Int)), fun H5 B5 h5 => ?_⟩⟩⟩
      refine ⟨_, _, cells.set ((i : Int) % 12).toNat (z' + z), rfl, ?_, by rw [List.length_set, hn, List.length_take]; omega, (B.trans (sameBut S4)).trans B5⟩
      rw [h5, List.map_set]
      rfl
    · rintro σ H' ⟨u, v, cells, rfl, hc, hn, B⟩
      refine ⟨_, rfl, by show 3 ≤ sizeLine; decide, fun p H5 n5 s5 h5 => ?_⟩
      have S0 : Same H H3 := (s1.trans s2).trans s3
      have S1 : Same H H' := fun b o e => by
        have nb : b ≠ c := ne_of_none e (s1.free n2)
        exact B b o nb (S0 b o e)
      refine q p c H5 (S1.trans s5) (S1.free n5) (s1.free n2) ⟨cells, 0, h5, s5 _ _ hc, Int.le_refl 0, ?_⟩
      rw [hn, List.length_take]
      omega
end
end Sb

/-! ## D42 -/
/-! The program's defs over webs: rows, steps, is_web. -/
namespace Sb
open PySem PySem.Spec PyProof.Rows L2
abbrev sWhole : Stmt := top 11
abbrev sRows : Stmt := top 12
abbrev sSteps : Stmt := top 13
section
variable {X : Cx}
def rAppN : V → List V → Hp → VK → Prop := fun x vs H Q => ∃ l xs y, x = .ref l ∧ vs = [y] ∧ H l = some (.lst xs) ∧ xs.length < sizeLine ∧ ∀ H', But l H H' → H' l = some (.lst (xs ++ [y])) → Q .non H'
theorem mt_appendL : MtM X "list.append" rAppN := by
  intro pins s σ H x vs v us Q I rx rv h
  obtain ⟨l, xs, y, a1, a2, a3, a4, q⟩ := h
  exact mt_append pins s σ H x vs v us Q I rx rv ⟨l, xs, y, a1, a2, a3, a4, q _ but_upd upd_same⟩
end
theorem same_but {H0 H H' : Hp} {p : Addr} (s : Same H0 H) (n : H0 p = none) (b : But p H H') : Same H0 H' := fun c o h => b c o (ne_of_none h n) (s c o h)
theorem sqT_same {K : PySem.W.Frag} {H H' : Hp} {a : Addr} {xs : List V} (e : Same H H') (h : SqT K H a xs) : SqT K H' a xs := by
  rcases h with (h | ⟨o, h⟩) | h
  · exact .inl (.inl (e _ _ h))
  · exact .inl (.inr ⟨o, e _ _ h⟩)
  · exact .inr h
/-! ### rows of lists -/
def app (rss : List (List Int)) (i : Nat) (x : Int) : List (List Int) := rss.set i (rss.getD i [] ++ [x])
theorem app_len (rss : List (List Int)) (i : Nat) (x : Int) : (app rss i x).length = rss.length := List.length_set
theorem setD_self {α : Type} {l : List α} {i : Nat} {x d : α} (h : i < l.length) : (l.set i x).getD i d = x := by
  rw [List.getD_eq_getElem?_getD, List.getElem?_set_self h]
  rfl
theorem setD_ne {α : Type} {l : List α} {i j : Nat} {x d : α} (h : i ≠ j) : (l.set i x).getD j d = l.getD j d := by
  rw [List.getD_eq_getElem?_getD, List.getElem?_set_ne h, ← List.getD_eq_getElem?_getD]
structure RowsL (H : Hp) (l : Addr) (ps : List Addr) (rss : List (List Int)) : Prop where
  at_ : H l = some (.lst (ps.map V.ref))
  len : ps.length = rss.length
  nd : ps.Nodup
  out : l ∉ ps
  row : ∀ (i : Nat) (p : Addr), ps[i]? = some p → H p = some (.lst ((rss.getD i []).map V.int))
theorem RowsL.same {H H' : Hp} {l : Addr} {ps : List Addr} {rss : List (List Int)} (h : RowsL H l ps rss) (s : Same H H') : RowsL H' l ps rss := ⟨s _ _ h.at_, h.len, h.nd, h.out, fun i p e => s _ _ (h.row i p e)⟩
theorem RowsL.app {H H' : Hp} {l p : Addr} {ps : List Addr} {rss : List (List Int)} {i : Nat} {x : Int} (h : RowsL H l ps rss) (hi : ps[i]? = some p) (b : But p H H') (hp : H' p = some (.lst ((rss.getD i [] ++ [x]).map V.int))) : RowsL H' l ps (app rss i x) := by
  have hl : i < rss.length := by
    rw [← h.len]
    exact (List.getElem?_eq_some_iff.mp hi).1
  refine ⟨b _ _ (fun z => h.out (by rw [z]; exact List.mem_of_getElem? hi)) h.at_, by rw [app_len]; exact h.len, h.nd, h.out, fun j q e => ?_⟩
  by_cases hj : j = i
  · subst hj
    rw [hi] at e
    cases e
    rw [hp]
    unfold Sb.app
    rw [setD_self hl]
  · have hq : q ≠ p := fun z => hj (by rw [z] at e; exact nd_ix h.nd e hi)
    rw [b _ _ hq (h.row j q e)]
    unfold Sb.app
    rw [setD_ne (Ne.symm hj)]
theorem RowsL.get {H : Hp} {l : Addr} {ps : List Addr} {rss : List (List Int)} (h : RowsL H l ps rss) {i : Int} (h0 : 0 ≤ i) (h1 : i < (rss.length : Int)) : ∃ p, ps[i.toNat]? = some p ∧ atI (ps.map V.ref) i = some (.ref p) := by
  have hl : i.toNat < ps.length := by rw [h.len]; omega
  exact ⟨ps[i.toNat], by simp [hl], at_of (j := i.toNat) (by omega) (by simp [hl])⟩
/-- the tuple of ties -/
def Ties (K : PySem.W.Frag) (H : Hp) (t : Addr) (ts : List (Int × Int)) : Prop := ∃ qs : List Addr, SqT K H t (qs.map V.ref) ∧ qs.length = ts.length ∧ ∀ (i : Nat) (q : Addr) (a b : Int), qs[i]? = some q → ts[i]? = some (a, b) → SqT K H q [.int a, .int b]
theorem Ties.same {K : PySem.W.Frag} {H H' : Hp} {t : Addr} {ts : List (Int × Int)} (h : Ties K H t ts) (s : Same H H') : Ties K H' t ts := by
  obtain ⟨qs, h1, h2, h3⟩ := h
  exact ⟨qs, sqT_same s h1, h2, fun i q a b e1 e2 => sqT_same s (h3 i q a b e1 e2)⟩
/-- a web as it stands: its n, its ties -/
def WebAt (K : PySem.W.Frag) (H : Hp) (v : V) (n : Int) (ts : List (Int × Int)) : Prop := ∃ a t, v = .ref a ∧ SqT K H a [.int n, .ref t] ∧ Ties K H t ts
theorem WebAt.same {K : PySem.W.Frag} {H H' : Hp} {v : V} {n : Int} {ts : List (Int × Int)} (h : WebAt K H v n ts) (s : Same H H') : WebAt K H' v n ts := by
  obtain ⟨a, t, e, h1, h2⟩ := h
  exact ⟨a, t, e, sqT_same s h1, h2.same s⟩
def tieIn (n : Int) (t : Int × Int) : Prop := 0 ≤ t.1 ∧ t.1 < n ∧ 0 ≤ t.2 ∧ t.2 < n
def addTie (r : List (List Int)) (t : Int × Int) : List (List Int) := app (app r t.1.toNat t.2) t.2.toNat t.1
def rowsOf (n : Nat) (ts : List (Int × Int)) : List (List Int) := ts.foldl addTie (List.replicate n [])
theorem fold_len : ∀ (ts : List (Int × Int)) (r : List (List Int)), (ts.foldl addTie r).length = r.length
  | [], _ => rfl
  | t :: ts, r => by
    rw [List.foldl_cons, fold_len ts]
    unfold addTie
    rw [app_len, app_len]
theorem rowsOf_len (n : Nat) (ts : List (Int × Int)) : (rowsOf n ts).length = n := by
  unfold rowsOf
  rw [fold_len, List.length_replicate]
theorem take_more {α : Type} : ∀ {l : List α} {i : Nat} {x : α}, l[i]? = some x → l.take (i + 1) = l.take i ++ [x]
  | [], i, x, h => by simp at h
  | a :: l, 0, x, h => by
    have e : a = x := Option.some.inj h
    subst e
    rfl
  | a :: l, i + 1, x, h => by
    have ih := take_more (l := l) (i := i) (x := x) h
    show a :: l.take (i + 1) = a :: l.take i ++ [x]
    rw [ih]
    rfl
theorem rowsOf_more {n : Nat} {ts : List (Int × Int)} {i : Nat} {t : Int × Int} (h : ts[i]? = some t) : rowsOf n (ts.take (i + 1)) = addTie (rowsOf n (ts.take i)) t := by
  unfold rowsOf
  rw [take_more h, List.foldl_append]
  rfl
theorem app_small {r : List (List Int)} {m i : Nat} {x : Int} (h : ∀ k, (r.getD k []).length ≤ m) (k : Nat) : ((app r i x).getD k []).length ≤ m + 1 := by
  unfold app
  by_cases hk : i = k
  · subst hk
    by_cases hl : i < r.length
    · rw [setD_self hl, List.length_append, List.length_singleton]
      exact Nat.succ_le_succ (h i)
    · rw [List.getD_eq_getElem?_getD, List.getElem?_eq_none (by rw [List.length_set]; omega)]
      exact Nat.zero_le _
  · rw [setD_ne hk]
    exact Nat.le_succ_of_le (h k)
theorem rowsOf_small (n : Nat) (ts : List (Int × Int)) : ∀ (i k : Nat), ((rowsOf n (ts.take i)).getD k []).length ≤ 2 * i
  | 0, k => by
    rw [List.take_zero]
    unfold rowsOf
    rw [List.foldl_nil, List.getD_eq_getElem?_getD, List.getElem?_replicate]
    split <;> exact Nat.le_refl 0
  | i + 1, k => by
    cases h : ts[i]? with
    | none =>
      have e : ts.length ≤ i := List.getElem?_eq_none_iff.mp h
      have z := rowsOf_small n ts i k
      rw [List.take_of_length_le e] at z
      rw [List.take_of_length_le (by omega)]
      omega
    | some t =>
      rw [rowsOf_more h]
      unfold addTie
      exact app_small (app_small fun k => rowsOf_small n ts i k) k
def spRows (K : PySem.W.Frag) : Sp := fun vs H Q _ => ∃ (v : V) (n : Nat) (ts : List (Int × Int)), vs = [v] ∧ WebAt K H v n ts ∧ n ≤ 1000 ∧ ts.length ≤ 100000 ∧ (∀ t ∈ ts, tieIn n t) ∧ ∀ l ps H', Same H H' → H l = none → (∀ p ∈ ps, H p = none) → RowsL H' l ps (rowsOf n ts) → Q (.ref l) H'
structure WebTxt (mg : Str → Option Value) : Prop where
  len : mg "len" = none
  range : mg "range" = none
  isinstance : mg "isinstance" = none
  int : mg "int" = none
  bool : mg "bool" = none
  tuple : mg "tuple" = none
  all : mg "all" = none
  min : mg "min" = none
section
variable {P : Program} {w : World} {K : PySem.W.Frag} {mg : Str → Option Value} {base : Heap}
abbrev scRowsN : List Str := ["web", "n", "ties", "rows", "a", "b", "_"]
abbrev scRowsS : Scope := defScope sRows
theorem scRows : FnScope ["web", "n", "ties", "rows", "a", "b", "_"] ["web"] (defScope sRows) := ⟨rfl, rfl, rfl, by decide +kernel, rfl, by decide +kernel, by decide +kernel⟩
theorem ok_rows {f : Addr} {fd : FuncData} (F : FnP K "rows_of" sRows f fd) (T : WebTxt mg) : FnOk P w K mg base CX0 1 f fd ["web"] (spRows K) := by
  refine ok0 F scRows (fun vs H Q E h => ?_) (fun cdv A outer s H vs Q E hr h => ?_)
  · obtain ⟨v, n, ts, rfl, _⟩ := h
    rfl
  · obtain ⟨v, n, ts, rfl, ⟨wa, wt, rfl, hw, hT⟩, hn, htl, hts, q⟩ := h
    refine ⟨_, (pss_cons (ps_asg (pv 0) (pg_tup (by rfl) (pgs_cons (pg_name (i := 1) scRows.nd rfl (Or.inl rfl)) (pgs_cons (pg_name (i := 2) scRows.nd rfl (Or.inl rfl)) pgs_nil))))
    (pss_cons (ps_setLc (i := 3) (own := [("_", 6)]) (g := gName 6) (by rfl) scRows.nd rfl rfl (sw_true rfl rfl rfl (by decide +kernel)) (pi_range1 (by rfl) T.range (pa_cons (pv 1) pa_nil)) (blkOk_by (own := [("_", 6)]) (N := scRowsN) (sc := scRowsS) (by decide +kernel)) (fun _ _ _ _ _ => pg_name (i := 6) scRows.nd rfl (Or.inl rfl)) (fun _ _ _ _ _ => pts_nil) (fun _ _ _ _ _ => (pe_lstL pa_nil)))
    (pss_cons (ps_for PassesOwn.never rfl (pi_tup (pv 2)) (pg_tup (by rfl) (pgs_cons (pg_name (i := 4) scRows.nd rfl (Or.inl rfl)) (pgs_cons (pg_name (i := 5) scRows.nd rfl (Or.inl rfl)) pgs_nil)))
      (pss_cons (ps_expr (pe_bm PySem.F.plainAttrs_list PySem.F.slot_list_append PySem.F.type_list_append mt_appendL (pe_ix ix_list (pv 3) (pv 4) (fun _ _ => rfl)) (pa_cons (pv 5) pa_nil)))
    (pss_one (ps_expr (pe_bm PySem.F.plainAttrs_list PySem.F.slot_list_append PySem.F.type_list_append mt_appendL (pe_ix ix_list (pv 3) (pv 5) (fun _ _ => rfl)) (pa_cons (pv 4) pa_nil))))))
    (pss_one (ps_ret (pv 3)))))), ?_⟩
    refine ⟨_, rfl, wa, _, rfl, hw, rfl, _, _, rfl, _, _, rfl, rfl, ?_⟩
    refine ⟨_, rfl, n, rfl, by omega, by omega, fun D hD => lc_range (lo := 0) (n := (n : Int).toNat) (fun i H' => ∃ ps : List Addr, Same H H' ∧ H' D = some (.lst (ps.map V.ref)) ∧ ps.length = i ∧ ps.Nodup ∧ ∀ p ∈ ps, H p = none ∧ p ≠ D ∧ H' p = some (.lst []))
      ⟨[], same_upd hD, upd_same, rfl, List.nodup_nil, fun p hp => by cases hp⟩ ?_ ?_⟩
    · rintro i H' hi ⟨ps, S, e, hl, nd, hp⟩
      refine ⟨rfl, by show 0 ≤ sizeLine; decide, fun p H2 n2 s2 h2 => ⟨ps.map V.ref, s2 _ _ e, by rw [List.length_map, hl]; exact small1000 (by omega), ps ++ [p], fun b o hb => by rw [upd_ne (ne_of_none hb hD)]; exact s2 _ _ (S _ _ hb), by rw [upd_same, List.map_append]; rfl, by rw [List.length_append, hl]; rfl, ?_, fun p' hp' => ?_⟩⟩
      · refine List.nodup_append.mpr ⟨nd, by simp, fun a ha b hb => ?_⟩
        rw [List.mem_singleton.mp hb]
        exact ne_of_none (hp a ha).2.2 n2
      · have nDp : p ≠ D := (ne_of_none e n2).symm
        rcases List.mem_append.mp hp' with h | h
        · obtain ⟨h1, h3, h4⟩ := hp p' h
          exact ⟨h1, h3, by rw [upd_ne h3]; exact s2 _ _ h4⟩
        · rw [List.mem_singleton.mp h]
          exact ⟨S.free n2, nDp, by rw [upd_ne nDp]; exact h2⟩
    rintro H1 ⟨ps, S, e, hl, nd, hp⟩
    have hl : ps.length = n := by rw [hl]; omega
    have nDp : D ∉ ps := fun z => (hp D z).2.1 rfl
    have R0 : RowsL H1 D ps (rowsOf n []) := ⟨e, by rw [hl, rowsOf_len], nd, nDp, fun i p hi => by
      rw [(hp p (List.mem_of_getElem? hi)).2.2]
      have z : (rowsOf n []).getD i [] = [] := by
        unfold rowsOf
        rw [List.foldl_nil, List.getD_eq_getElem?_getD, List.getElem?_replicate]
        split <;> rfl
      rw [z]
      rfl⟩
    obtain ⟨qs, hq1, hq2, hq3⟩ := hT
    refine ⟨_, rfl, wt, rfl, ⟨_, sqT_same S hq1⟩, for_tup (K := K) (a := wt) (xs := qs.map V.ref) (fun i σ H' => (∃ u v x, σ = [some (.ref wa), some (.int n), some (.ref wt), some (.ref D), u, v, x]) ∧ Same H H' ∧ RowsL H' D ps (rowsOf n (ts.take i))) ⟨⟨none, none, none, rfl⟩, S, by rw [List.take_zero]; exact R0⟩ (fun i σ H' _ ⟨_, S', _⟩ => sqT_same S' hq1) ?_ ?_⟩
    · rintro i y σ H' hi ⟨⟨u, v, x, rfl⟩, S', R⟩
      rw [List.getElem?_map] at hi
      obtain ⟨qa, hqa, rfl⟩ : ∃ qa, qs[i]? = some qa ∧ y = V.ref qa := by
        cases eq : qs[i]? with
        | none => rw [eq] at hi; cases hi
        | some z => rw [eq] at hi; exact ⟨z, rfl, (Option.some.inj hi).symm⟩
      have hit : i < ts.length := by rw [← hq2]; exact (List.getElem?_eq_some_iff.mp hqa).1
      obtain ⟨a, b, hab⟩ : ∃ a b, ts[i]? = some (a, b) := ⟨(ts[i]).1, (ts[i]).2, List.getElem?_eq_getElem hit⟩
      obtain ⟨ha0, ha1, hb0, hb1⟩ := hts (a, b) (List.mem_of_getElem? hab)
      have hqt := sqT_same S' (hq3 i qa a b hqa hab)
      have L0 : (rowsOf n (ts.take i)).length = n := rowsOf_len _ _
      obtain ⟨pa, ga, xa⟩ := R.get (i := a) ha0 (by rw [L0]; exact ha1)
      have len1 : ∀ (k : Nat), ((rowsOf n (ts.take i)).getD k []).length ≤ 2 * i := fun k => rowsOf_small n ts i k
      have hi1 : i < 100000 := by omega
      refine ⟨qa, _, rfl, hqt, rfl, _, _, rfl, _, _, rfl, rfl, ?_⟩
      -- rows[a].append(b)
      refine ⟨_, rfl, _, rfl, D, _, _, _, rfl, rfl, SqL.of R.at_, xa, .inl ⟨rfl, _, SqL.of (R.row _ _ ga)⟩, _, rfl, pa, _, _, rfl, rfl, R.row _ _ ga, by rw [List.length_map]; exact Nat.lt_of_le_of_lt (len1 _) (by rw [sizeLine_eq]; omega), fun H2 B2 h2 => ?_⟩
      have R2 : RowsL H2 D ps (app (rowsOf n (ts.take i)) a.toNat b) := R.app ga B2 (by rw [h2, List.map_append]; rfl)
      have S2 : Same H H2 := same_but S' (hp pa (List.mem_of_getElem? ga)).1 B2
      have L2 : (app (rowsOf n (ts.take i)) a.toNat b).length = n := by rw [app_len]; exact L0
      obtain ⟨pb, gb, xb⟩ := R2.get (i := b) hb0 (by rw [L2]; exact hb1)
      have len2 : ((app (rowsOf n (ts.take i)) a.toNat b).getD b.toNat []).length ≤ 2 * i + 1 := app_small len1 _
      refine ⟨_, rfl, _, rfl, D, _, _, _, rfl, rfl, SqL.of R2.at_, xb, .inl ⟨rfl, _, SqL.of (R2.row _ _ gb)⟩, _, rfl, pb, _, _, rfl, rfl, R2.row _ _ gb, by rw [List.length_map]; exact Nat.lt_of_le_of_lt len2 (by rw [sizeLine_eq]; omega), fun H3 B3 h3 => ?_⟩
      refine ⟨⟨_, _, _, rfl⟩, same_but S2 (hp pb (List.mem_of_getElem? gb)).1 B3, ?_⟩
      rw [rowsOf_more hab]
      exact R2.app gb B3 (by rw [h3, List.map_append]; rfl)
    · rintro σ H' ⟨⟨u, v, x, rfl⟩, S', R⟩
      rw [List.length_map, hq2, List.take_length] at R
      exact ⟨_, rfl, q D ps H' S' hD (fun p h => (hp p h).1) R⟩
end
/-! ### steps -/
def bstep (bay : Nat) (st : List Int × List Int) (near : Int) : List Int × List Int := if st.1.getD near.toNat 0 < 0 then (st.1.set near.toNat (st.1.getD bay 0 + 1), st.2 ++ [near]) else st
def brow (rss : List (List Int)) (st : List Int × List Int) (bay : Int) : List Int × List Int := (rss.getD bay.toNat []).foldl (bstep bay.toNat) st
def level (rss : List (List Int)) (away front : List Int) : List Int × List Int := front.foldl (brow rss) (away, [])
def bfs (rss : List (List Int)) : Nat → List Int → List Int → List Int
  | 0, away, _ => away
  | k + 1, away, front => if front = [] then away else bfs rss k (level rss away front).1 (level rss away front).2
def stepsOf (rss : List (List Int)) (s : Nat) : List Int := bfs rss (2 * rss.length + 1) ((List.replicate rss.length (-1)).set s 0) [(s : Int)]
def neg (away : List Int) : Nat := away.countP fun z => decide (z < 0)
theorem neg_set : ∀ {l : List Int} {i : Nat} {x : Int}, i < l.length → l.getD i 0 < 0 → 0 ≤ x → neg (l.set i x) + 1 = neg l
  | [], i, x, h, _, _ => by simp at h
  | a :: r, 0, x, _, h, hx => by
    have h : a < 0 := h
    show neg (x :: r) + 1 = neg (a :: r)
    unfold neg
    rw [List.countP_cons_of_neg (by simpa using hx), List.countP_cons_of_pos (by simpa using h)]
  | a :: r, i + 1, x, hi, h, hx => by
    have ih := neg_set (l := r) (i := i) (x := x) (Nat.lt_of_succ_lt_succ hi) h hx
    show neg (a :: r.set i x) + 1 = neg (a :: r)
    unfold neg at ih ⊢
    rw [List.countP_cons, List.countP_cons]
    omega
/-- what holds of the pair within a level: n bays, all entries at least -1, the found ones bays -/
structure BOk (n m : Nat) (st : List Int × List Int) : Prop where
  len : st.1.length = n
  low : ∀ z ∈ st.1, -1 ≤ z
  rng : ∀ z ∈ st.2, 0 ≤ z ∧ z < (n : Int)
  mes : neg st.1 + st.2.length ≤ m
theorem getD_low {l : List Int} (h : ∀ z ∈ l, -1 ≤ z) (i : Nat) : -1 ≤ l.getD i 0 := by
  rw [List.getD_eq_getElem?_getD]
  cases e : l[i]? with
  | none => decide
  | some z => exact h z (List.mem_of_getElem? e)
theorem bstep_ok {n m bay : Nat} {st : List Int × List Int} {near : Int} (h : BOk n m st) (h0 : 0 ≤ near) (h1 : near < (n : Int)) : BOk n m (bstep bay st near) := by
  unfold bstep
  split
  · rename_i hc
    have hl : near.toNat < st.1.length := by rw [h.len]; omega
    have hx : 0 ≤ st.1.getD bay 0 + 1 := by have := getD_low h.low bay; omega
    refine ⟨by rw [List.length_set]; exact h.len, fun z hz => ?_, fun z hz => ?_, ?_⟩
    · rcases List.mem_or_eq_of_mem_set hz with q | q
      · exact h.low z q
      · omega
    · rcases List.mem_append.mp hz with q | q
      · exact h.rng z q
      · rw [List.mem_singleton.mp q]
        exact ⟨h0, h1⟩
    · have e := neg_set (l := st.1) (x := st.1.getD bay 0 + 1) hl hc hx
      have z := h.mes
      show neg (st.1.set near.toNat (st.1.getD bay 0 + 1)) + (st.2 ++ [near]).length ≤ m
      rw [List.length_append, List.length_singleton]
      omega
  · exact h
theorem fold_ok {n m bay : Nat} : ∀ {l : List Int} {st : List Int × List Int}, (∀ z ∈ l, 0 ≤ z ∧ z < (n : Int)) → BOk n m st → BOk n m (l.foldl (bstep bay) st)
  | [], _, _, h => h
  | x :: r, st, hl, h => fold_ok (l := r) (fun z hz => hl z (List.mem_cons_of_mem _ hz)) (bstep_ok h (hl x List.mem_cons_self).1 (hl x List.mem_cons_self).2)
def RowsIn (n : Nat) (rss : List (List Int)) : Prop := ∀ k, ∀ z ∈ rss.getD k [], 0 ≤ z ∧ z < (n : Int)
theorem front_ok {n m : Nat} {rss : List (List Int)} (hr : RowsIn n rss) : ∀ {l : List Int} {st : List Int × List Int}, BOk n m st → BOk n m (l.foldl (brow rss) st)
  | [], _, h => h
  | x :: r, st, h => front_ok hr (l := r) (fold_ok (hr x.toNat) h)
def spSteps : Sp := fun vs H Q _ => ∃ (l : Addr) (ps : List Addr) (rss : List (List Int)) (s : Nat), vs = [.ref l, .int s] ∧ RowsL H l ps rss ∧ RowsIn rss.length rss ∧ rss.length ≤ 1000 ∧ s < rss.length ∧
  ∀ a H', Same H H' → H a = none → H' a = some (.lst ((stepsOf rss s).map V.int)) → (stepsOf rss s).length = rss.length → Q (.ref a) H'
section
variable {X : Cx}
def rRepN : R2 := fun x y H Q => ∃ l k xs, x = .ref l ∧ y = .int k ∧ H l = some (.lst xs) ∧ -(2 ^ 63) ≤ k ∧ k < 2 ^ 63 ∧ xs.length * k.toNat ≤ sizeLine ∧ New H (.lst (List.replicate k.toNat xs).flatten) Q
theorem op_repL : OpR X (binaryOp .Mult) rRepN := OpR.weak op_rep fun _ _ _ _ ⟨l, k, xs, a1, a2, a3, a4, a5, a6, q⟩ => ⟨l, k, xs, a1, a2, a3, a4, a5, a6, q.go⟩
end
section
variable {P : Program} {w : World} {K : PySem.W.Frag} {mg : Str → Option Value} {base : Heap}
theorem bfs_nil {rss : List (List Int)} {aw : List Int} : ∀ m, bfs rss m aw [] = aw
  | 0 => rfl
  | _ + 1 => if_pos rfl
/-- behind some turns of the while: m turns at most are left -/
def StepsInv (H : Hp) (l A0 : Addr) (rss : List (List Int)) (st : Nat) (m : Nat) (σ : L2.St) (H' : Hp) : Prop :=
  ∃ (Fr : Addr) (aw fr : List Int) (u v x : Option V), σ = [some (.ref l), some (.int st), some (.ref A0), some (.ref Fr), u, v, x] ∧ Same H H' ∧ H' A0 = some (.lst (aw.map V.int)) ∧ H' Fr = some (.lst (fr.map V.int)) ∧ A0 ≠ Fr ∧ H Fr = none ∧
    BOk rss.length rss.length (aw, []) ∧ (∀ z ∈ fr, 0 ≤ z ∧ z < (rss.length : Int)) ∧ 2 * neg aw + (if fr = [] then 0 else 1) ≤ m ∧ bfs rss m aw fr = stepsOf rss st
theorem ixN_nat {n j : Nat} (h : j < n) : ixN n (j : Int) = some j := by
  unfold ixN
  rw [if_pos (by omega), if_pos (by omega), Int.toNat_natCast]
theorem ixN_map {l : List Int} {i : Int} (h0 : 0 ≤ i) (h1 : i < (l.length : Int)) : ixN (l.map V.int).length i = some i.toNat := by
  rw [List.length_map]
  unfold ixN
  rw [if_pos h0, if_pos h1]
theorem atI_map {l : List Int} {i : Int} (h0 : 0 ≤ i) (h1 : i < (l.length : Int)) : atI (l.map V.int) i = some (.int (l.getD i.toNat 0)) := by
  have hl : i.toNat < l.length := by omega
  refine at_of (j := i.toNat) (by omega) ?_
  rw [List.getElem?_map, List.getD_eq_getElem?_getD, List.getElem?_eq_getElem hl]
  rfl
theorem getMap {l : List Int} {i : Nat} {y : V} (h : (l.map V.int)[i]? = some y) : ∃ z, l[i]? = some z ∧ y = .int z := by
  rw [List.getElem?_map] at h
  cases e : l[i]? with
  | none => rw [e] at h; cases h
  | some z => rw [e] at h; exact ⟨z, rfl, (Option.some.inj h).symm⟩
theorem rep1 (n : Nat) (z : Int) : (List.replicate n [V.int z]).flatten = (List.replicate n z).map V.int := by
  induction n with
  | zero => rfl
  | succ n ih => rw [List.replicate_succ, List.flatten_cons, ih, List.replicate_succ]; rfl
theorem scSteps : FnScope ["rows", "start", "away", "front", "following", "bay", "near"] ["rows", "start"] (defScope sSteps) := ⟨rfl, rfl, rfl, by decide +kernel, rfl, by decide +kernel, by decide +kernel⟩
theorem ok_steps {f : Addr} {fd : FuncData} (F : FnP K "steps_from" sSteps f fd) (T : WebTxt mg) : FnOk P w K mg base CX0 1 f fd ["rows", "start"] spSteps := by
  refine ok0 F scSteps (fun vs H Q E h => ?_) (fun cdv A outer s H vs Q E hr h => ?_)
  · obtain ⟨l, ps, rss, s, rfl, _⟩ := h
    rfl
  · obtain ⟨l, ps, rss, st, rfl, R, hR, hn, hs, q⟩ := h
    refine ⟨_, (pss_cons (ps_set (i := 2) scSteps.nd rfl (Or.inl rfl) (pe_op op_repL (pe_lstL (pa_cons (pe_un un_neg pe_int) pa_nil)) (pe_callB (id := "len") call_len_seq (by rfl) T.len (by decide +kernel) (pa_cons (pv 0) pa_nil))))
    (pss_cons (ps_asg pe_int (pg_sub (pv 2) (pv 1) set_listL))
    (pss_cons (ps_set (i := 3) scSteps.nd rfl (Or.inl rfl) (pe_lstL (pa_cons (pv 1) pa_nil)))
    (pss_cons (ps_while PassesOwn.never (pt_truth (pv 3) (by intro _; rfl))
      (pss_cons (ps_set (i := 4) scSteps.nd rfl (Or.inl rfl) (pe_lstL pa_nil))
    (pss_cons (ps_for PassesOwn.never rfl (pi_list (pv 3)) (pg_name (i := 5) scSteps.nd rfl (Or.inl rfl))
      (pss_one (ps_for PassesOwn.never rfl (pi_list (pe_ix ix_list (pv 0) (pv 5) (fun _ _ => rfl))) (pg_name (i := 6) scSteps.nd rfl (Or.inl rfl))
      (pss_one (ps_if (pt_cmpR op_lt (pe_ix ix_list (pv 2) (pv 6) (fun _ _ => rfl)) pe_int (nomark _))
      (pss_cons (ps_asg (pe_op op_add (pe_ix ix_list (pv 2) (pv 5) (fun _ _ => rfl)) pe_int) (pg_sub (pv 2) (pv 6) set_listL))
    (pss_one (ps_expr (pe_bm PySem.F.plainAttrs_list PySem.F.slot_list_append PySem.F.type_list_append mt_appendL (pv 4) (pa_cons (pv 6) pa_nil)))))
      pss_nil)))))
    (pss_one (ps_set (i := 3) scSteps.nd rfl (Or.inl rfl) (pv 4))))))
    (pss_one (ps_ret (pv 2))))))), ?_⟩
    refine ⟨_, rfl, by show 1 ≤ sizeLine; decide, fun l1 H1 n1 s1 h1 => ⟨_, rfl, l, _, rfl, .inl (SqL.of (s1 _ _ R.at_)), l1, _, _, rfl, rfl, h1, by omega, by rw [List.length_map, R.len]; omega, by rw [List.length_map, R.len]; show 1 * _ ≤ _; rw [sizeLine_eq]; omega, fun A0 H2 n2 s2 h2 => ?_⟩⟩
    have h2 : H2 A0 = some (.lst ((List.replicate rss.length (-1)).map V.int)) := by
      rw [h2, List.length_map, R.len, Int.toNat_natCast]
      exact congrArg (fun z => some (HO.lst z)) (rep1 _ _)
    refine ⟨_, rfl, _, rfl, A0, _, st, st, rfl, rfl, h2, ixN_nat (by rw [List.length_map, List.length_replicate]; exact hs), fun H3 B3 h3 => ?_⟩
    have h3 : H3 A0 = some (.lst (((List.replicate rss.length (-1)).set st 0).map V.int)) := by rw [h3, List.map_set]
    have nA0 : H A0 = none := s1.free n2
    have S3 : Same H H3 := same_but (s1.trans s2) nA0 B3
    refine ⟨_, rfl, by show 1 ≤ sizeLine; decide, fun F0 H4 n4 s4 h4 => ?_⟩
    have B0 : BOk rss.length rss.length ((List.replicate rss.length (-1)).set st 0, []) := by
      refine ⟨by rw [List.length_set, List.length_replicate], fun z hz => ?_, fun z hz => (by cases hz), ?_⟩
      · rcases List.mem_or_eq_of_mem_set hz with h | h
        · rw [(List.mem_replicate.mp h).2]
          decide
        · rw [h]
          decide
      · have z : neg ((List.replicate rss.length (-1)).set st 0) ≤ ((List.replicate rss.length (-1 : Int)).set st 0).length := List.countP_le_length
        rw [List.length_set, List.length_replicate] at z
        exact z
    refine ⟨StepsInv H l A0 rss st, ⟨2 * rss.length + 1, F0, _, [(st : Int)], none, none, none, rfl, S3.trans s4, s4 _ _ h3, h4, ne_of_none h3 n4, S3.free n4, B0, fun z hz => ?_, ?_, rfl⟩, ?_⟩
    · rw [List.mem_singleton.mp hz]
      omega
    · have z := B0.mes
      have z2 : neg ((List.replicate rss.length (-1)).set st 0) ≤ rss.length := z
      rw [if_neg (List.cons_ne_nil _ _)]
      omega
    rintro m σ H' ⟨Fr, aw, fr, u, v, x, rfl, S', hA, hF, nAF, nF, B, rng, hm, hb⟩
    refine ⟨_, rfl, _, .inl ⟨_, SqL.of hF, rfl⟩, ?_⟩
    by_cases hfr : fr = []
    · subst hfr
      refine iteC rfl ⟨_, rfl, q A0 H' S' nA0 ?_ ?_⟩
      · rw [← hb, bfs_nil]
        exact hA
      · rw [← hb, bfs_nil]
        exact B.len
    · obtain ⟨m', rfl⟩ : ∃ m', m = m' + 1 := ⟨m - 1, by rw [if_neg hfr] at hm; omega⟩
      refine iteD (by cases fr with
        | nil => exact absurd rfl hfr
        | cons a r => rfl) ⟨StepsInv H l A0 rss st m', fun σ' H'' h => ⟨m', Nat.lt_succ_self _, h⟩, ?_⟩
      refine ⟨by show 0 ≤ sizeLine; decide, fun G H5 n5 s5 h5 => ?_⟩
      have nGA : A0 ≠ G := ne_of_none hA n5
      have nGF : Fr ≠ G := ne_of_none hF n5
      have nG : H G = none := S'.free n5
      refine ⟨_, rfl, Fr, rfl, ⟨_, SqL.of (s5 _ _ hF)⟩, for_list (K := K) (a := Fr) (xs := fr.map V.int) (fun i σ H' => ∃ (v x : Option V) (st' : List Int × List Int), σ = [some (.ref l), some (.int st), some (.ref A0), some (.ref Fr), some (.ref G), v, x] ∧ Same H H' ∧ H' A0 = some (.lst (st'.1.map V.int)) ∧ H' G = some (.lst (st'.2.map V.int)) ∧ H' Fr = some (.lst (fr.map V.int)) ∧ st' = (fr.take i).foldl (brow rss) (aw, []) ∧ BOk rss.length (neg aw) st')
        ⟨v, x, (aw, []), rfl, S'.trans s5, s5 _ _ hA, h5, s5 _ _ hF, by rw [List.take_zero]; rfl, ⟨B.len, B.low, fun z hz => (by cases hz), Nat.le_refl _⟩⟩ (fun i σ H' _ ⟨_, _, _, _, _, _, _, h, _⟩ => SqL.of h) ?_ ?_⟩
      · rintro i y σ H6 hi ⟨v, x, st1, rfl, S6, hA6, hG6, hF6, e6, B6⟩
        obtain ⟨bay, hbay, rfl⟩ := getMap hi
        obtain ⟨b0, b1⟩ := rng bay (List.mem_of_getElem? hbay)
        obtain ⟨p, gp, xp⟩ := R.get b0 b1
        have rp := R.row _ _ gp
        refine ⟨_, rfl, _, rfl, l, _, _, _, rfl, rfl, SqL.of (S6 _ _ R.at_), xp, p, rfl, ⟨_, SqL.of (S6 _ _ rp)⟩, for_list (K := K) (a := p) (xs := (rss.getD bay.toNat []).map V.int) (fun j σ H' => ∃ (x : Option V) (st' : List Int × List Int), σ = [some (.ref l), some (.int st), some (.ref A0), some (.ref Fr), some (.ref G), some (.int bay), x] ∧ Same H H' ∧ H' A0 = some (.lst (st'.1.map V.int)) ∧ H' G = some (.lst (st'.2.map V.int)) ∧ H' Fr = some (.lst (fr.map V.int)) ∧ st' = ((rss.getD bay.toNat []).take j).foldl (bstep bay.toNat) st1 ∧ BOk rss.length (neg aw) st')
          ⟨x, st1, rfl, S6, hA6, hG6, hF6, by rw [List.take_zero]; rfl, B6⟩ (fun j σ H' _ ⟨_, _, _, S, _⟩ => SqL.of (S _ _ rp)) ?_ ?_⟩
        · rintro j y σ H7 hj ⟨x, st2, rfl, S7, hA7, hG7, hF7, e7, B7⟩
          obtain ⟨near, hnear, rfl⟩ := getMap hj
          obtain ⟨c0, c1⟩ := hR bay.toNat near (List.mem_of_getElem? hnear)
          have e8 : bstep bay.toNat st2 near = ((rss.getD bay.toNat []).take (j + 1)).foldl (bstep bay.toNat) st1 := by
            rw [take_more hnear, List.foldl_append, ← e7]
            rfl
          have B8 : BOk rss.length (neg aw) (bstep bay.toNat st2 near) := bstep_ok B7 c0 c1
          refine ⟨_, rfl, _, rfl, A0, _, _, _, rfl, rfl, SqL.of hA7, atI_map c0 (by rw [B7.len]; exact c1), _, _, rfl, rfl, _, rfl, ?_⟩
          refine ite2 (fun hc => ?_) (fun hc => ?_)
          · have hc : st2.1.getD near.toNat 0 < 0 := of_decide_eq_true hc
            have es : bstep bay.toNat st2 near = (st2.1.set near.toNat (st2.1.getD bay.toNat 0 + 1), st2.2 ++ [near]) := if_pos hc
            refine ⟨_, rfl, _, rfl, A0, _, _, _, rfl, rfl, SqL.of hA7, atI_map b0 (by rw [B7.len]; exact b1), _, _, rfl, rfl, _, rfl, _, rfl, A0, _, near, near.toNat, rfl, rfl, hA7, ixN_map c0 (by rw [B7.len]; exact c1), fun H8 B8' h8 => ?_⟩
            have hG8 : H8 G = some (.lst (st2.2.map V.int)) := B8' _ _ nGA.symm hG7
            have len2 : st2.2.length ≤ 1000 := by have z := B7.mes; have z2 := B.mes; have z2 : neg aw ≤ rss.length := z2; omega
            refine ⟨_, rfl, .inl ⟨rfl, _, SqL.of hG8⟩, _, rfl, G, _, _, rfl, rfl, hG8, by rw [List.length_map]; exact small1000 len2, fun H9 B9 h9 => ?_⟩
            refine ⟨_, bstep bay.toNat st2 near, rfl, same_but (same_but S7 nA0 B8') nG B9, ?_, ?_, B9 _ _ nGF (B8' _ _ nAF.symm hF7), e8, B8⟩
            · rw [B9 _ _ nGA h8, es, List.map_set]
            · rw [h9, es, List.map_append]
              rfl
          · have hc : ¬ st2.1.getD near.toNat 0 < 0 := fun z => hc (decide_eq_true z)
            have es : bstep bay.toNat st2 near = st2 := if_neg hc
            rw [es] at e8
            exact ⟨_, st2, rfl, S7, hA7, hG7, hF7, e8, B7⟩
        · rintro σ H7 ⟨x, st2, rfl, S7, hA7, hG7, hF7, e7, B7⟩
          rw [List.length_map, List.take_length] at e7
          refine ⟨_, _, st2, rfl, S7, hA7, hG7, hF7, ?_, B7⟩
          rw [take_more hbay, List.foldl_append, ← e6, e7]
          rfl
      · rintro σ H6 ⟨v, x, st1, rfl, S6, hA6, hG6, hF6, e6, B6⟩
        rw [List.length_map, List.take_length] at e6
        have e6 : st1 = level rss aw fr := e6
        refine ⟨_, rfl, G, st1.1, st1.2, _, _, _, rfl, S6, hA6, hG6, nGA, nG, ⟨B6.len, B6.low, fun z hz => (by cases hz), ?_⟩, B6.rng, ?_, ?_⟩
        · have z := B6.mes
          have z2 := B.mes
          have z2 : neg aw ≤ rss.length := z2
          show neg st1.1 + 0 ≤ _
          omega
        · have z := B6.mes
          rw [if_neg hfr] at hm
          by_cases h : st1.2 = []
          · rw [if_pos h]
            omega
          · rw [if_neg h]
            have z3 : 0 < st1.2.length := List.length_pos_iff.mpr h
            omega
        · rw [← hb, e6]
          show _ = (if fr = [] then aw else bfs rss m' (level rss aw fr).1 (level rss aw fr).2)
          rw [if_neg hfr]
end
end Sb

/-! ## E42 -/
/-! is_web and what raises. -/
namespace Sb
open PySem PySem.Spec PyProof.Rows L2
abbrev sTie : Stmt := top 21
abbrev sWeb : Stmt := top 20
abbrev sNeed : Stmt := top 22
abbrev sBay : Stmt := top 24
section
variable {X : Cx}
theorem call_isT {K : PySem.W.Frag} (hK : X.K = K := by rfl) : CallR X (.builtin "isinstance") (rIsi K) := hK ▸ call_isi
theorem ix_tupK {K : PySem.W.Frag} (hK : X.K = K := by rfl) : IxR X (rIxT K) := hK ▸ ix_tup
theorem op_ltTK {K : PySem.W.Frag} (hu : X.A.units < cLine) (hK : X.K = K := by rfl) : OpR X (compareOp .Lt) (rLtT K) := hK ▸ op_ltT hu
def tChain3 (r1 r2 r3 : R2) (ta tb tc td : TE) : TE := fun σ H Q => ta σ H fun x H1 => tb σ H1 fun y H2 => r1 x y H2 fun z H3 => ∃ k, z = .bl k ∧
  (if k = true then tc σ H3 fun w' H4 => r2 y w' H4 fun z2 H5 => ∃ k2, z2 = .bl k2 ∧ (if k2 = true then td σ H5 fun u' H6 => r3 w' u' H6 Q else Q (.bl false) H5) else Q (.bl false) H3)
theorem pe_chain3 {o1 o2 o3 : CmpOp} {r1 r2 r3 : R2} {a b c d : Expr} {ta tb tc td : TE} {pos : Pos} (h1 : OpR X (compareOp o1) r1) (h2 : OpR X (compareOp o2) r2) (h3 : OpR X (compareOp o3) r3) (ha : PE X a ta) (hb : PE X b tb) (hc : PE X c tc) (hd : PE X d td)
    (hm : lastMarks [o1, o2, o3] [b, c, d] = false := by with_unfolding_all rfl) : PE X (.Compare a [o1, o2, o3] [b, c, d] pos) (tChain3 r1 r2 r3 ta tb tc td) := by
  refine ⟨fun pins s σ H Q I h => ?_⟩
  refine Compare_chain (thn (ha.run pins s σ H _ I h) fun v s1 ⟨x, H1, I1, rx1, q1⟩ => chain_link (thn (hb.run pins s1 σ H1 _ I1 q1) fun u s2 ⟨y, H2, I2, rx2, q2⟩ =>
    thn (h1 pins s2 σ H2 x y v u _ I2 rx1 rx2 q2) fun d' s3 ⟨z, H3, I3, rx3, k, e, q3⟩ => ?_)) hm
  subst e
  cases rx3
  refine wpAny_truthy_bool ?_
  cases k with
  | false => exact ite_ff ⟨.bl false, H3, I3, rfl, q3⟩
  | true =>
    refine ite_tt (chain_link (thn (hc.run pins s3 σ H3 _ I3 q3) fun w' s4 ⟨z', H4, I4, rx4, q4⟩ => thn (h2 pins s4 σ H4 y z' u w' _ I4 rx2 rx4 q4) fun d2 s5 ⟨z2, H5, I5, rx5, k2, e2, q5⟩ => ?_))
    subst e2
    cases rx5
    refine wpAny_truthy_bool ?_
    cases k2 with
    | false => exact ite_ff ⟨.bl false, H5, I5, rfl, q5⟩
    | true => exact ite_tt (chain_last (thn (hd.run pins s5 σ H5 _ I5 q5) fun u' s6 ⟨z6, H6, I6, rx6, q6⟩ => h3 pins s6 σ H6 z' z6 w' u' Q I6 rx4 rx6 q6))
end
theorem ty_tup {K : PySem.W.Frag} {H : Hp} {a : Addr} {xs : List V} (h : SqT K H a xs) : TyX K H (.ref a) (.type "tuple") := by
  rcases h with (h | ⟨o, h⟩) | h
  · exact .base (.tup h)
  · exact .fTuple h
  · obtain ⟨o, its, n, e, c, _⟩ := h
    exact .kTuple e c
/-! ### promises -/
/-- is_whole of an int, of None -/
def spWhole : Sp := fun vs H Q _ => (∃ i, vs = [.int i] ∧ Q (.bl true) H) ∨ (vs = [.non] ∧ Q (.bl false) H)
def tieOK (n : Int) (t : Int × Int) : Bool := decide (0 ≤ t.1) && (decide (t.1 < t.2) && decide (t.2 < n))
def spTie (K : PySem.W.Frag) : Sp := fun vs H Q _ => ∃ (n a b : Int) (q : Addr), vs = [.int n, .ref q] ∧ SqT K H q [.int a, .int b] ∧ Q (.bl (tieOK n (a, b))) H
def lt2 (s t : Int × Int) : Bool := HT.lexLt [s.1, s.2] [t.1, t.2]
def asc (ts : List (Int × Int)) : Bool := (List.range (ts.length - 1)).all fun k => lt2 (ts.getD k (0, 0)) (ts.getD (k + 1) (0, 0))
def reach (n : Nat) (ts : List (Int × Int)) : Bool := (stepsOf (rowsOf n ts) 0).all fun z => decide (0 ≤ z)
def webOK (n : Int) (ts : List (Int × Int)) : Bool := (decide (2 ≤ n) && decide (n ≤ 40)) && (ts.all (tieOK n) && (asc ts && reach n.toNat ts))
/-- is_web of None, of what is like a web -/
def spWeb (K : PySem.W.Frag) : Sp := fun vs H Q _ => (vs = [.non] ∧ Q (.bl false) H) ∨
  (∃ v n ts, vs = [v] ∧ WebAt K H v n ts ∧ ts.length ≤ 100000 ∧ ∀ H', Same H H' → Q (.bl (webOK n ts)) H')
structure WebTxt2 (mg : Str → Option Value) : Prop where
  few : ∃ t, mg "FEWEST_BAYS" = some (.int 2 t)
  most : ∃ t, mg "MOST_BAYS" = some (.int 40 t)
section
variable {P : Program} {w : World} {K : PySem.W.Frag} {mg : Str → Option Value} {base : Heap}
theorem scWhole : FnScope ["thing"] ["thing"] (defScope sWhole) := ⟨rfl, rfl, rfl, by decide +kernel, rfl, by decide +kernel, by decide +kernel⟩
theorem ok_whole {f : Addr} {fd : FuncData} (F : FnP K "is_whole" sWhole f fd) (T : WebTxt mg) : FnOk P w K mg base CX0 1 f fd ["thing"] spWhole := by
  refine ok0 F scWhole (fun vs H Q E h => ?_) (fun cdv A outer s H vs Q E hr h => ?_)
  · rcases h with ⟨i, rfl, _⟩ | ⟨rfl, _⟩ <;> rfl
  · rcases h with ⟨i, rfl, q⟩ | ⟨rfl, q⟩
    · refine ⟨_, (pss_one (ps_ret (pe_and (pe_callB (id := "isinstance") (call_isT (K := K)) (by rfl) T.isinstance (by decide +kernel) (pa_cons (pv 0) (pa_cons (pe_bltn (v := .ty "int") rfl T.int (by decide +kernel) rfl) pa_nil))) (pe_one (pe_not (pe_callB (id := "isinstance") (call_isT (K := K)) (by rfl) T.isinstance (by decide +kernel) (pa_cons (pv 0) (pa_cons (pe_bltn (v := .ty "bool") rfl T.bool (by decide +kernel) rfl) pa_nil)))))))), ?_⟩
      refine ⟨_, rfl, _, _, _, .type "int", true, rfl, .ty "int", .base (.int i), kit_ty (by decide +kernel), _, rfl, iteD rfl ?_⟩
      exact ⟨_, rfl, _, _, _, .type "bool", false, rfl, .ty "bool", .base (.int i), kit_ty (by decide +kernel), _, rfl, q⟩
    · refine ⟨_, (pss_one (ps_ret (pe_and (pe_callB (id := "isinstance") (call_isT (K := K)) (by rfl) T.isinstance (by decide +kernel) (pa_cons (pv 0) (pa_cons (pe_bltn (v := .ty "int") rfl T.int (by decide +kernel) rfl) pa_nil))) (pe_one (pe_not (pe_callB (id := "isinstance") (call_isT (K := K)) (by rfl) T.isinstance (by decide +kernel) (pa_cons (pv 0) (pa_cons (pe_bltn (v := .ty "bool") rfl T.bool (by decide +kernel) rfl) pa_nil)))))))), ?_⟩
      exact ⟨_, rfl, _, _, _, .type "int", false, rfl, .ty "int", .base .non, kit_ty (by decide +kernel), _, rfl, iteC rfl q⟩
theorem scTie : FnScope ["n", "thing", "a", "b"] ["n", "thing"] (defScope sTie) := ⟨rfl, rfl, rfl, by decide +kernel, rfl, by decide +kernel, by decide +kernel⟩
theorem ok_tie {f fW : Addr} {fd fdW : FuncData} (F : FnP K "is_tie" sTie f fd) (T : WebTxt mg) (FW : FnP K "is_whole" sWhole fW fdW) (gW : mg "is_whole" = some (.ref fW)) : FnOk P w K mg base CX0 2 f fd ["n", "thing"] (spTie K) := by
  have GW : FnOk P w K mg base CX0 1 fW fdW ["thing"] spWhole := ok_whole FW T
  have bW : Binds K fdW ["thing"] [] := FW.bindsN fun _ _ _ _ _ _ us hl => match us, hl with | [_], _ => rfl
  refine ok0 F scTie (fun vs H Q E h => ?_) (fun cdv A outer s H vs Q E hr h => ?_)
  · obtain ⟨n, a, b, q, rfl, _⟩ := h
    rfl
  · obtain ⟨n, a, b, p, rfl, hp, q⟩ := h
    refine ⟨_, (pss_cons (ps_if (PW.pt (pw_or (pt_not (pt_val (pe_callB (id := "isinstance") (call_isT (K := K)) (by rfl) T.isinstance (by decide +kernel) (pa_cons (pv 1) (pa_cons (pe_bltn (v := .ty "tuple") rfl T.tuple (by decide +kernel) rfl) pa_nil))))) (pw_or1 (pt_cmpR op_ne (pe_callB (id := "len") call_len_seq (by rfl) T.len (by decide +kernel) (pa_cons (pv 1) pa_nil)) pe_int (nomark _)))))
      (pss_one (ps_ret pe_bl))
      pss_nil)
    (pss_cons (ps_asg (pv 1) (pg_tup (by rfl) (pgs_cons (pg_name (i := 2) scTie.nd rfl (Or.inl rfl)) (pgs_cons (pg_name (i := 3) scTie.nd rfl (Or.inl rfl)) pgs_nil))))
    (pss_one (ps_ret (pe_and (pe_call GW hr rfl gW FW.kp bW .nil pass0 (pa_cons (pv 2) pa_nil)) (pe_and (pe_call GW hr rfl gW FW.kp bW .nil pass0 (pa_cons (pv 3) pa_nil)) (pe_one (pe_chain3 op_le op_lt op_lt pe_int (pv 2) (pv 3) (pv 0))))))))), ?_⟩
    refine ⟨_, rfl, _, _, _, .type "tuple", true, rfl, .ty "tuple", ty_tup hp, kit_ty (by decide +kernel), _, rfl, iteC rfl ?_⟩
    refine ⟨_, rfl, p, _, rfl, .inr hp, rfl, _, rfl, iteC rfl ?_⟩
    refine ⟨_, rfl, p, _, rfl, hp, rfl, _, _, rfl, _, _, rfl, rfl, ?_⟩
    refine ⟨_, rfl, .inl ⟨a, rfl, _, rfl, iteD rfl ?_⟩⟩
    refine ⟨_, rfl, .inl ⟨b, rfl, _, rfl, iteD rfl ?_⟩⟩
    refine ⟨_, rfl, _, _, rfl, rfl, _, rfl, ?_⟩
    have e : tieOK n (a, b) = (decide (0 ≤ a) && (decide (a < b) && decide (b < n))) := rfl
    rw [e] at q
    refine ite2 (fun h1 => ?_) (fun h1 => ?_)
    · rw [h1] at q
      refine ⟨_, rfl, _, _, rfl, rfl, _, rfl, ?_⟩
      refine ite2 (fun h2 => ?_) (fun h2 => ?_)
      · rw [h2] at q
        exact ⟨_, rfl, _, _, rfl, rfl, q⟩
      · rw [Bool.eq_false_iff.mpr h2] at q
        exact q
    · rw [Bool.eq_false_iff.mpr h1] at q
      exact q
end
theorem app_in {n : Nat} {r : List (List Int)} {i : Nat} {x : Int} (h : RowsIn n r) (h0 : 0 ≤ x) (h1 : x < (n : Int)) : RowsIn n (app r i x) := by
  intro k z hz
  unfold app at hz
  by_cases hk : i = k
  · subst hk
    by_cases hl : i < r.length
    · rw [setD_self hl] at hz
      rcases List.mem_append.mp hz with q | q
      · exact h i z q
      · rw [List.mem_singleton.mp q]
        exact ⟨h0, h1⟩
    · rw [List.getD_eq_getElem?_getD, List.getElem?_eq_none (by rw [List.length_set]; omega)] at hz
      cases hz
  · rw [setD_ne hk] at hz
    exact h k z hz
theorem fold_in {n : Nat} : ∀ {ts : List (Int × Int)} {r : List (List Int)}, (∀ t ∈ ts, tieIn n t) → RowsIn n r → RowsIn n (ts.foldl addTie r)
  | [], _, _, h => h
  | t :: ts, r, ht, h => fold_in (ts := ts) (fun z hz => ht z (List.mem_cons_of_mem _ hz)) (by
    obtain ⟨a0, a1, b0, b1⟩ := ht t List.mem_cons_self
    exact app_in (app_in h b0 b1) a0 a1)
theorem rowsOf_in {n : Nat} {ts : List (Int × Int)} (h : ∀ t ∈ ts, tieIn n t) : RowsIn n (rowsOf n ts) := fold_in h fun k z hz => by
  rw [List.getD_eq_getElem?_getD, List.getElem?_replicate] at hz
  split at hz <;> cases hz
theorem tieIn_of {n : Int} {t : Int × Int} (h : tieOK n t = true) : 0 ≤ t.1 ∧ t.1 < t.2 ∧ t.2 < n := by
  unfold tieOK at h
  simp only [Bool.and_eq_true, decide_eq_true_eq] at h
  exact h
section
variable {P : Program} {w : World} {K : PySem.W.Frag} {mg : Str → Option Value} {base : Heap}
abbrev scWebN : List Str := ["thing", "n", "ties", "tie", "k"]
abbrev scWebS : Scope := defScope sWeb
theorem scWeb : FnScope ["thing", "n", "ties", "tie", "k"] ["thing"] (defScope sWeb) := ⟨rfl, rfl, rfl, by decide +kernel, rfl, by decide +kernel, by decide +kernel⟩
theorem getMapR {l : List Addr} {i : Nat} {y : V} (h : (l.map V.ref)[i]? = some y) : ∃ z, l[i]? = some z ∧ y = .ref z := by
  rw [List.getElem?_map] at h
  cases e : l[i]? with
  | none => rw [e] at h; cases h
  | some z => rw [e] at h; exact ⟨z, rfl, (Option.some.inj h).symm⟩
theorem ok_web {f fW fT fR fS : Addr} {fd fdW fdT fdR fdS : FuncData} (F : FnP K "is_web" sWeb f fd) (T : WebTxt mg) (T2 : WebTxt2 mg) (FW : FnP K "is_whole" sWhole fW fdW) (gW : mg "is_whole" = some (.ref fW))
    (FT : FnP K "is_tie" sTie fT fdT) (gT : mg "is_tie" = some (.ref fT)) (FR : FnP K "rows_of" sRows fR fdR) (gR : mg "rows_of" = some (.ref fR)) (FS : FnP K "steps_from" sSteps fS fdS) (gS : mg "steps_from" = some (.ref fS)) :
    FnOk P w K mg base CX0 3 f fd ["thing"] (spWeb K) := by
  have GW : FnOk P w K mg base CX0 1 fW fdW ["thing"] spWhole := ok_whole FW T
  have bW : Binds K fdW ["thing"] [] := FW.bindsN fun _ _ _ _ _ _ us hl => match us, hl with | [_], _ => rfl
  have GT : FnOk P w K mg base CX0 2 fT fdT ["n", "thing"] (spTie K) := ok_tie FT T FW gW
  have bT : Binds K fdT ["n", "thing"] [] := FT.bindsN fun _ _ _ _ _ _ us hl => match us, hl with | [_, _], _ => rfl
  have GR : FnOk P w K mg base CX0 1 fR fdR ["web"] (spRows K) := ok_rows FR T
  have bR : Binds K fdR ["web"] [] := FR.bindsN fun _ _ _ _ _ _ us hl => match us, hl with | [_], _ => rfl
  have GS : FnOk P w K mg base CX0 1 fS fdS ["rows", "start"] spSteps := ok_steps FS T
  have bS : Binds K fdS ["rows", "start"] [] := FS.bindsN fun _ _ _ _ _ _ us hl => match us, hl with | [_, _], _ => rfl
  obtain ⟨tf, hfew⟩ := T2.few
  obtain ⟨tm, hmost⟩ := T2.most
  refine ok0 F scWeb (fun vs H Q E h => ?_) (fun cdv A outer s H vs Q E hr h => ?_)
  · rcases h with ⟨rfl, _⟩ | ⟨v, n, ts, rfl, _⟩ <;> rfl
  · have hr1 : Room 1 _ := hr.mono (by decide)
    have hu : (A.deeper (envOfC "is_web" (defScope sWeb) s.heap.objs.size f cdv)).units < cLine := by have := hr.un; omega
    refine ⟨_, (pss_cons (ps_if (PW.pt (pw_or (pt_not (pt_val (pe_callB (id := "isinstance") (call_isT (K := K)) (by rfl) T.isinstance (by decide +kernel) (pa_cons (pv 0) (pa_cons (pe_bltn (v := .ty "tuple") rfl T.tuple (by decide +kernel) rfl) pa_nil))))) (pw_or1 (pt_cmpR op_ne (pe_callB (id := "len") call_len_seq (by rfl) T.len (by decide +kernel) (pa_cons (pv 0) pa_nil)) pe_int (nomark _)))))
      (pss_one (ps_ret pe_bl))
      pss_nil)
    (pss_cons (ps_asg (pv 0) (pg_tup (by rfl) (pgs_cons (pg_name (i := 1) scWeb.nd rfl (Or.inr rfl)) (pgs_cons (pg_name (i := 2) scWeb.nd rfl (Or.inr rfl)) pgs_nil))))
    (pss_cons (ps_if (PW.pt (pw_or (pt_not (pt_val (pe_call GW hr1 rfl gW FW.kp bW .nil pass0 (pa_cons (pv 1) pa_nil)))) (pw_or1 (pt_not (pt_chain op_le op_le (pe_glob (v := .int 2) rfl hfew ⟨_, rfl⟩) (pv 1) (pe_glob (v := .int 40) rfl hmost ⟨_, rfl⟩))))))
      (pss_one (ps_ret pe_bl))
      pss_nil)
    (pss_cons (ps_if (PW.pt (pw_or (pt_not (pt_val (pe_callB (id := "isinstance") (call_isT (K := K)) (by rfl) T.isinstance (by decide +kernel) (pa_cons (pv 2) (pa_cons (pe_bltn (v := .ty "tuple") rfl T.tuple (by decide +kernel) rfl) pa_nil))))) (pw_or1 (pt_not (pt_val (pe_callB (id := "all") (cr_all rfl) (by rfl) T.all (by decide +kernel) (pa_cons (pe_lc (own := [("tie", 3)]) (g := gName 3) (by rfl) scWeb.nd (pi_tup (pv 2)) (blkOk_by (own := [("tie", 3)]) (N := scWebN) (sc := scWebS) (by decide +kernel)) (fun _ _ _ _ _ => pg_name (i := 3) scWeb.nd rfl (Or.inl rfl)) (fun _ _ _ _ _ => pts_nil) (fun _ _ _ _ _ => (pe_call GT hr rfl gT FT.kp bT .nil pass0 (pa_cons (pv 1) (pa_cons (pv 3) pa_nil))))) pa_nil)))))))
      (pss_one (ps_ret pe_bl))
      pss_nil)
    (pss_cons (ps_if (pt_not (pt_val (pe_callB (id := "all") (cr_all rfl) (by rfl) T.all (by decide +kernel) (pa_cons (pe_lc (own := [("k", 4)]) (g := gName 4) (by rfl) scWeb.nd (pi_range1 (by rfl) T.range (pa_cons (pe_op op_sub (pe_callB (id := "len") call_len_seq (by rfl) T.len (by decide +kernel) (pa_cons (pv 2) pa_nil)) pe_int) pa_nil)) (blkOk_by (own := [("k", 4)]) (N := scWebN) (sc := scWebS) (by decide +kernel)) (fun _ _ _ _ _ => pg_name (i := 4) scWeb.nd rfl (Or.inl rfl)) (fun _ _ _ _ _ => pts_nil) (fun _ _ _ _ _ => (pe_cmpR (op_ltTK (K := K) hu) (pe_ix (ix_tupK (K := K)) (pv 2) (pv 4) (fun _ _ => rfl)) (pe_ix (ix_tupK (K := K)) (pv 2) (pe_op op_add (pv 4) pe_int) (fun _ _ => rfl)) (nomark _)))) pa_nil))))
      (pss_one (ps_ret pe_bl))
      pss_nil)
    (pss_one (ps_ret (pe_cmpR op_ge (pe_callB (id := "min") (cr_min rfl) (by rfl) T.min (by decide +kernel) (pa_cons (pe_call GS hr1 rfl gS FS.kp bS .nil pass0 (pa_cons (pe_call GR hr1 rfl gR FR.kp bR .nil pass0 (pa_cons (pv 0) pa_nil)) (pa_cons pe_int pa_nil))) pa_nil)) pe_int (nomark _))))))))), ?_⟩
    rcases h with ⟨rfl, q⟩ | ⟨v, n, ts, rfl, hW, htl, q⟩
    · exact ⟨_, rfl, _, _, _, .type "tuple", false, rfl, .ty "tuple", .base .non, kit_ty (by decide +kernel), _, rfl, iteD rfl (iteD rfl q)⟩
    · obtain ⟨wa, wt, rfl, hw, hT⟩ := id hW
      obtain ⟨qs, hq1, hq2, hq3⟩ := id hT
      refine ⟨_, rfl, _, _, _, .type "tuple", true, rfl, .ty "tuple", ty_tup hw, kit_ty (by decide +kernel), _, rfl, iteC rfl ?_⟩
      refine ⟨_, rfl, wa, _, rfl, .inr hw, rfl, _, rfl, iteC rfl ?_⟩
      refine ⟨_, rfl, wa, _, rfl, hw, rfl, _, _, rfl, _, _, rfl, rfl, ?_⟩
      -- the number of bays
      refine ⟨_, rfl, .inl ⟨n, rfl, _, rfl, iteC rfl ?_⟩⟩
      refine ⟨_, rfl, _, _, rfl, rfl, _, rfl, ?_⟩
      refine ite2 (fun h1 => ?_) (fun h1 => ⟨_, rfl, iteD rfl (by
        have z : webOK n ts = false := by
          unfold webOK
          rw [Bool.eq_false_iff.mpr h1]
          rfl
        have q' := q H (Same.refl H)
        rw [z] at q'
        exact q')⟩)
      refine ⟨_, _, rfl, rfl, _, rfl, ?_⟩
      refine ite2 (fun h2 => ?_) (fun h2 => ?_)
      · have h2 : ¬ n ≤ 40 := by
          intro z
          rw [decide_eq_true z] at h2
          cases h2
        have z : webOK n ts = false := by
          unfold webOK
          rw [decide_eq_false h2, Bool.and_false]
          rfl
        have q' := q H (Same.refl H)
        rw [z] at q'
        exact q'
      have h2 : n ≤ 40 := by
        refine Decidable.byContradiction fun z => h2 ?_
        rw [decide_eq_false z]
        rfl
      have h1 : 2 ≤ n := of_decide_eq_true h1
      -- the ties
      refine ⟨_, rfl, _, _, _, .type "tuple", true, rfl, .ty "tuple", ty_tup hq1, kit_ty (by decide +kernel), _, rfl, iteC rfl ?_⟩
      refine ⟨_, rfl, wt, rfl, ⟨_, hq1⟩, fun D hD => lc_tup (K := K) (a := wt) (xs := qs.map V.ref) (fun i H' => Same H H' ∧ H' D = some (.lst (((ts.take i).map (tieOK n)).map V.bl))) ⟨same_upd hD, by rw [upd_same, List.take_zero]; rfl⟩ (fun i H' _ ⟨S, _⟩ => sqT_same S hq1) ?_ ?_⟩
      · rintro i y H' hi ⟨S, e⟩
        obtain ⟨qa, hqa, rfl⟩ := getMapR hi
        have hit : i < ts.length := by rw [← hq2]; exact (List.getElem?_eq_some_iff.mp hqa).1
        obtain ⟨a, b, hab⟩ : ∃ a b, ts[i]? = some (a, b) := ⟨(ts[i]).1, (ts[i]).2, List.getElem?_eq_getElem hit⟩
        refine ⟨rfl, _, rfl, _, rfl, n, a, b, qa, rfl, sqT_same S (hq3 i qa a b hqa hab), _, e, ?_, fun c o hc => by rw [upd_ne (ne_of_none hc hD)]; exact S _ _ hc, ?_⟩
        · rw [List.length_map, List.length_map, List.length_take, sizeLine_eq]
          omega
        · rw [upd_same, take_more hab, List.map_append, List.map_append]
          rfl
      rintro H1 ⟨S1, e1⟩
      rw [List.length_map, hq2, List.take_length] at e1
      refine ⟨D, _, rfl, SqL.of e1, _, rfl, ?_⟩
      have ea : ((ts.map (tieOK n)).all id) = ts.all (tieOK n) := by rw [List.all_map]; rfl
      rw [ea]
      refine ite2 (fun h3 => ?_) (fun h3 => ?_)
      · have z : webOK n ts = false := by
          unfold webOK
          rw [(Bool.not_eq_true' _).mp h3, Bool.false_and, Bool.and_false]
        have q' := q H1 S1
        rw [z] at q'
        exact q'
      have h3 : ts.all (tieOK n) = true := by
        cases e : ts.all (tieOK n) with
        | true => rfl
        | false => exact absurd (by rw [e]; rfl) h3
      -- ascending
      refine ⟨_, rfl, wt, _, rfl, .inr (sqT_same S1 hq1), _, _, rfl, rfl, _, rfl, by rw [List.length_map]; omega, by rw [List.length_map]; omega, fun D2 hD2 => lc_range (lo := 0) (n := (((qs.map V.ref).length : Int) - 1).toNat) (fun i H' => Same H1 H' ∧ H' D2 = some (.lst (((List.range i).map fun k => lt2 (ts.getD k (0, 0)) (ts.getD (k + 1) (0, 0))).map V.bl))) ⟨same_upd hD2, by rw [upd_same]; rfl⟩ ?_ ?_⟩
      · rintro i H' hi ⟨S, e⟩
        rw [List.length_map, hq2] at hi
        have i1 : i < qs.length := by omega
        have i2 : i + 1 < qs.length := by omega
        have t1 : i < ts.length := by omega
        have t2 : i + 1 < ts.length := by omega
        have S' := S1.trans S
        have g1 : ts.getD i (0, 0) = ts[i] := by rw [List.getD_eq_getElem?_getD, List.getElem?_eq_getElem t1]; rfl
        have g2 : ts.getD (i + 1) (0, 0) = ts[i + 1] := by rw [List.getD_eq_getElem?_getD, List.getElem?_eq_getElem t2]; rfl
        refine ⟨rfl, _, rfl, _, rfl, wt, _, _, .ref qs[i], rfl, rfl, sqT_same S' hq1, at_of (j := i) (by omega) (by simp [i1]), _, rfl, _, rfl, _, _, rfl, rfl, wt, _, _, .ref qs[i + 1], rfl, rfl, sqT_same S' hq1, at_of (j := i + 1) (by omega) (by simp [i2]), _, _, [(ts[i]).1, (ts[i]).2], [(ts[i + 1]).1, (ts[i + 1]).2], rfl, rfl, sqT_same S' (hq3 i _ _ _ (List.getElem?_eq_getElem i1) (List.getElem?_eq_getElem t1)), sqT_same S' (hq3 (i + 1) _ _ _ (List.getElem?_eq_getElem i2) (List.getElem?_eq_getElem t2)), _, e, ?_, fun c o hc => by rw [upd_ne (ne_of_none hc hD2)]; exact S _ _ hc, ?_⟩
        · rw [List.length_map, List.length_map, List.length_range, sizeLine_eq]
          omega
        · rw [upd_same, List.range_succ, List.map_append, List.map_append]
          show some (HO.lst _) = some (HO.lst (_ ++ [V.bl (lt2 (ts.getD i (0, 0)) (ts.getD (i + 1) (0, 0)))]))
          rw [g1, g2]
          rfl
      rintro H2 ⟨S2, e2⟩
      have en : (((qs.map V.ref).length : Int) - 1).toNat = ts.length - 1 := by rw [List.length_map, hq2]; omega
      rw [en] at e2
      refine ⟨D2, _, rfl, SqL.of e2, _, rfl, ?_⟩
      have eb : (((List.range (ts.length - 1)).map fun k => lt2 (ts.getD k (0, 0)) (ts.getD (k + 1) (0, 0))).all id) = asc ts := by rw [List.all_map]; rfl
      rw [eb]
      have S12 := S1.trans S2
      refine ite2 (fun h4 => ?_) (fun h4 => ?_)
      · have z : webOK n ts = false := by
          unfold webOK
          rw [(Bool.not_eq_true' _).mp h4, Bool.false_and, Bool.and_false, Bool.and_false]
        have q' := q H2 S12
        rw [z] at q'
        exact q'
      have h4 : asc ts = true := by
        cases e : asc ts with
        | true => rfl
        | false => exact absurd (by rw [e]; rfl) h4
      -- whether all is reached
      have hin : ∀ t ∈ ts, tieIn (n.toNat : Int) t := fun t ht => by
        obtain ⟨a0, a1, a2⟩ := tieIn_of (List.all_eq_true.mp h3 t ht)
        exact ⟨a0, by omega, by omega, by omega⟩
      have en2 : ((n.toNat : Nat) : Int) = n := by omega
      refine ⟨_, rfl, .ref wa, n.toNat, ts, rfl, (by rw [en2]; exact hW.same S12), by omega, htl, hin, fun l ps H3 S3 nl nps R3 => ?_⟩
      have rl : (rowsOf n.toNat ts).length = n.toNat := rowsOf_len _ _
      refine ⟨l, ps, rowsOf n.toNat ts, 0, rfl, R3, (by rw [rl]; exact rowsOf_in hin), by rw [rl]; omega, by rw [rl]; omega, fun aw H4 S4 na4 h4' len4 => ?_⟩
      refine ⟨aw, _, rfl, SqL.of h4', by rw [len4, rl]; omega, fun m hm hmin => ⟨_, _, rfl, rfl, ?_⟩⟩
      have z : webOK n ts = decide (0 ≤ m) := by
        unfold webOK
        rw [decide_eq_true h1, decide_eq_true h2, h3, h4]
        show reach n.toNat ts = decide (0 ≤ m)
        unfold reach
        by_cases hm0 : 0 ≤ m
        · rw [decide_eq_true hm0]
          exact List.all_eq_true.mpr fun z hz => decide_eq_true (Int.le_trans hm0 (hmin z hz))
        · rw [decide_eq_false hm0]
          refine Bool.eq_false_iff.mpr fun e => hm0 ?_
          exact of_decide_eq_true (List.all_eq_true.mp e m hm)
      have q' := q H4 ((S12.trans S3).trans S4)
      rw [z] at q'
      exact q'
end
end Sb

/-! ## Y142 -/
/-! is_whole, is_tie, is_web of any thing. -/
namespace Sb
open PySem PySem.Spec PyProof.Rows L2
def tnD : PyData → String
  | .none => "NoneType"
  | .bool _ => "bool"
  | .int _ => "int"
  | .str _ => "str"
  | .list _ => "list"
  | .tuple _ => "tuple"
  | .dict _ => "dict"
theorem ty_th {K : PySem.W.Frag} {H : Hp} {v : V} {d : PyData} (h : Th H v d) : TyX K H v (.type (tnD d)) := by
  cases h with
  | non => exact .base .non
  | bl b => exact .base (.bl b)
  | int i => exact .base (.int i)
  | str x => exact .base (.str x)
  | lst e _ => exact .base (.lst e)
  | tupR e _ => exact e.elim (fun e => .base (.tup e)) fun ⟨o, e⟩ => .fTuple e
  | dct e => exact .base (.dK e)
def isaN (T n : String) : Bool := decide (n = T) || (decide (T = "int") && decide (n = "bool"))
abbrev isaD (T : String) (d : PyData) : Bool := isaN T (tnD d)
theorem kit_all : ∀ n ∈ ["NoneType", "bool", "int", "str", "list", "tuple", "dict"], ∀ T ∈ ["int", "bool", "tuple", "str", "list"], kitB n T = some (isaN T n) := by decide +kernel
theorem kit_th {K : PySem.W.Frag} {T : String} (hT : T ∈ ["int", "bool", "tuple", "str", "list"]) (d : PyData) : PySem.W.kitOne K (.type (tnD d)) (.type T) = some (isaD T d) := by
  refine kit_ty (kit_all (tnD d) ?_ T hT)
  cases d <;> simp [tnD]
/-- isinstance(x, T), x any thing -/
def rIsaD : List V → Hp → VK → Prop := fun xs H Q => ∃ (v : V) (d : PyData) (T : String), xs = [v, .ty T] ∧ Th H v d ∧ T ∈ ["int", "bool", "tuple", "str", "list"] ∧ Q (.bl (isaD T d)) H
theorem cr_isaD {X : Cx} : CallR X (.builtin "isinstance") rIsaD := by
  intro pins s σ H xs us Q I r h
  obtain ⟨v, d, T, rfl, hv, hT, q⟩ := h
  exact call_isi pins s σ H _ us Q I r ⟨v, .ty T, .type (tnD d), .type T, _, rfl, .ty T, ty_th hv, kit_th hT d, q⟩
def wholeD : PyData → Bool
  | .int _ => true
  | _ => false
theorem whole_isa (d : PyData) : (isaD "int" d && !isaD "bool" d) = wholeD d := by cases d <;> rfl
def spWholeT : Sp := fun vs H Q _ => ∃ v d, vs = [v] ∧ Th H v d ∧ Q (.bl (wholeD d)) H
def tieD (n : Int) : PyData → Bool
  | .tuple [.int a, .int b] => tieOK n (a, b)
  | _ => false
def spTieT : Sp := fun vs H Q _ => ∃ (n : Int) (v : V) (d : PyData), vs = [.int n, v] ∧ Th H v d ∧ Q (.bl (tieD n d)) H
theorem thAll_len {H : Hp} : ∀ {vs : List V} {ds : List PyData}, ThAll H vs ds → vs.length = ds.length
  | _, _, .nil => rfl
  | _, _, .cons _ h => by rw [List.length_cons, List.length_cons, thAll_len h]
theorem thAll_get {H : Hp} : ∀ {vs : List V} {ds : List PyData}, ThAll H vs ds → ∀ {i : Nat} {v : V}, vs[i]? = some v → ∃ d, ds[i]? = some d ∧ Th H v d
  | _, _, .nil, i, v, h => by simp at h
  | _, _, .cons h _, 0, v, e => by
    cases e
    exact ⟨_, rfl, h⟩
  | _, _, .cons _ h, i + 1, v, e => thAll_get h (i := i) e
theorem two_th {H : Hp} {xs : List V} {ds : List PyData} (h : ThAll H xs ds) (hl : xs.length = 2) : ∃ v1 v2 d1 d2, xs = [v1, v2] ∧ ds = [d1, d2] ∧ Th H v1 d1 ∧ Th H v2 d2 := by
  cases h with
  | nil => cases hl
  | cons h1 h =>
    cases h with
    | nil => cases hl
    | cons h2 h =>
      cases h with
      | nil => exact ⟨_, _, _, _, rfl, rfl, h1, h2⟩
      | cons _ _ => simp at hl
theorem tieD_len {n : Int} : ∀ ds : List PyData, ds.length ≠ 2 → tieD n (.tuple ds) = false
  | [], _ => rfl
  | [d], _ => by cases d <;> rfl
  | [_, _], h => absurd rfl h
  | a :: b :: _ :: _, _ => by cases a <;> cases b <;> rfl
def isPairD : PyData → Bool
  | .tuple [.int _, .int _] => true
  | _ => false
def pairD : PyData → Int × Int
  | .tuple [.int a, .int b] => (a, b)
  | _ => (0, 0)
/-- what is like a web: its bays, its ties -/
def shapeD : PyData → Option (Int × List (Int × Int))
  | .tuple [.int n, .tuple ts] => if ts.all isPairD = true then some (n, ts.map pairD) else none
  | _ => none
def webD (d : PyData) : Bool := match shapeD d with
  | some (n, ts) => webOK n ts
  | none => false
/-- the ties of a thing, if it is a row of them -/
def tiesOf : PyData → Nat
  | .tuple [_, .tuple ts] => ts.length
  | _ => 0
def spWebN : Sp := fun vs H Q _ => ∃ v d, vs = [v] ∧ Th H v d ∧ shapeD d = none ∧ tiesOf d ≤ 100000 ∧ ∀ H', Same H H' → Q (.bl false) H'
theorem tieD_pair {n : Int} {d : PyData} (h : isPairD d = false) : tieD n d = false := by
  unfold tieD
  split
  · cases h
  · rfl
section
variable {P : Program} {w : World} {K : PySem.W.Frag} {mg : Str → Option Value} {base : Heap}
theorem ok_wholeT {f : Addr} {fd : FuncData} (F : FnP K "is_whole" sWhole f fd) (T : WebTxt mg) : FnOk P w K mg base CX0 1 f fd ["thing"] spWholeT := by
  refine ok0 F scWhole (fun vs H Q E h => ?_) (fun cdv A outer s H vs Q E hr h => ?_)
  · obtain ⟨v, d, rfl, _⟩ := h
    rfl
  · obtain ⟨v, d, rfl, hv, q⟩ := h
    refine ⟨_, (pss_one (ps_ret (pe_and (pe_callB (id := "isinstance") cr_isaD (by rfl) T.isinstance (by decide +kernel) (pa_cons (pv 0) (pa_cons (pe_bltn (v := .ty "int") rfl T.int (by decide +kernel) rfl) pa_nil))) (pe_one (pe_not (pe_callB (id := "isinstance") cr_isaD (by rfl) T.isinstance (by decide +kernel) (pa_cons (pv 0) (pa_cons (pe_bltn (v := .ty "bool") rfl T.bool (by decide +kernel) rfl) pa_nil)))))))), ?_⟩
    rw [← whole_isa] at q
    refine ⟨_, rfl, v, d, "int", rfl, hv, by simp, _, rfl, ?_⟩
    cases e : isaD "int" d with
    | false =>
      rw [e] at q
      exact iteC rfl q
    | true =>
      rw [e] at q
      exact iteD rfl ⟨_, rfl, v, d, "bool", rfl, hv, by simp, _, rfl, q⟩
theorem ok_tieT {f fW : Addr} {fd fdW : FuncData} (F : FnP K "is_tie" sTie f fd) (T : WebTxt mg) (FW : FnP K "is_whole" sWhole fW fdW) (gW : mg "is_whole" = some (.ref fW)) : FnOk P w K mg base CX0 2 f fd ["n", "thing"] spTieT := by
  have GW : FnOk P w K mg base CX0 1 fW fdW ["thing"] spWholeT := ok_wholeT FW T
  have bW : Binds K fdW ["thing"] [] := FW.bindsN fun _ _ _ _ _ _ us hl => match us, hl with | [_], _ => rfl
  refine ok0 F scTie (fun vs H Q E h => ?_) (fun cdv A outer s H vs Q E hr h => ?_)
  · obtain ⟨n, v, d, rfl, _⟩ := h
    rfl
  · obtain ⟨n, v, d, rfl, hv, q⟩ := h
    refine ⟨_, (pss_cons (ps_if (PW.pt (pw_or (pt_not (pt_val (pe_callB (id := "isinstance") cr_isaD (by rfl) T.isinstance (by decide +kernel) (pa_cons (pv 1) (pa_cons (pe_bltn (v := .ty "tuple") rfl T.tuple (by decide +kernel) rfl) pa_nil))))) (pw_or1 (pt_cmpR op_ne (pe_callB (id := "len") call_len_seq (by rfl) T.len (by decide +kernel) (pa_cons (pv 1) pa_nil)) pe_int (nomark _)))))
      (pss_one (ps_ret pe_bl))
      pss_nil)
    (pss_cons (ps_asg (pv 1) (pg_tup (by rfl) (pgs_cons (pg_name (i := 2) scTie.nd rfl (Or.inl rfl)) (pgs_cons (pg_name (i := 3) scTie.nd rfl (Or.inl rfl)) pgs_nil))))
    (pss_one (ps_ret (pe_and (pe_call GW hr rfl gW FW.kp bW .nil pass0 (pa_cons (pv 2) pa_nil)) (pe_and (pe_call GW hr rfl gW FW.kp bW .nil pass0 (pa_cons (pv 3) pa_nil)) (pe_one (pe_chain3 op_le op_lt op_lt pe_int (pv 2) (pv 3) (pv 0))))))))), ?_⟩
    refine ⟨_, rfl, v, d, "tuple", rfl, hv, by simp, _, rfl, ?_⟩
    cases hv with
    | non => exact iteD rfl q
    | bl b => exact iteD rfl q
    | int i => exact iteD rfl q
    | str x => exact iteD rfl q
    | lst _ _ => exact iteD rfl q
    | dct _ => exact iteD rfl q
    | @tupR p xs ds hp hds =>
      refine iteC rfl ?_
      have hl := thAll_len hds
      refine ⟨_, rfl, p, _, rfl, .inr (sqR hp), rfl, _, rfl, ?_⟩
      by_cases h2 : xs.length = 2
      · obtain ⟨v1, v2, d1, d2, rfl, rfl, g1, g2⟩ := two_th hds h2
        refine iteC rfl ?_
        refine ⟨_, rfl, p, _, rfl, sqR hp, rfl, _, _, rfl, _, _, rfl, rfl, ?_⟩
        refine ⟨_, rfl, v1, d1, rfl, g1, _, rfl, ?_⟩
        cases g1 with
        | int a =>
          refine iteD rfl ⟨_, rfl, v2, d2, rfl, g2, _, rfl, ?_⟩
          cases g2 with
          | int b =>
            refine iteD rfl ?_
            refine ⟨_, rfl, _, _, rfl, rfl, _, rfl, ?_⟩
            have q : Q (.bl (decide (0 ≤ a) && (decide (a < b) && decide (b < n)))) H := q
            refine ite2 (fun h1 => ?_) (fun h1 => ?_)
            · rw [h1] at q
              refine ⟨_, rfl, _, _, rfl, rfl, _, rfl, ite2 (fun h3 => ?_) (fun h3 => ?_)⟩
              · rw [h3] at q
                exact ⟨_, rfl, _, _, rfl, rfl, q⟩
              · rw [Bool.eq_false_iff.mpr h3] at q
                exact q
            · rw [Bool.eq_false_iff.mpr h1] at q
              exact q
          | non => exact iteC rfl q
          | bl b => exact iteC rfl q
          | str x => exact iteC rfl q
          | lst _ _ => exact iteC rfl q
          | tupR _ _ => exact iteC rfl q
          | dct _ => exact iteC rfl q
        | non => exact iteC rfl q
        | bl b => exact iteC rfl q
        | str x => exact iteC rfl q
        | lst _ _ => exact iteC rfl q
        | tupR _ _ => exact iteC rfl q
        | dct _ => exact iteC rfl q
      · rw [tieD_len ds (by rw [← hl]; exact h2)] at q
        refine iteD ?_ q
        rw [decide_eq_false fun z => h2 (by have z := V.int.inj z; omega)]
        rfl
theorem ok_webN {f fW fT : Addr} {fd fdW fdT : FuncData} (F : FnP K "is_web" sWeb f fd) (T : WebTxt mg) (T2 : WebTxt2 mg) (FW : FnP K "is_whole" sWhole fW fdW) (gW : mg "is_whole" = some (.ref fW)) (FT : FnP K "is_tie" sTie fT fdT) (gT : mg "is_tie" = some (.ref fT)) : FnOk P w K mg base CX0 3 f fd ["thing"] spWebN := by
  have GW : FnOk P w K mg base CX0 1 fW fdW ["thing"] spWholeT := ok_wholeT FW T
  have bW : Binds K fdW ["thing"] [] := FW.bindsN fun _ _ _ _ _ _ us hl => match us, hl with | [_], _ => rfl
  have GT : FnOk P w K mg base CX0 2 fT fdT ["n", "thing"] spTieT := ok_tieT FT T FW gW
  have bT : Binds K fdT ["n", "thing"] [] := FT.bindsN fun _ _ _ _ _ _ us hl => match us, hl with | [_, _], _ => rfl
  obtain ⟨tf, hfew⟩ := T2.few
  obtain ⟨tm, hmost⟩ := T2.most
  refine ok0 F scWeb (fun vs H Q E h => ?_) (fun cdv A outer s H vs Q E hr h => ?_)
  · obtain ⟨v, d, rfl, _⟩ := h
    rfl
  · have hr1 : Room 1 _ := hr.mono (by decide)
    obtain ⟨v, d, rfl, hv, hsh, hmany, q⟩ := h
    have q0 := q H (Same.refl H)
    refine ⟨_, (pss_cons (ps_if (PW.pt (pw_or (pt_not (pt_val (pe_callB (id := "isinstance") cr_isaD (by rfl) T.isinstance (by decide +kernel) (pa_cons (pv 0) (pa_cons (pe_bltn (v := .ty "tuple") rfl T.tuple (by decide +kernel) rfl) pa_nil))))) (pw_or1 (pt_cmpR op_ne (pe_callB (id := "len") call_len_seq (by rfl) T.len (by decide +kernel) (pa_cons (pv 0) pa_nil)) pe_int (nomark _)))))
      (pss_one (ps_ret pe_bl))
      pss_nil)
    (pss_cons (ps_asg (pv 0) (pg_tup (by rfl) (pgs_cons (pg_name (i := 1) scWeb.nd rfl (Or.inr rfl)) (pgs_cons (pg_name (i := 2) scWeb.nd rfl (Or.inr rfl)) pgs_nil))))
    (pss_cons (ps_if (PW.pt (pw_or (pt_not (pt_val (pe_call GW hr1 rfl gW FW.kp bW .nil pass0 (pa_cons (pv 1) pa_nil)))) (pw_or1 (pt_not (pt_chain op_le op_le (pe_glob (v := .int 2) rfl hfew ⟨_, rfl⟩) (pv 1) (pe_glob (v := .int 40) rfl hmost ⟨_, rfl⟩))))))
      (pss_one (ps_ret pe_bl))
      pss_nil)
    (pss_cons (ps_if (PW.pt (pw_or (pt_not (pt_val (pe_callB (id := "isinstance") cr_isaD (by rfl) T.isinstance (by decide +kernel) (pa_cons (pv 2) (pa_cons (pe_bltn (v := .ty "tuple") rfl T.tuple (by decide +kernel) rfl) pa_nil))))) (pw_or1 (pt_not (pt_val (pe_callB (id := "all") (cr_all rfl) (by rfl) T.all (by decide +kernel) (pa_cons (pe_lc (own := [("tie", 3)]) (g := gName 3) (by rfl) scWeb.nd (pi_tup (pv 2)) (blkOk_by (own := [("tie", 3)]) (N := scWebN) (sc := scWebS) (by decide +kernel)) (fun _ _ _ _ _ => pg_name (i := 3) scWeb.nd rfl (Or.inl rfl)) (fun _ _ _ _ _ => pts_nil) (fun _ _ _ _ _ => (pe_call GT hr rfl gT FT.kp bT .nil pass0 (pa_cons (pv 1) (pa_cons (pv 3) pa_nil))))) pa_nil)))))))
      (pss_one (ps_ret pe_bl))
      pss_nil)
    (pss_cons ps_never
    (pss_one ps_never)))))), ?_⟩
    refine ⟨_, rfl, v, d, "tuple", rfl, hv, by simp, _, rfl, ?_⟩
    cases hv with
    | non => exact iteD rfl (iteD rfl q0)
    | bl b => exact iteD rfl (iteD rfl q0)
    | int i => exact iteD rfl (iteD rfl q0)
    | str x => exact iteD rfl (iteD rfl q0)
    | lst _ _ => exact iteD rfl (iteD rfl q0)
    | dct _ => exact iteD rfl (iteD rfl q0)
    | @tupR p xs ds hp hds =>
      refine iteC rfl ?_
      have hl := thAll_len hds
      refine ⟨_, rfl, p, _, rfl, .inr (sqR hp), rfl, _, rfl, ?_⟩
      by_cases h2 : xs.length = 2
      · obtain ⟨v1, v2, d1, d2, rfl, rfl, g1, g2⟩ := two_th hds h2
        refine iteC rfl ?_
        refine ⟨_, rfl, p, _, rfl, sqR hp, rfl, _, _, rfl, _, _, rfl, rfl, ?_⟩
        refine ⟨_, rfl, v1, d1, rfl, g1, _, rfl, ?_⟩
        cases g1 with
        | int n =>
          refine iteC rfl ⟨_, rfl, _, _, rfl, rfl, _, rfl, ite2 (fun h1 => ?_) (fun h1 => ⟨_, rfl, iteD rfl q0⟩)⟩
          refine ⟨_, _, rfl, rfl, _, rfl, ite2 (fun _ => q0) (fun _ => ?_)⟩
          refine ⟨_, rfl, v2, d2, "tuple", rfl, g2, by simp, _, rfl, ?_⟩
          cases g2 with
          | non => exact iteD rfl q0
          | bl b => exact iteD rfl q0
          | int i => exact iteD rfl q0
          | str x => exact iteD rfl q0
          | lst _ _ => exact iteD rfl q0
          | dct _ => exact iteD rfl q0
          | @tupR t ys es ht hes =>
            refine iteC rfl ?_
            have hyl := thAll_len hes
            have hmany : es.length ≤ 100000 := hmany
            refine ⟨_, rfl, t, rfl, ⟨_, sqR ht⟩, fun D hD => lc_tup (K := K) (a := t) (xs := ys) (fun i H' => Same H H' ∧ H' D = some (.lst (((es.take i).map (tieD n)).map V.bl))) ⟨same_upd hD, by rw [upd_same, List.take_zero]; rfl⟩ (fun i H' _ ⟨S, _⟩ => sqR (rdS S ht)) ?_ ?_⟩
            · rintro i y H' hi ⟨S, e⟩
              obtain ⟨dy, hdy, hy⟩ := thAll_get hes hi
              refine ⟨rfl, _, rfl, _, rfl, n, y, dy, rfl, hy.mono S, _, e, ?_, fun c o hc => by rw [upd_ne (ne_of_none hc hD)]; exact S _ _ hc, ?_⟩
              · rw [List.length_map, List.length_map, List.length_take, sizeLine_eq]
                omega
              · rw [upd_same, take_more hdy, List.map_append, List.map_append]
                rfl
            rintro H1 ⟨S1, e1⟩
            rw [hyl, List.take_length] at e1
            refine ⟨D, _, rfl, SqL.of e1, _, rfl, ?_⟩
            have ea : ((es.map (tieD n)).all id) = false := by
              have hno : es.all isPairD = false := by
                cases e : es.all isPairD with
                | false => rfl
                | true =>
                  have z : shapeD (.tuple [.int n, .tuple es]) = some (n, es.map pairD) := if_pos e
                  rw [z] at hsh
                  cases hsh
              obtain ⟨d0, hd0, hf⟩ : ∃ d0 ∈ es, ¬ isPairD d0 = true := by
                refine Decidable.byContradiction fun z => ?_
                have y : es.all isPairD = true := List.all_eq_true.mpr fun d0 hd0 => Decidable.byContradiction fun y => z ⟨d0, hd0, y⟩
                rw [y] at hno
                cases hno
              cases e : (es.map (tieD n)).all id with
              | false => rfl
              | true =>
                have z := List.all_eq_true.mp e _ (List.mem_map.mpr ⟨d0, hd0, rfl⟩)
                have z : tieD n d0 = true := z
                rw [tieD_pair (Bool.eq_false_iff.mpr hf)] at z
                cases z
            rw [ea]
            exact iteD rfl (q H1 S1)
        | non => exact iteD rfl q0
        | bl b => exact iteD rfl q0
        | str x => exact iteD rfl q0
        | lst _ _ => exact iteD rfl q0
        | tupR _ _ => exact iteD rfl q0
        | dct _ => exact iteD rfl q0
      · refine iteD ?_ q0
        rw [decide_eq_false fun z => h2 (by have z := V.int.inj z; omega)]
        rfl
end
end Sb

/-! ## LZ -/
/-! list(zip(xs, ys)) of two lists. -/
namespace Sb
open PySem PySem.Spec PyProof.Rows L2
theorem zl_len : typeLookup (.type "zip") "__len__" = pure none := by
  rw [typeLookup_type, builtinLookup_eq_fast]
  kernel_rfl
theorem zl_hint : typeLookup (.type "zip") "__length_hint__" = pure none := by
  rw [typeLookup_type, builtinLookup_eq_fast]
  kernel_rfl
/-- a zip at z over the lists at a and b, i turns done; S apart from what it gave out -/
structure ZAt (h : Heap) (z TI TO i1 i2 a b S : Addr) (xs ys : Array Value) (i : Nat) : Prop where
  ti : IsPair h TI (.ref i1) (.ref i2)
  it1 : h.IsListIter i1 a i
  it2 : h.IsListIter i2 b i
  l1 : h.IsList a xs
  l2 : h.IsList b ys
  zip : (IsZip h z TI TO .none ∧ ∃ u v, IsPair h TO u v) ∨ ∃ T f oT, IsZipHeld h z TI TO T f ∧ h.get? T = some oT ∧ T ≠ z ∧ T ≠ i1 ∧ T ≠ i2 ∧ T ≠ S
/-- S lies apart from all of it -/
structure ZOff (z TI TO i1 i2 a b S : Addr) : Prop where
  z : S ≠ z
  ti : S ≠ TI
  to : S ≠ TO
  i1 : S ≠ i1
  i2 : S ≠ i2
  a : S ≠ a
  b : S ≠ b
section
variable {P : Program} {w : World} {A : Around} {s : Shared} {z TI TO i1 i2 a b S : Addr} {xs ys : Array Value}
theorem ZAt.keep {h h2 : Heap} {i : Nat} (x : ZAt h z TI TO i1 i2 a b S xs ys i) (o : ZOff z TI TO i1 i2 a b S) (k : ∀ c u, c ≠ S → h.get? c = some u → h2.get? c = some u) : ZAt h2 z TI TO i1 i2 a b S xs ys i where
  ti := k _ _ (Ne.symm o.ti) x.ti
  it1 := x.it1.at fun u e => k _ u (Ne.symm o.i1) e
  it2 := x.it2.at fun u e => k _ u (Ne.symm o.i2) e
  l1 := x.l1.at fun u e => k _ u (Ne.symm o.a) e
  l2 := x.l2.at fun u e => k _ u (Ne.symm o.b) e
  zip := by
    rcases x.zip with ⟨hz, u, v, e⟩ | ⟨T, f, oT, hz, hT, r1, r2, r3, r4⟩
    · exact .inl ⟨k _ _ (Ne.symm o.z) hz, u, v, k _ _ (Ne.symm o.to) e⟩
    · exact .inr ⟨T, f, oT, k _ _ (Ne.symm o.z) hz, k _ _ r4 hT, r1, r2, r3, r4⟩
theorem ZAt.lt {h : Heap} {i : Nat} (x : ZAt h z TI TO i1 i2 a b S xs ys i) : z < h.objs.size ∧ i1 < h.objs.size ∧ i2 < h.objs.size := by
  have l1 : i1 < h.objs.size := by
    obtain ⟨_, e, _⟩ := x.it1
    exact Heap.lt_size e
  have l2 : i2 < h.objs.size := by
    obtain ⟨_, e, _⟩ := x.it2
    exact Heap.lt_size e
  rcases x.zip with ⟨hz, _⟩ | ⟨T, f, oT, hz, _⟩
  · exact ⟨Heap.lt_size hz, l1, l2⟩
  · exact ⟨Heap.lt_size hz, l1, l2⟩
theorem z_item {E : Value → Shared → Prop} {i : Nat} {x y : Value} {Q : Option Value → Shared → Prop} (D : ZipApart z TI TO i1 i2 a b) (st : ZAt s.heap z TI TO i1 i2 a b S xs ys i) (hS : S < s.heap.objs.size) (hx : xs[i]? = some x) (hy : ys[i]? = some y)
    (q : ∀ h2, IsPair h2 s.heap.objs.size x y → ZAt h2 z TI TO i1 i2 a b S xs ys (i + 1) → h2.objs.size = s.heap.objs.size + 1 → (∀ c u, c ≠ z → c ≠ TO → c ≠ i1 → c ≠ i2 → s.heap.get? c = some u → h2.get? c = some u) → Q (some (.ref s.heap.objs.size)) { s with heap := h2 }) :
    wpAny (model P w) A (pyNext (.ref z)) Q E s := by
  obtain ⟨n0, n1, n2⟩ := st.lt
  rcases st.zip with ⟨hz, u, v, e⟩ | ⟨T, f, oT, hz, hT, r1, r2, r3, r4⟩
  · refine wpAny_pyNext_zip_item D hz st.ti e st.it1 st.it2 st.l1 st.l2 hx hy fun h2 z2 o2 a3 a4 a5 a6 k => ?_
    exact q h2 a5 ⟨k _ _ D.TIz D.TITO D.TIi1 D.TIi2 st.ti, a3, a4, st.l1.at fun o e => k _ o D.l1z D.l1TO D.l1i1 D.l1i2 e, st.l2.at fun o e => k _ o D.l2z D.l2TO D.l2i1 D.l2i2 e, .inr ⟨_, false, _, z2, a5, Nat.ne_of_gt n0, Nat.ne_of_gt n1, Nat.ne_of_gt n2, Nat.ne_of_gt hS⟩⟩ a6
      fun c o c1 c2 c3 c4 e => k c o c1 c2 c3 c4 e
  · refine wpAny_pyNext_zip_item_held D hz hT st.ti st.it1 st.it2 st.l1 st.l2 hx hy fun h2 z2 a3 a4 a5 a6 k => ?_
    exact q h2 a5 ⟨k _ _ D.TIz D.TIi1 D.TIi2 st.ti, a3, a4, st.l1.at fun o e => k _ o D.l1z D.l1i1 D.l1i2 e, st.l2.at fun o e => k _ o D.l2z D.l2i1 D.l2i2 e, .inr ⟨T, true, oT, z2, k _ _ r1 r2 r3 hT, r1, r2, r3, r4⟩⟩ a6
      fun c o c1 _ c3 c4 e => k c o c1 c3 c4 e
theorem z_done {E : Value → Shared → Prop} {i : Nat} {Q : Option Value → Shared → Prop} (hh : A.handled = none) (D : ZipApart z TI TO i1 i2 a b) (st : ZAt s.heap z TI TO i1 i2 a b S xs ys i) (he : xs[i]? = none ∨ ys[i]? = none)
    (q : ∀ h2, (∀ c u, c ≠ z → c ≠ TO → c ≠ i1 → c ≠ i2 → s.heap.get? c = some u → h2.get? c = some u) → Q none { s with heap := h2 }) : wpAny (model P w) A (pyNext (.ref z)) Q E s := by
  rcases st.zip with ⟨hz, u, v, e⟩ | ⟨T, f, oT, hz, hT, r1, r2, r3, r4⟩
  · exact wpAny_pyNext_zip_end hh D hz st.ti e st.it1 st.it2 st.l1 st.l2 he fun h2 k => q h2 fun c o c1 c2 c3 c4 e => k c o c1 c2 c3 c4 e
  · exact wpAny_pyNext_zip_end_held hh D hz hT st.ti st.it1 st.it2 st.l1 st.l2 he fun h2 k => q h2 fun c o c1 _ c3 c4 e => k c o c1 c3 c4 e
/-- the pairs given out so far stand above lo -/
def Given (lo : Nat) (xs ys : Array Value) (h : Heap) (ts : List Addr) : Prop := ts.Nodup ∧ ∀ (j : Nat) (t : Addr), ts[j]? = some t → lo ≤ t ∧ ∃ x y, xs[j]? = some x ∧ ys[j]? = some y ∧ IsPair h t x y
theorem z_loop {R : Result → Shared → Prop} {n lo : Nat} {res : Value} {base : Heap} (hh : A.handled = none) (D : ZipApart z TI TO i1 i2 a b) (off : ZOff z TI TO i1 i2 a b S) (hn : n = min xs.size ys.size) (hz : n ≤ sizeLine)
    (low : S < lo ∧ z < lo ∧ TO < lo ∧ i1 < lo ∧ i2 < lo)
    (q : ∀ h2 acc c ts, (∀ d u, d ≠ S → d ≠ z → d ≠ TO → d ≠ i1 → d ≠ i2 → base.get? d = some u → h2.get? d = some u) → h2.get? S = some { cls := .type "list", dict := none, data := .seq acc c, slots := #[] } → acc.toList = ts.map Value.ref → ts.length = n → Given lo xs ys h2 ts →
      R (.ok (.ret res)) { s with heap := h2 }) :
    ∀ (k i : Nat) (h : Heap) (c : Nat) (acc : Array Value) (ts : List Addr), i + k = n → ZAt h z TI TO i1 i2 a b S xs ys i → lo ≤ h.objs.size → (∀ d u, d ≠ S → d ≠ z → d ≠ TO → d ≠ i1 → d ≠ i2 → base.get? d = some u → h.get? d = some u) →
      h.get? S = some { cls := .type "list", dict := none, data := .seq acc c, slots := #[] } → acc.toList = ts.map Value.ref → ts.length = i → Given lo xs ys h ts →
      codeAny (model P w) A (.builtin "list.extend.loop" ⟨[.ref S, .ref z, res], []⟩) R { s with heap := h } := by
  have fresh : ∀ t, lo ≤ t → t ≠ S ∧ t ≠ z ∧ t ≠ TO ∧ t ≠ i1 ∧ t ≠ i2 := fun t ht => ⟨Nat.ne_of_gt (Nat.lt_of_lt_of_le low.1 ht), Nat.ne_of_gt (Nat.lt_of_lt_of_le low.2.1 ht), Nat.ne_of_gt (Nat.lt_of_lt_of_le low.2.2.1 ht), Nat.ne_of_gt (Nat.lt_of_lt_of_le low.2.2.2.1 ht), Nat.ne_of_gt (Nat.lt_of_lt_of_le low.2.2.2.2 ht)⟩
  intro k
  induction k with
  | zero =>
    intro i h c acc ts hi st hl keep hS hacc hts G
    refine codeAny_builtin F.entry_extend_loop ?_
    rw [Around.under_plainId F.plain_extend_loop _]
    show wpAny _ A.in1 (pyNext (.ref z) >>= _) _ _ _
    have he : xs[i]? = none ∨ ys[i]? = none := by
      rcases Nat.le_total xs.size ys.size with e | e
      · exact .inl (Array.getElem?_eq_none (by omega))
      · exact .inr (Array.getElem?_eq_none (by omega))
    refine wpAny_bind (z_done (s := { s with heap := h }) (A := A.in1) hh D st he fun h2 k2 => ?_)
    refine wpAny_pure (q h2 acc c ts (fun d u e0 e1 e2 e3 e4 e => k2 d u e1 e2 e3 e4 (keep d u e0 e1 e2 e3 e4 e)) (k2 _ _ off.z off.to off.i1 off.i2 hS) hacc (by omega) ⟨G.1, fun j t hj => ?_⟩)
    obtain ⟨g0, x, y, g1, g2, g3⟩ := G.2 j t hj
    obtain ⟨_, f1, f2, f3, f4⟩ := fresh t g0
    exact ⟨g0, x, y, g1, g2, k2 _ _ f1 f2 f3 f4 g3⟩
  | succ k ih =>
    intro i h c acc ts hi st hl keep hS hacc hts G
    have lx : i < xs.size := by omega
    have ly : i < ys.size := by omega
    have sz : acc.size = i := by rw [← Array.length_toList, hacc, List.length_map, hts]
    refine codeAny_builtin F.entry_extend_loop ?_
    rw [Around.under_plainId F.plain_extend_loop _]
    show wpAny _ A.in1 (pyNext (.ref z) >>= _) _ _ _
    refine wpAny_bind (z_item (s := { s with heap := h }) (A := A.in1) D st (Heap.lt_size hS) (Array.getElem?_eq_getElem lx) (Array.getElem?_eq_getElem ly) fun h2 hp st2 hsz k2 => ?_)
    dsimp only at hp hsz k2 ⊢
    have hS2 := k2 _ _ off.z off.to off.i1 off.i2 hS
    show wpAny _ A.in1 (updateSeq S (·.push (Value.ref h.objs.size)) >>= _) _ _ _
    have up : ∀ d u, d ≠ S → h2.get? d = some u → (h2.update S (Obj.mapSeq (·.push (Value.ref h.objs.size)))).get? d = some u := fun d u hd e => (Heap.get?_update_other _ _ (Ne.symm hd)).trans e
    refine wpAny_bind ?_
    refine wpAny_updateSeq hS2 rfl (wpAny_pure ⟨plainId_quiet F.plain_extend_loop _, ih (i + 1) _ _ (acc.push (Value.ref h.objs.size)) (ts ++ [h.objs.size]) (by omega) (st2.keep off up) (by rw [Heap.size_update, hsz]; omega) (fun d u e0 e1 e2 e3 e4 e => up d u e0 (k2 d u e1 e2 e3 e4 (keep d u e0 e1 e2 e3 e4 e))) (Heap.get?_update_self _ hS2 rfl) ?_ ?_ ⟨?_, fun j t hj => ?_⟩⟩) (by rw [sz]; omega) (by show (acc.push (Value.ref h.objs.size)).size ≤ sizeLine + 1; rw [Array.size_push, sz]; omega)
    · rw [Array.toList_push, hacc, List.map_append]
      rfl
    · rw [List.length_append, hts]
      rfl
    · refine List.nodup_append.mpr ⟨G.1, List.nodup_cons.mpr ⟨List.not_mem_nil, List.nodup_nil⟩, fun d hd e he z => ?_⟩
      rw [List.mem_singleton.mp he] at z
      obtain ⟨j, hj⟩ := List.mem_iff_getElem?.mp hd
      obtain ⟨_, x, y, _, _, g3⟩ := G.2 j d hj
      exact Nat.ne_of_lt (Heap.lt_size g3) z
    · rcases Nat.lt_or_ge j ts.length with hj1 | hj1
      · rw [List.getElem?_append_left hj1] at hj
        obtain ⟨g0, x, y, g1, g2, g3⟩ := G.2 j t hj
        obtain ⟨f0, f1, f2, f3, f4⟩ := fresh t g0
        exact ⟨g0, x, y, g1, g2, up _ _ f0 (k2 _ _ f1 f2 f3 f4 g3)⟩
      · rw [List.getElem?_append_right hj1] at hj
        have e0 : j - ts.length = 0 := by
          have z := (List.getElem?_eq_some_iff.mp hj).1
          rw [List.length_singleton] at z
          omega
        rw [e0] at hj
        cases hj
        have ej : j = i := by omega
        subst ej
        exact ⟨hl, _, _, Array.getElem?_eq_getElem lx, Array.getElem?_eq_getElem ly, up _ _ (fresh _ hl).1 hp⟩
/-- list(z), z a zip that has given nothing out -/
theorem z_list {E : Value → Shared → Prop} {n : Nat} {Q : Value → Shared → Prop} (hh : A.handled = none) (D : ZipApart z TI TO i1 i2 a b) (hz0 : IsZip s.heap z TI TO .none) (hti : IsPair s.heap TI (.ref i1) (.ref i2)) (hto : IsPair s.heap TO .none .none) (hi1 : s.heap.IsListIter i1 a 0) (hi2 : s.heap.IsListIter i2 b 0) (hl1 : s.heap.IsList a xs) (hl2 : s.heap.IsList b ys) (hn : n = min xs.size ys.size) (hz : n ≤ sizeLine)
    (q : ∀ h2 acc c ts, (∀ d u, d ≠ z → d ≠ TO → d ≠ i1 → d ≠ i2 → s.heap.get? d = some u → h2.get? d = some u) → h2.get? s.heap.objs.size = some { cls := .type "list", dict := none, data := .seq acc c, slots := #[] } → acc.toList = ts.map Value.ref → ts.length = n → Given (s.heap.objs.size + 1) xs ys h2 ts →
      Q (.ref s.heap.objs.size) { s with heap := h2 }) :
    wpAny (model P w) A (call (.type "list") [.ref z]) Q E s := by
  have st0 : ZAt s.heap z TI TO i1 i2 a b s.heap.objs.size xs ys 0 := ⟨hti, hi1, hi2, hl1, hl2, .inl ⟨hz0, _, _, hto⟩⟩
  have ho : TI < s.heap.objs.size ∧ TO < s.heap.objs.size := ⟨Heap.lt_size hti, Heap.lt_size hto⟩
  obtain ⟨n0, n1, n2⟩ := st0.lt
  have la : a < s.heap.objs.size := by
    obtain ⟨_, e, _⟩ := st0.l1
    exact Heap.lt_size e
  have lb : b < s.heap.objs.size := by
    obtain ⟨_, e, _⟩ := st0.l2
    exact Heap.lt_size e
  have off : ZOff z TI TO i1 i2 a b s.heap.objs.size := ⟨Nat.ne_of_gt n0, Nat.ne_of_gt ho.1, Nat.ne_of_gt ho.2, Nat.ne_of_gt n1, Nat.ne_of_gt n2, Nat.ne_of_gt la, Nat.ne_of_gt lb⟩
  refine callType_codes (Q₁ := fun o s1 => o = .ref s.heap.objs.size ∧ s1 = { s with heap := s.heap.push { cls := .type "list", data := .seq #[] } }) F.called_list (F.typeCall_list_1 _) F.entry_list_init (code_list_new _ ⟨rfl, rfl⟩) fun o s1 e1 => ?_
  obtain ⟨rfl, rfl⟩ := e1
  generalize hS : s.heap.objs.size = S at *
  have at0 : (s.heap.push { cls := .type "list", data := .seq #[] }).get? S = some { cls := .type "list", data := .seq #[] } := by
    rw [← hS]
    exact Heap.get?_push_size _ rfl
  have k0 : ∀ d u, s.heap.get? d = some u → (s.heap.push { cls := .type "list", data := .seq #[] }).get? d = some u := fun d u e => Heap.get?_push_of_some _ e
  have z0 : (s.heap.push { cls := .type "list", data := .seq #[] }).objs.size = S + 1 := by rw [Heap.size_push, hS]
  generalize s.heap.push { cls := .type "list", data := .seq #[] } = H0 at at0 k0 z0 ⊢
  refine ⟨⟨_, at0, rfl⟩, F.args_list_init_2 _ _, ?_⟩
  let tail : Sem PySem.Fin := Builtin.List.listExtendWith (.ref S) (.ref z) .none
  refine (show wpAny _ _ (Builtin.List.listItems (.ref S) >>= fun old => Builtin.List.listUpdate (.ref S) (fun _ => #[]) >>= fun _ => letGo old.toList.reverse >>= fun _ => tail) _ _ _ from wpAny_bind ?_)
  unfold Builtin.List.listItems
  refine wpAny_bind (wpAny_seqItems at0 rfl (wpAny_pure ?_))
  refine (show wpAny _ _ (updateSeq S (fun _ => #[]) >>= fun _ => letGo (#[] : Array Value).toList.reverse >>= fun _ => tail) _ _ _ from wpAny_bind (wpAny_updateSeq at0 rfl (wpAny_bind (wpAny_letGo ?_))))
  have at1 := Heap.get?_update_self (Obj.mapSeq (fun _ => (#[] : Array Value))) at0 rfl
  have k1 : ∀ d u, d ≠ S → H0.get? d = some u → (H0.update S (Obj.mapSeq (fun _ => (#[] : Array Value)))).get? d = some u := fun d u hd e => (Heap.get?_update_other _ _ (Ne.symm hd)).trans e
  have z1 : (H0.update S (Obj.mapSeq (fun _ => (#[] : Array Value)))).objs.size = S + 1 := by rw [Heap.size_update, z0]
  generalize H0.update S (Obj.mapSeq (fun _ => (#[] : Array Value))) = H1 at at1 k1 z1 ⊢
  have old1 : ∀ d u, s.heap.get? d = some u → H1.get? d = some u := fun d u e => k1 d u (Nat.ne_of_lt (by rw [← hS]; exact Heap.lt_size e)) (k0 d u e)
  have ty : ∀ h2 : Heap, (∀ d u, s.heap.get? d = some u → h2.get? d = some u) → Shared.TypeIs { s with heap := h2 } (.ref z) "zip" := fun h2 k => ⟨_, k _ _ hz0, rfl⟩
  show wpAny _ _ (Builtin.List.listExtendWith (.ref S) (.ref z) .none) _ _ _
  unfold Builtin.List.listExtendWith
  refine wpAny_bind (wpAny_typeOf (ty H1 old1) ?_)
  have b1 : Builtin.List.listSameRef (.ref S) (.ref z) = false := by simp [Builtin.List.listSameRef, off.z]
  have b2 : (Value.type "zip" == Value.type "list") = false := by decide
  have b3 : (Value.type "zip" == Value.type "tuple") = false := by decide
  simp only [b1, b2, b3, Bool.or_false, Bool.false_eq_true, if_false]
  refine wpAny_bind (wpAny_pyIter_zip (s := { s with heap := H1 }) (old1 _ _ hz0) (wpAny_bind (wpAny_holding ?_)))
  unfold Builtin.List.listLengthHint
  refine wpAny_bind (wpAny_specialOf (ty H1 old1) zl_len ?_)
  refine (show wpAny _ _ (specialOf (Value.ref z) (Str.ofString "__length_hint__") >>= _) _ _ _ from wpAny_bind (wpAny_specialOf (ty H1 old1) zl_hint (wpAny_pure ?_)))
  refine (show wpAny _ _ (rule "list.extend.makes-room" >>= fun _ => Builtin.List.listTouch (.ref S) >>= fun _ => again (.builtin "list.extend.loop" ⟨[.ref S, .ref z, .none], []⟩)) _ _ _ from wpAny_bind (wpAny_rule (wpAny_bind ?_)))
  refine (show wpAny _ _ (updateSeq S (·.push .none) >>= fun _ => updateSeq S (·.pop)) _ _ _ from wpAny_bind (wpAny_updateSeq at1 rfl ?_))
  have at2 := Heap.get?_update_self (Obj.mapSeq (·.push Value.none)) at1 rfl
  refine wpAny_updateSeq (hz := by seq_fits) at2 rfl ?_
  have at3 := Heap.get?_update_self (Obj.mapSeq (·.pop)) at2 rfl
  have k2 : ∀ d u, d ≠ S → H1.get? d = some u → ((H1.update S (Obj.mapSeq (·.push Value.none))).update S (Obj.mapSeq (·.pop))).get? d = some u := fun d u hd e => (Heap.get?_update_other _ _ (Ne.symm hd)).trans ((Heap.get?_update_other _ _ (Ne.symm hd)).trans e)
  have z2 : ((H1.update S (Obj.mapSeq (·.push Value.none))).update S (Obj.mapSeq (·.pop))).objs.size = S + 1 := by rw [Heap.size_update, Heap.size_update, z1]
  have old2 : ∀ d u, s.heap.get? d = some u → ((H1.update S (Obj.mapSeq (·.push Value.none))).update S (Obj.mapSeq (·.pop))).get? d = some u := fun d u e => k2 d u (Nat.ne_of_lt (by rw [← hS]; exact Heap.lt_size e)) (old1 d u e)
  have lo : ∀ d, d < S → d < S + 1 := fun d h => Nat.lt_succ_of_lt h
  refine wpAny_pure ⟨plainId_quiet F.plain_extend_loop _, z_loop (s := s) (A := A.in1) (base := s.heap) (lo := S + 1) (n := n) (by simp [hh]) D off hn hz ⟨Nat.lt_succ_self _, lo _ n0, lo _ ho.2, lo _ n1, lo _ n2⟩ (fun h2 acc c ts kp g1 g2 g3 g4 => ⟨rfl, q h2 acc c ts (fun d u e1 e2 e3 e4 e => kp d u (Nat.ne_of_lt (by rw [← hS]; exact Heap.lt_size e)) e1 e2 e3 e4 e) g1 g2 g3 g4⟩) n 0 _ _ #[] [] (by omega) (st0.keep off fun d u hd e => old2 d u e) (Nat.le_of_eq z2.symm) (fun d u e0 _ _ _ _ e => old2 d u e) at3 rfl rfl ⟨List.nodup_nil, fun j t hj => by simp at hj⟩⟩
end
theorem refs_vals : ∀ l : List Addr, Vals (l.map V.ref) (l.map Value.ref)
  | [] => .nil
  | _ :: l => .cons rfl (refs_vals l)
section
variable {X : Cx}
/-- many new objects are known at once: H2 tells no less, and of what it tells anew each is above what stood -/
theorem inv_lays {pins : List (Addr × Obj)} {σ : L2.St} {H H2 : Hp} {s : Shared} {h2 : Heap} {t2 : Nat} (I : Inv X pins σ H s) (k : ∀ b o, s.heap.get? b = some o → h2.get? b = some o) (low : ∀ b o, H b = some o → H2 b = some o)
    (new : ∀ b o, H2 b = some o → H b = some o ∨ (s.heap.objs.size ≤ b ∧ ObjOk X.prog X.w H2 h2 b o)) : Inv X pins σ H2 { s with heap := h2, toks := t2 } := by
  refine I.call' (ch := []) rfl ⟨fun b o q _ _ _ => k b o q, fun b o q _ _ _ => ⟨o.slots, k b o q⟩, fun b o q n _ => ?_, fun b o q _ => ⟨o, k b o q⟩, fun b xs q => low b _ q, fun b o u q => low b _ q, fun b ps q => ⟨#[], by simp [low b _ q]⟩⟩ (fun b u q => ?_) I.bare fun b z => absurd z (by simp)
  · cases e : H2 b with
    | none => rfl
    | some u =>
      rcases new b u e with z | ⟨z, _⟩
      · rw [n] at z
        cases z
      · exact absurd (Heap.lt_size q) (Nat.not_lt.mpr z)
  · rcases new b u q with z | ⟨_, z⟩
    · exact (I.hok b u z).stay (fun d v _ y => k d v y) (fun d y => low d _ y) fun d xs y => low d _ y
    · exact z
/-- list(zip(xs, ys)): a new list of new pairs -/
def tListZip (K : PySem.W.Frag) (t : TA) : TE := fun σ H Q => t σ H fun vs H1 => ∃ (a b : Addr) (xs ys : List V), vs = [.ref a, .ref b] ∧ SqL K H1 a xs ∧ SqL K H1 b ys ∧
  ∀ (p : Addr) (ts : List Addr) H2, (∀ c o, H1 c = some o → H2 c = some o) → H1 p = none → H2 p = some (.lst (ts.map V.ref)) → ts.length = min xs.length ys.length →
    (∀ (j : Nat) (u : Addr) (x y : V), ts[j]? = some u → xs[j]? = some x → ys[j]? = some y → H2 u = some (.tup [x, y])) → (∀ u ∈ ts, H1 u = none) → Q (.ref p) H2
theorem pe_listZip {e1 e2 : Expr} {t : TA} {p p2 q pos : Pos} (hc : X.calm = true) (hg : Gl X "list") (hm : X.mg "list" = none) (hg2 : Gl X "zip") (hm2 : X.mg "zip" = none) (ha : PA X [e1, e2] t)
    (ho : starEach [.Call (.Name "zip" p2) [e1, e2] [] q] X.env = (false, eval (.Call (.Name "zip" p2) [e1, e2] [] q) X.env) :: starEach [] X.env := by rfl)
    (hs : starEach [e1, e2] X.env = (false, eval e1 X.env) :: starEach [e2] X.env := by rfl) (hpl : (backTo q (starEach [e2] X.env)).any (·.1) = false := by rfl) :
    PE X (.Call (.Name "list" p) [.Call (.Name "zip" p2) [e1, e2] [] q] [] pos) (tListZip X.K t) := by
  refine ⟨fun pins s σ H Q I h => ?_⟩
  have run := ha.run q pins s σ H _ I h
  refine Call_ (ld_blt I hg hm (u := .type "list") (by rfl) ?_)
  refine callWith_type1 (args_cons ?_ ho) ho rfl
  refine Call_ (ld_blt I hg2 hm2 boot_zip (callWith_type1 (thn run fun us s1 r => ?_) hs hpl))
  obtain ⟨vs, H1, I1, rv, a, b, xs, ys, rfl, ka, kb, fin⟩ := r
  obtain ⟨u1, u2, rfl, ru1, ru2⟩ := vals2 rv
  cases (show u1 = Value.ref a from ru1)
  cases (show u2 = Value.ref b from ru2)
  obtain ⟨js, ra, pa, za⟩ := I1.list ka
  obtain ⟨ks, rb, pb, zb⟩ := I1.list kb
  refine call_zip_2 pa.isList pb.isList fun h1 hz hti hto hi1 hi2 sz1 k1 => args_nil ?_
  have ea : js.toArray.size = xs.length := by rw [List.size_toArray, ra.length]
  have eb : ks.toArray.size = ys.length := by rw [List.size_toArray, rb.length]
  refine z_list (s := { s1 with heap := h1 }) (n := min xs.length ys.length) (I1.ok.hd hc) (PySem.W.ktu_apart s1.heap.objs.size a b pa.lt pb.lt) hz hti hto hi1 hi2 (pa.isList.at fun o e => k1 a o e) (pb.isList.at fun o e => k1 b o e) (by rw [ea, eb]) (by omega) fun h2 acc c ts k2 hS hacc hlen G => ?_
  dsimp only at k2 hS G ⊢
  have kk : ∀ d u, s1.heap.get? d = some u → h2.get? d = some u := fun d u e => by
    have lt := Heap.lt_size e
    exact k2 d u (Nat.ne_of_lt (Nat.lt_of_lt_of_le lt (Nat.le_add_right _ 4))) (Nat.ne_of_lt (Nat.lt_of_lt_of_le lt (Nat.le_add_right _ 3))) (Nat.ne_of_lt lt) (Nat.ne_of_lt (Nat.lt_of_lt_of_le lt (Nat.le_add_right _ 1))) (k1 d u e)
  have hge : ∀ u ∈ ts, h1.objs.size < u := fun u hu => by
    obtain ⟨j, hj⟩ := List.mem_iff_getElem?.mp hu
    exact (G.2 j u hj).1
  have fresh : ∀ d, s1.heap.objs.size ≤ d → H1 d = none := fun d hd => I1.hok.fresh hd
  have hS0 : H1 h1.objs.size = none := fresh _ (by omega)
  have hts0 : ∀ u ∈ ts, H1 u = none := fun u hu => fresh _ (by have := hge u hu; omega)
  let H2 : Hp := fun d => if d = h1.objs.size then some (.lst (ts.map V.ref)) else if d ∈ ts then some (.tup [xs.getD (ts.idxOf d) .non, ys.getD (ts.idxOf d) .non]) else H1 d
  have at_S : H2 h1.objs.size = some (.lst (ts.map V.ref)) := if_pos rfl
  have low : ∀ d o, H1 d = some o → H2 d = some o := fun d o e => by
    have n1 : d ≠ h1.objs.size := ne_of_none e hS0
    have n2 : d ∉ ts := fun z => by
      rw [hts0 d z] at e
      cases e
    show (if d = h1.objs.size then _ else if d ∈ ts then _ else H1 d) = some o
    rw [if_neg n1, if_neg n2]
    exact e
  have at_t : ∀ (j : Nat) (u : Addr) (x y : V), ts[j]? = some u → xs[j]? = some x → ys[j]? = some y → H2 u = some (.tup [x, y]) := fun j u x y hu hx hy => by
    have hm := List.mem_of_getElem? hu
    have n1 : u ≠ h1.objs.size := Nat.ne_of_gt (hge u hm)
    have hj := (List.getElem?_eq_some_iff.mp hu).1
    have ej : ts.idxOf u = j := by
      obtain ⟨_, e⟩ := List.getElem?_eq_some_iff.mp hu
      rw [← e]
      exact G.1.idxOf_getElem j hj
    show (if u = h1.objs.size then _ else if u ∈ ts then _ else H1 u) = _
    rw [if_neg n1, if_pos hm, ej, List.getD_eq_getElem?_getD, List.getD_eq_getElem?_getD, hx, hy] <;> rfl
  refine ⟨.ref h1.objs.size, H2, inv_lays (t2 := s1.toks) I1 kk low fun d o e => ?_, rfl, fin h1.objs.size ts H2 low hS0 at_S hlen at_t hts0⟩
  by_cases n1 : d = h1.objs.size
  · subst n1
    rw [at_S] at e
    cases e
    refine .inr ⟨by omega, ?_, acc.toList, c, ?_, ?_⟩
    · rw [List.length_map]
      omega
    · rw [hacc]
      exact refs_vals ts
    · rw [Array.toArray_toList]
      exact hS
  · by_cases n2 : d ∈ ts
    · obtain ⟨j, hj⟩ := List.mem_iff_getElem?.mp n2
      obtain ⟨_, x, y, g1, g2, g3⟩ := G.2 j d hj
      have hjl := (List.getElem?_eq_some_iff.mp hj).1
      have hx : xs[j]? = some xs[j] := List.getElem?_eq_getElem (by omega)
      have hy : ys[j]? = some ys[j] := List.getElem?_eq_getElem (by omega)
      rw [at_t j d _ _ hj hx hy] at e
      cases e
      obtain ⟨v1, hv1, rv1⟩ := ra.get hx
      obtain ⟨v2, hv2, rv2⟩ := rb.get hy
      have e1 : x = v1 := by
        have g1 : js[j]? = some x := by simpa using g1
        rw [hv1] at g1
        exact (Option.some.inj g1).symm
      have e2 : y = v2 := by
        have g2 : ks[j]? = some y := by simpa using g2
        rw [hv2] at g2
        exact (Option.some.inj g2).symm
      subst e1 e2
      exact .inr ⟨by have := hge d n2; omega, by show 2 ≤ sizeLine; decide, [x, y], .cons rv1 (.cons rv2 .nil), ⟨_, g3, rfl, _, rfl⟩⟩
    · refine .inl ?_
      have e : (if d = h1.objs.size then _ else if d ∈ ts then _ else H1 d) = some o := e
      rw [if_neg n1, if_neg n2] at e
      exact e
end
end Sb

/-! ## W142 -/
/-! Drawn webs: names drawn, ways, ties named anew. -/
namespace Sb
open PySem PySem.Spec PyProof.Rows L2
abbrev sNames : Stmt := top 50
abbrev sWays : Stmt := top 52
abbrev sRenamed : Stmt := top 51
section
variable {X : Cx}
theorem ix_lK {K : PySem.W.Frag} (hK : X.K = K := by rfl) : IxR X (rIxL K) := hK ▸ ix_list
end
structure WTxt (mg : Str → Option Value) : Prop where
  len : mg "len" = none
  range : mg "range" = none
  list : mg "list" = none
  zip : mg "zip" = none
  sorted : mg "sorted" = none
  tuple : mg "tuple" = none
  min : mg "min" = none
  max : mg "max" = none
  sum : mg "sum" = none
theorem ge_same_but {p : Addr} {H H1 H2 : Hp} (b : But p H H1) (s : Same H1 H2) : But p H H2 := b.trans (sameBut s)
/-- the numbers below n -/
def upto (n : Nat) : List Int := (List.range n).map fun (i : Nat) => (i : Int)
theorem rg0 (n : Nat) : rgV 0 (n : Int) = (upto n).map V.int := by
  unfold rgV upto
  rw [List.map_map]
  have e : ((n : Int) - 0).toNat = n := by omega
  rw [e]
  refine List.map_congr_left fun i _ => ?_
  show V.int (0 + (i : Nat)) = V.int (i : Int)
  rw [Int.zero_add]
def spNames : Sp := fun vs H Q _ => ∃ (p c : Addr) (k n : Nat), vs = [.ref p, .int (n : Int)] ∧ Pen H p c k ∧ k < 900000 ∧ n ≤ 1000 ∧
  ∀ (l : Addr) H' (ns : List Int) k', But p H H' → H l = none → H' l = some (.lst (ns.map V.int)) → ns.Perm (upto n) → k' ≤ k + n → Pen H' p c k' → Q (.ref l) H'
theorem perm_erase {rs : List Int} {j : Nat} (h : j < rs.length) : ([rs[j]] ++ rs.eraseIdx j).Perm rs := by
  show (rs[j] :: rs.eraseIdx j).Perm rs
  rw [List.eraseIdx_eq_take_drop_succ]
  have e : rs = rs.take j ++ rs[j] :: rs.drop (j + 1) := by
    rw [← List.drop_eq_getElem_cons h, List.take_append_drop]
  refine List.Perm.trans (List.perm_middle (l₁ := rs.take j)).symm ?_
  rw [← e]
/-! ### pairs in a list -/
def PrsAt (H : Hp) (qs : List Addr) (ts : List (Int × Int)) : Prop := qs.length = ts.length ∧ ∀ (i : Nat) (q : Addr) (a b : Int), qs[i]? = some q → ts[i]? = some (a, b) → H q = some (.tup [.int a, .int b])
def PrsL (H : Hp) (l : Addr) (ts : List (Int × Int)) : Prop := ∃ qs : List Addr, H l = some (.lst (qs.map V.ref)) ∧ PrsAt H qs ts
theorem PrsAt.mono {H H' : Hp} {qs : List Addr} {ts : List (Int × Int)} (h : PrsAt H qs ts) (k : ∀ q xs, H q = some (.tup xs) → H' q = some (.tup xs)) : PrsAt H' qs ts := ⟨h.1, fun i q a b e1 e2 => k _ _ (h.2 i q a b e1 e2)⟩
theorem PrsAt.nil {H : Hp} : PrsAt H [] [] := ⟨rfl, fun i q a b e _ => by simp at e⟩
theorem PrsAt.app {H : Hp} {qs rs : List Addr} {ts us : List (Int × Int)} (h : PrsAt H qs ts) (g : PrsAt H rs us) : PrsAt H (qs ++ rs) (ts ++ us) := by
  refine ⟨by rw [List.length_append, List.length_append, h.1, g.1], fun i q a b e1 e2 => ?_⟩
  rcases Nat.lt_or_ge i qs.length with hi | hi
  · rw [List.getElem?_append_left hi] at e1
    rw [List.getElem?_append_left (by rw [← h.1]; exact hi)] at e2
    exact h.2 i q a b e1 e2
  · rw [List.getElem?_append_right hi] at e1
    rw [List.getElem?_append_right (by rw [← h.1]; exact hi), ← h.1] at e2
    exact g.2 _ q a b e1 e2
theorem PrsL.same {H H' : Hp} {l : Addr} {ts : List (Int × Int)} (h : PrsL H l ts) (s : Same H H') : PrsL H' l ts := by
  obtain ⟨qs, e, g⟩ := h
  exact ⟨qs, s _ _ e, g.mono fun q xs e => s _ _ e⟩
theorem PrsL.but {H H' : Hp} {l p : Addr} {ts : List (Int × Int)} (h : PrsL H l ts) (b : But p H H') (n : l ≠ p) {xs : List V} (hp : H p = some (.lst xs)) : PrsL H' l ts := by
  obtain ⟨qs, e, g⟩ := h
  refine ⟨qs, b _ _ n e, g.mono fun q zs e => b _ _ (fun z => ?_) e⟩
  rw [z, hp] at e
  cases e
def rowOf (x y : Int) (f : Int) (m : Nat) : List Int := x :: ((List.range m).map fun (i : Nat) => f + (i : Int)) ++ [y]
def legs (l : List Int) : List (Int × Int) := l.zip l.tail
def waysOf (x y : Int) : List Nat → Int → List (Int × Int)
  | [], _ => []
  | m :: r, f => legs (rowOf x y f m) ++ waysOf x y r (f + m)
theorem ways_snoc (x y : Int) : ∀ (a : List Nat) (m : Nat) (f : Int), waysOf x y (a ++ [m]) f = waysOf x y a f ++ legs (rowOf x y (f + (a.sum : Nat)) m)
  | [], m, f => by
    show legs (rowOf x y f m) ++ [] = [] ++ legs (rowOf x y (f + ((0 : Nat) : Int)) m)
    rw [List.append_nil, List.nil_append]
    congr 2
    omega
  | b :: a, m, f => by
    show legs (rowOf x y f b) ++ waysOf x y (a ++ [m]) (f + b) = legs (rowOf x y f b) ++ waysOf x y a (f + b) ++ _
    rw [ways_snoc x y a m (f + b), List.append_assoc, List.sum_cons]
    have e : f + (b : Int) + ((a.sum : Nat) : Int) = f + ((b + a.sum : Nat) : Int) := by omega
    rw [e]
theorem rowOf_len (x y f : Int) (m : Nat) : (rowOf x y f m).length = m + 2 := by
  unfold rowOf
  rw [List.length_append, List.length_cons, List.length_map, List.length_range]
  rfl
theorem legs_len (x y f : Int) (m : Nat) : (legs (rowOf x y f m)).length = m + 1 := by
  unfold legs
  rw [List.length_zip, List.length_tail, rowOf_len]
  omega
theorem ways_len (x y : Int) : ∀ (a : List Nat) (f : Int), (waysOf x y a f).length = a.sum + a.length
  | [], _ => rfl
  | m :: a, f => by
    show (legs (rowOf x y f m) ++ waysOf x y a (f + m)).length = _
    rw [List.length_append, legs_len, ways_len x y a, List.sum_cons, List.length_cons]
    omega
theorem cut1 (x : Int) (l : List Int) : cutV ((x :: l).map V.int) (some 1) none = l.map V.int := by
  unfold cutV
  rw [HT.sIx_none, show ((1 : Int)) = ((1 : Nat) : Int) from rfl, HT.sIx_nat, List.map_cons, List.length_cons, Nat.min_eq_left (by omega), List.drop_succ_cons, List.drop_zero]
  exact List.take_of_length_le (by omega)
def spWays (K : PySem.W.Frag) : Sp := fun vs H Q _ => ∃ (e l : Addr) (x y f : Int) (ls : List Nat), vs = [.ref e, .ref l, .int f] ∧ SqT K H e [.int x, .int y] ∧ SqL K H l (ls.map fun (m : Nat) => V.int (m : Int)) ∧ 0 ≤ f ∧ f ≤ 1000 ∧ ls.length ≤ 20 ∧ (∀ m ∈ ls, m ≤ 50) ∧
  ∀ fd H', Same H H' → H fd = none → PrsL H' fd (waysOf x y ls f) → Q (.ref fd) H'
theorem sum_take {ls : List Nat} {B i m : Nat} (h : ∀ m ∈ ls, m ≤ B) (hi : ls[i]? = some m) : (ls.take (i + 1)).sum = (ls.take i).sum + m := by
  rw [List.take_add_one, hi, List.sum_append]
  simp
theorem sum_le {B : Nat} : ∀ {ls : List Nat}, (∀ m ∈ ls, m ≤ B) → ls.sum ≤ B * ls.length
  | [], _ => Nat.zero_le _
  | m :: r, h => by
    have h1 := h m List.mem_cons_self
    have h2 := sum_le (ls := r) fun k hk => h k (List.mem_cons_of_mem _ hk)
    rw [List.sum_cons, List.length_cons, Nat.mul_succ]
    omega
/-! ### ties named anew -/
def nmTie (ns : List Int) (t : Int × Int) : Int × Int := (if ns.getD t.2.toNat 0 < ns.getD t.1.toNat 0 then ns.getD t.2.toNat 0 else ns.getD t.1.toNat 0, if ns.getD t.1.toNat 0 < ns.getD t.2.toNat 0 then ns.getD t.2.toNat 0 else ns.getD t.1.toNat 0)
/-- pairs in a tuple -/
def PrsT (H : Hp) (t : Addr) (ts : List (Int × Int)) : Prop := ∃ qs : List Addr, H t = some (.tup (qs.map V.ref)) ∧ PrsAt H qs ts
/-- no later one before an earlier one -/
def Asc (ts : List (Int × Int)) : Prop := ts.Pairwise fun s t => SrtO.lexB t s = false
def spRenamed : Sp := fun vs H Q _ => ∃ (l nl : Addr) (ts : List (Int × Int)) (ns : List Int), vs = [.ref l, .ref nl] ∧ PrsL H l ts ∧ H nl = some (.lst (ns.map V.int)) ∧ ts.length ≤ 100000 ∧ (∀ t ∈ ts, 0 ≤ t.1 ∧ t.1 < ns.length ∧ 0 ≤ t.2 ∧ t.2 < ns.length) ∧
  ∀ (t : Addr) (us : List (Int × Int)) H', Same H H' → us.Perm (ts.map (nmTie ns)) → Asc us → PrsT H' t us → Q (.ref t) H'
theorem getMapA {l : List Addr} {i : Nat} {y : V} (h : (l.map V.ref)[i]? = some y) : ∃ q, l[i]? = some q ∧ y = .ref q := by
  rw [List.getElem?_map] at h
  obtain ⟨q, h1, h2⟩ := Option.map_eq_some_iff.mp h
  exact ⟨q, h1, h2.symm⟩
def unref : V → Addr
  | .ref q => q
  | _ => 0
theorem refs_perm {ys : List V} {rs : List Addr} (h : ys.Perm (rs.map V.ref)) : ∃ zs : List Addr, ys = zs.map V.ref ∧ zs.Perm rs := by
  refine ⟨ys.map unref, ?_, ?_⟩
  · rw [List.map_map]
    have e : ∀ y ∈ ys, (V.ref ∘ unref) y = y := fun y hy => by
      obtain ⟨q, _, rfl⟩ := List.mem_map.mp (h.mem_iff.mp hy)
      rfl
    exact ((List.map_congr_left e).trans (List.map_id _)).symm
  · have z := h.map unref
    rw [List.map_map] at z
    exact z.trans (List.Perm.of_eq (List.map_id _))
def pairAt (H : Hp) (v : V) : Int × Int := match v with
  | .ref q => match H q with
    | some (.tup [.int a, .int b]) => (a, b)
    | _ => (0, 0)
  | _ => (0, 0)
section
variable {P : Program} {w : World} {K : PySem.W.Frag} {mg : Str → Option Value} {base : Heap} {C : Nat → Addr}
theorem scNames : FnScope ["pen", "n", "left", "found", "turn"] ["pen", "n"] (defScope sNames) := ⟨rfl, rfl, rfl, by decide +kernel, rfl, by decide +kernel, by decide +kernel⟩
theorem ok_names {f fT : Addr} {fd fdT : FuncData} (F : FnP K "_law_any_names" sNames f fd) (T : WTxt mg) (FT : FnP K "_law_take" sTake fT fdT) (gT : mg "_law_take" = some (.ref fT)) (GT : FnOk P w K mg base CX0 2 fT fdT ["pen", "many"] spTake) : FnOk P w K mg base CX0 3 f fd ["pen", "n"] spNames := by
  have bT : Binds K fdT ["pen", "many"] [] := FT.bindsN fun _ _ _ _ _ _ us hl => match us, hl with | [_, _], _ => rfl
  refine ok0 F scNames (fun vs H Q E h => ?_) (fun cdv A outer s H vs Q E hr h => ?_)
  · obtain ⟨p, c, k, n, rfl, _⟩ := h
    rfl
  · obtain ⟨p, c, k, n, rfl, hp, hk, hn, q⟩ := h
    refine ⟨_, (pss_cons (ps_par (i := 2) (j := 3) (by rfl) scNames.nd rfl rfl (by decide) rfl rfl (pa_cons (pe_listRg rfl rfl T.list (prg_1 rfl T.range (pv 1))) (pa_cons (pe_lstL pa_nil) pa_nil)) (by rfl))
    (pss_cons (ps_for PassesOwn.never rfl (pi_range1 (by rfl) T.range (pa_cons (pv 1) pa_nil)) (pg_name (i := 4) scNames.nd rfl (Or.inl rfl))
      (pss_one (ps_expr (pe_bm PySem.F.plainAttrs_list PySem.F.slot_list_append PySem.F.type_list_append mt_appendL (pv 3) (pa_cons (pe_bm PySem.F.plainAttrs_list PySem.F.slot_list_pop PySem.F.type_list_pop mt_popAt (pv 2) (pa_cons (pe_call GT hr rfl gT FT.kp bT .nil pass0 (pa_cons (pv 0) (pa_cons (pe_callB (id := "len") call_len_seq (by rfl) T.len (by decide +kernel) (pa_cons (pv 2) pa_nil)) pa_nil))) pa_nil)) pa_nil)))))
    (pss_one (ps_ret (pv 3))))), ?_⟩
    obtain ⟨⟨op, hop⟩, ⟨oc, hoc⟩⟩ := hp.there
    refine ⟨_, rfl, _, rfl, RgOk.of_le (by decide) (by omega) (by decide) (by omega), fun lf nlf => ?_⟩
    have hlf : (upd H lf (.lst (rgV 0 (n : Int)))) lf = some (.lst ((upto n).map V.int)) := by rw [upd_same, rg0]
    have Sf : Same H (upd H lf (.lst (rgV 0 (n : Int)))) := same_upd nlf
    generalize upd H lf (.lst (rgV 0 (n : Int))) = H1 at hlf Sf
    refine ⟨by show 0 ≤ sizeLine; decide, fun fd0 H2 n2 S2 h2 => ?_⟩
    have h2 : H2 fd0 = some (.lst ([] : List V)) := h2
    have S02 := Sf.trans S2
    have npl : p ≠ lf := ne_of_none hop nlf
    have npf : p ≠ fd0 := ne_of_none (Sf _ _ hop) n2
    have ncl : c ≠ lf := ne_of_none hoc nlf
    have ncf : c ≠ fd0 := ne_of_none (Sf _ _ hoc) n2
    have nlf2 : lf ≠ fd0 := ne_of_none hlf n2
    refine ⟨_, _, rfl, _, rfl, n, rfl, by omega, by omega, for_range (lo := 0) (n := (n : Int).toNat) (fun i σ H' => (∃ x, σ = [some (.ref p), some (.int (n : Int)), some (.ref lf), some (.ref fd0), x]) ∧ But p H H' ∧ ∃ (rs fs : List Int) (k' : Nat), H' lf = some (.lst (rs.map V.int)) ∧ H' fd0 = some (.lst (fs.map V.int)) ∧ fs.length = i ∧ (fs ++ rs).Perm (upto n) ∧ k' ≤ k + i ∧ Pen H' p c k')
      ⟨⟨none, rfl⟩, sameBut S02, upto n, [], k, S2 _ _ hlf, h2, rfl, List.Perm.refl _, Nat.le_refl _, hp.same S02⟩ ?_ ?_⟩
    · rintro i σ H' hi ⟨⟨x, rfl⟩, B, rs, fs, k', hl, hf, hfl, hpm, hk', hpn⟩
      have hi : i < n := by omega
      have ul : (upto n).length = n := by unfold upto; rw [List.length_map, List.length_range]
      have hrl : rs.length = n - i := by
        have z := hpm.length_eq
        rw [List.length_append, ul] at z
        omega
      refine ⟨_, rfl, .inl ⟨rfl, _, SqL.of hf⟩, _, rfl, .inl ⟨rfl, _, SqL.of hl⟩, _, rfl, _, rfl, lf, _, rfl, .inl (SqL.of hl), p, c, k', _, rfl, hpn, by rw [List.length_map]; omega, by rw [List.length_map]; omega, by omega, fun r H4 k4 r0 r1 B4 hk4 hp4 => ?_⟩
      rw [List.length_map] at r1
      have hr : r.toNat < rs.length := by omega
      have hl4 := B4 _ _ npl.symm hl
      have hf4 := B4 _ _ npf.symm hf
      refine ⟨lf, _, r, r.toNat, .int rs[r.toNat], rfl, rfl, hl4, by omega, by omega, seqIndex_of r0 (by rw [List.length_map]; exact r1), by rw [List.getElem?_map, List.getElem?_eq_getElem hr]; rfl, ?_⟩
      have ge : ((rs.map V.int).eraseIdx r.toNat) = (rs.eraseIdx r.toNat).map V.int := erase_mapI rs r.toNat
      refine ⟨fd0, _, _, rfl, rfl, (by rw [upd_ne nlf2.symm]; exact hf4), ?_, fun H5 B5 h5 => ?_⟩
      · rw [List.length_map]
        exact small1000 (by omega)
      refine ⟨⟨_, rfl⟩, fun b o nb hb => ?_, rs.eraseIdx r.toNat, fs ++ [rs[r.toNat]], k4, ?_, ?_, ?_, ?_, by omega, ?_⟩
      · have e1 : b ≠ fd0 := ne_of_none (Sf _ _ hb) n2
        have e2 : b ≠ lf := ne_of_none hb nlf
        refine B5 _ _ e1 ?_
        rw [upd_ne e2]
        exact B4 _ _ nb (B _ _ nb hb)
      · refine B5 _ _ nlf2 ?_
        rw [upd_same, ge]
      · rw [h5, List.map_append]
        rfl
      · rw [List.length_append, hfl]
        rfl
      · refine List.Perm.trans ?_ hpm
        rw [List.append_assoc]
        exact List.Perm.append_left fs (perm_erase hr)
      · refine hp4.at (fun o e => B5 _ _ npf ?_) (fun o e => B5 _ _ ncf ?_)
        · rw [upd_ne npl]
          exact e
        · rw [upd_ne ncl]
          exact e
    · rintro σ H' ⟨⟨x, rfl⟩, B, rs, fs, k', hl, hf, hfl, hpm, hk', hpn⟩
      have en : ((n : Int)).toNat = n := by omega
      rw [en] at hfl hk'
      have ul : (upto n).length = n := by unfold upto; rw [List.length_map, List.length_range]
      have hr0 : rs = [] := by
        have z := hpm.length_eq
        rw [List.length_append, ul] at z
        exact List.eq_nil_of_length_eq_zero (by omega)
      rw [hr0, List.append_nil] at hpm
      exact ⟨_, rfl, q fd0 H' fs k' B (Sf.free n2) hf hpm hk' hpn⟩
theorem scWays : FnScope ["ends", "lengths", "first", "found", "many", "row"] ["ends", "lengths", "first"] (defScope sWays) := ⟨rfl, rfl, rfl, by decide +kernel, rfl, by decide +kernel, by decide +kernel⟩
theorem ok_ways {f : Addr} {fd : FuncData} (F : FnP K "_law_ways" sWays f fd) (T : WTxt mg) : FnOk P w K mg base CX0 1 f fd ["ends", "lengths", "first"] (spWays K) := by
  refine ok0 F scWays (fun vs H Q E h => ?_) (fun cdv A outer s H vs Q E hr h => ?_)
  · obtain ⟨e, l, x, y, f, ls, rfl, _⟩ := h
    rfl
  · obtain ⟨e, l, x, y, fi, ls, rfl, he, hl, f0, f1, hn, hm, q⟩ := h
    refine ⟨_, (pss_cons (ps_set (i := 3) scWays.nd rfl (Or.inl rfl) (pe_lstL pa_nil))
    (pss_cons (ps_for PassesOwn.never rfl (pi_list (pv 1)) (pg_name (i := 4) scWays.nd rfl (Or.inl rfl))
      (pss_cons (ps_set (i := 5) scWays.nd rfl (Or.inl rfl) (pe_op op_catL (pe_op op_catL (pe_lstL (pa_cons (pe_ix ix_tup (pv 0) pe_int (fun _ _ => rfl)) pa_nil)) (pe_listRg rfl rfl T.list (prg_2 rfl T.range (pv 2) (pe_op op_add (pv 2) (pv 4))))) (pe_lstL (pa_cons (pe_ix ix_tup (pv 0) pe_int (fun _ _ => rfl)) pa_nil))))
    (pss_one (ps_par (i := 3) (j := 2) (by rfl) scWays.nd rfl rfl (by decide) rfl rfl (pa_cons (pe_op op_catL (pv 3) (pe_listZip rfl rfl T.list rfl T.zip (pa_cons (pv 5) (pa_cons (pe_slice sl_listL (pv 5) (po_some pe_int) po_none) pa_nil)))) (pa_cons (pe_op op_add (pv 2) (pv 4)) pa_nil)) (by rfl)))))
    (pss_one (ps_ret (pv 3))))), ?_⟩
    refine ⟨by show 0 ≤ sizeLine; decide, fun fd0 H1 n1 S1 h1 => ?_⟩
    have e0 : fi + (((ls.take 0).sum : Nat) : Int) = fi := by
      rw [List.take_zero, List.sum_nil]
      omega
    refine ⟨_, rfl, l, rfl, ⟨_, S1.seq hl⟩, for_list (K := K) (a := l) (xs := ls.map fun (m : Nat) => V.int (m : Int)) (fun i σ H' => ∃ (fd : Addr) (u v : Option V), σ = [some (.ref e), some (.ref l), some (.int (fi + ((ls.take i).sum : Nat))), some (.ref fd), u, v] ∧ Same H H' ∧ H fd = none ∧ PrsL H' fd (waysOf x y (ls.take i) fi))
      ⟨fd0, none, none, by rw [e0]; rfl, S1, n1, [], h1, PrsAt.nil⟩ (fun i σ H' _ ⟨_, _, _, _, S, _⟩ => S.seq hl) ?_ ?_⟩
    · rintro i y0 σ H' hi ⟨fd, u, v, rfl, S, nf, qs, hf, hq⟩
      rw [List.getElem?_map] at hi
      obtain ⟨m, hmi, rfl⟩ := Option.map_eq_some_iff.mp hi
      have hm50 := hm m (List.mem_of_getElem? hmi)
      have hil := (List.getElem?_eq_some_iff.mp hmi).1
      have hst : (ls.take i).sum ≤ 50 * 20 := by
        refine Nat.le_trans (sum_le (B := 50) fun k hk => hm k (List.mem_of_mem_take hk)) ?_
        rw [List.length_take]
        exact Nat.mul_le_mul_left 50 (by omega)
      have ss := sum_take hm hmi
      have sn := ways_snoc x y (ls.take i) m fi
      have et : ls.take i ++ [m] = ls.take (i + 1) := (take_more hmi).symm
      rw [et] at sn
      generalize hG : fi + (((ls.take i).sum : Nat) : Int) = g at sn ⊢
      have g0 : 0 ≤ g := by omega
      have g1 : g ≤ 2000 := by omega
      -- row
      refine ⟨_, rfl, e, _, _, _, rfl, rfl, sqT_same S he, rfl, by show 1 ≤ sizeLine; decide, fun a1 H2 n2 S2 h2 => ?_⟩
      refine ⟨_, rfl, _, rfl, _, rfl, _, _, rfl, rfl, _, _, rfl, rfl, RgOk.of_le g0 (by omega) (by omega) (by omega), fun a2 n3 => ?_⟩
      have erg : rgV g (g + (m : Int)) = ((List.range m).map fun (i : Nat) => g + (i : Int)).map V.int := by
        unfold rgV
        rw [List.map_map, show (g + (m : Int) - g).toNat = m by omega]
        rfl
      have S3 : Same H2 (upd H2 a2 (.lst (rgV g (g + (m : Int))))) := same_upd n3
      have h3 : (upd H2 a2 (.lst (rgV g (g + (m : Int))))) a2 = some (.lst (((List.range m).map fun (i : Nat) => g + (i : Int)).map V.int)) := by rw [upd_same, erg]
      generalize upd H2 a2 (.lst (rgV g (g + (m : Int)))) = H3 at S3 h3
      refine ⟨a1, a2, _, _, rfl, rfl, S3 _ _ h2, h3, by rw [List.length_map, List.length_map, List.length_range, sizeLine_eq]; show 1 + m ≤ _; omega, fun a3 H4 n4 S4 h4 => ?_⟩
      have S04 : Same H' H4 := (S2.trans S3).trans S4
      refine ⟨_, rfl, e, _, _, _, rfl, rfl, sqT_same (S.trans S04) he, rfl, by show 1 ≤ sizeLine; decide, fun a4 H5 n5 S5 h5 => ?_⟩
      refine ⟨a3, a4, _, _, rfl, rfl, S5 _ _ h4, h5, by rw [List.length_append, List.length_map, List.length_map, List.length_range, sizeLine_eq]; show 1 + m + 1 ≤ _; omega, fun rw0 H6 n6 S6 h6 => ?_⟩
      have er : [V.int x] ++ ((List.range m).map fun (i : Nat) => g + (i : Int)).map V.int ++ [V.int y] = (rowOf x y g m).map V.int := by
        unfold rowOf
        rw [List.map_append, List.map_cons]
        rfl
      rw [er] at h6
      have S06 : Same H' H6 := (S04.trans S5).trans S6
      -- found + list(zip(row, row[1:]))
      have ec : cutV ((rowOf x y g m).map V.int) (some 1) none = (rowOf x y g m).tail.map V.int := cut1 _ _
      refine ⟨_, rfl, _, rfl, _, rfl, 1, rfl, rw0, _, rfl, SqL.of h6, fun tl H7 n7 S7 h7 => ?_⟩
      rw [ec] at h7
      refine ⟨rw0, tl, _, _, rfl, SqL.of (S7 _ _ h6), SqL.of h7, fun zp ts H8 S8 n8 h8 hlen hat hnew => ?_⟩
      have S8 : Same H7 H8 := S8
      have S08 : Same H' H8 := (S06.trans S7).trans S8
      have rl := rowOf_len x y g m
      have tsl : ts.length = m + 1 := by
        rw [hlen, List.length_map, List.length_map, List.length_tail, rl]
        omega
      have zl : (legs (rowOf x y g m)).length = m + 1 := by
        unfold legs
        rw [List.length_zip, List.length_tail, rl]
        omega
      have hP : PrsAt H8 ts (legs (rowOf x y g m)) := by
        refine ⟨by rw [tsl, zl], fun i2 q2 a b e1 e2 => ?_⟩
        obtain ⟨ea, eb⟩ := List.getElem?_zip_eq_some.mp e2
        exact hat i2 q2 _ _ e1 (by rw [List.getElem?_map, ea]; rfl) (by rw [List.getElem?_map, eb]; rfl)
      have hf8 := S08 _ _ hf
      have wl : (waysOf x y (ls.take i) fi).length ≤ 2000 := by
        have z := ways_len x y (ls.take i) fi
        have tl := List.length_take (i := i) (l := ls)
        omega
      refine ⟨fd, zp, _, _, rfl, rfl, hf8, h8, by rw [List.length_map, List.length_map, hq.1, tsl, sizeLine_eq]; omega, fun nf2 H9 n9 S9 h9 => ?_⟩
      have eg : g + (m : Int) = fi + (((ls.take (i + 1)).sum : Nat) : Int) := by omega
      refine ⟨_, rfl, _, rfl, _, _, rfl, rfl, _, _, rfl, nf2, some (.int (m : Int)), some (.ref rw0), by rw [← eg]; rfl, (S.trans S08).trans S9, (S.trans S08).free n9, qs ++ ts, ?_, ?_⟩
      · rw [h9, List.map_append]
      · rw [sn]
        exact (hq.mono fun q xs e => S9 _ _ (S08 _ _ e)).app (hP.mono fun q xs e => S9 _ _ e)
    · rintro σ H' ⟨fd, u, v, rfl, S, nf, hp⟩
      have en : ls.take (ls.map fun (m : Nat) => V.int (m : Int)).length = ls := List.take_of_length_le (by rw [List.length_map]; exact Nat.le_refl _)
      rw [en] at hp
      exact ⟨_, rfl, q fd H' S nf hp⟩
abbrev scRenamedN : List Str := ["ties", "names", "a", "b"]
abbrev scRenamedS : Scope := defScope sRenamed
theorem scRenamed : FnScope ["ties", "names", "a", "b"] ["ties", "names"] (defScope sRenamed) := ⟨rfl, rfl, rfl, by decide +kernel, rfl, by decide +kernel, by decide +kernel⟩
theorem ok_renamed {f : Addr} {fd : FuncData} (F : FnP K "_law_renamed" sRenamed f fd) (T : WTxt mg) : FnOk P w K mg base CX0 1 f fd ["ties", "names"] spRenamed := by
  refine ok0 F scRenamed (fun vs H Q E h => ?_) (fun cdv A outer s H vs Q E hr h => ?_)
  · obtain ⟨l, nl, ts, ns, rfl, _⟩ := h
    rfl
  · obtain ⟨l, nl, ts, ns, rfl, ⟨qs, hl, hq⟩, hn, hz, hin, q⟩ := h
    refine ⟨_, (pss_one (ps_ret (pe_callTy (T := "tuple") call_tuple_of (by rfl) T.tuple (by decide +kernel) (pa_cons (pe_callB (id := "sorted") cr_sortedPO (by rfl) T.sorted (by decide +kernel) (pa_cons (pe_lc (own := [("a", 2), ("b", 3)]) (g := gTup K 2 (gCons (gName 2) (gCons (gName 3) gNil))) (by rfl) scRenamed.nd (pi_list (pv 0)) (blkOk_by (own := [("a", 2), ("b", 3)]) (N := scRenamedN) (sc := scRenamedS) (by decide +kernel)) (fun _ _ _ _ _ => pg_tup (by rfl) (pgs_cons (pg_name (i := 2) scRenamed.nd rfl (Or.inl rfl)) (pgs_cons (pg_name (i := 3) scRenamed.nd rfl (Or.inl rfl)) pgs_nil))) (fun _ _ _ _ _ => pts_nil) (fun _ _ _ _ _ => (pe_tupL (pa_cons (pe_callB (id := "min") (call_min2 rfl) (by rfl) T.min (by decide +kernel) (pa_cons (pe_ix (ix_lK (K := K)) (pv 1) (pv 2) (fun _ _ => rfl)) (pa_cons (pe_ix (ix_lK (K := K)) (pv 1) (pv 3) (fun _ _ => rfl)) pa_nil))) (pa_cons (pe_callB (id := "max") (call_max2 rfl) (by rfl) T.max (by decide +kernel) (pa_cons (pe_ix (ix_lK (K := K)) (pv 1) (pv 2) (fun _ _ => rfl)) (pa_cons (pe_ix (ix_lK (K := K)) (pv 1) (pv 3) (fun _ _ => rfl)) pa_nil))) pa_nil))))) pa_nil)) pa_nil)))), ?_⟩
    refine ⟨_, rfl, l, rfl, ⟨_, SqL.of hl⟩, fun D hD => lc_list (K := K) (a := l) (xs := qs.map V.ref) (fun i H' => Same H H' ∧ ∃ rs : List Addr, H' D = some (.lst (rs.map V.ref)) ∧ PrsAt H' rs ((ts.take i).map (nmTie ns))) ⟨same_upd hD, [], upd_same, PrsAt.nil⟩ (fun i H' _ ⟨S, _⟩ => SqL.of (S _ _ hl)) ?_ ?_⟩
    · rintro i y H1 hi ⟨S, rs, hd, hr⟩
      obtain ⟨qd, hqi, rfl⟩ := getMapA hi
      have hil : i < ts.length := by
        rw [← hq.1]
        exact (List.getElem?_eq_some_iff.mp hqi).1
      have hti : ts[i]? = some ts[i] := List.getElem?_eq_getElem hil
      generalize ts[i] = tt at hti
      obtain ⟨a, b⟩ := tt
      have hqd := hq.2 i qd a b hqi hti
      obtain ⟨a0, a1, b0, b1⟩ := hin _ (List.mem_of_getElem? hti)
      have hn1 := S _ _ hn
      have ea : atI (ns.map V.int) a = some (.int (ns.getD a.toNat 0)) := atI_map a0 a1
      have eb : atI (ns.map V.int) b = some (.int (ns.getD b.toNat 0)) := atI_map b0 b1
      refine ⟨qd, _, rfl, .inl (.inl (S _ _ hqd)), rfl, _, _, rfl, _, _, rfl, rfl, rfl, ?_⟩
      refine ⟨_, rfl, _, rfl, nl, _, _, _, rfl, rfl, SqL.of hn1, ea, _, rfl, _, rfl, nl, _, _, _, rfl, rfl, SqL.of hn1, eb, _, _, rfl, ?_⟩
      refine ⟨_, rfl, _, rfl, nl, _, _, _, rfl, rfl, SqL.of hn1, ea, _, rfl, _, rfl, nl, _, _, _, rfl, rfl, SqL.of hn1, eb, _, _, rfl, ?_⟩
      refine ⟨by show 2 ≤ sizeLine; decide, fun tq H2 n2 S2 h2 => ⟨rs.map V.ref, S2 _ _ hd, ?_, fun c o hc => ?_, rs ++ [tq], ?_, ?_⟩⟩
      · rw [List.length_map, hr.1, List.length_map, List.length_take, sizeLine_eq]
        omega
      · rw [upd_ne (ne_of_none hc hD)]
        exact S2 _ _ (S _ _ hc)
      · rw [upd_same, List.map_append]
        rfl
      · have et : (ts.take (i + 1)).map (nmTie ns) = (ts.take i).map (nmTie ns) ++ [nmTie ns (a, b)] := by
          rw [take_more hti, List.map_append]
          rfl
        rw [et]
        have keep : ∀ u xs, H2 u = some (.tup xs) → (upd H2 D (.lst (rs.map V.ref ++ [V.ref tq]))) u = some (.tup xs) := fun u xs e => by
          have hd2 := S2 _ _ hd
          rw [upd_ne (fun z => by
            rw [z, hd2] at e
            cases e)]
          exact e
        refine PrsAt.app (hr.mono fun u xs e => keep u xs (S2 _ _ e)) ⟨rfl, fun j u c d e1 e2 => ?_⟩
        have j0 : j = 0 := by
          have z := (List.getElem?_eq_some_iff.mp e1).1
          rw [List.length_singleton] at z
          omega
        subst j0
        cases e1
        have e3 : nmTie ns (a, b) = (c, d) := Option.some.inj e2
        unfold nmTie at e3
        cases e3
        exact keep _ _ h2
    rintro H1 ⟨S, rs, hd, hr⟩
    have en : ts.take (qs.map V.ref).length = ts := List.take_of_length_le (by rw [List.length_map, hq.1]; exact Nat.le_refl _)
    rw [en] at hr
    have hk : ∀ (j : Nat) (u : Addr), rs[j]? = some u → H1 u = some (.tup [.int (pairAt H1 (.ref u)).1, .int (pairAt H1 (.ref u)).2]) ∧ (ts.map (nmTie ns))[j]? = some (pairAt H1 (.ref u)) := fun j u hj => by
      have hjl : j < (ts.map (nmTie ns)).length := by
        rw [← hr.1]
        exact (List.getElem?_eq_some_iff.mp hj).1
      have e := List.getElem?_eq_getElem hjl
      generalize (ts.map (nmTie ns))[j] = pr at e
      obtain ⟨a, b⟩ := pr
      have hu := hr.2 j u a b hj e
      have ep : pairAt H1 (.ref u) = (a, b) := by
        unfold pairAt
        simp only [hu]
      rw [ep]
      exact ⟨hu, e⟩
    refine ⟨D, rs.map V.ref, pairAt H1, rfl, SqL.of hd, fun x hx => ?_, fun ys sp hsrt hstb nsp => ?_⟩
    · obtain ⟨u, hu, rfl⟩ := List.mem_map.mp hx
      obtain ⟨j, hj⟩ := List.mem_iff_getElem?.mp hu
      exact ⟨u, rfl, (hk j u hj).1⟩
    obtain ⟨zs, rfl, hzp⟩ := refs_perm hstb.perm
    have Ss : Same H1 (upd H1 sp (.lst (zs.map V.ref))) := same_upd nsp
    have hs : (upd H1 sp (.lst (zs.map V.ref))) sp = some (.lst (zs.map V.ref)) := upd_same
    generalize upd H1 sp (.lst (zs.map V.ref)) = H2 at Ss hs
    refine ⟨sp, _, rfl, .inl ⟨SqL.of hs, fun t nt => ?_⟩⟩
    have St : Same H2 (upd H2 t (.tup (zs.map V.ref))) := same_upd nt
    have S2 := Ss.trans St
    refine q t (zs.map fun u => pairAt H1 (.ref u)) _ (S.trans S2) ?_ ?_ ⟨zs, upd_same, by rw [List.length_map], fun j u a b e1 e2 => ?_⟩
    · refine (hzp.map _).trans (List.Perm.of_eq (List.ext_getElem? fun j => ?_))
      rw [List.getElem?_map]
      cases e : rs[j]? with
      | none =>
        have z := List.getElem?_eq_none_iff.mp e
        rw [hr.1] at z
        rw [List.getElem?_eq_none_iff.mpr z]
        rfl
      | some u => exact (hk j u e).2.symm
    · have z : (zs.map V.ref).Pairwise fun x y => SrtO.lexB (pairAt H1 y) (pairAt H1 x) = false := hsrt
      rw [List.pairwise_map] at z
      unfold Asc
      rw [List.pairwise_map]
      exact z
    · rw [List.getElem?_map, e1] at e2
      have e2 : pairAt H1 (.ref u) = (a, b) := Option.some.inj e2
      obtain ⟨j2, hj2⟩ := List.mem_iff_getElem?.mp (hzp.mem_iff.mp (List.mem_of_getElem? e1))
      have z := (hk j2 u hj2).1
      rw [e2] at z
      exact S2 _ _ z
end
end Sb

/-! ## W242 -/
/-! Drawn webs: a piece. -/
namespace Sb
open PySem PySem.Spec PyProof.Rows L2
abbrev sPiece : Stmt := top 53
/-- the ways of a piece with two forks -/
def someWays : List (List Nat) := [[1, 1], [1, 1, 1], [0, 1, 1], [0, 2, 2], [1, 1, 2], [1, 1, 1, 1], [0, 2, 1], [0, 3, 1], [1, 2, 1], [0, 1, 1, 1], [1, 2, 2], [1, 2, 2]]
def chordsTo (n a j : Nat) : List (Int × Int) := ((List.range j).map fun (j : Nat) => ((a : Int), (((a + 2 + j : Nat)) : Int))).filter fun t => decide (t ≠ (0, (n : Int) - 1))
/-- the ties that a ring of n bays may have over it, from the bay a to later ones -/
def chordsOf (n a : Nat) : List (Int × Int) := chordsTo n a (n - (a + 2))
def chords (n : Nat) : Nat → List (Int × Int)
  | 0 => []
  | a + 1 => chords n a ++ chordsOf n a
theorem chordsTo_eq (n a j : Nat) : chordsTo n a (j + 1) = chordsTo n a j ++ (if ((a : Int), ((a + 2 + j : Nat) : Int)) ≠ (0, (n : Int) - 1) then [((a : Int), ((a + 2 + j : Nat) : Int))] else []) := by
  unfold chordsTo
  rw [List.range_succ, List.map_append, List.filter_append]
  congr 1
  by_cases h : ((a : Int), ((a + 2 + j : Nat) : Int)) ≠ (0, (n : Int) - 1)
  · rw [if_pos h]
    exact List.filter_cons_of_pos (decide_eq_true h)
  · rw [if_neg h]
    exact List.filter_cons_of_neg (by rw [decide_eq_false h]; exact Bool.false_ne_true)
theorem chordsTo_sub (n a j : Nat) : (chordsTo n a j).Sublist (chordsTo n a (j + 1)) := by
  rw [chordsTo_eq]
  exact List.sublist_append_left _ _
theorem chordsTo_add {n a j : Nat} (h : ((a : Int), ((a + 2 + j : Nat) : Int)) ≠ (0, (n : Int) - 1)) : chordsTo n a (j + 1) = chordsTo n a j ++ [((a : Int), ((a + 2 + j : Nat) : Int))] := by
  rw [chordsTo_eq, if_pos h]
theorem chordsTo_len (n a j : Nat) : (chordsTo n a j).length ≤ j := by
  unfold chordsTo
  refine Nat.le_trans (List.length_filter_le _ _) ?_
  rw [List.length_map, List.length_range]
  exact Nat.le_refl _
theorem chords_len (n : Nat) : ∀ k, (chords n k).length ≤ k * n
  | 0 => Nat.zero_le _
  | k + 1 => by
    have h1 := chords_len n k
    have h2 := chordsTo_len n k (n - (k + 2))
    show (chords n k ++ chordsTo n k (n - (k + 2))).length ≤ (k + 1) * n
    rw [List.length_append, Nat.succ_mul]
    omega
inductive PieceOf (size : Int) : Nat → List (Int × Int) → Prop
  | edge : PieceOf size 2 [(0, 1)]
  | ring {n : Nat} : 3 ≤ n → (n : Int) ≤ size → PieceOf size n (waysOf 0 0 [n - 1] 1)
  | forks {ls : List Nat} : ls ∈ someWays → ((ls.sum + 2 : Nat) : Int) ≤ size → PieceOf size (ls.sum + 2) (waysOf 0 1 ls 2)
  | more {n : Nat} {cs : List (Int × Int)} : 3 ≤ n → n ≤ 5 → (n : Int) ≤ size → cs.Sublist (chords n n) → PieceOf size n (waysOf 0 0 [n - 1] 1 ++ cs)
def spPiece : Sp := fun vs H Q _ => ∃ (p c : Addr) (k : Nat) (size : Int), vs = [.ref p, .int size] ∧ Pen H p c k ∧ k < 900000 ∧ size ≤ 20 ∧
  ∀ (r l : Addr) H' (n : Nat) (ts : List (Int × Int)) k', But p H H' → H' r = some (.tup [.ref l, .int (n : Int)]) → PrsL H' l ts → l ≠ p → PieceOf size n ts → k' ≤ k + 40 → Pen H' p c k' → Q (.ref r) H'
theorem sum_cast : ∀ ls : List Nat, (ls.map fun (m : Nat) => (m : Int)).sum = ((ls.sum : Nat) : Int)
  | [] => rfl
  | m :: r => by
    rw [List.map_cons, List.sum_cons, List.sum_cons, sum_cast r]
    omega
theorem some_ok : ∀ ls ∈ someWays, ls.length ≤ 20 ∧ ∀ m ∈ ls, m ≤ 50 := by decide
section
variable {X : Cx}
theorem op_neDK {K : PySem.W.Frag} (hu : X.A.units + 64 < cLine) (hK : X.K = K := by rfl) : OpR X (compareOp .NotEq) (rNeD K) := hK ▸ op_neD hu
theorem cr_sumK {K : PySem.W.Frag} (hc : X.calm = true) (hK : X.K = K := by rfl) : CallR X (.builtin "sum") (rSum K) := hK ▸ cr_sum hc
end
section
variable {P : Program} {w : World} {K : PySem.W.Frag} {mg : Str → Option Value} {base : Heap} {C : Nat → Addr}
abbrev scPieceN : List Str := ["pen", "size", "form", "n", "some", "lengths", "ties", "a", "row", "b"]
abbrev scPieceS : Scope := defScope sPiece
theorem scPiece : FnScope ["pen", "size", "form", "n", "some", "lengths", "ties", "a", "row", "b"] ["pen", "size"] (defScope sPiece) := ⟨rfl, rfl, rfl, by decide +kernel, rfl, by decide +kernel, by decide +kernel⟩
theorem ok_piece {f fT fO fW : Addr} {fd fdT fdO fdW : FuncData} (F : FnP K "_law_piece" sPiece f fd) (T : WTxt mg) (FT : FnP K "_law_take" sTake fT fdT) (gT : mg "_law_take" = some (.ref fT)) (GT : FnOk P w K mg base CX0 2 fT fdT ["pen", "many"] spTake)
    (FO : FnP K "_law_one_of" sOneOf fO fdO) (gO : mg "_law_one_of" = some (.ref fO)) (GO : FnOk P w K mg base CX0 3 fO fdO ["pen", "some"] (spOneOf K)) (FW : FnP K "_law_ways" sWays fW fdW) (gW : mg "_law_ways" = some (.ref fW)) (GW : FnOk P w K mg base CX0 1 fW fdW ["ends", "lengths", "first"] (spWays K)) :
    FnOk P w K mg base CX0 4 f fd ["pen", "size"] spPiece := by
  have bT : Binds K fdT ["pen", "many"] [] := FT.bindsN fun _ _ _ _ _ _ us hl => match us, hl with | [_, _], _ => rfl
  have bO : Binds K fdO ["pen", "some"] [] := FO.bindsN fun _ _ _ _ _ _ us hl => match us, hl with | [_, _], _ => rfl
  have bW : Binds K fdW ["ends", "lengths", "first"] [] := FW.bindsN fun _ _ _ _ _ _ us hl => match us, hl with | [_, _, _], _ => rfl
  refine ok0 F scPiece (fun vs H Q E h => ?_) (fun cdv A outer s H vs Q E hr h => ?_)
  · obtain ⟨p, c, k, size, rfl, _⟩ := h
    rfl
  · obtain ⟨p, c, k, size, rfl, hp, hk, hsz, q⟩ := h
    have hr1 : Room 1 _ := hr.mono (by decide)
    have hr2 : Room 2 _ := hr.mono (by decide)
    refine ⟨_, (pss_cons (ps_set (i := 2) scPiece.nd rfl (Or.inl rfl) (pe_call GT hr2 rfl gT FT.kp bT .nil pass0 (pa_cons (pv 0) (pa_cons pe_int pa_nil))))
    (pss_cons (ps_if (PW.pt (pw_or (pt_cmpR op_eq (pv 2) pe_int (nomark _)) (pw_or1 (pt_cmpR op_lt (pv 1) pe_int (nomark _)))))
      (pss_one (ps_ret (pe_tupL (pa_cons (pe_lstL (pa_cons (pe_tupL (pa_cons pe_int (pa_cons pe_int pa_nil))) pa_nil)) (pa_cons pe_int pa_nil)))))
      pss_nil)
    (pss_cons (ps_if (pt_cmpR op_eq (pv 2) pe_int (nomark _))
      (pss_cons (ps_set (i := 3) scPiece.nd rfl (Or.inr rfl) (pe_op op_add pe_int (pe_call GT hr2 rfl gT FT.kp bT .nil pass0 (pa_cons (pv 0) (pa_cons (pe_op op_sub (pv 1) pe_int) pa_nil)))))
    (pss_one (ps_ret (pe_tupL (pa_cons (pe_call GW hr1 rfl gW FW.kp bW .nil pass0 (pa_cons (pe_tupL (pa_cons pe_int (pa_cons pe_int pa_nil))) (pa_cons (pe_lstL (pa_cons (pe_op op_sub (pv 3) pe_int) pa_nil)) (pa_cons pe_int pa_nil)))) (pa_cons (pv 3) pa_nil))))))
      pss_nil)
    (pss_cons (ps_set (i := 3) scPiece.nd rfl (Or.inr rfl) (pe_op op_add pe_int (pe_call GT hr2 rfl gT FT.kp bT .nil pass0 (pa_cons (pv 0) (pa_cons (pe_op op_sub (pv 1) pe_int) pa_nil)))))
    (C8.pss_cut (ps_if (PW.pt (pw_and (pt_cmpR op_eq (pv 2) pe_int (nomark _)) (pw_and1 (pt_cmpR op_gt (pv 3) pe_int (nomark _)))))
      (pss_cons (ps_set (i := 4) scPiece.nd rfl (Or.inl rfl) (pe_lstL (pa_cons (pe_lstL (pa_cons pe_int (pa_cons pe_int pa_nil))) (pa_cons (pe_lstL (pa_cons pe_int (pa_cons pe_int (pa_cons pe_int pa_nil)))) (pa_cons (pe_lstL (pa_cons pe_int (pa_cons pe_int (pa_cons pe_int pa_nil)))) (pa_cons (pe_lstL (pa_cons pe_int (pa_cons pe_int (pa_cons pe_int pa_nil)))) (pa_cons (pe_lstL (pa_cons pe_int (pa_cons pe_int (pa_cons pe_int pa_nil)))) (pa_cons (pe_lstL (pa_cons pe_int (pa_cons pe_int (pa_cons pe_int (pa_cons pe_int pa_nil))))) (pa_cons (pe_lstL (pa_cons pe_int (pa_cons pe_int (pa_cons pe_int pa_nil)))) (pa_cons (pe_lstL (pa_cons pe_int (pa_cons pe_int (pa_cons pe_int pa_nil)))) pa_nil))))))))))
    (pss_cons (ps_set (i := 4) scPiece.nd rfl (Or.inl rfl) (pe_op op_catL (pv 4) (pe_lstL (pa_cons (pe_lstL (pa_cons pe_int (pa_cons pe_int (pa_cons pe_int pa_nil)))) (pa_cons (pe_lstL (pa_cons pe_int (pa_cons pe_int (pa_cons pe_int (pa_cons pe_int pa_nil))))) (pa_cons (pe_lstL (pa_cons pe_int (pa_cons pe_int (pa_cons pe_int pa_nil)))) (pa_cons (pe_lstL (pa_cons pe_int (pa_cons pe_int (pa_cons pe_int pa_nil)))) pa_nil)))))))
    (pss_cons (ps_set (i := 5) scPiece.nd rfl (Or.inl rfl) (pe_call GO hr rfl gO FO.kp bO .nil pass0 (pa_cons (pv 0) (pa_cons (pe_lc (own := [("row", 8)]) (g := gName 8) (by rfl) scPiece.nd (pi_list (pv 4)) (blkOk_by (own := [("row", 8)]) (N := scPieceN) (sc := scPieceS) (by decide +kernel)) (fun _ _ _ _ _ => pg_name (i := 8) scPiece.nd rfl (Or.inl rfl)) (fun _ _ _ _ _ => pts_one (pt_cmpR op_le (pe_op op_add (pe_callB (id := "sum") (cr_sumK (K := K) rfl) (by rfl) T.sum (by decide +kernel) (pa_cons (pv 8) pa_nil)) pe_int) (pv 3) (nomark _))) (fun _ _ _ _ _ => (pv 8))) pa_nil))))
    (pss_one (ps_ret (pe_tupL (pa_cons (pe_call GW hr1 rfl gW FW.kp bW .nil pass0 (pa_cons (pe_tupL (pa_cons pe_int (pa_cons pe_int pa_nil))) (pa_cons (pv 5) (pa_cons pe_int pa_nil)))) (pa_cons (pe_op op_add (pe_callB (id := "sum") (cr_sum rfl) (by rfl) T.sum (by decide +kernel) (pa_cons (pv 5) pa_nil)) pe_int) pa_nil))))))))
      pss_nil)
    (pss_cons (ps_set (i := 3) scPiece.nd rfl (Or.inr rfl) (pe_callB (id := "min") (cr_min rfl) (by rfl) T.min (by decide +kernel) (pa_cons (pe_lstL (pa_cons (pv 3) (pa_cons pe_int pa_nil))) pa_nil)))
    (pss_cons (ps_set (i := 6) scPiece.nd rfl (Or.inl rfl) (pe_call GW hr1 rfl gW FW.kp bW .nil pass0 (pa_cons (pe_tupL (pa_cons pe_int (pa_cons pe_int pa_nil))) (pa_cons (pe_lstL (pa_cons (pe_op op_sub (pv 3) pe_int) pa_nil)) (pa_cons pe_int pa_nil)))))
    (pss_cons (ps_for PassesOwn.never rfl (pi_range1 (by rfl) T.range (pa_cons (pv 3) pa_nil)) (pg_name (i := 7) scPiece.nd rfl (Or.inr rfl))
      (pss_one (ps_set (i := 6) scPiece.nd rfl (Or.inl rfl) (pe_op op_catL (pv 6) (pe_lc (own := [("b", 9)]) (g := gName 9) (by rfl) scPiece.nd (pi_range2 (by rfl) T.range (pa_cons (pe_op op_add (pv 7) pe_int) (pa_cons (pv 3) pa_nil))) (blkOk_by (own := [("b", 9)]) (N := scPieceN) (sc := scPieceS) (by decide +kernel)) (fun _ _ _ _ _ => pg_name (i := 9) scPiece.nd rfl (Or.inl rfl)) (fun _ _ _ _ _ => pts_one (PW.pt (pw_and (pt_cmpR (op_neDK (K := K) hr.units) (pe_tupL (pa_cons (pv 7) (pa_cons (pv 9) pa_nil))) (pe_tupL (pa_cons pe_int (pa_cons (pe_op op_sub (pv 3) pe_int) pa_nil))) (nomark _)) (pw_and1 (pt_cmpR op_eq (pe_call GT hr2 rfl gT FT.kp bT .nil pass0 (pa_cons (pv 0) (pa_cons pe_int pa_nil))) pe_int (nomark _)))))) (fun _ _ _ _ _ => (pe_tupL (pa_cons (pv 7) (pa_cons (pv 9) pa_nil)))))))))
    (pss_one (ps_ret (pe_tupL (pa_cons (pv 6) (pa_cons (pv 3) pa_nil))))))))))))), ?_⟩
    refine ⟨_, rfl, p, c, k, 6, rfl, hp, by decide, by decide, by omega, fun form H1 k1 r0 r1 B1 hk1 hp1 => ?_⟩
    -- an edge
    refine ⟨_, rfl, rfl, _, rfl, ite2 (fun _ => ?_) (fun _ => ?_)⟩
    · refine ⟨by show 2 ≤ sizeLine; decide, fun t H2 n2 S2 h2 => ⟨by show 1 ≤ sizeLine; decide, fun l H3 n3 S3 h3 => ⟨by show 2 ≤ sizeLine; decide, fun rr H4 n4 S4 h4 => ?_⟩⟩⟩
      have S14 : Same H1 H4 := (S2.trans S3).trans S4
      have npl : p ≠ l := (hp1.same S2).new n3 |>.1
      exact q rr l H4 2 [(0, 1)] k1 (B1.trans (sameBut S14)) h4 ⟨[t], S4 _ _ h3, rfl, fun i u a b e1 e2 => by
        cases i with
        | zero =>
          cases e1
          cases e2
          exact S4 _ _ (S3 _ _ h2)
        | succ i => simp at e1⟩ npl.symm .edge (by omega) (hp1.same S14)
    refine ⟨_, rfl, _, _, rfl, rfl, _, rfl, ite2 (fun _ => ?_) (fun hz => ?_)⟩
    · refine ⟨by show 2 ≤ sizeLine; decide, fun t H2 n2 S2 h2 => ⟨by show 1 ≤ sizeLine; decide, fun l H3 n3 S3 h3 => ⟨by show 2 ≤ sizeLine; decide, fun rr H4 n4 S4 h4 => ?_⟩⟩⟩
      have S14 : Same H1 H4 := (S2.trans S3).trans S4
      have npl : p ≠ l := (hp1.same S2).new n3 |>.1
      exact q rr l H4 2 [(0, 1)] k1 (B1.trans (sameBut S14)) h4 ⟨[t], S4 _ _ h3, rfl, fun i u a b e1 e2 => by
        cases i with
        | zero =>
          cases e1
          cases e2
          exact S4 _ _ (S3 _ _ h2)
        | succ i => simp at e1⟩ npl.symm .edge (by omega) (hp1.same S14)
    have h3 : 3 ≤ size := by
      have z : ¬ size < 3 := fun z => hz (decide_eq_true z)
      omega
    -- a ring
    refine ⟨_, rfl, rfl, _, rfl, ite2 (fun _ => ?_) (fun _ => ?_)⟩
    · refine ⟨_, rfl, _, rfl, _, _, rfl, rfl, p, c, k1, size - 2, rfl, hp1, by omega, by omega, by omega, fun r2 H2 k2 r20 r21 B2 hk2 hp2 => ⟨_, _, rfl, rfl, ?_⟩⟩
      obtain ⟨N, hN⟩ : ∃ N : Nat, (3 : Int) + r2 = (N : Int) := ⟨(3 + r2).toNat, by omega⟩
      have e1 : (3 : Int) + r2 - 1 = ((N - 1 : Nat) : Int) := by omega
      refine ⟨by show 2 ≤ sizeLine; decide, fun e H3 n3 S3 h3 => ⟨_, rfl, _, _, rfl, rfl, by show 1 ≤ sizeLine; decide, fun ll H4 n4 S4 h4 => ?_⟩⟩
      refine ⟨e, ll, 0, 0, 1, [N - 1], rfl, SqT.of (S4 _ _ h3), SqL.of ((show H4 ll = some (.lst [V.int (3 + r2 - 1)]) from h4).trans (by rw [e1]; rfl)), by decide, by decide, by show 1 ≤ 20; decide, (fun m hm => by rw [List.mem_singleton.mp hm]; omega), fun wl H5 S5 n5 hP => ⟨_, rfl, by show 2 ≤ sizeLine; decide, fun rr H6 n6 S6 h6 => ?_⟩⟩
      have S26 : Same H2 H6 := ((S3.trans S4).trans S5).trans S6
      have nl : p ≠ wl := (hp2.same (S3.trans S4)).new n5 |>.1
      have h6 : H6 rr = some (.tup [.ref wl, .int (3 + r2)]) := h6
      rw [hN] at h6
      exact q rr wl H6 N _ k2 (((B1.trans B2)).trans (sameBut S26)) h6 (hP.same S6) nl.symm (.ring (by omega) (by omega)) (by omega) (hp2.same S26)
    -- forks or more
    refine ⟨_, rfl, _, rfl, _, _, rfl, rfl, p, c, k1, size - 2, rfl, hp1, by omega, by omega, by omega, fun r2 H2 k2 r20 r21 B2 hk2 hp2 => ⟨_, _, rfl, rfl, ?_⟩⟩
    obtain ⟨N, hN⟩ : ∃ N : Nat, (3 : Int) + r2 = (N : Int) := ⟨(3 + r2).toNat, by omega⟩
    show _
    have N3 : 3 ≤ N := by omega
    have N20 : (N : Int) ≤ size := by omega
    have B02 : But p H H2 := B1.trans B2
    refine ⟨fun σ' H' => σ' = [some (.ref p), some (.int size), some (.int form), some (.int (3 + r2)), none, none, none, none, none, none] ∧ H' = H2, ?_, ?_⟩
    · refine ⟨_, rfl, rfl, _, rfl, ite2 (fun _ => ?_) (fun _ => ⟨rfl, rfl⟩)⟩
      refine ⟨_, rfl, _, _, rfl, rfl, _, rfl, ite2 (fun h4 => ?_) (fun _ => ⟨rfl, rfl⟩)⟩
      have N4 : 4 ≤ N := by
        have z : (3 : Int) < 3 + r2 := of_decide_eq_true h4
        omega
      refine ⟨by show 2 ≤ sizeLine; decide, fun w0 G1 m1 T1 g1 => ?_⟩
      refine ⟨by show 3 ≤ sizeLine; decide, fun w1 G2 m2 T2 g2 => ?_⟩
      refine ⟨by show 3 ≤ sizeLine; decide, fun w2 G3 m3 T3 g3 => ?_⟩
      refine ⟨by show 3 ≤ sizeLine; decide, fun w3 G4 m4 T4 g4 => ?_⟩
      refine ⟨by show 3 ≤ sizeLine; decide, fun w4 G5 m5 T5 g5 => ?_⟩
      refine ⟨by show 4 ≤ sizeLine; decide, fun w5 G6 m6 T6 g6 => ?_⟩
      refine ⟨by show 3 ≤ sizeLine; decide, fun w6 G7 m7 T7 g7 => ?_⟩
      refine ⟨by show 3 ≤ sizeLine; decide, fun w7 G8 m8 T8 g8 => ?_⟩
      refine ⟨by show 8 ≤ sizeLine; decide, fun s1 G9 m9 T9 g9 => ?_⟩
      refine ⟨_, rfl, ?_⟩
      refine ⟨by show 3 ≤ sizeLine; decide, fun w8 G10 m10 T10 g10 => ?_⟩
      refine ⟨by show 4 ≤ sizeLine; decide, fun w9 G11 m11 T11 g11 => ?_⟩
      refine ⟨by show 3 ≤ sizeLine; decide, fun w10 G12 m12 T12 g12 => ?_⟩
      refine ⟨by show 3 ≤ sizeLine; decide, fun w11 G13 m13 T13 g13 => ?_⟩
      refine ⟨by show 4 ≤ sizeLine; decide, fun s2 G14 m14 T14 g14 => ?_⟩
      refine ⟨s1, s2, _, _, rfl, rfl, T14 _ _ (T13 _ _ ( T12 _ _ ( T11 _ _ ( T10 _ _ (g9))))), g14, by show 8 + 4 ≤ sizeLine; decide, fun sm G15 m15 T15 g15 => ?_⟩
      have cw0 : G15 w0 = _ := T15 _ _ (T14 _ _ (T13 _ _ (T12 _ _ (T11 _ _ (T10 _ _ (T9 _ _ (T8 _ _ (T7 _ _ (T6 _ _ (T5 _ _ (T4 _ _ (T3 _ _ (T2 _ _ (g1))))))))))))))
      have cw1 : G15 w1 = _ := T15 _ _ (T14 _ _ (T13 _ _ (T12 _ _ (T11 _ _ (T10 _ _ (T9 _ _ (T8 _ _ (T7 _ _ (T6 _ _ (T5 _ _ (T4 _ _ (T3 _ _ (g2)))))))))))))
      have cw2 : G15 w2 = _ := T15 _ _ (T14 _ _ (T13 _ _ (T12 _ _ (T11 _ _ (T10 _ _ (T9 _ _ (T8 _ _ (T7 _ _ (T6 _ _ (T5 _ _ (T4 _ _ (g3))))))))))))
      have cw3 : G15 w3 = _ := T15 _ _ (T14 _ _ (T13 _ _ (T12 _ _ (T11 _ _ (T10 _ _ (T9 _ _ (T8 _ _ (T7 _ _ (T6 _ _ (T5 _ _ (g4)))))))))))
      have cw4 : G15 w4 = _ := T15 _ _ (T14 _ _ (T13 _ _ (T12 _ _ (T11 _ _ (T10 _ _ (T9 _ _ (T8 _ _ (T7 _ _ (T6 _ _ (g5))))))))))
      have cw5 : G15 w5 = _ := T15 _ _ (T14 _ _ (T13 _ _ (T12 _ _ (T11 _ _ (T10 _ _ (T9 _ _ (T8 _ _ (T7 _ _ (g6)))))))))
      have cw6 : G15 w6 = _ := T15 _ _ (T14 _ _ (T13 _ _ (T12 _ _ (T11 _ _ (T10 _ _ (T9 _ _ (T8 _ _ (g7))))))))
      have cw7 : G15 w7 = _ := T15 _ _ (T14 _ _ (T13 _ _ (T12 _ _ (T11 _ _ (T10 _ _ (T9 _ _ (g8)))))))
      have cw8 : G15 w8 = _ := T15 _ _ (T14 _ _ (T13 _ _ (T12 _ _ (T11 _ _ (g10)))))
      have cw9 : G15 w9 = _ := T15 _ _ (T14 _ _ (T13 _ _ (T12 _ _ (g11))))
      have cw10 : G15 w10 = _ := T15 _ _ (T14 _ _ (T13 _ _ (g12)))
      have cw11 : G15 w11 = _ := T15 _ _ (T14 _ _ (g13))
      have TT : Same H2 G15 := ((((((((((((((T1).trans T2).trans T3).trans T4).trans T5).trans T6).trans T7).trans T8).trans T9).trans T10).trans T11).trans T12).trans T13).trans T14).trans T15
      have hsm : G15 sm = some (.lst (([w0, w1, w2, w3, w4, w5, w6, w7, w8, w9, w10, w11] : List Addr).map V.ref)) := g15
      have hall : ∀ (i : Nat) (u : Addr), ([w0, w1, w2, w3, w4, w5, w6, w7, w8, w9, w10, w11] : List Addr)[i]? = some u → ∃ ls : List Nat, someWays[i]? = some ls ∧ G15 u = some (.lst (ls.map fun (m : Nat) => V.int (m : Int))) := fun i u hu => by
        match i, hu with
        | 0, hu =>
          cases hu
          exact ⟨_, rfl, cw0⟩
        | 1, hu =>
          cases hu
          exact ⟨_, rfl, cw1⟩
        | 2, hu =>
          cases hu
          exact ⟨_, rfl, cw2⟩
        | 3, hu =>
          cases hu
          exact ⟨_, rfl, cw3⟩
        | 4, hu =>
          cases hu
          exact ⟨_, rfl, cw4⟩
        | 5, hu =>
          cases hu
          exact ⟨_, rfl, cw5⟩
        | 6, hu =>
          cases hu
          exact ⟨_, rfl, cw6⟩
        | 7, hu =>
          cases hu
          exact ⟨_, rfl, cw7⟩
        | 8, hu =>
          cases hu
          exact ⟨_, rfl, cw8⟩
        | 9, hu =>
          cases hu
          exact ⟨_, rfl, cw9⟩
        | 10, hu =>
          cases hu
          exact ⟨_, rfl, cw10⟩
        | 11, hu =>
          cases hu
          exact ⟨_, rfl, cw11⟩
        | i + 12, hu => simp at hu
      have wl : ([w0, w1, w2, w3, w4, w5, w6, w7, w8, w9, w10, w11] : List Addr).length = 12 := rfl
      generalize ([w0, w1, w2, w3, w4, w5, w6, w7, w8, w9, w10, w11] : List Addr) = ws at hsm hall wl
      generalize G15 = HS at hsm hall TT ⊢
      have hpS := hp2.same TT
      refine ⟨_, rfl, _, rfl, sm, rfl, ⟨_, SqL.of hsm⟩, fun D hD => lc_list (K := K) (a := sm) (xs := ws.map V.ref) (fun i H' => Same HS H' ∧ ∃ rs : List Addr, H' D = some (.lst (rs.map V.ref)) ∧ rs.length ≤ i ∧ (1 ≤ i → 0 < rs.length) ∧ ∀ r ∈ rs, ∃ ls : List Nat, ls ∈ someWays ∧ HS r = some (.lst (ls.map fun (m : Nat) => V.int (m : Int))) ∧ ls.sum + 2 ≤ N)
        ⟨same_upd hD, [], upd_same, Nat.le_refl _, fun z => absurd z (by decide), fun r hr => by cases hr⟩ (fun i H' _ ⟨S, _⟩ => SqL.of (S _ _ hsm)) ?_ ?_⟩
      · rintro i y H3 hi ⟨S3, rs, hd, hlen, h1, hrs⟩
        obtain ⟨u, hu, rfl⟩ := getMapA hi
        obtain ⟨ls, hls, hcu⟩ := hall i u hu
        have hi12 : i < 12 := by
          rw [← wl]
          exact (List.getElem?_eq_some_iff.mp hu).1
        have hcu3 := S3 _ _ hcu
        have ec : (ls.map fun (m : Nat) => V.int (m : Int)) = (ls.map fun (m : Nat) => (m : Int)).map V.int := by
          rw [List.map_map]
          rfl
        refine ⟨rfl, _, rfl, u, _, rfl, SqL.of (by rw [← ec]; exact hcu3), _, _, rfl, rfl, _, rfl, _, _, rfl, rfl, _, rfl, ite2 (fun hc => ?_) (fun hc => ?_)⟩
        · have hc : (ls.map fun (m : Nat) => (m : Int)).sum + 2 ≤ 3 + r2 := of_decide_eq_true hc
          rw [sum_cast] at hc
          refine ⟨_, rfl, rs.map V.ref, hd, ?_, fun b o hb => ?_, rs ++ [u], ?_, ?_, fun _ => ?_, fun r hr => ?_⟩
          · rw [List.length_map]
            exact small1000 (by omega)
          · rw [upd_ne (ne_of_none hb hD)]
            exact S3 _ _ hb
          · rw [upd_same, List.map_append]
            rfl
          · rw [List.length_append, List.length_singleton]
            omega
          · rw [List.length_append, List.length_singleton]
            omega
          · rcases List.mem_append.mp hr with z | z
            · exact hrs r z
            · rw [List.mem_singleton.mp z]
              exact ⟨ls, List.mem_of_getElem? hls, hcu, by omega⟩
        · have hc : ¬ ((ls.map fun (m : Nat) => (m : Int)).sum + 2 ≤ 3 + r2) := fun z => hc (decide_eq_true z)
          rw [sum_cast] at hc
          refine ⟨S3, rs, hd, by omega, fun _ => ?_, hrs⟩
          rcases Nat.lt_or_ge i 1 with z | z
          · have e0 : i = 0 := by omega
            subst e0
            cases hls
            exact absurd hc (by show ¬ ¬ (((([1, 1] : List Nat).sum : Nat) : Int) + 2 ≤ 3 + r2); have : (([1, 1] : List Nat).sum : Nat) = 2 := rfl; omega)
          · exact h1 z
      rintro H3 ⟨S3, rs, hd, hlen, h1, hrs⟩
      rw [List.length_map, wl] at hlen h1
      have nD : D ≠ p := (hpS.new hD).1.symm
      refine ⟨p, c, D, k2, rs.map V.ref, rfl, hpS.same S3, SqL.of hd, nD, by rw [List.length_map]; exact h1 (by decide), by rw [List.length_map]; omega, by omega, fun i v H4 k4 hiv B4 hk4 hp4 => ?_⟩
      obtain ⟨u, hu, rfl⟩ := getMapA hiv
      obtain ⟨ls, hls, hcu, hsum⟩ := hrs u (List.mem_of_getElem? hu)
      have ec : (ls.map fun (m : Nat) => V.int (m : Int)) = (ls.map fun (m : Nat) => (m : Int)).map V.int := by
        rw [List.map_map]
        rfl
      have nu : u ≠ p := fun z => by
        obtain ⟨cells, x, e1, _⟩ := hpS
        rw [z, e1, ec] at hcu
        exact pen_ne (Option.some.inj hcu)
      have hcu4 := B4 _ _ nu (S3 _ _ hcu)
      obtain ⟨b1, b2⟩ := some_ok ls hls
      refine ⟨by show 2 ≤ sizeLine; decide, fun e H5 n5 S5 h5 => ⟨_, rfl, ?_⟩⟩
      refine ⟨e, u, 0, 1, 2, ls, rfl, SqT.of h5, SqL.of (S5 _ _ hcu4), by decide, by decide, b1, b2, fun wl H6 S6 n6 hP => ?_⟩
      refine ⟨_, rfl, u, _, rfl, SqL.of (by rw [← ec]; exact S6 _ _ (S5 _ _ hcu4)), _, _, rfl, rfl, by show 2 ≤ sizeLine; decide, fun rr H7 n7 S7 h7 => ?_⟩
      have h7 : H7 rr = some (.tup [.ref wl, .int ((ls.map fun (m : Nat) => (m : Int)).sum + 2)]) := h7
      have e7 : (ls.map fun (m : Nat) => (m : Int)).sum + 2 = ((ls.sum + 2 : Nat) : Int) := by
        rw [sum_cast]
        omega
      rw [e7] at h7
      have S47 : Same H4 H7 := (S5.trans S6).trans S7
      have B07 : But p H H7 := ((B02.trans (sameBut (TT.trans S3))).trans B4).trans (sameBut S47)
      exact q rr wl H7 _ _ k4 B07 h7 (hP.same S7) ((hp4.same S5).new n6).1.symm (.forks hls (by omega)) (by omega) (hp4.same S47)
    · rintro σ' H' ⟨rfl, eH⟩
      rw [eH]
      clear eH
      -- n = min([n, 5])
      refine ⟨_, rfl, by show 2 ≤ sizeLine; decide, fun ml H3 n3 S3 h3 => ⟨ml, [3 + r2, 5], rfl, SqL.of h3, by show 0 < 2; decide, fun mn hmn hle => ?_⟩⟩
      obtain ⟨M, hM⟩ : ∃ M : Nat, mn = (M : Int) := by
        refine ⟨mn.toNat, ?_⟩
        simp only [List.mem_cons, List.not_mem_nil, or_false] at hmn
        omega
      have M5 : M ≤ 5 := by
        have z := hle 5 (by simp)
        omega
      have MN : (M : Int) ≤ 3 + r2 := by
        have z := hle (3 + r2) (by simp)
        omega
      have M3 : 3 ≤ M := by
        simp only [List.mem_cons, List.not_mem_nil, or_false] at hmn
        omega
      subst hM
      have hp3 := hp2.same S3
      have e1 : (M : Int) - 1 = ((M - 1 : Nat) : Int) := by omega
      refine ⟨by show 2 ≤ sizeLine; decide, fun e H4 n4 S4 h4 => ⟨_, rfl, _, _, rfl, rfl, by show 1 ≤ sizeLine; decide, fun ll H5 n5 S5 h5 => ?_⟩⟩
      refine ⟨e, ll, 0, 0, 1, [M - 1], rfl, SqT.of (S5 _ _ h4), SqL.of ((show H5 ll = some (.lst [V.int ((M : Int) - 1)]) from h5).trans (by rw [e1]; rfl)), by decide, by decide, by show 1 ≤ 20; decide, (fun m hm => by rw [List.mem_singleton.mp hm]; omega), fun wl H6 S6 n6 hP => ?_⟩
      have S26 : Same H2 H6 := ((S3.trans S4).trans S5).trans S6
      have hp6 := hp2.same S26
      have B06 : But p H H6 := B02.trans (sameBut S26)
      have nwl : wl ≠ p := ((hp3.same (S4.trans S5)).new n6).1.symm
      refine ⟨_, rfl, (M : Int), rfl, by omega, by omega, for_range (lo := 0) (n := (M : Int).toNat) (fun i σ H' => (∃ (tl : Addr) (x : Option V), σ = [some (.ref p), some (.int size), some (.int form), some (.int (M : Int)), none, none, some (.ref tl), x, none, none] ∧ tl ≠ p ∧ ∃ cs : List (Int × Int), cs.Sublist (chords M i) ∧ PrsL H' tl (waysOf 0 0 [M - 1] 1 ++ cs)) ∧ But p H H' ∧ ∃ k', k' ≤ k2 + 5 * i ∧ Pen H' p c k')
        ⟨⟨wl, none, rfl, nwl, [], List.Sublist.refl _, by rw [List.append_nil]; exact hP⟩, B06, k2, by omega, hp6⟩ ?_ ?_⟩
      · rintro i σ H7 hi ⟨⟨tl, x, rfl, ntl, cs, hcs, hPt⟩, B7, k7, hk7, hp7⟩
        have hiM : i < M := by omega
        have ea : (0 : Int) + (i : Nat) = (i : Int) := by omega
        rw [ea]
        -- ties + [..]
        refine ⟨_, rfl, _, rfl, _, _, rfl, rfl, _, rfl, _, _, rfl, ⟨by omega, by omega, by omega, by omega⟩, fun D hD => lc_range (lo := (i : Int) + 2) (n := ((M : Int) - ((i : Int) + 2)).toNat)
          (fun j H8 => But p H7 H8 ∧ ∃ (rs : List Addr) (us : List (Int × Int)) (k8 : Nat), H8 D = some (.lst (rs.map V.ref)) ∧ PrsAt H8 rs us ∧ us.Sublist (chordsTo M i j) ∧ rs.length ≤ j ∧ k8 ≤ k7 + j ∧ Pen H8 p c k8) ⟨sameBut (same_upd hD), [], [], k7, upd_same, PrsAt.nil, List.Sublist.refl _, Nat.le_refl _, Nat.le_refl _, hp7.same (same_upd hD)⟩ ?_ ?_⟩
        · rintro j H8 hj ⟨B8, rs, us, k8, hd, hrs, hus, hlen, hk8, hp8⟩
          have hj5 : i + 2 + j < M := by omega
          have eb : (i : Int) + 2 + (j : Nat) = ((i + 2 + j : Nat) : Int) := by omega
          rw [eb]
          have nDp : D ≠ p := (hp7.new hD).1.symm
          have nDc : D ≠ c := (hp7.new hD).2.symm
          have up := chordsTo_sub M i j
          refine ⟨rfl, _, rfl, _, rfl, by show 2 ≤ sizeLine; decide, fun t1 G1 m1 T1 g1 => ?_⟩
          refine ⟨_, rfl, _, _, rfl, rfl, by show 2 ≤ sizeLine; decide, fun t2 G2 m2 T2 g2 => ?_⟩
          have T12 := T1.trans T2
          have hd2 := T12 _ _ hd
          have hp82 := hp8.same T12
          refine ⟨.tuple [.int (i : Int), .int ((i + 2 + j : Nat) : Int)], .tuple [.int 0, .int ((M : Int) - 1)], .tup (SqT.of (T2 _ _ g1)) (.cons (.int _) (.cons (.int _) .nil)), .tup (SqT.of g2) (.cons (.int _) (.cons (.int _) .nil)), rfl, rfl, _, rfl, ite2 (fun h1 => ?_) (fun _ => ?_)⟩
          · have ht : ((i : Int), ((i + 2 + j : Nat) : Int)) ≠ ((0 : Int), (M : Int) - 1) := fun z => by
              rw [Prod.mk.injEq] at z
              rw [z.1, z.2] at h1
              simp [PyData.eqv, PyData.eqvAll] at h1
            refine ⟨_, rfl, p, c, k8, 3, rfl, hp82, by decide, by decide, by omega, fun r G3 k3 _ _ B3 hk3 hp3 => ⟨rfl, _, rfl, ite2 (fun _ => ?_) (fun _ => ?_)⟩⟩
            · refine ⟨_, rfl, _, rfl, by show 2 ≤ sizeLine; decide, fun t3 G4 m4 T4 g4 => ?_⟩
              have hd4 := T4 _ _ (B3 _ _ nDp hd2)
              have keep : ∀ u xs, G4 u = some (.tup xs) → (upd G4 D (.lst (rs.map V.ref ++ [V.ref t3]))) u = some (.tup xs) := fun u xs e => by
                rw [upd_ne (fun z => by
                  rw [z, hd4] at e
                  cases e)]
                exact e
              have tup8 : ∀ u xs, H8 u = some (.tup xs) → G4 u = some (.tup xs) := fun u xs e => by
                refine T4 _ _ (B3 _ _ (fun z => ?_) (T12 _ _ e))
                obtain ⟨cells, x, e1, _⟩ := hp8
                rw [z, e1] at e
                cases e
              refine ⟨rs.map V.ref, hd4, by rw [List.length_map]; exact small1000 (by omega), fun b o nb hb => ?_, rs ++ [t3], us ++ [((i : Int), ((i + 2 + j : Nat) : Int))], k3, by rw [upd_same, List.map_append]; rfl, ?_, ?_, by rw [List.length_append, List.length_singleton]; omega, by omega, ?_⟩
              · rw [upd_ne (ne_of_none hb hD)]
                exact T4 _ _ (B3 _ _ nb (T12 _ _ (B8 _ _ nb hb)))
              · refine (hrs.mono fun u xs e => keep u xs (tup8 u xs e)).app ⟨rfl, fun m u a b e1 e2 => ?_⟩
                have m0 : m = 0 := by
                  have z := (List.getElem?_eq_some_iff.mp e1).1
                  rw [List.length_singleton] at z
                  omega
                subst m0
                cases e1
                cases e2
                exact keep _ _ g4
              · rw [chordsTo_add ht]
                exact hus.append (List.Sublist.refl _)
              · refine (hp3.same T4).at (fun o e => ?_) (fun o e => ?_)
                · rw [upd_ne nDp.symm]
                  exact e
                · rw [upd_ne nDc.symm]
                  exact e
            · exact ⟨fun b o nb hb => B3 _ _ nb (T12 _ _ (B8 _ _ nb hb)), rs, us, k3, B3 _ _ nDp hd2, hrs.mono (fun u xs e => B3 _ _ (fun z => by
                obtain ⟨cells, x, e1, _⟩ := hp8
                rw [z, e1] at e
                cases e) (T12 _ _ e)), hus.trans up, by omega, by omega, hp3⟩
          · exact ⟨fun b o nb hb => T12 _ _ (B8 _ _ nb hb), rs, us, k8, hd2, hrs.mono (fun u xs e => T12 _ _ e), hus.trans up, by omega, by omega, hp82⟩
        · rintro H8 ⟨B8, rs, us, k8, hd, hrs, hus, hlen, hk8, hp8⟩
          obtain ⟨cells7, x7, e7, _⟩ := id hp7
          obtain ⟨qs, hq1, hq2⟩ := hPt.but B8 ntl e7
          have ej : ((M : Int) - ((i : Int) + 2)).toNat = M - (i + 2) := by omega
          rw [ej] at hus hlen hk8
          have ql : qs.length ≤ 100 := by
            rw [hq2.1, List.length_append, ways_len]
            have z1 := hcs.length_le
            have z2 := chords_len M i
            have z3 : i * M ≤ 5 * 5 := Nat.mul_le_mul (by omega) M5
            have z4 : ([M - 1] : List Nat).sum + ([M - 1] : List Nat).length = M - 1 + 1 := rfl
            omega
          refine ⟨tl, D, _, _, rfl, rfl, hq1, hd, by rw [List.length_map, List.length_map, sizeLine_eq]; omega, fun t9 H9 n9 S9 h9 => ?_⟩
          refine ⟨⟨t9, _, rfl, (hp8.new n9).1.symm, cs ++ us, hcs.append hus, qs ++ rs, by rw [h9, List.map_append], ?_⟩, (B7.trans B8).trans (sameBut S9), k8, ?_, hp8.same S9⟩
          · rw [← List.append_assoc]
            exact (hq2.mono fun u xs e => S9 _ _ e).app (hrs.mono fun u xs e => S9 _ _ e)
          · omega
      · rintro σ H7 ⟨⟨tl, x, rfl, ntl, cs, hcs, hPt⟩, B7, k7, hk7, hp7⟩
        have eM : ((M : Int)).toNat = M := by omega
        rw [eM] at hcs hk7
        refine ⟨_, rfl, _, rfl, by show 2 ≤ sizeLine; decide, fun rr H8 n8 S8 h8 => ?_⟩
        exact q rr tl H8 M _ k7 (B7.trans (sameBut S8)) h8 (hPt.same S8) ntl (.more M3 M5 (by omega) hcs) (by omega) (hp7.same S8)
end
end Sb

/-! ## W442 -/
/-! Drawn webs are webs: the ties alone. -/
namespace Sb
open PySem PySem.Spec PyProof.Rows L2
/-- tied, one by one -/
inductive Lk (ts : List (Int × Int)) : Int → Int → Prop
  | refl (a : Int) : Lk ts a a
  | step {a b c : Int} : Lk ts a b → ((b, c) ∈ ts ∨ (c, b) ∈ ts) → Lk ts a c
theorem Lk.trans {ts : List (Int × Int)} {a b c : Int} (h : Lk ts a b) (g : Lk ts b c) : Lk ts a c := by
  induction g with
  | refl => exact h
  | step _ e ih => exact .step ih e
theorem Lk.one {ts : List (Int × Int)} {a b : Int} (e : (a, b) ∈ ts ∨ (b, a) ∈ ts) : Lk ts a b := .step (.refl a) e
theorem Lk.symm {ts : List (Int × Int)} {a b : Int} (h : Lk ts a b) : Lk ts b a := by
  induction h with
  | refl => exact .refl _
  | step _ e ih => exact (Lk.one e.symm).trans ih
theorem Lk.mono {ts us : List (Int × Int)} {a b : Int} (s : ∀ t ∈ ts, t ∈ us) (h : Lk ts a b) : Lk us a b := by
  induction h with
  | refl => exact .refl _
  | step _ e ih => exact .step ih (e.imp (s _) (s _))
theorem Lk.map {ts us : List (Int × Int)} {f : Int → Int} (s : ∀ a b, (a, b) ∈ ts → (f a, f b) ∈ us ∨ (f b, f a) ∈ us) {a b : Int} (h : Lk ts a b) : Lk us (f a) (f b) := by
  induction h with
  | refl => exact .refl _
  | step _ e ih =>
    refine .step ih ?_
    rcases e with e | e
    · exact s _ _ e
    · exact (s _ _ e).symm
/-- told apart, also turned about -/
def Apart (s t : Int × Int) : Prop := s ≠ t ∧ s ≠ (t.2, t.1)
theorem Apart.symm {s t : Int × Int} (h : Apart s t) : Apart t s := ⟨h.1.symm, fun z => h.2 (by rw [z])⟩
structure Good (n : Nat) (ts : List (Int × Int)) : Prop where
  inn : ∀ t ∈ ts, 0 ≤ t.1 ∧ t.1 < (n : Int) ∧ 0 ≤ t.2 ∧ t.2 < (n : Int) ∧ t.1 ≠ t.2
  dis : ts.Pairwise Apart
  con : ∀ v : Int, 0 ≤ v → v < (n : Int) → Lk ts 0 v
/-! ### looked at -/
def grow (ts : List (Int × Int)) (S : List Int) : List Int := S ++ (ts.flatMap fun t => (if S.contains t.1 then [t.2] else []) ++ (if S.contains t.2 then [t.1] else []))
def growN (ts : List (Int × Int)) : Nat → List Int
  | 0 => [0]
  | k + 1 => grow ts (growN ts k)
theorem grow_lk {ts : List (Int × Int)} {S : List Int} (h : ∀ v ∈ S, Lk ts 0 v) : ∀ v ∈ grow ts S, Lk ts 0 v := fun v hv => by
  unfold grow at hv
  rcases List.mem_append.mp hv with z | z
  · exact h v z
  · obtain ⟨⟨a, b⟩, ht, hv⟩ := List.mem_flatMap.mp z
    rcases List.mem_append.mp hv with z | z
    · split at z
      · rename_i c
        rw [List.mem_singleton.mp z]
        exact .step (h _ (List.contains_iff_mem.mp c)) (.inl ht)
      · cases z
    · split at z
      · rename_i c
        rw [List.mem_singleton.mp z]
        exact .step (h _ (List.contains_iff_mem.mp c)) (.inr ht)
      · cases z
theorem growN_lk (ts : List (Int × Int)) : ∀ k, ∀ v ∈ growN ts k, Lk ts 0 v
  | 0, v, hv => by
    rw [List.mem_singleton.mp hv]
    exact .refl _
  | k + 1, v, hv => grow_lk (growN_lk ts k) v hv
def apartB (s t : Int × Int) : Bool := !decide (s = t) && !decide (s = (t.2, t.1))
def goodB (n : Nat) (ts : List (Int × Int)) : Bool :=
  (ts.all fun t => decide (0 ≤ t.1) && decide (t.1 < (n : Int)) && decide (0 ≤ t.2) && decide (t.2 < (n : Int)) && decide (t.1 ≠ t.2)) && (decide (ts.Pairwise fun s t => apartB s t = true) && (List.range n).all fun v => (growN ts n).contains (v : Int))
theorem good_of {n : Nat} {ts : List (Int × Int)} (h : goodB n ts = true) : Good n ts := by
  unfold goodB at h
  rw [Bool.and_eq_true, Bool.and_eq_true] at h
  obtain ⟨h1, h2, h3⟩ := h
  refine ⟨fun t ht => ?_, ?_, fun v v0 v1 => ?_⟩
  · have z := List.all_eq_true.mp h1 t ht
    simp only [Bool.and_eq_true, decide_eq_true_eq] at z
    obtain ⟨⟨⟨⟨a, b⟩, c⟩, d⟩, e⟩ := z
    exact ⟨a, b, c, d, e⟩
  · refine List.Pairwise.imp (fun {s t} z => ?_) (of_decide_eq_true h2)
    unfold apartB at z
    simp only [Bool.and_eq_true, Bool.not_eq_true', decide_eq_false_iff_not] at z
    exact z
  · have z := List.all_eq_true.mp h3 v.toNat (List.mem_range.mpr (by omega))
    have e : ((v.toNat : Nat) : Int) = v := by omega
    rw [e] at z
    exact growN_lk ts n v (List.contains_iff_mem.mp z)
/-! ### pieces -/
def subs {α : Type} : List α → List (List α)
  | [] => [[]]
  | a :: l => subs l ++ (subs l).map (a :: ·)
theorem mem_subs {α : Type} {c l : List α} (h : c.Sublist l) : c ∈ subs l := by
  induction h with
  | slnil => exact List.mem_singleton.mpr rfl
  | cons a _ ih => exact List.mem_append_left _ ih
  | cons_cons a _ ih => exact List.mem_append_right _ (List.mem_map.mpr ⟨_, ih, rfl⟩)
theorem rings_good : ∀ n ∈ List.range 21, 3 ≤ n → goodB n (waysOf 0 0 [n - 1] 1) = true := by decide +kernel
theorem forks_good : ∀ ls ∈ someWays, goodB (ls.sum + 2) (waysOf 0 1 ls 2) = true := by decide +kernel
theorem more_good : ∀ n ∈ [3, 4, 5], ∀ cs ∈ subs (chords n n), goodB n (waysOf 0 0 [n - 1] 1 ++ cs) = true := by decide +kernel
theorem piece_good {size : Int} {n : Nat} {ts : List (Int × Int)} (h : PieceOf size n ts) (hs : size ≤ 20) : Good n ts := by
  cases h with
  | edge => exact good_of (by decide +kernel)
  | ring h1 h2 => exact good_of (rings_good n (List.mem_range.mpr (by omega)) h1)
  | forks h1 h2 => exact good_of (forks_good _ h1)
  | more h1 h2 h3 h4 => exact good_of (more_good n (by simp; omega) _ (mem_subs h4))
theorem piece_n {size : Int} {n : Nat} {ts : List (Int × Int)} (h : PieceOf size n ts) (hs : 2 ≤ size) : 2 ≤ n ∧ (n : Int) ≤ size := by
  cases h with
  | edge => exact ⟨Nat.le_refl _, hs⟩
  | ring h1 h2 => exact ⟨by omega, h2⟩
  | forks h1 h2 => exact ⟨by omega, h2⟩
  | more h1 h2 h3 h4 => exact ⟨by omega, h3⟩
theorem piece_len {size : Int} {n : Nat} {ts : List (Int × Int)} (h : PieceOf size n ts) (hs : size ≤ 20) : ts.length ≤ 100 := by
  cases h with
  | edge => decide
  | ring h1 h2 =>
    rw [ways_len]
    show n - 1 + 0 + 1 ≤ 100
    omega
  | @forks ls h1 h2 =>
    rw [ways_len]
    have z := (some_ok ls h1).1
    omega
  | @more n cs h1 h2 h3 h4 =>
    rw [List.length_append, ways_len]
    have z1 := h4.length_le
    have z2 := chords_len n n
    have z3 : n * n ≤ 5 * 5 := Nat.mul_le_mul h2 h2
    show n - 1 + 0 + 1 + cs.length ≤ 100
    omega
/-! ### put together at a bay -/
def glN (n : Nat) (at_ a : Int) : Int := if a = 0 then at_ else (n : Int) + a - 1
def glT (n : Nat) (at_ : Int) (t : Int × Int) : Int × Int := (glN n at_ t.1, glN n at_ t.2)
theorem glN_inj {n : Nat} {at_ a b : Int} (h1 : at_ < (n : Int)) (a0 : 0 ≤ a) (b0 : 0 ≤ b) (e : glN n at_ a = glN n at_ b) : a = b := by
  unfold glN at e
  split at e <;> split at e <;> omega
theorem glue_good {n m : Nat} {ts us : List (Int × Int)} {at_ : Int} (g : Good n ts) (k : Good m us) (h0 : 0 ≤ at_) (h1 : at_ < (n : Int)) (hm : 1 ≤ m) : Good (n + m - 1) (ts ++ us.map (glT n at_)) := by
  have rng : ∀ a : Int, 0 ≤ a → a < (m : Int) → 0 ≤ glN n at_ a ∧ glN n at_ a < ((n + m - 1 : Nat) : Int) := fun a a0 a1 => by
    unfold glN
    split <;> omega
  have inj : ∀ s ∈ us, ∀ t ∈ us, Apart s t → Apart (glT n at_ s) (glT n at_ t) := fun s hs t ht h => by
    obtain ⟨a0, _, a2, _, _⟩ := k.inn s hs
    obtain ⟨b0, _, b2, _, _⟩ := k.inn t ht
    refine ⟨fun z => h.1 ?_, fun z => h.2 ?_⟩
    · have z1 := glN_inj h1 a0 b0 (congrArg Prod.fst z)
      have z2 := glN_inj h1 a2 b2 (congrArg Prod.snd z)
      exact Prod.ext z1 z2
    · have z1 := glN_inj h1 a0 b2 (congrArg Prod.fst z)
      have z2 := glN_inj h1 a2 b0 (congrArg Prod.snd z)
      exact Prod.ext z1 z2
  refine ⟨fun t ht => ?_, ?_, fun v v0 v1 => ?_⟩
  · rcases List.mem_append.mp ht with z | z
    · obtain ⟨a, b, c, d, e⟩ := g.inn t z
      exact ⟨a, by omega, c, by omega, e⟩
    · obtain ⟨s, hs, rfl⟩ := List.mem_map.mp z
      obtain ⟨a, b, c, d, e⟩ := k.inn s hs
      obtain ⟨r1, r2⟩ := rng _ a b
      obtain ⟨r3, r4⟩ := rng _ c d
      exact ⟨r1, r2, r3, r4, fun z => e (glN_inj h1 a c z)⟩
  · refine List.pairwise_append.mpr ⟨g.dis, ?_, fun s hs t ht => ?_⟩
    · rw [List.pairwise_map]
      refine List.Pairwise.imp_of_mem (fun {s t} hs ht h => inj s hs t ht h) k.dis
    · obtain ⟨u, hu, rfl⟩ := List.mem_map.mp ht
      obtain ⟨a, b, c, d, e⟩ := g.inn s hs
      obtain ⟨a', b', c', d', e'⟩ := k.inn u hu
      -- one end of the later tie is a new bay
      have far : (n : Int) ≤ glN n at_ u.1 ∨ (n : Int) ≤ glN n at_ u.2 := by
        unfold glN
        by_cases z : u.1 = 0
        · right
          rw [if_neg (fun y => e' (by rw [z, y]))]
          omega
        · left
          rw [if_neg z]
          omega
      refine ⟨fun z => ?_, fun z => ?_⟩
      · have z1 : s.1 = glN n at_ u.1 := congrArg Prod.fst z
        have z2 : s.2 = glN n at_ u.2 := congrArg Prod.snd z
        omega
      · have z1 : s.1 = glN n at_ u.2 := congrArg Prod.fst z
        have z2 : s.2 = glN n at_ u.1 := congrArg Prod.snd z
        omega
  · have low : ∀ u : Int, 0 ≤ u → u < (n : Int) → Lk (ts ++ us.map (glT n at_)) 0 u := fun u u0 u1 => (g.con u u0 u1).mono fun t ht => List.mem_append_left _ ht
    rcases Int.lt_or_le v n with z | z
    · exact low v v0 z
    · have hv := k.con (v - n + 1) (by omega) (by omega)
      have hm := Lk.map (f := glN n at_) (us := ts ++ us.map (glT n at_)) (fun a b e => .inl (List.mem_append_right _ (List.mem_map.mpr ⟨(a, b), e, rfl⟩))) hv
      have e1 : glN n at_ 0 = at_ := if_pos rfl
      have e2 : glN n at_ (v - n + 1) = v := by
        unfold glN
        rw [if_neg (by omega)]
        omega
      rw [e1, e2] at hm
      exact (low at_ h0 h1).trans hm
/-! ### named anew -/
theorem upto_get {n : Nat} {ns : List Int} (h : ns.Perm (upto n)) : ns.length = n ∧ ns.Nodup ∧ (∀ x ∈ ns, 0 ≤ x ∧ x < (n : Int)) ∧ ∀ x : Int, 0 ≤ x → x < (n : Int) → x ∈ ns := by
  have ml : ∀ x : Int, x ∈ upto n ↔ 0 ≤ x ∧ x < (n : Int) := fun x => by
    unfold upto
    rw [List.mem_map]
    constructor
    · rintro ⟨i, hi, rfl⟩
      have := List.mem_range.mp hi
      omega
    · intro h
      exact ⟨x.toNat, List.mem_range.mpr (by omega), by omega⟩
  refine ⟨?_, ?_, fun x hx => (ml x).mp (h.mem_iff.mp hx), fun x a b => h.mem_iff.mpr ((ml x).mpr ⟨a, b⟩)⟩
  · rw [h.length_eq]
    unfold upto
    rw [List.length_map, List.length_range]
  · rw [h.nodup_iff]
    unfold upto
    refine List.pairwise_map.mpr (List.Pairwise.imp (fun {a b} (z : a ≠ b) => ?_) List.nodup_range)
    omega
theorem nd_get {ns : List Int} (h : ns.Nodup) {a b : Int} (a0 : 0 ≤ a) (a1 : a < (ns.length : Int)) (b0 : 0 ≤ b) (b1 : b < (ns.length : Int)) (e : ns.getD a.toNat 0 = ns.getD b.toNat 0) : a = b := by
  have ha : a.toNat < ns.length := by omega
  have hb : b.toNat < ns.length := by omega
  rw [List.getD_eq_getElem?_getD, List.getD_eq_getElem?_getD, List.getElem?_eq_getElem ha, List.getElem?_eq_getElem hb] at e
  have e3 : ns[a.toNat] = ns[b.toNat] := e
  have e2 : a.toNat = b.toNat := nd_ix h (List.getElem?_eq_getElem ha) (by rw [List.getElem?_eq_getElem hb, e3])
  omega
theorem named_good {n : Nat} {ts us : List (Int × Int)} {ns : List Int} (g : Good n ts) (hn : ns.Perm (upto n)) (hu : us.Perm (ts.map (nmTie ns))) : Good n us ∧ ∀ t ∈ us, t.1 < t.2 := by
  obtain ⟨hl, hd, hr, hm⟩ := upto_get hn
  have at_ : ∀ a : Int, 0 ≤ a → a < (n : Int) → 0 ≤ ns.getD a.toNat 0 ∧ ns.getD a.toNat 0 < (n : Int) := fun a a0 a1 => by
    have ha : a.toNat < ns.length := by omega
    rw [List.getD_eq_getElem?_getD, List.getElem?_eq_getElem ha]
    exact hr _ (List.getElem_mem ha)
  have one : ∀ t ∈ ts, ns.getD t.1.toNat 0 ≠ ns.getD t.2.toNat 0 := fun t ht z => by
    obtain ⟨a, b, c, d, e⟩ := g.inn t ht
    exact e (nd_get hd a (by omega) c (by omega) z)
  have nm : ∀ t ∈ ts, (nmTie ns t = (ns.getD t.1.toNat 0, ns.getD t.2.toNat 0) ∨ nmTie ns t = (ns.getD t.2.toNat 0, ns.getD t.1.toNat 0)) ∧ (nmTie ns t).1 < (nmTie ns t).2 := fun t ht => by
    have z := one t ht
    unfold nmTie
    by_cases c : ns.getD t.2.toNat 0 < ns.getD t.1.toNat 0
    · have c2 : ¬ ns.getD t.1.toNat 0 < ns.getD t.2.toNat 0 := by omega
      rw [if_pos c, if_neg c2]
      exact ⟨.inr rfl, c⟩
    · have c2 : ns.getD t.1.toNat 0 < ns.getD t.2.toNat 0 := by omega
      rw [if_neg c, if_pos c2]
      exact ⟨.inl rfl, c2⟩
  have mem : ∀ t, t ∈ us ↔ ∃ s ∈ ts, nmTie ns s = t := fun t => by rw [hu.mem_iff, List.mem_map]
  refine ⟨⟨fun t ht => ?_, ?_, fun v v0 v1 => ?_⟩, fun t ht => ?_⟩
  · obtain ⟨s, hs, rfl⟩ := (mem t).mp ht
    obtain ⟨a, b, c, d, e⟩ := g.inn s hs
    obtain ⟨h1, h2⟩ := nm s hs
    obtain ⟨a1, a2⟩ := at_ _ a b
    obtain ⟨b1, b2⟩ := at_ _ c d
    rcases h1 with z | z <;> rw [z] at h2 ⊢
    · exact ⟨a1, a2, b1, b2, fun y => by have : ns.getD s.1.toNat 0 < ns.getD s.2.toNat 0 := h2; have y : ns.getD s.1.toNat 0 = ns.getD s.2.toNat 0 := y; omega⟩
    · exact ⟨b1, b2, a1, a2, fun y => by have : ns.getD s.2.toNat 0 < ns.getD s.1.toNat 0 := h2; have y : ns.getD s.2.toNat 0 = ns.getD s.1.toNat 0 := y; omega⟩
  · refine hu.symm.pairwise ?_ (fun {s t} h => Apart.symm h)
    rw [List.pairwise_map]
    refine List.Pairwise.imp_of_mem (fun {s t} hs ht h => ?_) g.dis
    obtain ⟨a, b, c, d, e⟩ := g.inn s hs
    obtain ⟨a', b', c', d', e'⟩ := g.inn t ht
    obtain ⟨h1, _⟩ := nm s hs
    obtain ⟨h2, _⟩ := nm t ht
    have inj : ∀ x y : Int, 0 ≤ x → x < (n : Int) → 0 ≤ y → y < (n : Int) → ns.getD x.toNat 0 = ns.getD y.toNat 0 → x = y := fun x y x0 x1 y0 y1 z => nd_get hd x0 (by omega) y0 (by omega) z
    have key : ∀ z : (ns.getD s.1.toNat 0 = ns.getD t.1.toNat 0 ∧ ns.getD s.2.toNat 0 = ns.getD t.2.toNat 0) ∨ (ns.getD s.1.toNat 0 = ns.getD t.2.toNat 0 ∧ ns.getD s.2.toNat 0 = ns.getD t.1.toNat 0), False := fun z => by
      rcases z with ⟨z1, z2⟩ | ⟨z1, z2⟩
      · exact h.1 (Prod.ext (inj _ _ a b a' b' z1) (inj _ _ c d c' d' z2))
      · exact h.2 (Prod.ext (inj _ _ a b c' d' z1) (inj _ _ c d a' b' z2))
    constructor
    · intro z
      rcases h1 with e1 | e1 <;> rcases h2 with e2 | e2 <;> rw [e1, e2, Prod.mk.injEq] at z
      · exact key (.inl z)
      · exact key (.inr z)
      · exact key (.inr ⟨z.2, z.1⟩)
      · exact key (.inl ⟨z.2, z.1⟩)
    · intro z
      rcases h1 with e1 | e1 <;> rcases h2 with e2 | e2 <;> rw [e1, e2, Prod.mk.injEq] at z
      · exact key (.inr z)
      · exact key (.inl z)
      · exact key (.inl ⟨z.2, z.1⟩)
      · exact key (.inr ⟨z.2, z.1⟩)
  · -- connected
    have mp : ∀ {a b : Int}, Lk ts a b → Lk us (ns.getD a.toNat 0) (ns.getD b.toNat 0) := fun {a b} h => Lk.map (f := fun a => ns.getD a.toNat 0) (fun a b e => by
      obtain ⟨h1, _⟩ := nm (a, b) e
      have hu1 : nmTie ns (a, b) ∈ us := (mem _).mpr ⟨(a, b), e, rfl⟩
      rcases h1 with z | z <;> rw [z] at hu1
      · exact .inl hu1
      · exact .inr hu1) h
    have back : ∀ x : Int, 0 ≤ x → x < (n : Int) → ∃ i : Int, 0 ≤ i ∧ i < (n : Int) ∧ ns.getD i.toNat 0 = x := fun x x0 x1 => by
      obtain ⟨j, hj⟩ := List.mem_iff_getElem?.mp (hm x x0 x1)
      have hjl := (List.getElem?_eq_some_iff.mp hj).1
      refine ⟨(j : Int), by omega, by omega, ?_⟩
      rw [List.getD_eq_getElem?_getD, show ((j : Int)).toNat = j by omega, hj]
      rfl
    obtain ⟨i, i0, i1, ei⟩ := back 0 (Int.le_refl 0) (by omega)
    obtain ⟨j, j0, j1, ej⟩ := back v v0 v1
    have z := mp ((g.con i i0 i1).symm.trans (g.con j j0 j1))
    rw [ei, ej] at z
    exact z
  · obtain ⟨s, hs, rfl⟩ := (mem t).mp ht
    exact (nm s hs).2
end Sb

/-! ## W542 -/
/-! Good ties are a web's: steps_from finds every bay. -/
namespace Sb
open PySem PySem.Spec PyProof.Rows L2
/-! ### who stands in whose row -/
theorem app_keep {r : List (List Int)} {i k : Nat} {x z : Int} (h : z ∈ r.getD k []) : z ∈ (app r i x).getD k [] := by
  unfold app
  by_cases hk : i = k
  · subst hk
    by_cases hl : i < r.length
    · rw [setD_self hl]
      exact List.mem_append_left _ h
    · rw [List.getD_eq_getElem?_getD, List.getElem?_eq_none (by omega)] at h
      cases h
  · rw [setD_ne hk]
    exact h
theorem app_new {r : List (List Int)} {i : Nat} {x : Int} (h : i < r.length) : x ∈ (app r i x).getD i [] := by
  unfold app
  rw [setD_self h]
  exact List.mem_append_right _ List.mem_cons_self
theorem fold_keep {k : Nat} {z : Int} : ∀ {ts : List (Int × Int)} {r : List (List Int)}, z ∈ r.getD k [] → z ∈ (ts.foldl addTie r).getD k []
  | [], _, h => h
  | t :: ts, r, h => fold_keep (ts := ts) (app_keep (app_keep h))
theorem fold_new {n : Nat} : ∀ {ts : List (Int × Int)} {r : List (List Int)}, r.length = n → (∀ t ∈ ts, tieIn n t) → ∀ t ∈ ts, t.2 ∈ (ts.foldl addTie r).getD t.1.toNat [] ∧ t.1 ∈ (ts.foldl addTie r).getD t.2.toNat []
  | [], _, _, _, t, ht => by cases ht
  | s :: ts, r, hl, hin, t, ht => by
    obtain ⟨a0, a1, b0, b1⟩ := hin s List.mem_cons_self
    have hl2 : (addTie r s).length = n := by
      unfold addTie
      rw [app_len, app_len]
      exact hl
    rcases List.mem_cons.mp ht with e | e
    · subst e
      refine ⟨fold_keep (ts := ts) ?_, fold_keep (ts := ts) ?_⟩
      · exact app_keep (app_new (by omega))
      · exact app_new (by rw [app_len]; omega)
    · exact fold_new (ts := ts) hl2 (fun z hz => hin z (List.mem_cons_of_mem _ hz)) t e
theorem rows_has {n : Nat} {ts : List (Int × Int)} (hin : ∀ t ∈ ts, tieIn n t) : ∀ t ∈ ts, t.2 ∈ (rowsOf n ts).getD t.1.toNat [] ∧ t.1 ∈ (rowsOf n ts).getD t.2.toNat [] := fold_new List.length_replicate hin
/-! ### steps_from marks what is tied -/
def Mk (away : List Int) (z : Int) : Prop := 0 ≤ away.getD z.toNat 0
/-- marks are kept; what is new stands in the second list; the second list is marked -/
structure Grown (away : List Int) (st : List Int × List Int) : Prop where
  len : st.1.length = away.length
  keep : ∀ z : Int, 0 ≤ z → z < (away.length : Int) → Mk away z → Mk st.1 z
  new : ∀ z : Int, 0 ≤ z → z < (away.length : Int) → Mk st.1 z → Mk away z ∨ z ∈ st.2
theorem bstep_grown {away : List Int} {n bay : Nat} {st : List Int × List Int} {near : Int} (hn : away.length = n) (g : Grown away st) (hlow : ∀ z ∈ st.1, -1 ≤ z) (h0 : 0 ≤ near) (h1 : near < (n : Int)) : Grown away (bstep bay st near) ∧ Mk (bstep bay st near).1 near := by
  unfold bstep
  have hl : near.toNat < st.1.length := by rw [g.len]; omega
  split
  · rename_i c
    have hx : 0 ≤ st.1.getD bay 0 + 1 := by
      have := getD_low hlow bay
      omega
    refine ⟨⟨by rw [List.length_set]; exact g.len, fun z z0 z1 hz => ?_, fun z z0 z1 hz => ?_⟩, ?_⟩
    · have k := g.keep z z0 z1 hz
      unfold Mk at k ⊢
      by_cases e : near.toNat = z.toNat
      · rw [e, setD_self (by rw [← e]; exact hl)]
        exact hx
      · rw [setD_ne e]
        exact k
    · by_cases e : near.toNat = z.toNat
      · have ez : z = near := by omega
        right
        rw [ez]
        exact List.mem_append_right _ List.mem_cons_self
      · have hz2 : Mk st.1 z := by
          unfold Mk at hz ⊢
          rw [setD_ne e] at hz
          exact hz
        rcases g.new z z0 z1 hz2 with k | k
        · exact .inl k
        · exact .inr (List.mem_append_left _ k)
    · show 0 ≤ (st.1.set near.toNat (st.1.getD bay 0 + 1)).getD near.toNat 0
      rw [setD_self hl]
      exact hx
  · rename_i c
    refine ⟨g, ?_⟩
    show 0 ≤ st.1.getD near.toNat 0
    omega
theorem row_grown {away : List Int} {n m bay : Nat} (hn : away.length = n) : ∀ {l : List Int} {st : List Int × List Int}, (∀ z ∈ l, 0 ≤ z ∧ z < (n : Int)) → BOk n m st → Grown away st → Grown away (l.foldl (bstep bay) st) ∧ (∀ z : Int, 0 ≤ z → z < (n : Int) → Mk st.1 z → Mk (l.foldl (bstep bay) st).1 z) ∧ ∀ z ∈ l, Mk (l.foldl (bstep bay) st).1 z
  | [], st, _, _, g => ⟨g, fun z _ _ h => h, fun z hz => by cases hz⟩
  | x :: l, st, hl, b, g => by
    obtain ⟨x0, x1⟩ := hl x List.mem_cons_self
    obtain ⟨g1, m1⟩ := bstep_grown (bay := bay) hn g b.low x0 x1
    have b1 := bstep_ok (bay := bay) b x0 x1
    -- one step keeps the marks
    have k1 : ∀ z : Int, 0 ≤ z → z < (n : Int) → Mk st.1 z → Mk (bstep bay st x).1 z := fun z z0 z1 h => by
      have gs : Grown st.1 st := ⟨rfl, fun _ _ _ h => h, fun _ _ _ h => .inl h⟩
      exact (bstep_grown (bay := bay) (n := n) b.len gs b.low x0 x1).1.keep z z0 (by rw [b.len]; exact z1) h
    obtain ⟨g2, k2, a2⟩ := row_grown hn (l := l) (fun z hz => hl z (List.mem_cons_of_mem _ hz)) b1 g1
    refine ⟨g2, fun z z0 z1 h => k2 z z0 z1 (k1 z z0 z1 h), fun z hz => ?_⟩
    rcases List.mem_cons.mp hz with e | e
    · rw [e]
      exact k2 x x0 x1 m1
    · exact a2 z e
theorem level_grown {away : List Int} {n m : Nat} {rss : List (List Int)} (hn : away.length = n) (hr : RowsIn n rss) : ∀ {l : List Int} {st : List Int × List Int}, BOk n m st → Grown away st → Grown away (l.foldl (brow rss) st) ∧ (∀ z : Int, 0 ≤ z → z < (n : Int) → Mk st.1 z → Mk (l.foldl (brow rss) st).1 z) ∧ ∀ x ∈ l, ∀ z ∈ rss.getD x.toNat [], Mk (l.foldl (brow rss) st).1 z
  | [], st, _, g => ⟨g, fun z _ _ h => h, fun z hz => by cases hz⟩
  | x :: l, st, b, g => by
    obtain ⟨g1, k1, a1⟩ := row_grown (bay := x.toNat) hn (hr x.toNat) b g
    have b1 : BOk n m (brow rss st x) := fold_ok (hr x.toNat) b
    obtain ⟨g2, k2, a2⟩ := level_grown hn hr (l := l) b1 g1
    refine ⟨g2, fun z z0 z1 h => k2 z z0 z1 (k1 z z0 z1 h), fun y hy z hz => ?_⟩
    rcases List.mem_cons.mp hy with e | e
    · subst e
      obtain ⟨z0, z1⟩ := hr _ z hz
      exact k2 z z0 z1 (a1 z hz)
    · exact a2 y e z hz
/-- what is marked and not in the front has marked neighbours only -/
def Shut (n : Nat) (rss : List (List Int)) (away front : List Int) : Prop := ∀ u : Int, 0 ≤ u → u < (n : Int) → Mk away u → u ∉ front → ∀ z ∈ rss.getD u.toNat [], Mk away z
theorem bfs_shut {n : Nat} {rss : List (List Int)} (hr : RowsIn n rss) : ∀ (k : Nat) (away front : List Int), away.length = n → (∀ z ∈ away, -1 ≤ z) → Shut n rss away front → (front = [] ∨ neg away < k) →
    (bfs rss k away front).length = n ∧ (∀ z : Int, 0 ≤ z → z < (n : Int) → Mk away z → Mk (bfs rss k away front) z) ∧ Shut n rss (bfs rss k away front) []
  | 0, away, front, hl, hlow, sh, hk => by
    have e : front = [] := hk.resolve_right (by omega)
    subst e
    exact ⟨hl, fun z _ _ h => h, sh⟩
  | k + 1, away, front, hl, hlow, sh, hk => by
    unfold bfs
    by_cases e : front = []
    · rw [if_pos e]
      subst e
      exact ⟨hl, fun z _ _ h => h, sh⟩
    · rw [if_neg e]
      have b0 : BOk n (neg away) (away, ([] : List Int)) := ⟨hl, hlow, fun z hz => (by cases hz), Nat.le_refl _⟩
      have g0 : Grown away (away, ([] : List Int)) := ⟨rfl, fun _ _ _ h => h, fun _ _ _ h => .inl h⟩
      obtain ⟨g1, k1, a1⟩ := level_grown hl hr (l := front) b0 g0
      have b1 : BOk n (neg away) (level rss away front) := front_ok hr b0
      have sh1 : Shut n rss (level rss away front).1 (level rss away front).2 := fun u u0 u1 hu hnu z hz => by
        obtain ⟨z0, z1⟩ := hr _ z hz
        rcases g1.new u u0 (by rw [hl]; exact u1) hu with h | h
        · by_cases hf : u ∈ front
          · exact a1 u hf z hz
          · exact k1 z z0 z1 (sh u u0 u1 h hf z hz)
        · exact absurd h hnu
      have hk1 : (level rss away front).2 = [] ∨ neg (level rss away front).1 < k := by
        rcases Nat.eq_zero_or_pos (level rss away front).2.length with z | z
        · exact .inl (List.eq_nil_of_length_eq_zero z)
        · have m := b1.mes
          have hk2 := hk.resolve_left e
          exact .inr (by omega)
      obtain ⟨c1, c2, c3⟩ := bfs_shut hr k _ _ b1.len b1.low sh1 hk1
      exact ⟨c1, fun z z0 z1 h => c2 z z0 z1 (k1 z z0 z1 h), c3⟩
theorem neg_le (l : List Int) : neg l ≤ l.length := List.countP_le_length
theorem steps_shut {n s : Nat} {rss : List (List Int)} (hl : rss.length = n) (hs : s < n) (hr : RowsIn n rss) : (stepsOf rss s).length = n ∧ Mk (stepsOf rss s) (s : Int) ∧ Shut n rss (stepsOf rss s) [] := by
  unfold stepsOf
  rw [hl]
  have h1 : ((List.replicate n (-1 : Int)).set s 0).length = n := by rw [List.length_set, List.length_replicate]
  have h2 : ∀ z ∈ (List.replicate n (-1 : Int)).set s 0, -1 ≤ z := fun z hz => by
    rcases List.mem_or_eq_of_mem_set hz with q | q
    · rw [List.eq_of_mem_replicate q]
      omega
    · omega
  have ms : Mk ((List.replicate n (-1 : Int)).set s 0) (s : Int) := by
    unfold Mk
    rw [show ((s : Int)).toNat = s by omega, setD_self (by rw [List.length_replicate]; exact hs)]
    omega
  have h3 : Shut n rss ((List.replicate n (-1 : Int)).set s 0) [(s : Int)] := fun u u0 u1 hu hnu => by
    exfalso
    have e : s ≠ u.toNat := fun z => hnu (List.mem_singleton.mpr (by omega))
    unfold Mk at hu
    rw [setD_ne e, List.getD_eq_getElem?_getD, List.getElem?_replicate, if_pos (by omega)] at hu
    exact absurd hu (by decide)
  have h4 : neg ((List.replicate n (-1 : Int)).set s 0) < 2 * n + 1 := by
    have z := neg_le ((List.replicate n (-1 : Int)).set s 0)
    rw [h1] at z
    omega
  obtain ⟨c1, c2, c3⟩ := bfs_shut hr (2 * n + 1) _ [(s : Int)] h1 h2 h3 (.inr h4)
  exact ⟨c1, c2 _ (by omega) (by omega) ms, c3⟩
theorem lk_marked {n : Nat} {ts : List (Int × Int)} {away : List Int} (hin : ∀ t ∈ ts, tieIn n t) (sh : Shut n (rowsOf n ts) away []) {a b : Int} (h : Lk ts a b) (a0 : 0 ≤ a) (a1 : a < (n : Int)) (ma : Mk away a) : 0 ≤ b ∧ b < (n : Int) ∧ Mk away b := by
  induction h with
  | refl => exact ⟨a0, a1, ma⟩
  | @step c d _ e ih =>
    obtain ⟨c0, c1, mc⟩ := ih
    rcases e with e | e
    · obtain ⟨_, _, d0, d1⟩ := hin _ e
      exact ⟨d0, d1, sh c c0 c1 mc List.not_mem_nil d (rows_has hin _ e).1⟩
    · obtain ⟨d0, d1, _, _⟩ := hin _ e
      exact ⟨d0, d1, sh c c0 c1 mc List.not_mem_nil d (rows_has hin _ e).2⟩
theorem good_reach {n : Nat} {ts : List (Int × Int)} (g : Good n ts) (hn : 1 ≤ n) : reach n ts = true := by
  have hin : ∀ t ∈ ts, tieIn n t := fun t ht => by
    obtain ⟨a, b, c, d, _⟩ := g.inn t ht
    exact ⟨a, b, c, d⟩
  obtain ⟨s1, s2, s3⟩ := steps_shut (n := n) (s := 0) (rowsOf_len n ts) (by omega) (rowsOf_in hin)
  refine List.all_eq_true.mpr fun z hz => decide_eq_true ?_
  obtain ⟨j, hj⟩ := List.mem_iff_getElem?.mp hz
  have hjl := (List.getElem?_eq_some_iff.mp hj).1
  have k := (lk_marked hin s3 (g.con (j : Int) (by omega) (by omega)) (by omega) (by omega) s2).2.2
  unfold Mk at k
  rw [show ((j : Int)).toNat = j by omega, List.getD_eq_getElem?_getD, hj] at k
  exact k
theorem lt2_of {s t : Int × Int} (h : SrtO.lexB t s = false) (hne : s ≠ t) : lt2 s t = true := by
  have z := SrtO.lexB_no.mp h
  show (if s.1 = t.1 then (if s.2 = t.2 then false else decide (s.2 < t.2)) else decide (s.1 < t.1)) = true
  by_cases h1 : s.1 = t.1
  · rw [if_pos h1]
    by_cases h2 : s.2 = t.2
    · exact absurd (Prod.ext h1 h2) hne
    · rw [if_neg h2]
      exact decide_eq_true (by omega)
  · rw [if_neg h1]
    exact decide_eq_true (by omega)
theorem good_web {n : Nat} {ts : List (Int × Int)} (g : Good n ts) (hlt : ∀ t ∈ ts, t.1 < t.2) (ha : Asc ts) (h2 : 2 ≤ n) (h40 : n ≤ 40) : webOK n ts = true := by
  unfold webOK
  rw [Bool.and_eq_true, Bool.and_eq_true, Bool.and_eq_true, Bool.and_eq_true]
  refine ⟨⟨decide_eq_true (by omega), decide_eq_true (by omega)⟩, List.all_eq_true.mpr fun t ht => ?_, ?_, by rw [show ((n : Int)).toNat = n by omega]; exact good_reach g (by omega)⟩
  · obtain ⟨a, b, c, d, _⟩ := g.inn t ht
    unfold tieOK
    rw [Bool.and_eq_true, Bool.and_eq_true]
    exact ⟨decide_eq_true a, decide_eq_true (hlt t ht), decide_eq_true d⟩
  · unfold asc
    refine List.all_eq_true.mpr fun k hk => ?_
    have hk := List.mem_range.mp hk
    have h1 : k < ts.length := by omega
    have h2 : k + 1 < ts.length := by omega
    rw [List.getD_eq_getElem?_getD, List.getD_eq_getElem?_getD, List.getElem?_eq_getElem h1, List.getElem?_eq_getElem h2]
    exact lt2_of (List.pairwise_iff_getElem.mp ha k (k + 1) h1 h2 (by omega)) (List.pairwise_iff_getElem.mp g.dis k (k + 1) h1 h2 (by omega)).1
end Sb

/-! ## A142 -/
/-! Steps are distances; rows are sorted. -/
namespace Sb
open PySem PySem.Spec PyProof.Rows L2
abbrev gI (aw : List Int) (v : Int) : Int := aw.getD v.toNat 0
abbrev gR (rss : List (List Int)) (v : Int) : List Int := rss.getD v.toNat []
structure Lv (n : Nat) (rss : List (List Int)) (s : Nat) (L : Int) (aw front : List Int) : Prop where
  len : aw.length = n
  low : ∀ z ∈ aw, -1 ≤ z
  l0 : 0 ≤ L
  src : gI aw s = 0
  zero : ∀ v : Int, 0 ≤ v → v < (n : Int) → gI aw v = 0 → v = s
  top : ∀ v : Int, 0 ≤ v → v < (n : Int) → gI aw v ≤ L
  fr1 : ∀ v ∈ front, 0 ≤ v ∧ v < (n : Int) ∧ gI aw v = L
  fr2 : ∀ v : Int, 0 ≤ v → v < (n : Int) → gI aw v = L → v ∈ front
  pre : ∀ v : Int, 0 ≤ v → v < (n : Int) → 0 < gI aw v → ∃ u : Int, 0 ≤ u ∧ u < (n : Int) ∧ v ∈ gR rss u ∧ gI aw u + 1 = gI aw v
  edge : ∀ u : Int, 0 ≤ u → u < (n : Int) → 0 ≤ gI aw u → gI aw u < L → ∀ z ∈ gR rss u, 0 ≤ gI aw z ∧ gI aw z ≤ gI aw u + 1
/-- within a level -/
structure Mid (n : Nat) (rss : List (List Int)) (L : Int) (aw front : List Int) (st : List Int × List Int) : Prop where
  len : st.1.length = n
  low : ∀ z ∈ st.1, -1 ≤ z
  keep : ∀ v : Int, 0 ≤ v → v < (n : Int) → 0 ≤ gI aw v → gI st.1 v = gI aw v
  new : ∀ v : Int, 0 ≤ v → v < (n : Int) → gI aw v < 0 → gI st.1 v < 0 ∨ (gI st.1 v = L + 1 ∧ v ∈ st.2 ∧ ∃ u ∈ front, v ∈ gR rss u)
  fol : ∀ v ∈ st.2, 0 ≤ v ∧ v < (n : Int) ∧ gI st.1 v = L + 1
theorem bstep_mid {n : Nat} {rss : List (List Int)} {L : Int} {aw front : List Int} {st : List Int × List Int} {bay near : Int} (hL : 0 ≤ L) (h : Mid n rss L aw front st) (b0 : 0 ≤ bay) (b1 : bay < (n : Int)) (hb : bay ∈ front) (hL2 : gI aw bay = L) (hn : near ∈ gR rss bay) (n0 : 0 ≤ near) (n1 : near < (n : Int)) :
    Mid n rss L aw front (bstep bay.toNat st near) ∧ 0 ≤ gI (bstep bay.toNat st near).1 near ∧ ∀ v : Int, 0 ≤ v → v < (n : Int) → 0 ≤ gI st.1 v → gI (bstep bay.toNat st near).1 v = gI st.1 v := by
  have hbay : st.1.getD bay.toNat 0 = L := by
    have q := h.keep bay b0 b1 (by omega)
    exact q.trans hL2
  unfold bstep
  split
  · rename_i c
    have hl : near.toNat < st.1.length := by rw [h.len]; omega
    have self : (st.1.set near.toNat (st.1.getD bay.toNat 0 + 1)).getD near.toNat 0 = L + 1 := by
      rw [setD_self hl]
      omega
    have other : ∀ v : Int, 0 ≤ v → v ≠ near → gI (st.1.set near.toNat (st.1.getD bay.toNat 0 + 1)) v = gI st.1 v := fun v v0 ne => setD_ne (by omega)
    have ne_of : ∀ v : Int, 0 ≤ gI st.1 v → v ≠ near := fun v hv z => by
      rw [z] at hv
      have hv : 0 ≤ st.1.getD near.toNat 0 := hv
      exact absurd hv (by omega)
    refine ⟨⟨by rw [List.length_set]; exact h.len, fun z hz => ?_, fun v v0 v1 hv => ?_, fun v v0 v1 hv => ?_, fun v hv => ?_⟩, ?_, fun v v0 v1 hv => other v v0 (ne_of v hv)⟩
    · rcases List.mem_or_eq_of_mem_set hz with q | q
      · exact h.low z q
      · rw [q]
        omega
    · have k := h.keep v v0 v1 hv
      rw [← k]
      exact other v v0 (ne_of v (by omega))
    · by_cases e : v = near
      · subst e
        exact .inr ⟨self, List.mem_append_right _ List.mem_cons_self, bay, hb, hn⟩
      · have o := other v v0 e
        rcases h.new v v0 v1 hv with k | ⟨k1, k2, k3⟩
        · exact .inl (by rw [o]; exact k)
        · exact .inr ⟨by rw [o]; exact k1, List.mem_append_left _ k2, k3⟩
    · rcases List.mem_append.mp hv with q | q
      · obtain ⟨v0, v1, k⟩ := h.fol v q
        exact ⟨v0, v1, by rw [other v v0 (ne_of v (by omega))]; exact k⟩
      · have e : v = near := List.mem_singleton.mp q
        subst e
        exact ⟨n0, n1, self⟩
    · show 0 ≤ (st.1.set near.toNat (st.1.getD bay.toNat 0 + 1)).getD near.toNat 0
      rw [self]
      omega
  · rename_i c
    exact ⟨h, by show 0 ≤ st.1.getD near.toNat 0; omega, fun v _ _ _ => rfl⟩
theorem row_mid {n : Nat} {rss : List (List Int)} {L : Int} {aw front : List Int} {bay : Int} (hL : 0 ≤ L) (b0 : 0 ≤ bay) (b1 : bay < (n : Int)) (hb : bay ∈ front) (hL2 : gI aw bay = L) : ∀ {l : List Int} {st : List Int × List Int}, (∀ z ∈ l, z ∈ gR rss bay ∧ 0 ≤ z ∧ z < (n : Int)) → Mid n rss L aw front st →
    Mid n rss L aw front (l.foldl (bstep bay.toNat) st) ∧ (∀ z ∈ l, 0 ≤ gI (l.foldl (bstep bay.toNat) st).1 z) ∧ ∀ v : Int, 0 ≤ v → v < (n : Int) → 0 ≤ gI st.1 v → gI (l.foldl (bstep bay.toNat) st).1 v = gI st.1 v
  | [], st, _, h => ⟨h, fun z hz => (by cases hz), fun v _ _ _ => rfl⟩
  | x :: l, st, hl, h => by
    obtain ⟨x1, x2, x3⟩ := hl x List.mem_cons_self
    obtain ⟨m1, p1, k1⟩ := bstep_mid hL h b0 b1 hb hL2 x1 x2 x3
    obtain ⟨m2, p2, k2⟩ := row_mid hL b0 b1 hb hL2 (l := l) (fun z hz => hl z (List.mem_cons_of_mem _ hz)) m1
    refine ⟨m2, fun z hz => ?_, fun v v0 v1 hv => ?_⟩
    · rcases List.mem_cons.mp hz with e | e
      · subst e
        have q := k2 z x2 x3 p1
        exact q ▸ p1
      · exact p2 z e
    · have q := k1 v v0 v1 hv
      exact (k2 v v0 v1 (by rw [q]; exact hv)).trans q
theorem front_mid {n : Nat} {rss : List (List Int)} {L : Int} {aw front : List Int} (hr : RowsIn n rss) (hL : 0 ≤ L) : ∀ {l : List Int} {st : List Int × List Int}, (∀ z ∈ l, z ∈ front ∧ 0 ≤ z ∧ z < (n : Int) ∧ gI aw z = L) → Mid n rss L aw front st →
    Mid n rss L aw front (l.foldl (brow rss) st) ∧ (∀ u ∈ l, ∀ z ∈ gR rss u, 0 ≤ gI (l.foldl (brow rss) st).1 z) ∧ ∀ v : Int, 0 ≤ v → v < (n : Int) → 0 ≤ gI st.1 v → gI (l.foldl (brow rss) st).1 v = gI st.1 v
  | [], st, _, h => ⟨h, fun z hz => (by cases hz), fun v _ _ _ => rfl⟩
  | x :: l, st, hl, h => by
    obtain ⟨x1, x2, x3, x4⟩ := hl x List.mem_cons_self
    obtain ⟨m1, p1, k1⟩ := row_mid hL x2 x3 x1 x4 (l := gR rss x) (fun z hz => ⟨hz, hr _ z hz⟩) h
    obtain ⟨m2, p2, k2⟩ := front_mid hr hL (l := l) (fun z hz => hl z (List.mem_cons_of_mem _ hz)) m1
    refine ⟨m2, fun u hu z hz => ?_, fun v v0 v1 hv => ?_⟩
    · rcases List.mem_cons.mp hu with e | e
      · subst e
        obtain ⟨z0, z1⟩ := hr _ z hz
        have q0 := p1 z hz
        have q := k2 z z0 z1 q0
        exact q ▸ q0
      · exact p2 u e z hz
    · have q := k1 v v0 v1 hv
      exact (k2 v v0 v1 (by rw [q]; exact hv)).trans q
theorem level_lv {n s : Nat} {rss : List (List Int)} {L : Int} {aw front : List Int} (hr : RowsIn n rss) (h : Lv n rss s L aw front) (hs : s < n) : Lv n rss s (L + 1) (level rss aw front).1 (level rss aw front).2 := by
  have m0 : Mid n rss L aw front (aw, []) := ⟨h.len, h.low, fun _ _ _ _ => rfl, fun v _ _ hv => .inl hv, fun v hv => (by cases hv)⟩
  obtain ⟨m, p, k⟩ := front_mid hr h.l0 (l := front) (fun z hz => ⟨hz, h.fr1 z hz⟩) m0
  show Lv n rss s (L + 1) (front.foldl (brow rss) (aw, [])).1 (front.foldl (brow rss) (aw, [])).2
  generalize front.foldl (brow rss) (aw, []) = st at m p k
  have hL := h.l0
  have old : ∀ v : Int, 0 ≤ v → v < (n : Int) → 0 ≤ gI st.1 v → gI st.1 v < L + 1 → 0 ≤ gI aw v ∧ gI st.1 v = gI aw v := fun v v0 v1 hv hv2 => by
    rcases Int.lt_or_le (gI aw v) 0 with z | z
    · rcases m.new v v0 v1 z with q | ⟨q, _⟩
      · exact absurd hv (by omega)
      · exact absurd hv2 (by omega)
    · exact ⟨z, m.keep v v0 v1 z⟩
  have top : ∀ v : Int, 0 ≤ v → v < (n : Int) → gI st.1 v ≤ L + 1 := fun v v0 v1 => by
    rcases Int.lt_or_le (gI aw v) 0 with z | z
    · rcases m.new v v0 v1 z with q | ⟨q, _⟩ <;> omega
    · rw [m.keep v v0 v1 z]
      have := h.top v v0 v1
      omega
  refine ⟨m.len, m.low, by omega, ?_, fun v v0 v1 hv => ?_, top, m.fol, fun v v0 v1 hv => ?_, fun v v0 v1 hv => ?_, fun u u0 u1 hu hu2 z hz => ?_⟩
  · rw [m.keep s (by omega) (by omega) (by rw [h.src]; exact Int.le_refl 0)]
    exact h.src
  · obtain ⟨q1, q2⟩ := old v v0 v1 (by omega) (by omega)
    exact h.zero v v0 v1 (by omega)
  · rcases Int.lt_or_le (gI aw v) 0 with z | z
    · rcases m.new v v0 v1 z with q | ⟨_, q, _⟩
      · exact absurd hv (by omega)
      · exact q
    · have q := m.keep v v0 v1 z
      have := h.top v v0 v1
      exact absurd hv (by omega)
  · rcases Int.lt_or_le (gI aw v) 0 with z | z
    · rcases m.new v v0 v1 z with q | ⟨q, _, u, hu, hvu⟩
      · exact absurd hv (by omega)
      · obtain ⟨u0, u1, eu⟩ := h.fr1 u hu
        refine ⟨u, u0, u1, hvu, ?_⟩
        rw [m.keep u u0 u1 (by omega), q, eu]
    · have q := m.keep v v0 v1 z
      obtain ⟨u, u0, u1, h1, h2⟩ := h.pre v v0 v1 (by omega)
      refine ⟨u, u0, u1, h1, ?_⟩
      rw [m.keep u u0 u1 (by omega), q, h2]
  · obtain ⟨q1, q2⟩ := old u u0 u1 hu hu2
    obtain ⟨z0, z1⟩ := hr _ z hz
    rcases Int.lt_or_le (gI aw u) L with c | c
    · obtain ⟨e1, e2⟩ := h.edge u u0 u1 q1 c z hz
      rw [m.keep z z0 z1 e1, q2]
      exact ⟨e1, e2⟩
    · have eu : gI aw u = L := Int.le_antisymm (h.top u u0 u1) c
      have hf := h.fr2 u u0 u1 eu
      refine ⟨p u hf z hz, ?_⟩
      rw [q2, eu]
      exact top z z0 z1
theorem bfs_lv {n s : Nat} {rss : List (List Int)} (hr : RowsIn n rss) (hs : s < n) : ∀ (k : Nat) (L : Int) (aw front : List Int), Lv n rss s L aw front → (front = [] ∨ neg aw < k) → ∃ L', Lv n rss s L' (bfs rss k aw front) []
  | 0, L, aw, front, h, hk => by
    have e : front = [] := hk.resolve_right (by omega)
    subst e
    exact ⟨L, h⟩
  | k + 1, L, aw, front, h, hk => by
    unfold bfs
    by_cases e : front = []
    · rw [if_pos e]
      subst e
      exact ⟨L, h⟩
    · rw [if_neg e]
      have b0 : BOk n (neg aw) (aw, ([] : List Int)) := ⟨h.len, h.low, fun z hz => (by cases hz), Nat.le_refl _⟩
      have b1 : BOk n (neg aw) (level rss aw front) := front_ok hr b0
      have hk1 : (level rss aw front).2 = [] ∨ neg (level rss aw front).1 < k := by
        rcases Nat.eq_zero_or_pos (level rss aw front).2.length with z | z
        · exact .inl (List.eq_nil_of_length_eq_zero z)
        · have m := b1.mes
          have hk2 := hk.resolve_left e
          exact .inr (by omega)
      exact bfs_lv hr hs k _ _ _ (level_lv hr h hs) hk1
theorem start_lv {n s : Nat} (rss : List (List Int)) (hs : s < n) : Lv n rss s 0 ((List.replicate n (-1)).set s 0) [(s : Int)] := by
  have hl : s < (List.replicate n (-1 : Int)).length := by rw [List.length_replicate]; exact hs
  have e0 : gI ((List.replicate n (-1)).set s 0) s = 0 := by
    show List.getD _ (s : Int).toNat 0 = 0
    rw [Int.toNat_natCast, setD_self hl]
  have e1 : ∀ v : Int, 0 ≤ v → v < (n : Int) → v ≠ s → gI ((List.replicate n (-1)).set s 0) v = -1 := fun v v0 v1 ne => by
    show List.getD _ v.toNat 0 = -1
    rw [setD_ne (by omega), List.getD_eq_getElem?_getD, List.getElem?_replicate, if_pos (by omega)]
    rfl
  refine ⟨by rw [List.length_set, List.length_replicate], fun z hz => ?_, Int.le_refl 0, e0, fun v v0 v1 hv => ?_, fun v v0 v1 => ?_, fun v hv => ?_, fun v v0 v1 hv => ?_, fun v v0 v1 hv => ?_, fun u u0 u1 hu hu2 => ?_⟩
  · rcases List.mem_or_eq_of_mem_set hz with q | q
    · rw [List.eq_of_mem_replicate q]
      omega
    · omega
  · exact Decidable.byContradiction fun ne => by
      rw [e1 v v0 v1 ne] at hv
      cases hv
  · by_cases ne : v = s
    · rw [ne, e0]
      exact Int.le_refl 0
    · rw [e1 v v0 v1 ne]
      decide
  · rw [List.mem_singleton.mp hv]
    exact ⟨by omega, by omega, e0⟩
  · exact Decidable.byContradiction fun z => by
      have ne : v ≠ s := fun e => z (by rw [e]; exact List.mem_cons_self)
      rw [e1 v v0 v1 ne] at hv
      cases hv
  · exfalso
    by_cases ne : v = s
    · rw [ne, e0] at hv
      omega
    · rw [e1 v v0 v1 ne] at hv
      omega
  · exfalso
    omega
/-- how far each bay is -/
structure Dist (n : Nat) (rss : List (List Int)) (s : Nat) (d : List Int) : Prop where
  len : d.length = n
  low : ∀ z ∈ d, -1 ≤ z
  src : gI d s = 0
  zero : ∀ v : Int, 0 ≤ v → v < (n : Int) → gI d v = 0 → v = s
  pre : ∀ v : Int, 0 ≤ v → v < (n : Int) → 0 < gI d v → ∃ u : Int, 0 ≤ u ∧ u < (n : Int) ∧ v ∈ gR rss u ∧ gI d u + 1 = gI d v
  edge : ∀ u : Int, 0 ≤ u → u < (n : Int) → 0 ≤ gI d u → ∀ z ∈ gR rss u, 0 ≤ gI d z ∧ gI d z ≤ gI d u + 1
theorem Lv.dist {n s : Nat} {rss : List (List Int)} {L : Int} {aw : List Int} (h : Lv n rss s L aw []) : Dist n rss s aw := by
  refine ⟨h.len, h.low, h.src, h.zero, h.pre, fun u u0 u1 hu z hz => h.edge u u0 u1 hu ?_ z hz⟩
  have t := h.top u u0 u1
  rcases Int.lt_or_eq_of_le t with c | c
  · exact c
  · exact absurd (h.fr2 u u0 u1 c) List.not_mem_nil
theorem steps_dist {n s : Nat} {rss : List (List Int)} (hl : rss.length = n) (hs : s < n) (hr : RowsIn n rss) : Dist n rss s (stepsOf rss s) := by
  unfold stepsOf
  rw [hl]
  have h4 : neg ((List.replicate n (-1 : Int)).set s 0) < 2 * n + 1 := by
    have z := neg_le ((List.replicate n (-1 : Int)).set s 0)
    rw [List.length_set, List.length_replicate] at z
    omega
  obtain ⟨L', h⟩ := bfs_lv hr hs (2 * n + 1) 0 _ _ (start_lv rss hs) (.inr h4)
  exact h.dist
/-! ### rows, as they stand -/
def endOf (k : Nat) (t : Int × Int) : Option Int := if t.1.toNat = k then some t.2 else if t.2.toNat = k then some t.1 else none
theorem add_row {r : List (List Int)} {t : Int × Int} {k : Nat} (h1 : t.1.toNat < r.length) (h2 : t.2.toNat < r.length) (ne : t.1.toNat ≠ t.2.toNat) : (addTie r t).getD k [] = r.getD k [] ++ (endOf k t).toList := by
  unfold addTie app endOf
  by_cases e2 : t.2.toNat = k
  · subst e2
    rw [setD_self (by rw [List.length_set]; exact h2), setD_ne ne, if_neg ne, if_pos rfl]
    rfl
  · rw [setD_ne e2]
    by_cases e1 : t.1.toNat = k
    · subst e1
      rw [setD_self h1, if_pos rfl]
      rfl
    · rw [setD_ne e1, if_neg e1, if_neg e2]
      exact (List.append_nil _).symm
theorem fold_row {n k : Nat} : ∀ {ts : List (Int × Int)} {r : List (List Int)}, r.length = n → (∀ t ∈ ts, tieIn n t ∧ t.1 ≠ t.2) → (ts.foldl addTie r).getD k [] = r.getD k [] ++ ts.filterMap (endOf k)
  | [], r, _, _ => (List.append_nil _).symm
  | t :: ts, r, hl, h => by
    obtain ⟨⟨a0, a1, b0, b1⟩, ne⟩ := h t List.mem_cons_self
    have hl2 : (addTie r t).length = n := by
      unfold addTie
      rw [app_len, app_len]
      exact hl
    rw [List.foldl_cons, fold_row (k := k) hl2 fun z hz => h z (List.mem_cons_of_mem _ hz), add_row (by omega) (by omega) (by omega), List.append_assoc]
    congr 1
    rw [List.filterMap_cons]
    cases endOf k t <;> rfl
theorem rows_row {n k : Nat} {ts : List (Int × Int)} (h : ∀ t ∈ ts, tieIn n t ∧ t.1 ≠ t.2) : (rowsOf n ts).getD k [] = ts.filterMap (endOf k) := by
  unfold rowsOf
  rw [fold_row (n := n) List.length_replicate h]
  have e : (List.replicate n ([] : List Int)).getD k [] = [] := by
    rw [List.getD_eq_getElem?_getD, List.getElem?_replicate]
    split <;> rfl
  rw [e]
  rfl
theorem rows_iff {n : Nat} {ts : List (Int × Int)} (h : ∀ t ∈ ts, tieIn n t ∧ t.1 ≠ t.2) {u z : Int} (u0 : 0 ≤ u) : z ∈ gR (rowsOf n ts) u ↔ ((u, z) ∈ ts ∨ (z, u) ∈ ts) := by
  show z ∈ (rowsOf n ts).getD u.toNat [] ↔ _
  rw [rows_row h, List.mem_filterMap]
  constructor
  · rintro ⟨⟨a, b⟩, ht, e⟩
    obtain ⟨⟨a0, _, b0, _⟩, _⟩ := h _ ht
    unfold endOf at e
    dsimp only at e a0 b0
    split at e
    · rename_i c
      cases e
      have : a = u := by omega
      subst this
      exact .inl ht
    · split at e
      · rename_i c
        cases e
        have : b = u := by omega
        subst this
        exact .inr ht
      · cases e
  · rintro (ht | ht)
    · refine ⟨_, ht, ?_⟩
      unfold endOf
      rw [if_pos rfl]
    · refine ⟨_, ht, ?_⟩
      obtain ⟨⟨a0, _, b0, _⟩, ne⟩ := h _ ht
      dsimp only at a0 b0 ne
      unfold endOf
      dsimp only
      rw [if_neg (by omega), if_pos rfl]
/-- ties in their order -/
def AscL (ts : List (Int × Int)) : Prop := ts.Pairwise fun s t => s.1 < t.1 ∨ (s.1 = t.1 ∧ s.2 < t.2)
theorem lt2_iff {s t : Int × Int} (h : lt2 s t = true) : s.1 < t.1 ∨ (s.1 = t.1 ∧ s.2 < t.2) := by
  have h : (if s.1 = t.1 then (if s.2 = t.2 then false else decide (s.2 < t.2)) else decide (s.1 < t.1)) = true := h
  split at h
  · rename_i e
    split at h
    · cases h
    · exact .inr ⟨e, of_decide_eq_true h⟩
  · exact .inl (of_decide_eq_true h)
theorem asc_pair {ts : List (Int × Int)} (h : asc ts = true) : AscL ts := by
  have step : ∀ k, k + 1 < ts.length → lt2 (ts.getD k (0, 0)) (ts.getD (k + 1) (0, 0)) = true := fun k hk => by
    unfold asc at h
    exact List.all_eq_true.mp h k (List.mem_range.mpr (by omega))
  have far : ∀ j i, i < j → j < ts.length → (ts.getD i (0, 0)).1 < (ts.getD j (0, 0)).1 ∨ ((ts.getD i (0, 0)).1 = (ts.getD j (0, 0)).1 ∧ (ts.getD i (0, 0)).2 < (ts.getD j (0, 0)).2) := by
    intro j
    induction j with
    | zero => intro i hi _; omega
    | succ j ih =>
      intro i hi hj
      have s := lt2_iff (step j hj)
      by_cases e : i = j
      · subst e
        exact s
      · have q := ih i (by omega) (by omega)
        omega
  refine List.pairwise_iff_getElem.mpr fun i j hi hj hij => ?_
  have q := far j i hij hj
  rw [List.getD_eq_getElem?_getD, List.getD_eq_getElem?_getD, List.getElem?_eq_getElem hi, List.getElem?_eq_getElem hj] at q
  exact q
theorem row_sorted {ts : List (Int × Int)} (k : Nat) (ha : AscL ts) (h : ∀ t ∈ ts, 0 ≤ t.1 ∧ t.1 < t.2) : (ts.filterMap (endOf k)).Pairwise (· < ·) := by
  refine List.pairwise_filterMap.mpr (List.Pairwise.imp_of_mem ?_ ha)
  intro s t hs ht hlt b hb c hc
  obtain ⟨s0, s1⟩ := h s hs
  obtain ⟨t0, t1⟩ := h t ht
  unfold endOf at hb hc
  split at hb
  · cases hb
    split at hc
    · cases hc
      omega
    · split at hc
      · cases hc
        omega
      · cases hc
  · split at hb
    · cases hb
      split at hc
      · cases hc
        omega
      · split at hc
        · cases hc
          omega
        · cases hc
    · cases hb
/-- the law's own look at who is near -/
def nearA (k : Int) (ts : List (Int × Int)) : List Int := ts.filterMap fun t => if t.2 = k then some t.1 else none
def nearB (k : Int) (ts : List (Int × Int)) : List Int := ts.filterMap fun t => if t.1 = k then some t.2 else none
theorem near_perm {k : Int} (k0 : 0 ≤ k) : ∀ {ts : List (Int × Int)}, (∀ t ∈ ts, 0 ≤ t.1 ∧ t.1 < t.2) → (nearA k ts ++ nearB k ts).Perm (ts.filterMap (endOf k.toNat))
  | [], _ => .nil
  | t :: ts, h => by
    obtain ⟨t0, t1⟩ := h t List.mem_cons_self
    have ih := near_perm k0 (ts := ts) fun z hz => h z (List.mem_cons_of_mem _ hz)
    unfold nearA nearB at ih ⊢
    rw [List.filterMap_cons, List.filterMap_cons, List.filterMap_cons]
    unfold endOf
    by_cases e1 : t.1 = k
    · have n2 : ¬ t.2 = k := by omega
      have n3 : t.1.toNat = k.toNat := by omega
      rw [if_neg n2, if_pos e1, if_pos n3]
      exact List.perm_middle.trans (ih.cons _)
    · have n3 : ¬ t.1.toNat = k.toNat := by omega
      by_cases e2 : t.2 = k
      · have n4 : t.2.toNat = k.toNat := by omega
        rw [if_pos e2, if_neg e1, if_neg n3, if_pos n4]
        exact ih.cons _
      · have n4 : ¬ t.2.toNat = k.toNat := by omega
        rw [if_neg e2, if_neg e1, if_neg n3, if_neg n4]
        exact ih
theorem sorted_eq {xs ys : List Int} (p : xs.Perm ys) (hx : xs.Pairwise (· ≤ ·)) (hy : ys.Pairwise (· < ·)) : xs = ys :=
  p.eq_of_pairwise (fun a b _ _ h1 h2 => Int.le_antisymm h1 h2) hx (hy.imp fun h => Int.le_of_lt h)
theorem near_row {n : Nat} {ts : List (Int × Int)} {k : Int} {out : List Int} (k0 : 0 ≤ k) (ha : AscL ts) (h : ∀ t ∈ ts, 0 ≤ t.1 ∧ t.1 < t.2 ∧ t.2 < (n : Int)) (p : out.Perm (nearA k ts ++ nearB k ts)) (ho : out.Pairwise (· ≤ ·)) : out = gR (rowsOf n ts) k := by
  have h2 : ∀ t ∈ ts, tieIn n t ∧ t.1 ≠ t.2 := fun t ht => by
    obtain ⟨a, b, c⟩ := h t ht
    exact ⟨⟨a, by omega, by omega, c⟩, by omega⟩
  have h3 : ∀ t ∈ ts, 0 ≤ t.1 ∧ t.1 < t.2 := fun t ht => ⟨(h t ht).1, (h t ht).2.1⟩
  show out = (rowsOf n ts).getD k.toNat []
  rw [rows_row h2]
  exact sorted_eq (p.trans (near_perm k0 h3)) ho (row_sorted _ ha h3)
end Sb

/-! ## A242 -/
/-! What a web's ties give: ways, sides, who is reached. -/
namespace Sb
open PySem PySem.Spec PyProof.Rows L2
structure WebP (n : Nat) (ts : List (Int × Int)) : Prop where
  n2 : 2 ≤ n
  n40 : n ≤ 40
  inn : ∀ t ∈ ts, 0 ≤ t.1 ∧ t.1 < t.2 ∧ t.2 < (n : Int)
  asc : AscL ts
  con : ∀ v : Int, 0 ≤ v → v < (n : Int) → Lk ts 0 v
theorem WebP.ti {n : Nat} {ts : List (Int × Int)} (W : WebP n ts) : ∀ t ∈ ts, tieIn n t ∧ t.1 ≠ t.2 := fun t ht => by
  obtain ⟨a, b, c⟩ := W.inn t ht
  exact ⟨⟨a, by omega, by omega, c⟩, by omega⟩
theorem WebP.rin {n : Nat} {ts : List (Int × Int)} (W : WebP n ts) : RowsIn n (rowsOf n ts) := rowsOf_in fun t ht => (W.ti t ht).1
theorem lk_dist {n s : Nat} {ts : List (Int × Int)} {d : List Int} (h : ∀ t ∈ ts, tieIn n t ∧ t.1 ≠ t.2) (D : Dist n (rowsOf n ts) s d) : ∀ (m : Nat) (v : Int), 0 ≤ v → v < (n : Int) → gI d v = (m : Int) → Lk ts s v
  | 0, v, v0, v1, e => by
    rw [D.zero v v0 v1 e]
    exact .refl _
  | m + 1, v, v0, v1, e => by
    obtain ⟨u, u0, u1, hu, eu⟩ := D.pre v v0 v1 (by omega)
    exact .step (lk_dist h D m u u0 u1 (by omega)) ((rows_iff h u0).mp hu)
theorem WebP.of {m : Int} {ts : List (Int × Int)} (h : webOK m ts = true) : WebP m.toNat ts ∧ ((m.toNat : Nat) : Int) = m := by
  unfold webOK at h
  simp only [Bool.and_eq_true, decide_eq_true_eq] at h
  obtain ⟨⟨h1, h2⟩, h3, h4, h5⟩ := h
  have em : ((m.toNat : Nat) : Int) = m := by omega
  have inn : ∀ t ∈ ts, 0 ≤ t.1 ∧ t.1 < t.2 ∧ t.2 < ((m.toNat : Nat) : Int) := fun t ht => by
    obtain ⟨a, b, c⟩ := tieIn_of (List.all_eq_true.mp h3 t ht)
    exact ⟨a, b, by omega⟩
  have ti : ∀ t ∈ ts, tieIn (m.toNat : Nat) t ∧ t.1 ≠ t.2 := fun t ht => by
    obtain ⟨a, b, c⟩ := inn t ht
    exact ⟨⟨a, by omega, by omega, c⟩, by omega⟩
  refine ⟨⟨by omega, by omega, inn, asc_pair h4, fun v v0 v1 => ?_⟩, em⟩
  have D := steps_dist (n := m.toNat) (s := 0) (rowsOf_len m.toNat ts) (by omega) (rowsOf_in fun t ht => (ti t ht).1)
  have z : 0 ≤ gI (stepsOf (rowsOf m.toNat ts) 0) v := by
    have hl : v.toNat < (stepsOf (rowsOf m.toNat ts) 0).length := by rw [D.len]; omega
    have q := List.all_eq_true.mp h5 _ (List.getElem_mem hl)
    show 0 ≤ List.getD _ v.toNat 0
    rw [List.getD_eq_getElem?_getD, List.getElem?_eq_getElem hl]
    exact of_decide_eq_true q
  have q := lk_dist ti D (gI (stepsOf (rowsOf m.toNat ts) 0) v).toNat v v0 v1 (by omega)
  exact q
theorem con_reach {n : Nat} {ts : List (Int × Int)} (hn : 1 ≤ n) (h : ∀ t ∈ ts, tieIn n t) (c : ∀ v : Int, 0 ≤ v → v < (n : Int) → Lk ts 0 v) : reach n ts = true := by
  obtain ⟨s1, s2, s3⟩ := steps_shut (n := n) (s := 0) (rowsOf_len n ts) (by omega) (rowsOf_in h)
  refine List.all_eq_true.mpr fun z hz => decide_eq_true ?_
  obtain ⟨j, hj⟩ := List.mem_iff_getElem?.mp hz
  have hjl := (List.getElem?_eq_some_iff.mp hj).1
  have k := (lk_marked h s3 (c (j : Int) (by omega) (by omega)) (by omega) (by omega) s2).2.2
  unfold Mk at k
  rw [show ((j : Int)).toNat = j by omega, List.getD_eq_getElem?_getD, hj] at k
  exact k
/-! ### distances in a web -/
structure Far (n : Nat) (rss : List (List Int)) (b : Int) (d : List Int) : Prop where
  len : d.length = n
  nn : ∀ v : Int, 0 ≤ v → v < (n : Int) → 0 ≤ gI d v
  small : ∀ v : Int, 0 ≤ v → v < (n : Int) → gI d v < (n : Int)
  z : ∀ v : Int, 0 ≤ v → v < (n : Int) → (gI d v = 0 ↔ v = b)
  lt : ∀ v : Int, 0 ≤ v → v < (n : Int) → ∀ u ∈ gR rss v, (gI d u < gI d v ↔ gI d u + 1 = gI d v)
  ex : ∀ v : Int, 0 ≤ v → v < (n : Int) → v ≠ b → ∃ u ∈ gR rss v, gI d u < gI d v
theorem dist_vals {n s : Nat} {rss : List (List Int)} {d : List Int} (D : Dist n rss s d) : ∀ (m : Nat) (v : Int), 0 ≤ v → v < (n : Int) → gI d v = (m : Int) → ∀ k, k ≤ m → ∃ u : Int, 0 ≤ u ∧ u < (n : Int) ∧ gI d u = (k : Int)
  | 0, v, v0, v1, e, k, hk => ⟨v, v0, v1, by rw [e]; congr 1; omega⟩
  | m + 1, v, v0, v1, e, k, hk => by
    by_cases c : k = m + 1
    · exact ⟨v, v0, v1, by rw [e, c]⟩
    · obtain ⟨u, u0, u1, _, eu⟩ := D.pre v v0 v1 (by omega)
      exact dist_vals D m u u0 u1 (by omega) k (by omega)
theorem web_far {n : Nat} {ts : List (Int × Int)} (W : WebP n ts) {b : Int} (b0 : 0 ≤ b) (b1 : b < (n : Int)) : Far n (rowsOf n ts) b (stepsOf (rowsOf n ts) b.toNat) := by
  have D := steps_dist (n := n) (s := b.toNat) (rowsOf_len n ts) (by omega) W.rin
  obtain ⟨_, s2, s3⟩ := steps_shut (n := n) (s := b.toNat) (rowsOf_len n ts) (by omega) W.rin
  generalize stepsOf (rowsOf n ts) b.toNat = d at D s2 s3
  have eb : ((b.toNat : Nat) : Int) = b := by omega
  have nn : ∀ v : Int, 0 ≤ v → v < (n : Int) → 0 ≤ gI d v := fun v v0 v1 =>
    (lk_marked (fun t ht => (W.ti t ht).1) s3 ((W.con _ (by omega) (by omega)).symm.trans (W.con v v0 v1)) (by omega) (by omega) s2).2.2
  refine ⟨D.len, nn, fun v v0 v1 => ?_, fun v v0 v1 => ⟨fun e => (D.zero v v0 v1 e).trans eb, fun e => ?_⟩, fun v v0 v1 u hu => ?_, fun v v0 v1 ne => ?_⟩
  · have hv := nn v v0 v1
    have q := L2.nat_nodup_len (List.range ((gI d v).toNat + 1)) (d.map Int.toNat) List.nodup_range fun k hk => by
      obtain ⟨u, u0, u1, eu⟩ := dist_vals D (gI d v).toNat v v0 v1 (by omega) k (by have := List.mem_range.mp hk; omega)
      have hl : u.toNat < d.length := by rw [D.len]; omega
      refine List.mem_map.mpr ⟨d[u.toNat], List.getElem_mem hl, ?_⟩
      have eu : d.getD u.toNat 0 = (k : Int) := eu
      rw [List.getD_eq_getElem?_getD, List.getElem?_eq_getElem hl] at eu
      have eu : d[u.toNat] = (k : Int) := eu
      rw [eu]
      exact Int.toNat_natCast k
    rw [List.length_range, List.length_map, D.len] at q
    omega
  · have q := D.src
    rw [eb] at q
    rw [e]
    exact q
  · obtain ⟨u0, u1⟩ := W.rin _ u hu
    have hv : v ∈ gR (rowsOf n ts) u := (rows_iff W.ti u0).mpr ((rows_iff W.ti v0).mp hu).symm
    have e1 := (D.edge u u0 u1 (nn u u0 u1) v hv).2
    constructor
    · intro h
      omega
    · intro h
      omega
  · have hv := nn v v0 v1
    have nz : gI d v ≠ 0 := fun e => ne ((D.zero v v0 v1 e).trans eb)
    obtain ⟨u, u0, u1, hu, eu⟩ := D.pre v v0 v1 (by omega)
    exact ⟨u, (rows_iff W.ti v0).mpr ((rows_iff W.ti u0).mp hu).symm, by omega⟩
/-! ### first shortest ways -/
def nxtL (rss : List (List Int)) (d : List Int) (v : Int) : List Int := (gR rss v).filter fun z => decide (gI d z < gI d v)
def nxt (rss : List (List Int)) (d : List Int) (v : Int) : Int := (nxtL rss d v).headD 0
def pathP (rss : List (List Int)) (d : List Int) : Nat → Int → List Int
  | 0, _ => []
  | k + 1, v => nxt rss d v :: pathP rss d k (nxt rss d v)
def pathOf (n : Nat) (ts : List (Int × Int)) (a b : Int) : List Int := pathP (rowsOf n ts) (stepsOf (rowsOf n ts) b.toNat) (gI (stepsOf (rowsOf n ts) b.toNat) a).toNat a
theorem web_sorted {n : Nat} {ts : List (Int × Int)} (W : WebP n ts) (v : Int) : (gR (rowsOf n ts) v).Pairwise (· < ·) := by
  show ((rowsOf n ts).getD v.toNat []).Pairwise (· < ·)
  rw [rows_row W.ti]
  exact row_sorted _ W.asc fun t ht => ⟨(W.inn t ht).1, (W.inn t ht).2.1⟩
theorem nxt_facts {n : Nat} {ts : List (Int × Int)} (W : WebP n ts) {b : Int} {d : List Int} (F : Far n (rowsOf n ts) b d) {v : Int} (v0 : 0 ≤ v) (v1 : v < (n : Int)) (ne : v ≠ b) :
    ∃ r, nxtL (rowsOf n ts) d v = nxt (rowsOf n ts) d v :: r ∧ 0 ≤ nxt (rowsOf n ts) d v ∧ nxt (rowsOf n ts) d v < (n : Int) ∧ gI d (nxt (rowsOf n ts) d v) + 1 = gI d v ∧ ∀ y ∈ nxtL (rowsOf n ts) d v, nxt (rowsOf n ts) d v ≤ y := by
  obtain ⟨u, hu, hlt⟩ := F.ex v v0 v1 ne
  have hm : u ∈ nxtL (rowsOf n ts) d v := List.mem_filter.mpr ⟨hu, decide_eq_true hlt⟩
  have hs : (nxtL (rowsOf n ts) d v).Pairwise (· < ·) := (web_sorted W v).filter _
  unfold nxt
  cases e : nxtL (rowsOf n ts) d v with
  | nil =>
    rw [e] at hm
    cases hm
  | cons x r =>
    have hx : x ∈ nxtL (rowsOf n ts) d v := by
      rw [e]
      exact List.mem_cons_self
    obtain ⟨x1, x2⟩ := List.mem_filter.mp hx
    obtain ⟨x3, x4⟩ := W.rin _ x x1
    rw [e] at hs
    refine ⟨r, rfl, x3, x4, (F.lt v v0 v1 x x1).mp (of_decide_eq_true x2), fun y hy => ?_⟩
    rcases List.mem_cons.mp hy with z | z
    · rw [z]
      exact Int.le_refl _
    · exact Int.le_of_lt ((List.pairwise_cons.mp hs).1 y z)
theorem nxt_far {n : Nat} {ts : List (Int × Int)} (W : WebP n ts) {b : Int} {d : List Int} (F : Far n (rowsOf n ts) b d) {v : Int} (v0 : 0 ≤ v) (v1 : v < (n : Int)) :
    (gR (rowsOf n ts) v).filter (fun z => decide (gI d z + 1 = gI d v)) = nxtL (rowsOf n ts) d v :=
  List.filter_congr fun u hu => by
    have q := F.lt v v0 v1 u hu
    by_cases c : gI d u < gI d v
    · rw [decide_eq_true c, decide_eq_true (q.mp c)]
    · rw [decide_eq_false c, decide_eq_false fun z => c (q.mpr z)]
theorem pathP_len (rss : List (List Int)) (d : List Int) : ∀ (k : Nat) (v : Int), (pathP rss d k v).length = k
  | 0, _ => rfl
  | k + 1, v => by
    show (pathP rss d k _).length + 1 = k + 1
    rw [pathP_len]
/-! ### sides -/
def par (d : List Int) : List Int := d.map fun z => z % 2
def oddR (n : Nat) (rss : List (List Int)) (m : List Int) : Bool := (List.range n).any fun i => (rss.getD i []).any fun z => decide (gI m z = gI m i)
def oddT (ts : List (Int × Int)) (d : List Int) : Bool := ts.any fun t => decide ((gI d t.1 + gI d t.2) % 2 = 0)
theorem par_at {n : Nat} {d : List Int} (h : d.length = n) {v : Int} (v0 : 0 ≤ v) (v1 : v < (n : Int)) : gI (par d) v = gI d v % 2 := by
  have hl : v.toNat < d.length := by omega
  show List.getD _ v.toNat 0 = List.getD _ v.toNat 0 % 2
  rw [List.getD_eq_getElem?_getD, List.getD_eq_getElem?_getD]
  unfold par
  rw [List.getElem?_map, List.getElem?_eq_getElem hl]
  rfl
theorem odd_eq {n : Nat} {ts : List (Int × Int)} (W : WebP n ts) {d : List Int} (hl : d.length = n) : oddR n (rowsOf n ts) (par d) = oddT ts d := by
  refine Bool.eq_iff_iff.mpr ⟨fun h => ?_, fun h => ?_⟩
  · obtain ⟨i, hi, h⟩ := List.any_eq_true.mp h
    obtain ⟨z, hz, h⟩ := List.any_eq_true.mp h
    have hi := List.mem_range.mp hi
    have hz2 : z ∈ gR (rowsOf n ts) (i : Int) := by
      show z ∈ (rowsOf n ts).getD (i : Int).toNat []
      rw [Int.toNat_natCast]
      exact hz
    obtain ⟨z0, z1⟩ := W.rin _ z hz
    have h := of_decide_eq_true h
    rw [par_at hl z0 z1, par_at hl (by omega) (by omega)] at h
    rcases (rows_iff W.ti (by omega)).mp hz2 with t | t
    · exact List.any_eq_true.mpr ⟨_, t, decide_eq_true (by show (gI d (i : Int) + gI d z) % 2 = 0; omega)⟩
    · exact List.any_eq_true.mpr ⟨_, t, decide_eq_true (by show (gI d z + gI d (i : Int)) % 2 = 0; omega)⟩
  · obtain ⟨⟨a, b⟩, ht, h⟩ := List.any_eq_true.mp h
    obtain ⟨a0, ab, b1⟩ := W.inn _ ht
    dsimp only at a0 ab b1
    have h : (gI d a + gI d b) % 2 = 0 := of_decide_eq_true h
    have hb : b ∈ gR (rowsOf n ts) a := (rows_iff W.ti a0).mpr (.inl ht)
    refine List.any_eq_true.mpr ⟨a.toNat, List.mem_range.mpr (by omega), List.any_eq_true.mpr ⟨b, hb, decide_eq_true ?_⟩⟩
    have ea : ((a.toNat : Nat) : Int) = a := by omega
    rw [ea, par_at hl (by omega) b1, par_at hl a0 (by omega)]
    omega
/-! ### who is reached, one bay barred -/
inductive Rx (ts : List (Int × Int)) (ok : Int → Prop) (a : Int) : Int → Prop
  | refl : Rx ts ok a a
  | step {b c : Int} : Rx ts ok a b → ((b, c) ∈ ts ∨ (c, b) ∈ ts) → ok c → Rx ts ok a c
theorem Rx.lk {ts : List (Int × Int)} {ok : Int → Prop} {a b : Int} (h : Rx ts ok a b) : Lk ts a b := by
  induction h with
  | refl => exact .refl _
  | step _ e _ ih => exact .step ih e
structure Found (n : Nat) (ts : List (Int × Int)) (ok : Int → Prop) (a : Int) (ks : List Int) : Prop where
  nd : ks.Nodup
  inn : ∀ k ∈ ks, 0 ≤ k ∧ k < (n : Int)
  from_ : ∀ k ∈ ks, Rx ts ok a k
  has : a ∈ ks
  shut : ∀ k ∈ ks, ∀ z ∈ gR (rowsOf n ts) k, ok z → z ∈ ks
theorem Found.all {n : Nat} {ts : List (Int × Int)} {ok : Int → Prop} {a : Int} {ks : List Int} (hti : ∀ t ∈ ts, tieIn n t ∧ t.1 ≠ t.2) (h : Found n ts ok a ks) {b : Int} (r : Rx ts ok a b) : b ∈ ks := by
  induction r with
  | refl => exact h.has
  | @step c e _ t o ih =>
    obtain ⟨c0, c1⟩ := h.inn _ ih
    exact h.shut _ ih _ ((rows_iff hti c0).mpr t) o
theorem nd_toNat {ks : List Int} (nd : ks.Nodup) (h : ∀ k ∈ ks, 0 ≤ k) : (ks.map Int.toNat).Nodup := by
  refine List.pairwise_map.mpr (List.Pairwise.imp_of_mem ?_ nd)
  intro a b ha hb ne e
  have := h a ha
  have := h b hb
  exact ne (by omega)
theorem found_count {n : Nat} {ks : List Int} (nd : ks.Nodup) (h : ∀ k ∈ ks, 0 ≤ k ∧ k < (n : Int)) : ks.length ≤ n ∧ (ks.length = n → ∀ v : Int, 0 ≤ v → v < (n : Int) → v ∈ ks) := by
  have nd2 := nd_toNat nd fun k hk => (h k hk).1
  have q := L2.nat_nodup_len (ks.map Int.toNat) (List.range n) nd2 fun x hx => by
    obtain ⟨k, hk, rfl⟩ := List.mem_map.mp hx
    have := h k hk
    exact List.mem_range.mpr (by omega)
  rw [List.length_map, List.length_range] at q
  refine ⟨q, fun e v v0 v1 => Decidable.byContradiction fun nv => ?_⟩
  have q2 := L2.nat_nodup_len (v.toNat :: ks.map Int.toNat) (List.range n) (List.nodup_cons.mpr ⟨fun z => ?_, nd2⟩) fun x hx => ?_
  · rw [List.length_cons, List.length_map, List.length_range] at q2
    omega
  · obtain ⟨k, hk, ek⟩ := List.mem_map.mp z
    have := h k hk
    have : k = v := by omega
    exact nv (this ▸ hk)
  · rcases List.mem_cons.mp hx with z | z
    · rw [z]
      exact List.mem_range.mpr (by omega)
    · obtain ⟨k, hk, rfl⟩ := List.mem_map.mp z
      have := h k hk
      exact List.mem_range.mpr (by omega)
/-- all are found: just if the ties hold together -/
theorem found_reach {n : Nat} {ts : List (Int × Int)} {ok : Int → Prop} {ks : List Int} (hn : 1 ≤ n) (hti : ∀ t ∈ ts, tieIn n t ∧ t.1 ≠ t.2) (hok : ∀ z, ok z) (h : Found n ts ok 0 ks) : decide (ks.length = n) = reach n ts := by
  obtain ⟨c1, c2⟩ := found_count h.nd h.inn
  cases e : reach n ts with
  | true =>
    have D := steps_dist (n := n) (s := 0) (rowsOf_len n ts) (by omega) (rowsOf_in fun t ht => (hti t ht).1)
    have lk : ∀ v : Int, 0 ≤ v → v < (n : Int) → Lk ts 0 v := fun v v0 v1 => by
      have z : 0 ≤ gI (stepsOf (rowsOf n ts) 0) v := by
        have hl : v.toNat < (stepsOf (rowsOf n ts) 0).length := by rw [D.len]; omega
        have q := List.all_eq_true.mp e _ (List.getElem_mem hl)
        show 0 ≤ List.getD _ v.toNat 0
        rw [List.getD_eq_getElem?_getD, List.getElem?_eq_getElem hl]
        exact of_decide_eq_true q
      have q := lk_dist hti D (gI (stepsOf (rowsOf n ts) 0) v).toNat v v0 v1 (by omega)
      exact q
    have rx : ∀ v, Lk ts 0 v → Rx ts ok 0 v := fun v l => by
      induction l with
      | refl => exact .refl
      | step _ t ih => exact .step ih t (hok _)
    refine decide_eq_true (Nat.le_antisymm c1 ?_)
    have q := L2.nat_nodup_len (List.range n) (ks.map Int.toNat) List.nodup_range fun x hx => by
      have hx := List.mem_range.mp hx
      refine List.mem_map.mpr ⟨(x : Int), h.all hti (rx _ (lk x (by omega) (by omega))), Int.toNat_natCast x⟩
    rw [List.length_map, List.length_range] at q
    exact q
  | false =>
    refine decide_eq_false fun z => ?_
    have q := con_reach hn (fun t ht => (hti t ht).1) fun v v0 v1 => (h.from_ v (c2 z v v0 v1)).lk
    rw [e] at q
    cases q
end Sb

/-! ## Z242 -/
/-! What the law tells of webs: near, far, path, sides. -/
namespace Sb
open PySem PySem.Spec PyProof.Rows L2
abbrev sNear : Stmt := top 48
abbrev sFar : Stmt := top 60
abbrev sLPath : Stmt := top 61
/-! ### a list of ints against the empty one -/
theorem lay_ints : ∀ l : List Int, PyData.canLayAll0 (l.map PyData.int) = true ∧ PyData.depthAll (l.map PyData.int) ≤ 1
  | [] => ⟨by simp [PyData.canLayAll0], by simp [PyData.depthAll]⟩
  | x :: l => by
    obtain ⟨h1, h2⟩ := lay_ints l
    refine ⟨by simp [PyData.canLayAll0, PyData.canLay0, h1], ?_⟩
    simp only [List.map_cons, PyData.depthAll, PyData.depth]
    omega
theorem shaped_ints (l : List Int) : SeqAt.shaped (.list (l.map PyData.int)) = true := by
  obtain ⟨h1, h2⟩ := lay_ints l
  unfold SeqAt.shaped
  rw [Bool.and_eq_true]
  refine ⟨by simpa [PyData.canLay0] using h1, decide_eq_true ?_⟩
  simp only [PyData.depth]
  omega
theorem dp_ints {K : PySem.W.Frag} {H : Hp} : ∀ l : List Int, DpAll K H (l.map V.int) (l.map PyData.int)
  | [] => .nil
  | x :: l => .cons (.int x) (dp_ints l)
theorem eqv_nil : ∀ l : List Int, PyData.eqv (.list (l.map PyData.int)) (.list []) = l.isEmpty
  | [] => by simp [PyData.eqv, PyData.eqvAll]
  | x :: l => by simp [PyData.eqv, PyData.eqvAll]
def rNeE (K : PySem.W.Frag) : R2 := fun x y H Q => ∃ (l e : Addr) (xs : List Int), x = .ref l ∧ y = .ref e ∧ SqL K H l (xs.map V.int) ∧ SqL K H e [] ∧ Q (.bl (!xs.isEmpty)) H
theorem op_neE {X : Cx} (hu : X.A.units + 64 < cLine) : OpR X (compareOp .NotEq) (rNeE X.K) := OpR.weak (op_neD hu) fun _ _ _ _ ⟨l, e, xs, a, b, hl, he, q⟩ => ⟨.list (xs.map PyData.int), .list [], by rw [a]; exact .lst hl (dp_ints xs), by rw [b]; exact .lst he .nil, shaped_ints xs, rfl, by rw [eqv_nil]; exact q⟩
def spNear (K : PySem.W.Frag) : Sp := fun vs H Q _ => ∃ (t : Addr) (ts : List (Int × Int)) (k : Int), vs = [.ref t, .int k] ∧ Ties K H t ts ∧ ts.length ≤ 100000 ∧ ∀ (out : List Int) (p : Addr) (H' : Hp), out.Perm (nearA k ts ++ nearB k ts) → out.Pairwise (· ≤ ·) → Same H H' → H p = none → H' p = some (.lst (out.map V.int)) → Q (.ref p) H'
structure NearTxt (mg : Str → Option Value) : Prop where
  sorted : mg "sorted" = none
  int : mg "int" = none
  min : mg "min" = none
  tuple : mg "tuple" = none
  range : mg "range" = none
theorem fm_more {α β : Type} {f : α → Option β} {l : List α} {i : Nat} {x : α} (h : l[i]? = some x) : (l.take (i + 1)).filterMap f = (l.take i).filterMap f ++ (f x).toList := by
  rw [take_more h, List.filterMap_append]
  congr 1
theorem fm_len {α β : Type} (f : α → Option β) (l : List α) (i : Nat) : ((l.take i).filterMap f).length ≤ l.length := by
  refine Nat.le_trans (List.length_filterMap_le _ _) ?_
  rw [List.length_take]
  omega
section
variable {P : Program} {w : World} {K : PySem.W.Frag} {mg : Str → Option Value} {base : Heap}
abbrev scNearN : List Str := ["ties", "bay", "a", "b"]
abbrev scNearS : Scope := defScope sNear
theorem scNear : FnScope ["ties", "bay", "a", "b"] ["ties", "bay"] (defScope sNear) := ⟨rfl, rfl, rfl, by decide +kernel, rfl, by decide +kernel, by decide +kernel⟩
theorem ok_near {f : Addr} {fd : FuncData} (F : FnP K "_law_near" sNear f fd) (T : NearTxt mg) : FnOk P w K mg base CX0 1 f fd ["ties", "bay"] (spNear K) := by
  refine ok0 F scNear (fun vs H Q E h => ?_) (fun cdv A outer s H vs Q E hr h => ?_)
  · obtain ⟨t, ts, k, rfl, _⟩ := h
    rfl
  · obtain ⟨t, ts, k, rfl, ⟨qs, hq1, hq2, hq3⟩, hl, q⟩ := h
    refine ⟨_, (pss_one (ps_ret (pe_callB (id := "sorted") cr_sortedI (by rfl) T.sorted (by decide +kernel) (pa_cons (pe_op op_catL (pe_lc (own := [("a", 2), ("b", 3)]) (g := gTup K 2 (gCons (gName 2) (gCons (gName 3) gNil))) (by rfl) scNear.nd (pi_tup (pv 0)) (blkOk_by (own := [("a", 2), ("b", 3)]) (N := scNearN) (sc := scNearS) (by decide +kernel)) (fun _ _ _ _ _ => pg_tup (by rfl) (pgs_cons (pg_name (i := 2) scNear.nd rfl (Or.inl rfl)) (pgs_cons (pg_name (i := 3) scNear.nd rfl (Or.inl rfl)) pgs_nil))) (fun _ _ _ _ _ => pts_one (pt_cmpR op_eq (pv 3) (pv 1) (nomark _))) (fun _ _ _ _ _ => (pv 2))) (pe_lc (own := [("a", 2), ("b", 3)]) (g := gTup K 2 (gCons (gName 2) (gCons (gName 3) gNil))) (by rfl) scNear.nd (pi_tup (pv 0)) (blkOk_by (own := [("a", 2), ("b", 3)]) (N := scNearN) (sc := scNearS) (by decide +kernel)) (fun _ _ _ _ _ => pg_tup (by rfl) (pgs_cons (pg_name (i := 2) scNear.nd rfl (Or.inl rfl)) (pgs_cons (pg_name (i := 3) scNear.nd rfl (Or.inl rfl)) pgs_nil))) (fun _ _ _ _ _ => pts_one (pt_cmpR op_eq (pv 2) (pv 1) (nomark _))) (fun _ _ _ _ _ => (pv 3)))) pa_nil)))), ?_⟩
    have step : ∀ (sel : Int → Int → Option Int) (H0 : Hp) (D : Addr), Same H H0 → H0 D = none → True := fun _ _ _ _ _ => trivial
    refine ⟨_, rfl, t, rfl, ⟨_, hq1⟩, fun D hD => lc_tup (K := K) (a := t) (xs := qs.map V.ref) (fun i H' => Same H H' ∧ H' D = some (.lst ((nearA k (ts.take i)).map V.int))) ⟨same_upd hD, by rw [upd_same, List.take_zero]; rfl⟩ (fun i H' _ ⟨S, _⟩ => sqT_same S hq1) ?_ ?_⟩
    · rintro i y H1 hi ⟨S1, h1⟩
      obtain ⟨qa, hqa, rfl⟩ := getMapR hi
      have hit : i < ts.length := by rw [← hq2]; exact (List.getElem?_eq_some_iff.mp hqa).1
      obtain ⟨a, b, hab⟩ : ∃ a b, ts[i]? = some (a, b) := ⟨(ts[i]).1, (ts[i]).2, List.getElem?_eq_getElem hit⟩
      have hqt := sqT_same S1 (hq3 i qa a b hqa hab)
      have sz := fm_len (fun t : Int × Int => if t.2 = k then some t.1 else none) ts i
      refine ⟨qa, _, rfl, hqt, rfl, _, _, rfl, _, _, rfl, rfl, rfl, _, rfl, _, rfl, rfl, _, rfl, ite2 (fun hc => ?_) (fun hc => ⟨S1, ?_⟩)⟩
      · have hc : b = k := V.int.inj (of_decide_eq_true hc)
        refine ⟨_, rfl, _, h1, ?_, fun c o hc2 => by rw [upd_ne (ne_of_none hc2 hD)]; exact S1 _ _ hc2, ?_⟩
        · rw [List.length_map, sizeLine_eq]
          unfold nearA
          omega
        · rw [upd_same]
          unfold nearA
          rw [fm_more hab, if_pos hc, List.map_append]
          rfl
      · have hc : ¬ b = k := fun z => hc (decide_eq_true (congrArg V.int z))
        rw [h1]
        unfold nearA
        rw [fm_more hab, if_neg hc]
        exact congrArg (fun z => some (HO.lst (List.map V.int z))) (List.append_nil _).symm
    rintro H1 ⟨S1, h1⟩
    rw [List.length_map, hq2, List.take_length] at h1
    refine ⟨_, rfl, t, rfl, ⟨_, sqT_same S1 hq1⟩, fun D2 hD2 => lc_tup (K := K) (a := t) (xs := qs.map V.ref) (fun i H' => Same H1 H' ∧ H' D2 = some (.lst ((nearB k (ts.take i)).map V.int))) ⟨same_upd hD2, by rw [upd_same, List.take_zero]; rfl⟩ (fun i H' _ ⟨S, _⟩ => sqT_same (S1.trans S) hq1) ?_ ?_⟩
    · rintro i y H2 hi ⟨S2, h2⟩
      obtain ⟨qa, hqa, rfl⟩ := getMapR hi
      have hit : i < ts.length := by rw [← hq2]; exact (List.getElem?_eq_some_iff.mp hqa).1
      obtain ⟨a, b, hab⟩ : ∃ a b, ts[i]? = some (a, b) := ⟨(ts[i]).1, (ts[i]).2, List.getElem?_eq_getElem hit⟩
      have hqt := sqT_same (S1.trans S2) (hq3 i qa a b hqa hab)
      have sz := fm_len (fun t : Int × Int => if t.1 = k then some t.2 else none) ts i
      refine ⟨qa, _, rfl, hqt, rfl, _, _, rfl, _, _, rfl, rfl, rfl, _, rfl, _, rfl, rfl, _, rfl, ite2 (fun hc => ?_) (fun hc => ⟨S2, ?_⟩)⟩
      · have hc : a = k := V.int.inj (of_decide_eq_true hc)
        refine ⟨_, rfl, _, h2, ?_, fun c o hc2 => by rw [upd_ne (ne_of_none hc2 hD2)]; exact S2 _ _ hc2, ?_⟩
        · rw [List.length_map, sizeLine_eq]
          unfold nearB
          omega
        · rw [upd_same]
          unfold nearB
          rw [fm_more hab, if_pos hc, List.map_append]
          rfl
      · have hc : ¬ a = k := fun z => hc (decide_eq_true (congrArg V.int z))
        rw [h2]
        unfold nearB
        rw [fm_more hab, if_neg hc]
        exact congrArg (fun z => some (HO.lst (List.map V.int z))) (List.append_nil _).symm
    rintro H2 ⟨S2, h2⟩
    rw [List.length_map, hq2, List.take_length] at h2
    have z1 : (nearA k ts).length ≤ ts.length := List.length_filterMap_le _ _
    have z2 : (nearB k ts).length ≤ ts.length := List.length_filterMap_le _ _
    refine ⟨D, D2, _, _, rfl, rfl, S2 _ _ h1, h2, by rw [List.length_map, List.length_map, sizeLine_eq]; omega, fun L H3 n3 S3 h3 => ?_⟩
    refine ⟨L, nearA k ts ++ nearB k ts, rfl, SqL.of (by rw [h3, List.map_append]), fun out p hp hs np => q out p _ hp hs (((S1.trans S2).trans S3).trans (same_upd np)) (((S1.trans S2).trans S3).free np) upd_same⟩
/-! ### how far -/
/-- a dict that tells what the list tells of what is marked -/
def DictOf (n : Nat) (kvs : List (Key × V)) (aw : List Int) : Prop := (∀ v : Int, 0 ≤ v → v < (n : Int) → valV kvs (Sum.inl v) = if 0 ≤ gI aw v then some (.int (gI aw v)) else none) ∧ kvs.length + neg aw ≤ n
def spFar (K : PySem.W.Frag) : Sp := fun vs H Q _ => ∃ (v : V) (n : Nat) (ts : List (Int × Int)) (b : Int), vs = [v, .int b] ∧ WebAt K H v n ts ∧ WebP n ts ∧ ts.length ≤ 100000 ∧ 0 ≤ b ∧ b < (n : Int) ∧
  ∀ F kvs H', Same H H' → H F = none → H' F = some (.dK kvs) → (∀ u : Int, 0 ≤ u → u < (n : Int) → valV kvs (Sum.inl u) = some (.int (gI (stepsOf (rowsOf n ts) b.toNat) u))) → Q (.ref F) H'
theorem dictOf_put {n : Nat} {kvs : List (Key × V)} {aw : List Int} {v x : Int} (h : DictOf n kvs aw) (hl : aw.length = n) (v0 : 0 ≤ v) (v1 : v < (n : Int)) (hv : gI aw v < 0) (hx : 0 ≤ x) : DictOf n (putK kvs (Sum.inl v) (.int x)) (aw.set v.toNat x) := by
  have hl2 : v.toNat < aw.length := by omega
  refine ⟨fun u u0 u1 => ?_, ?_⟩
  · rw [valV_put]
    by_cases e : u = v
    · subst e
      have q : gI (aw.set u.toNat x) u = x := setD_self hl2
      rw [if_pos rfl, q, if_pos hx]
    · have q : gI (aw.set v.toNat x) u = gI aw u := setD_ne (by omega)
      rw [if_neg (fun z => e (Sum.inl.inj z)), q]
      exact h.1 u u0 u1
  · have z1 := length_putK kvs (Sum.inl v) (.int x)
    have z2 := neg_set (l := aw) (i := v.toNat) (x := x) hl2 hv hx
    have z3 := h.2
    omega
/-- behind some turns of the while: k turns at most are left -/
def FarInv (H : Hp) (wv : V) (b : Int) (n : Nat) (rss : List (List Int)) (st : Nat) (F : Addr) (k : Nat) (σ : L2.St) (H' : Hp) : Prop :=
  ∃ (Lv_ : Addr) (aw fr : List Int) (kvs : List (Key × V)) (L : Int) (x1 x2 x3 : Option V), σ = [some wv, some (.int b), some (.ref F), some (.ref Lv_), some (.int L), x1, x2, x3] ∧ Same H H' ∧ H F = none ∧ H Lv_ = none ∧ F ≠ Lv_ ∧ H' F = some (.dK kvs) ∧ H' Lv_ = some (.lst (fr.map V.int)) ∧
    DictOf n kvs aw ∧ Lv n rss st L aw fr ∧ L ≤ 2 * n + 1 - k ∧ k ≤ 2 * n + 1 ∧ (fr = [] ∨ neg aw < k) ∧ bfs rss k aw fr = stepsOf rss st
abbrev scFarN : List Str := ["web", "bay", "found", "level", "many", "later", "one", "other"]
abbrev scFarS : Scope := defScope sFar
theorem scFar : FnScope ["web", "bay", "found", "level", "many", "later", "one", "other"] ["web", "bay"] (defScope sFar) := ⟨rfl, rfl, rfl, by decide +kernel, rfl, by decide +kernel, by decide +kernel⟩
theorem start_dict {n : Nat} {b : Int} (b0 : 0 ≤ b) (b1 : b < (n : Int)) : DictOf n [((Sum.inl b : Key), V.int 0)] ((List.replicate n (-1)).set b.toNat 0) := by
  have h0 : DictOf n ([] : List (Key × V)) (List.replicate n (-1)) := by
    refine ⟨fun v v0 v1 => ?_, ?_⟩
    · have e : gI (List.replicate n (-1)) v = -1 := by
        show List.getD _ v.toNat 0 = -1
        rw [List.getD_eq_getElem?_getD, List.getElem?_replicate, if_pos (by omega)]
        rfl
      rw [e]
      rfl
    · have z := neg_le (List.replicate n (-1 : Int))
      rw [List.length_replicate] at z
      show 0 + _ ≤ n
      omega
  have e : gI (List.replicate n (-1)) b < 0 := by
    show List.getD _ b.toNat 0 < 0
    rw [List.getD_eq_getElem?_getD, List.getElem?_replicate, if_pos (by omega)]
    decide
  exact dictOf_put h0 List.length_replicate b0 b1 e (Int.le_refl 0)
theorem bfs_nil2 {rss : List (List Int)} {aw : List Int} : ∀ k, bfs rss k aw [] = aw
  | 0 => rfl
  | _ + 1 => if_pos rfl
theorem ok_far {f fN : Addr} {fd fdN : FuncData} (F : FnP K "_law_far" sFar f fd) (FN : FnP K "_law_near" sNear fN fdN) (gN : mg "_law_near" = some (.ref fN)) (GN : FnOk P w K mg base CX0 1 fN fdN ["ties", "bay"] (spNear K)) : FnOk P w K mg base CX0 2 f fd ["web", "bay"] (spFar K) := by
  have bN : Binds K fdN ["ties", "bay"] [] := FN.bindsN fun _ _ _ _ _ _ us hl => match us, hl with | [_, _], _ => rfl
  refine ok0 F scFar (fun vs H Q E h => ?_) (fun cdv A outer s H vs Q E hr h => ?_)
  · obtain ⟨v, n, ts, b, rfl, _⟩ := h
    rfl
  · have hu := hu_of hr
    obtain ⟨_, n, ts, b, rfl, ⟨wa, wt, rfl, hw, hT⟩, W, hl, b0, b1, q⟩ := h
    refine ⟨_, (pss_cons (ps_par3 (i := 2) (j := 3) (l := 4) (by rfl) scFar.nd rfl rfl rfl (by decide) (by decide) (by decide) rfl rfl rfl (pa_cons (pe_disp (pps_cons (pv 1) pe_int pps_nil) rfl rfl (List.cons_ne_nil _ _) (by decide)) (pa_cons (pe_lstL (pa_cons (pv 1) pa_nil)) (pa_cons pe_int pa_nil))) (by rfl))
    (pss_cons (ps_while PassesOwn.never (pt_cmpR (op_neE hr.units) (pv 3) (pe_lstL pa_nil) (nomark _))
      (pss_cons (ps_par (i := 4) (j := 5) (by rfl) scFar.nd rfl rfl (by decide) rfl rfl (pa_cons (pe_op op_add (pv 4) pe_int) (pa_cons (pe_lstL pa_nil) pa_nil)) (by rfl))
    (pss_cons (ps_for PassesOwn.never rfl (pi_list (pv 3)) (pg_name (i := 6) scFar.nd rfl (Or.inl rfl))
      (pss_one (ps_for PassesOwn.never rfl (pi_list (pe_call GN hr rfl gN FN.kp bN .nil pass0 (pa_cons (pe_ix (ix_tupK (K := K)) (pv 0) pe_int (fun _ _ => rfl)) (pa_cons (pv 6) pa_nil)))) (pg_name (i := 7) scFar.nd rfl (Or.inl rfl))
      (pss_one (ps_if (pt_cmp (pc_dnotin hu (pv 7) (pv 2)))
      (pss_cons (ps_dput hu (pv 2) (pv 7) (pv 4) rfl)
    (pss_one (ps_expr (pe_bm PySem.F.plainAttrs_list PySem.F.slot_list_append PySem.F.type_list_append mt_appendL (pv 5) (pa_cons (pv 7) pa_nil)))))
      pss_nil)))))
    (pss_one (ps_set (i := 3) scFar.nd rfl (Or.inl rfl) (pv 5))))))
    (pss_one (ps_ret (pv 2))))), ?_⟩
    have n40 := W.n40
    have n2 := W.n2
    refine fun F0 nF => ⟨_, rfl, upd_same, [(Sum.inl b, .int 0)], rfl, by show 1 ≤ 15; decide, ?_⟩
    have eF : (upd (upd H F0 (.dK [])) F0 (.dK (mergeK [] [((Sum.inl b : Key), V.int 0)]))) F0 = some (.dK [((Sum.inl b : Key), V.int 0)]) := upd_same
    have SF : Same H (upd (upd H F0 (.dK [])) F0 (.dK (mergeK [] [((Sum.inl b : Key), V.int 0)]))) := fun c o hc => by
      rw [upd_ne (ne_of_none hc nF), upd_ne (ne_of_none hc nF)]
      exact hc
    generalize (upd (upd H F0 (.dK [])) F0 (.dK (mergeK [] [((Sum.inl b : Key), V.int 0)]))) = H1 at eF SF
    refine ⟨_, rfl, by show 1 ≤ sizeLine; decide, fun L0 H2 nL S2 h2 => ?_⟩
    refine ⟨_, _, _, rfl, FarInv H (.ref wa) b n (rowsOf n ts) b.toNat F0, ⟨2 * n + 1, L0, (List.replicate n (-1)).set b.toNat 0, [b], [((Sum.inl b : Key), V.int 0)], 0, none, none, none, rfl, SF.trans S2, nF, SF.free nL, ne_of_none eF nL, S2 _ _ eF, h2, start_dict b0 b1, ?_, by omega, Nat.le_refl _, .inr ?_, ?_⟩, ?_⟩
    · have z := start_lv (n := n) (s := b.toNat) (rowsOf n ts) (by omega)
      rw [show ((b.toNat : Nat) : Int) = b by omega] at z
      exact z
    · have z := neg_le ((List.replicate n (-1 : Int)).set b.toNat 0)
      rw [List.length_set, List.length_replicate] at z
      omega
    · unfold stepsOf
      rw [rowsOf_len, show ((b.toNat : Nat) : Int) = b by omega]
    rintro k σ H3 ⟨Lv_, aw, fr, kvs, L, x1, x2, x3, rfl, S3, nF3, nL3, nFL, hF3, hL3, hD, hLv, hLk, hk, hfr, hb⟩
    refine ⟨_, rfl, by show 0 ≤ sizeLine; decide, fun E0 H4 n4 S4 h4 => ⟨Lv_, E0, fr, rfl, rfl, SqL.of (S4 _ _ hL3), SqL.of h4, _, rfl, ?_⟩⟩
    have S34 := S3.trans S4
    have hF4 := S4 _ _ hF3
    have hL4 := S4 _ _ hL3
    by_cases hfe : fr = []
    · subst hfe
      rw [bfs_nil2] at hb
      refine iteC rfl ⟨_, rfl, q F0 kvs H4 S34 nF3 hF4 fun u u0 u1 => ?_⟩
      have z := (web_far W b0 b1).nn u u0 u1
      rw [← hb] at z
      rw [hD.1 u u0 u1, if_pos z, hb]
    obtain ⟨k', rfl⟩ : ∃ k', k = k' + 1 := ⟨k - 1, by have := hfr.resolve_left hfe; omega⟩
    have hne : (!fr.isEmpty) = true := by
      cases fr with
      | nil => exact absurd rfl hfe
      | cons _ _ => rfl
    refine iteD hne ⟨FarInv H (.ref wa) b n (rowsOf n ts) b.toNat F0 k', fun σ' H'' h => ⟨k', Nat.lt_succ_self _, h⟩, ?_⟩
    refine ⟨_, rfl, _, _, rfl, rfl, by show 0 ≤ sizeLine; decide, fun Lt H5 n5 S5 h5 => ⟨_, _, rfl, ?_⟩⟩
    have S05 := S34.trans S5
    have hF5 := S5 _ _ hF4
    have hL5 := S5 _ _ hL4
    have nLt : H Lt = none := S34.free n5
    have nLtF : Lt ≠ F0 := (ne_of_none hF4 n5).symm
    have nLtL : Lt ≠ Lv_ := (ne_of_none hL4 n5).symm
    have m0 : Mid n (rowsOf n ts) L aw fr (aw, []) := ⟨hLv.len, hLv.low, fun _ _ _ _ => rfl, fun v _ _ hv => .inl hv, fun v hv => (by cases hv)⟩
    have k0 : BOk n (neg aw) (aw, ([] : List Int)) := ⟨hLv.len, hLv.low, fun z hz => (by cases hz), Nat.le_refl _⟩
    refine ⟨_, rfl, Lv_, rfl, ⟨_, SqL.of hL5⟩, for_list (K := K) (a := Lv_) (xs := fr.map V.int) (fun i σ H' => ∃ (kv : List (Key × V)) (y1 y2 : Option V), σ = [some (.ref wa), some (.int b), some (.ref F0), some (.ref Lv_), some (.int (L + 1)), some (.ref Lt), y1, y2] ∧ Same H H' ∧ H' Lv_ = some (.lst (fr.map V.int)) ∧ H' F0 = some (.dK kv) ∧
        H' Lt = some (.lst (((fr.take i).foldl (brow (rowsOf n ts)) (aw, [])).2.map V.int)) ∧ Mid n (rowsOf n ts) L aw fr ((fr.take i).foldl (brow (rowsOf n ts)) (aw, [])) ∧ BOk n (neg aw) ((fr.take i).foldl (brow (rowsOf n ts)) (aw, [])) ∧ DictOf n kv ((fr.take i).foldl (brow (rowsOf n ts)) (aw, [])).1)
      ⟨kvs, _, _, rfl, S05, hL5, hF5, h5, m0, k0, hD⟩ (fun i σ H' _ ⟨_, _, _, _, _, h, _⟩ => SqL.of h) ?_ ?_⟩
    · rintro i y σ H6 hi ⟨kv, y1, y2, rfl, S6, hL6, hF6, ht6, mid6, bok6, hD6⟩
      obtain ⟨one, ho, rfl⟩ := getMap hi
      have hom := List.mem_of_getElem? ho
      obtain ⟨o0, o1, oL⟩ := hLv.fr1 one hom
      refine ⟨_, rfl, wa, _, _, _, rfl, rfl, sqT_same S6 hw, at_of (j := 1) rfl rfl, _, rfl, wt, ts, one, rfl, hT.same S6, hl, fun out p H7 hp hs S7 np h7 => ?_⟩
      have eo := near_row (n := n) o0 W.asc W.inn hp hs
      subst eo
      have hpF : p ≠ F0 := (ne_of_none hF6 np).symm
      have hpT : p ≠ Lt := (ne_of_none ht6 np).symm
      have hpL : p ≠ Lv_ := (ne_of_none hL6 np).symm
      refine ⟨p, rfl, ⟨_, SqL.of h7⟩, for_list (K := K) (a := p) (xs := (gR (rowsOf n ts) one).map V.int) (fun j σ H' => ∃ (kv : List (Key × V)) (st : List Int × List Int) (y2 : Option V), σ = [some (.ref wa), some (.int b), some (.ref F0), some (.ref Lv_), some (.int (L + 1)), some (.ref Lt), some (.int one), y2] ∧ Same H H' ∧ H' Lv_ = some (.lst (fr.map V.int)) ∧ H' p = some (.lst ((gR (rowsOf n ts) one).map V.int)) ∧ H' F0 = some (.dK kv) ∧
          H' Lt = some (.lst (st.2.map V.int)) ∧ st = ((gR (rowsOf n ts) one).take j).foldl (bstep one.toNat) ((fr.take i).foldl (brow (rowsOf n ts)) (aw, [])) ∧ Mid n (rowsOf n ts) L aw fr st ∧ BOk n (neg aw) st ∧ DictOf n kv st.1)
        ⟨kv, _, _, rfl, S6.trans S7, S7 _ _ hL6, h7, S7 _ _ hF6, S7 _ _ ht6, rfl, mid6, bok6, hD6⟩ (fun j σ H' _ ⟨_, _, _, _, _, _, h, _⟩ => SqL.of h) ?_ ?_⟩
      · rintro j y σ H8 hj ⟨kv8, st, y2, rfl, S8, hL8, hp8, hF8, ht8, est, mid8, bok8, hD8⟩
        obtain ⟨near, hn, rfl⟩ := getMap hj
        have hnm := List.mem_of_getElem? hn
        obtain ⟨z0, z1⟩ := W.rin _ near hnm
        have est2 : ((gR (rowsOf n ts) one).take (j + 1)).foldl (bstep one.toNat) ((fr.take i).foldl (brow (rowsOf n ts)) (aw, [])) = bstep one.toNat st near := by
          rw [take_more hn, List.foldl_append, ← est]
          rfl
        have mid9 := (bstep_mid hLv.l0 mid8 o0 o1 hom oL hnm z0 z1).1
        have bok9 := bstep_ok (bay := one.toNat) bok8 z0 z1
        have eone : st.1.getD one.toNat 0 = L := by
          have q1 := mid8.keep one o0 o1 (by rw [oL]; exact hLv.l0)
          exact q1.trans oL
        have hget := hD8.1 near z0 z1
        refine ⟨_, rfl, _, rfl, F0, _, rfl, DGet.k (k := Sum.inl near) hF8, _, rfl, ?_⟩
        rw [hget]
        by_cases c : gI st.1 near < 0
        · have ebs : bstep one.toNat st near = (st.1.set near.toNat (L + 1), st.2 ++ [near]) := by
            unfold bstep
            rw [if_pos c, eone]
          rw [ebs] at est2 mid9 bok9
          rw [if_neg (by omega)]
          have hkl : kv8.length < sizeLine := by
            have := hD8.2
            rw [sizeLine_eq]
            omega
          refine iteD rfl ⟨_, rfl, _, rfl, _, rfl, F0, _, rfl, DPut.k (k := Sum.inl near) hF8 hkl, ?_⟩
          have nF9 : H F0 = none := nF3
          have B9 : But F0 H8 (upd H8 F0 (.dK (putK kv8 (Sum.inl near) (.int (L + 1))))) := but_upd
          have e9 : (upd H8 F0 (.dK (putK kv8 (Sum.inl near) (.int (L + 1))))) F0 = some (.dK (putK kv8 (Sum.inl near) (.int (L + 1)))) := upd_same
          generalize (upd H8 F0 (.dK (putK kv8 (Sum.inl near) (.int (L + 1))))) = H9 at B9 e9
          have ht9 := B9 _ _ nLtF ht8
          have hlen2 := bok8.mes
          have hlen3 := neg_le aw
          rw [hLv.len] at hlen3
          refine ⟨_, rfl, .inl ⟨rfl, _, SqL.of ht9⟩, _, rfl, Lt, _, _, rfl, rfl, ht9, by rw [List.length_map, sizeLine_eq]; omega, fun H10 B10 h10 => ?_⟩
          exact ⟨_, (st.1.set near.toNat (L + 1), st.2 ++ [near]), _, rfl, same_but (same_but S8 nF9 B9) nLt B10, B10 _ _ nLtL.symm (B9 _ _ nFL.symm hL8), B10 _ _ hpT (B9 _ _ hpF hp8), B10 _ _ nLtF.symm e9, by rw [h10, List.map_append]; rfl, est2.symm, mid9, bok9, dictOf_put hD8 mid8.len z0 z1 c (by have := hLv.l0; omega)⟩
        · have ebs : bstep one.toNat st near = st := by
            unfold bstep
            rw [if_neg c]
          rw [if_pos (by omega)]
          exact iteC rfl ⟨kv8, st, _, rfl, S8, hL8, hp8, hF8, ht8, (est2.trans ebs).symm, mid8, bok8, hD8⟩
      · rintro σ H8 ⟨kv8, st, y2, rfl, S8, hL8, hp8, hF8, ht8, est, mid8, bok8, hD8⟩
        rw [List.length_map, List.take_length] at est
        have est2 : (fr.take (i + 1)).foldl (brow (rowsOf n ts)) (aw, []) = st := by
          rw [take_more ho, List.foldl_append, est]
          rfl
        exact ⟨kv8, _, _, rfl, S8, hL8, hF8, by rw [est2]; exact ht8, by rw [est2]; exact mid8, by rw [est2]; exact bok8, by rw [est2]; exact hD8⟩
    · rintro σ H6 ⟨kv, y1, y2, rfl, S6, hL6, hF6, ht6, mid6, bok6, hD6⟩
      rw [List.length_map, List.take_length] at ht6 mid6 bok6 hD6
      have hlv := level_lv W.rin hLv (by omega)
      have hb2 : bfs (rowsOf n ts) k' (level (rowsOf n ts) aw fr).1 (level (rowsOf n ts) aw fr).2 = stepsOf (rowsOf n ts) b.toNat := by
        rw [← hb]
        exact (if_neg hfe).symm
      refine ⟨_, rfl, Lt, (level (rowsOf n ts) aw fr).1, (level (rowsOf n ts) aw fr).2, kv, L + 1, _, _, _, rfl, S6, nF3, nLt, nLtF.symm, hF6, ht6, hD6, hlv, by omega, by omega, ?_, hb2⟩
      rcases Nat.eq_zero_or_pos (level (rowsOf n ts) aw fr).2.length with z | z
      · exact .inl (List.eq_nil_of_length_eq_zero z)
      · have m : neg (level (rowsOf n ts) aw fr).1 + (level (rowsOf n ts) aw fr).2.length ≤ neg aw := bok6.mes
        have hk2 := hfr.resolve_left hfe
        exact .inr (by omega)
end
end Sb

/-! ## ZP42 -/
/-! The law's first shortest way. -/
namespace Sb
open PySem PySem.Spec PyProof.Rows L2
section
variable {P : Program} {w : World} {K : PySem.W.Frag} {mg : Str → Option Value} {base : Heap}
/-! ### the first shortest way -/
def spLPath (K : PySem.W.Frag) : Sp := fun vs H Q _ => ∃ (v : V) (n : Nat) (ts : List (Int × Int)) (a b : Int), vs = [v, .int a, .int b] ∧ WebAt K H v n ts ∧ WebP n ts ∧ ts.length ≤ 100000 ∧ 0 ≤ a ∧ a < (n : Int) ∧ 0 ≤ b ∧ b < (n : Int) ∧
  ∀ p H', Same H H' → H p = none → H' p = some (.lst ((pathOf n ts a b).map V.int)) → Q (.ref p) H'
abbrev scLPathN : List Str := ["web", "a", "b", "far", "found", "other"]
abbrev scLPathS : Scope := defScope sLPath
theorem scLPath : FnScope ["web", "a", "b", "far", "found", "other"] ["web", "a", "b"] (defScope sLPath) := ⟨rfl, rfl, rfl, by decide +kernel, rfl, by decide +kernel, by decide +kernel⟩
def LPathInv (H : Hp) (x1 : V) (b : Int) (F p : Addr) (kvs : List (Key × V)) (rss : List (List Int)) (d : List Int) (n : Nat) (R : List Int) (k : Nat) (σ : L2.St) (H' : Hp) : Prop :=
  ∃ (at_ : Int) (acc : List Int) (u : Option V), σ = [some x1, some (.int at_), some (.int b), some (.ref F), some (.ref p), u] ∧ Same H H' ∧ H' F = some (.dK kvs) ∧ H' p = some (.lst (acc.map V.int)) ∧ H p = none ∧ p ≠ F ∧
    0 ≤ at_ ∧ at_ < (n : Int) ∧ gI d at_ = (k : Int) ∧ acc.length + k ≤ 1000000 ∧ acc ++ pathP rss d k at_ = R
theorem ok_lpath {f fN fF : Addr} {fd fdN fdF : FuncData} (F : FnP K "_law_path" sLPath f fd) (T : NearTxt mg) (FN : FnP K "_law_near" sNear fN fdN) (gN : mg "_law_near" = some (.ref fN)) (GN : FnOk P w K mg base CX0 1 fN fdN ["ties", "bay"] (spNear K))
    (FF : FnP K "_law_far" sFar fF fdF) (gF : mg "_law_far" = some (.ref fF)) (GF : FnOk P w K mg base CX0 2 fF fdF ["web", "bay"] (spFar K)) : FnOk P w K mg base CX0 3 f fd ["web", "a", "b"] (spLPath K) := by
  have bN : Binds K fdN ["ties", "bay"] [] := FN.bindsN fun _ _ _ _ _ _ us hl => match us, hl with | [_, _], _ => rfl
  have bF : Binds K fdF ["web", "bay"] [] := FF.bindsN fun _ _ _ _ _ _ us hl => match us, hl with | [_, _], _ => rfl
  refine ok0 F scLPath (fun vs H Q E h => ?_) (fun cdv A outer s H vs Q E hr h => ?_)
  · obtain ⟨v, n, ts, a, b, rfl, _⟩ := h
    rfl
  · have hu := hu_of hr
    have hr1 : Room 1 _ := hr.mono (by decide)
    obtain ⟨_, n, ts, a, b, rfl, ⟨wa, wt, rfl, hw, hT⟩, W, hl, a0, a1, b0, b1, q⟩ := h
    refine ⟨_, (pss_cons (ps_asg (pe_tupL (pa_cons (pe_call GF hr rfl gF FF.kp bF .nil pass0 (pa_cons (pv 0) (pa_cons (pv 2) pa_nil))) (pa_cons (pe_lstL pa_nil) pa_nil))) (pg_tup (by rfl) (pgs_cons (pg_name (i := 3) scLPath.nd rfl (Or.inr rfl)) (pgs_cons (pg_name (i := 4) scLPath.nd rfl (Or.inl rfl)) pgs_nil))))
    (pss_cons (ps_while PassesOwn.never (pt_cmpR op_ne (pv 1) (pv 2) (nomark _))
      (pss_cons (ps_set (i := 1) scLPath.nd rfl (Or.inr rfl) (pe_callB (id := "min") (cr_min rfl) (by rfl) T.min (by decide +kernel) (pa_cons (pe_lc (own := [("other", 5)]) (g := gName 5) (by rfl) scLPath.nd (pi_list (pe_call GN hr1 rfl gN FN.kp bN .nil pass0 (pa_cons (pe_ix (ix_tupK (K := K)) (pv 0) pe_int (fun _ _ => rfl)) (pa_cons (pv 1) pa_nil)))) (blkOk_by (own := [("other", 5)]) (N := scLPathN) (sc := scLPathS) (by decide +kernel)) (fun _ _ _ _ _ => pg_name (i := 5) scLPath.nd rfl (Or.inl rfl)) (fun _ _ _ _ _ => pts_one (pt_cmpR op_eq (pe_op op_add (pe_dget hu (pv 3) (pv 5) (fun _ _ => rfl)) pe_int) (pe_dget hu (pv 3) (pv 1) (fun _ _ => rfl)) (nomark _))) (fun _ _ _ _ _ => (pv 5))) pa_nil)))
    (pss_one (ps_expr (pe_bm PySem.F.plainAttrs_list PySem.F.slot_list_append PySem.F.type_list_append mt_appendL (pv 4) (pa_cons (pv 1) pa_nil))))))
    (pss_one (ps_ret (pv 4))))), ?_⟩
    have n40 := W.n40
    have Fa := web_far W b0 b1
    refine ⟨_, rfl, _, rfl, .ref wa, n, ts, b, rfl, ⟨wa, wt, rfl, hw, hT⟩, W, hl, b0, b1, fun F0 kvs H1 S1 nF hF hval => ⟨by show 0 ≤ sizeLine; decide, fun p H2 n2 S2 h2 => ⟨by show 2 ≤ sizeLine; decide, fun t H3 n3 S3 h3 => ⟨t, _, rfl, SqT.of h3, rfl, _, _, rfl, _, _, rfl, rfl, ?_⟩⟩⟩⟩
    have gn : gI (stepsOf (rowsOf n ts) b.toNat) a = (((gI (stepsOf (rowsOf n ts) b.toNat) a).toNat : Nat) : Int) := by
      have := Fa.nn a a0 a1
      omega
    refine ⟨LPathInv H (.ref wa) b F0 p kvs (rowsOf n ts) (stepsOf (rowsOf n ts) b.toNat) n (pathOf n ts a b), ⟨(gI (stepsOf (rowsOf n ts) b.toNat) a).toNat, a, [], none, rfl, (S1.trans S2).trans S3, S3 _ _ (S2 _ _ hF), S3 _ _ h2, S1.free n2, (ne_of_none hF n2).symm, a0, a1, gn, ?_, rfl⟩, ?_⟩
    · have := Fa.small a a0 a1
      rw [List.length_nil]
      omega
    rintro k σ H' ⟨at_, acc, u, rfl, S', hF', hp', np', npF', t0, t1, tk, tl, tR⟩
    refine ⟨_, rfl, _, rfl, rfl, _, rfl, ?_⟩
    by_cases hab : at_ = b
    · have k0 : k = 0 := by
        have q := (Fa.z at_ t0 t1).mpr hab
        omega
      subst k0
      have tR : acc ++ [] = pathOf n ts a b := tR
      rw [List.append_nil] at tR
      rw [tR] at hp'
      exact iteC (by rw [hab, decide_eq_true rfl]; rfl) ⟨_, rfl, q p H' S' np' hp'⟩
    · have hne : (!decide (V.int at_ = V.int b)) = true := by
        rw [decide_eq_false (fun q => hab (V.int.inj q))]
        rfl
      obtain ⟨r, en, x0, x1, ex, xm⟩ := nxt_facts W Fa t0 t1 hab
      obtain ⟨k', rfl⟩ : ∃ k', k = k' + 1 := ⟨k - 1, by have := Fa.nn _ x0 x1; omega⟩
      refine iteD hne ⟨LPathInv H (.ref wa) b F0 p kvs (rowsOf n ts) _ n _ k', fun σ' H'' h => ⟨k', Nat.lt_succ_self _, h⟩, ?_⟩
      refine ⟨_, rfl, wa, _, _, _, rfl, rfl, sqT_same S' hw, at_of (j := 1) rfl rfl, _, rfl, wt, ts, at_, rfl, hT.same S', hl, fun out o H5 hp hs S5 no h5 => ?_⟩
      have eo := near_row (n := n) t0 W.asc W.inn hp hs
      subst eo
      have hF5 := S5 _ _ hF'
      have hl100 : (gR (rowsOf n ts) at_).length ≤ 200000 := by
        have q := rowsOf_small n ts ts.length at_.toNat
        rw [List.take_length] at q
        show ((rowsOf n ts).getD at_.toNat []).length ≤ _
        omega
      refine ⟨o, rfl, ⟨_, SqL.of h5⟩, fun M hM => lc_list (K := K) (a := o) (xs := (gR (rowsOf n ts) at_).map V.int)
        (fun i H2 => Same H5 H2 ∧ H2 M = some (.lst ((((gR (rowsOf n ts) at_).take i).filter fun q => decide (gI (stepsOf (rowsOf n ts) b.toNat) q + 1 = gI (stepsOf (rowsOf n ts) b.toNat) at_)).map V.int))) ⟨same_upd hM, by rw [upd_same, List.take_zero]; rfl⟩ (fun i H2 _ ⟨S, _⟩ => SqL.of (S _ _ h5)) ?_ ?_⟩
      · rintro i q H6 hi ⟨S6, h6⟩
        obtain ⟨near, hn, rfl⟩ := getMap hi
        have hnm := List.mem_of_getElem? hn
        obtain ⟨m0, m1⟩ := W.rin _ near hnm
        have hF6 := S6 _ _ hF5
        have il : i < (gR (rowsOf n ts) at_).length := (List.getElem?_eq_some_iff.mp hn).1
        have g1 := DGet.k (k := Sum.inl near) hF6
        have g2 := DGet.k (k := Sum.inl at_) hF6
        rw [hval near m0 m1] at g1
        rw [hval at_ t0 t1] at g2
        have ec : decide (V.int (gI (stepsOf (rowsOf n ts) b.toNat) near + 1) = V.int (gI (stepsOf (rowsOf n ts) b.toNat) at_)) = decide (gI (stepsOf (rowsOf n ts) b.toNat) near + 1 = gI (stepsOf (rowsOf n ts) b.toNat) at_) := decide_eq_decide.mpr ⟨fun e => V.int.inj e, fun e => congrArg V.int e⟩
        refine ⟨rfl, _, rfl, _, rfl, F0, _, rfl, g1, _, _, rfl, rfl, _, rfl, _, rfl, F0, _, rfl, g2, rfl, _, rfl, ?_⟩
        rw [ec]
        refine ite2 (fun hc => ?_) (fun hc => ⟨S6, ?_⟩)
        · refine ⟨_, rfl, _, h6, ?_, fun c o hc2 => by rw [upd_ne (ne_of_none hc2 hM)]; exact S6 _ _ hc2, ?_⟩
          · rw [List.length_map, sizeLine_eq]
            have q := List.length_filter_le (fun q => decide (gI (stepsOf (rowsOf n ts) b.toNat) q + 1 = gI (stepsOf (rowsOf n ts) b.toNat) at_)) ((gR (rowsOf n ts) at_).take i)
            rw [List.length_take] at q
            omega
          · rw [upd_same, take_more hn, List.filter_append, List.filter_cons_of_pos (by exact hc), List.map_append]
            rfl
        · rw [h6, take_more hn, List.filter_append, List.filter_cons_of_neg (by exact hc), List.filter_nil, List.append_nil]
      rintro H6 ⟨S6, h6⟩
      rw [List.length_map, List.take_length, nxt_far W Fa t0 t1] at h6
      refine ⟨M, _, rfl, SqL.of h6, by rw [en]; exact Nat.succ_pos _, fun m hm hle => ?_⟩
      have em : m = nxt (rowsOf n ts) (stepsOf (rowsOf n ts) b.toNat) at_ := Int.le_antisymm (hle _ (by rw [en]; exact List.mem_cons_self)) (xm m hm)
      subst em
      have hp6 := S6 _ _ (S5 _ _ hp')
      refine ⟨_, rfl, .inl ⟨rfl, _, SqL.of hp6⟩, _, rfl, p, _, _, rfl, rfl, hp6, by rw [List.length_map, sizeLine_eq]; omega, fun H7 B7 h7 => ?_⟩
      refine ⟨_, acc ++ [nxt (rowsOf n ts) (stepsOf (rowsOf n ts) b.toNat) at_], _, rfl, same_but ((S'.trans S5).trans S6) np' B7, B7 _ _ npF'.symm (S6 _ _ hF5), by rw [h7, List.map_append]; rfl, np', npF', x0, x1, by omega, by rw [List.length_append, List.length_singleton]; omega, ?_⟩
      rw [← tR, List.append_assoc]
      rfl
end
end Sb

/-! ## W342 -/
/-! Drawn webs: the web. -/
namespace Sb
open PySem PySem.Spec PyProof.Rows L2
abbrev sAnyWeb : Stmt := top 54
/-- a web's value -/
def WebH (H : Hp) (r : Addr) (n : Nat) (us : List (Int × Int)) : Prop := ∃ t : Addr, H r = some (.tup [.int (n : Int), .ref t]) ∧ PrsT H t us
theorem WebH.at {K : PySem.W.Frag} {H : Hp} {r : Addr} {n : Nat} {us : List (Int × Int)} (h : WebH H r n us) : WebAt K H (.ref r) (n : Int) us := by
  obtain ⟨t, h1, qs, h2, h3, h4⟩ := h
  exact ⟨r, t, rfl, SqT.of h1, qs, SqT.of h2, h3, fun i q a b e1 e2 => SqT.of (h4 i q a b e1 e2)⟩
theorem WebH.mono {H H2 : Hp} {r : Addr} {n : Nat} {us : List (Int × Int)} (h : WebH H r n us) (k : ∀ b xs, H b = some (.tup xs) → H2 b = some (.tup xs)) : WebH H2 r n us := by
  obtain ⟨t, h1, qs, h2, h3⟩ := h
  exact ⟨t, k _ _ h1, qs, k _ _ h2, h3.mono k⟩
def spAnyWeb : Sp := fun vs H Q _ => ∃ (p c : Addr) (k : Nat) (most size : Int), vs = [.ref p, .int most, .int size] ∧ Pen H p c k ∧ k < 800000 ∧ 2 ≤ most ∧ most ≤ 40 ∧ 2 ≤ size ∧ size ≤ 20 ∧
  ∀ (r : Addr) H' (n : Nat) (us : List (Int × Int)) k', But p H H' → H r = none → WebH H' r n us → Good n us → (∀ t ∈ us, t.1 < t.2) → Asc us → 2 ≤ n → (n : Int) ≤ most → us.length ≤ 500 → k' ≤ k + 1000 → Pen H' p c k' → Q (.ref r) H'
section
variable {P : Program} {w : World} {K : PySem.W.Frag} {mg : Str → Option Value} {base : Heap} {C : Nat → Addr}
abbrev scAnyWebN : List Str := ["pen", "most", "size", "ties", "n", "turn", "more", "many", "at", "names", "a", "b"]
abbrev scAnyWebS : Scope := defScope sAnyWeb
theorem scAnyWeb : FnScope ["pen", "most", "size", "ties", "n", "turn", "more", "many", "at", "names", "a", "b"] ["pen", "most", "size"] (defScope sAnyWeb) := ⟨rfl, rfl, rfl, by decide +kernel, rfl, by decide +kernel, by decide +kernel⟩
theorem ok_anyWeb {f fT fP fN fR : Addr} {fd fdT fdP fdN fdR : FuncData} (F : FnP K "_law_any_web" sAnyWeb f fd) (T : WTxt mg) (FT : FnP K "_law_take" sTake fT fdT) (gT : mg "_law_take" = some (.ref fT)) (GT : FnOk P w K mg base CX0 2 fT fdT ["pen", "many"] spTake)
    (FP : FnP K "_law_piece" sPiece fP fdP) (gP : mg "_law_piece" = some (.ref fP)) (GP : FnOk P w K mg base CX0 4 fP fdP ["pen", "size"] spPiece) (FN : FnP K "_law_any_names" sNames fN fdN) (gN : mg "_law_any_names" = some (.ref fN)) (GN : FnOk P w K mg base CX0 3 fN fdN ["pen", "n"] spNames)
    (FR : FnP K "_law_renamed" sRenamed fR fdR) (gR : mg "_law_renamed" = some (.ref fR)) (GR : FnOk P w K mg base CX0 1 fR fdR ["ties", "names"] spRenamed) : FnOk P w K mg base CX0 5 f fd ["pen", "most", "size"] spAnyWeb := by
  have bT : Binds K fdT ["pen", "many"] [] := FT.bindsN fun _ _ _ _ _ _ us hl => match us, hl with | [_, _], _ => rfl
  have bP : Binds K fdP ["pen", "size"] [] := FP.bindsN fun _ _ _ _ _ _ us hl => match us, hl with | [_, _], _ => rfl
  have bN : Binds K fdN ["pen", "n"] [] := FN.bindsN fun _ _ _ _ _ _ us hl => match us, hl with | [_, _], _ => rfl
  have bR : Binds K fdR ["ties", "names"] [] := FR.bindsN fun _ _ _ _ _ _ us hl => match us, hl with | [_, _], _ => rfl
  refine ok0 F scAnyWeb (fun vs H Q E h => ?_) (fun cdv A outer s H vs Q E hr h => ?_)
  · obtain ⟨p, c, k, most, size, rfl, _⟩ := h
    rfl
  · obtain ⟨p, c, k, most, size, rfl, hp, hk, m2, m40, s2, s20, q⟩ := h
    have hr1 : Room 1 _ := hr.mono (by decide)
    have hr2 : Room 2 _ := hr.mono (by decide)
    have hr3 : Room 3 _ := hr.mono (by decide)
    refine ⟨_, (pss_cons (ps_asg (pe_call GP hr rfl gP FP.kp bP .nil pass0 (pa_cons (pv 0) (pa_cons (pe_callB (id := "min") (cr_min rfl) (by rfl) T.min (by decide +kernel) (pa_cons (pe_lstL (pa_cons (pv 2) (pa_cons (pv 1) pa_nil))) pa_nil)) pa_nil))) (pg_tup (by rfl) (pgs_cons (pg_name (i := 3) scAnyWeb.nd rfl (Or.inl rfl)) (pgs_cons (pg_name (i := 4) scAnyWeb.nd rfl (Or.inl rfl)) pgs_nil))))
    (pss_cons (ps_for PassesOwn.never rfl (pi_range1 (by rfl) T.range (pa_cons (pe_call GT hr2 rfl gT FT.kp bT .nil pass0 (pa_cons (pv 0) (pa_cons pe_int pa_nil))) pa_nil)) (pg_name (i := 5) scAnyWeb.nd rfl (Or.inl rfl))
      (pss_one (ps_if (pt_cmpR op_lt (pv 4) (pv 1) (nomark _))
      (pss_cons (ps_asg (pe_call GP hr rfl gP FP.kp bP .nil pass0 (pa_cons (pv 0) (pa_cons (pe_callB (id := "min") (cr_min rfl) (by rfl) T.min (by decide +kernel) (pa_cons (pe_lstL (pa_cons (pv 2) (pa_cons (pe_op op_add (pe_op op_sub (pv 1) (pv 4)) pe_int) pa_nil))) pa_nil)) pa_nil))) (pg_tup (by rfl) (pgs_cons (pg_name (i := 6) scAnyWeb.nd rfl (Or.inl rfl)) (pgs_cons (pg_name (i := 7) scAnyWeb.nd rfl (Or.inl rfl)) pgs_nil))))
    (pss_cons (ps_set (i := 8) scAnyWeb.nd rfl (Or.inl rfl) (pe_call GT hr2 rfl gT FT.kp bT .nil pass0 (pa_cons (pv 0) (pa_cons (pv 4) pa_nil))))
    (pss_cons (ps_set (i := 9) scAnyWeb.nd rfl (Or.inr rfl) (pe_op op_catL (pe_lstL (pa_cons (pv 8) pa_nil)) (pe_listRg rfl rfl T.list (prg_2 rfl T.range (pv 4) (pe_op op_sub (pe_op op_add (pv 4) (pv 7)) pe_int)))))
    (pss_one (ps_par (i := 3) (j := 4) (by rfl) scAnyWeb.nd rfl rfl (by decide) rfl rfl (pa_cons (pe_op op_catL (pv 3) (pe_lc (own := [("a", 10), ("b", 11)]) (g := gTup K 2 (gCons (gName 10) (gCons (gName 11) gNil))) (by rfl) scAnyWeb.nd (pi_list (pv 6)) (blkOk_by (own := [("a", 10), ("b", 11)]) (N := scAnyWebN) (sc := scAnyWebS) (by decide +kernel)) (fun _ _ _ _ _ => pg_tup (by rfl) (pgs_cons (pg_name (i := 10) scAnyWeb.nd rfl (Or.inl rfl)) (pgs_cons (pg_name (i := 11) scAnyWeb.nd rfl (Or.inl rfl)) pgs_nil))) (fun _ _ _ _ _ => pts_nil) (fun _ _ _ _ _ => (pe_tupL (pa_cons (pe_ix (ix_lK (K := K)) (pv 9) (pv 10) (fun _ _ => rfl)) (pa_cons (pe_ix (ix_lK (K := K)) (pv 9) (pv 11) (fun _ _ => rfl)) pa_nil)))))) (pa_cons (pe_op op_sub (pe_op op_add (pv 4) (pv 7)) pe_int) pa_nil)) (by rfl))))))
      pss_nil)))
    (pss_one (ps_ret (pe_tupL (pa_cons (pv 4) (pa_cons (pe_call GR hr1 rfl gR FR.kp bR .nil pass0 (pa_cons (pv 3) (pa_cons (pe_call GN hr3 rfl gN FN.kp bN .nil pass0 (pa_cons (pv 0) (pa_cons (pv 4) pa_nil))) pa_nil))) pa_nil))))))), ?_⟩
    -- the first piece
    refine ⟨_, rfl, _, rfl, _, rfl, by show 2 ≤ sizeLine; decide, fun a1 H1 n1 S1 h1 => ⟨a1, [size, most], rfl, SqL.of h1, by show 0 < 2; decide, fun mn hmn hle => ?_⟩⟩
    have mn2 : 2 ≤ mn ∧ mn ≤ size ∧ mn ≤ most := by
      have z1 := hle size (by simp)
      have z2 := hle most (by simp)
      simp only [List.mem_cons, List.not_mem_nil, or_false] at hmn
      omega
    refine ⟨p, c, k, mn, rfl, hp.same S1, by omega, by omega, fun r1 l1 H2 n ts k2 B2 hr1' hP1 nl1 pc1 hk2 hp2 => ?_⟩
    have g1 := piece_good pc1 (by omega)
    have pn1 := piece_n pc1 (by omega)
    have pl1 := piece_len pc1 (by omega)
    refine ⟨r1, _, rfl, .inl (.inl hr1'), rfl, _, _, rfl, _, _, rfl, rfl, ?_⟩
    -- more pieces
    refine ⟨_, rfl, p, c, k2, 4, rfl, hp2, by decide, by decide, by omega, fun turns H3 k3 t0 t4 B3 hk3 hp3 => ?_⟩
    have B03 : But p H H3 := ((sameBut S1).trans B2).trans B3
    obtain ⟨cells2, x2, e2, _⟩ := id hp2
    refine ⟨turns, rfl, by omega, by omega, for_range (lo := 0) (n := turns.toNat) (fun i σ H' => ∃ (tl : Addr) (n : Nat) (ts : List (Int × Int)) (k' : Nat), (∃ u v x y z, σ = [some (.ref p), some (.int most), some (.int size), some (.ref tl), some (.int (n : Int)), u, v, x, y, z, none, none]) ∧ But p H H' ∧ tl ≠ p ∧ PrsL H' tl ts ∧ Good n ts ∧ 2 ≤ n ∧ (n : Int) ≤ most ∧ ts.length ≤ 100 * (i + 1) ∧ k' ≤ k + 50 + 60 * i ∧ Pen H' p c k')
      ⟨l1, n, ts, k3, ⟨none, none, none, none, none, rfl⟩, B03, nl1, hP1.but B3 nl1 e2, g1, pn1.1, by omega, by omega, by omega, hp3⟩ ?_ ?_⟩
    · rintro i σ H4 hi ⟨tl, n, ts, k4, ⟨u, v, x, y, z, rfl⟩, B4, ntl, hPt, g, n2, nm, hts, hk4, hp4⟩
      have hi3 : i < 4 := by omega
      refine ⟨_, rfl, _, rfl, _, _, rfl, rfl, _, rfl, ite2 (fun hlt => ?_) (fun _ => ⟨tl, n, ts, k4, ⟨_, _, _, _, _, rfl⟩, B4, ntl, hPt, g, n2, nm, by omega, by omega, hp4⟩)⟩
      have hlt : (n : Int) < most := of_decide_eq_true hlt
      -- one more
      refine ⟨_, rfl, _, rfl, _, rfl, _, rfl, _, _, rfl, rfl, _, _, rfl, rfl, by show 2 ≤ sizeLine; decide, fun a5 H5 n5 S5 h5 => ⟨a5, [size, most - n + 1], rfl, SqL.of h5, by show 0 < 2; decide, fun mn hmn hle => ?_⟩⟩
      have hmn2 : 2 ≤ mn ∧ mn ≤ size ∧ mn ≤ most - n + 1 := by
        have z1 := hle size (by simp)
        have z2 := hle (most - n + 1) (by simp)
        simp only [List.mem_cons, List.not_mem_nil, or_false] at hmn
        omega
      refine ⟨p, c, k4, mn, rfl, hp4.same S5, by omega, by omega, fun r6 l6 H6 m us k6 B6 hr6 hP6 nl6 pc6 hk6 hp6 => ?_⟩
      have g6 := piece_good pc6 (by omega)
      have pn6 := piece_n pc6 (by omega)
      have pl6 := piece_len pc6 (by omega)
      refine ⟨r6, _, rfl, .inl (.inl hr6), rfl, _, _, rfl, _, _, rfl, rfl, ?_⟩
      refine ⟨_, rfl, _, rfl, p, c, k6, n, rfl, hp6, by omega, by omega, by omega, fun at7 H7 k7 t0 t1 B7 hk7 hp7 => ?_⟩
      -- names
      refine ⟨_, rfl, by show 1 ≤ sizeLine; decide, fun a8 H8 n8 S8 h8 => ⟨_, rfl, _, rfl, _, rfl, _, _, rfl, rfl, _, _, rfl, rfl, _, _, rfl, rfl, RgOk.of_le (by omega) (by omega) (by omega) (by omega), fun a9 n9 => ?_⟩⟩
      have erg : rgV (n : Int) ((n : Int) + (m : Int) - 1) = ((List.range (m - 1)).map fun (i : Nat) => (n : Int) + (i : Int)).map V.int := by
        unfold rgV
        rw [List.map_map, show ((n : Int) + (m : Int) - 1 - (n : Int)).toNat = m - 1 by omega]
        rfl
      have S9 : Same H8 (upd H8 a9 (.lst (rgV (n : Int) ((n : Int) + (m : Int) - 1)))) := same_upd n9
      have h9 : (upd H8 a9 (.lst (rgV (n : Int) ((n : Int) + (m : Int) - 1)))) a9 = some (.lst (((List.range (m - 1)).map fun (i : Nat) => (n : Int) + (i : Int)).map V.int)) := by rw [upd_same, erg]
      generalize upd H8 a9 (.lst (rgV (n : Int) ((n : Int) + (m : Int) - 1))) = H9 at S9 h9
      refine ⟨a8, a9, _, _, rfl, rfl, S9 _ _ h8, h9, by rw [List.length_map, List.length_map, List.length_range, sizeLine_eq]; show 1 + (m - 1) ≤ _; omega, fun nm0 H10 n10 S10 h10 => ?_⟩
      have h10 : H10 nm0 = some (.lst ((at7 :: (List.range (m - 1)).map fun (i : Nat) => (n : Int) + (i : Int)).map V.int)) := h10
      have S710 : Same H7 H10 := (S8.trans S9).trans S10
      obtain ⟨cells4, x4, e4, _⟩ := id (hp4.same S5)
      obtain ⟨cells6, x6, e6, _⟩ := id hp6
      have hP10 : PrsL H10 l6 us := (hP6.but B7 nl6 e6).same S710
      have hT10 : PrsL H10 tl ts := (((hPt.same S5).but B6 ntl e4).but B7 ntl e6).same S710
      have hp10 := hp7.same S710
      have B10 : But p H H10 := (((B4.trans (sameBut S5)).trans B6).trans B7).trans (sameBut S710)
      obtain ⟨qs6, q61, q62⟩ := hP10
      have gl : ∀ a : Int, 0 ≤ a → a < (m : Int) → atI ((at7 :: (List.range (m - 1)).map fun (i : Nat) => (n : Int) + (i : Int)).map V.int) a = some (.int (glN n at7 a)) := fun a a0 a1 => by
        have hlen : ((at7 :: (List.range (m - 1)).map fun (i : Nat) => (n : Int) + (i : Int)).length : Int) = (m : Int) := by
          rw [List.length_cons, List.length_map, List.length_range]
          omega
        rw [atI_map a0 (by rw [hlen]; exact a1)]
        have e : (at7 :: (List.range (m - 1)).map fun (i : Nat) => (n : Int) + (i : Int)).getD a.toNat 0 = glN n at7 a := by
          unfold glN
          rcases Int.lt_or_le 0 a with z | z
          · obtain ⟨j, hj⟩ : ∃ j : Nat, a.toNat = j + 1 := ⟨a.toNat - 1, by omega⟩
            rw [hj, List.getD_cons_succ, List.getD_eq_getElem?_getD, List.getElem?_map, List.getElem?_range (by omega), if_neg (by omega)]
            show (n : Int) + (j : Int) = _
            omega
          · have z0 : a = 0 := by omega
            subst z0
            rfl
        rw [e]
      -- ties
      refine ⟨_, rfl, _, rfl, l6, rfl, ⟨_, SqL.of q61⟩, fun D hD => lc_list (K := K) (a := l6) (xs := qs6.map V.ref) (fun i H' => Same H10 H' ∧ ∃ rs : List Addr, H' D = some (.lst (rs.map V.ref)) ∧ PrsAt H' rs ((us.take i).map (glT n at7))) ⟨same_upd hD, [], upd_same, PrsAt.nil⟩ (fun i H' _ ⟨S, _⟩ => SqL.of (S _ _ q61)) ?_ ?_⟩
      · rintro j y1 H11 hj ⟨S, rs, hd, hr⟩
        obtain ⟨qd, hqi, rfl⟩ := getMapA hj
        have hjl : j < us.length := by
          rw [← q62.1]
          exact (List.getElem?_eq_some_iff.mp hqi).1
        have htj : us[j]? = some us[j] := List.getElem?_eq_getElem hjl
        generalize us[j] = tt at htj
        obtain ⟨a, b⟩ := tt
        have hqd := q62.2 j qd a b hqi htj
        obtain ⟨a0, a1, b0, b1, _⟩ := g6.inn _ (List.mem_of_getElem? htj)
        have hn11 := S _ _ h10
        refine ⟨qd, _, rfl, .inl (.inl (S _ _ hqd)), rfl, _, _, rfl, _, _, rfl, rfl, rfl, ?_⟩
        refine ⟨_, rfl, _, rfl, nm0, _, _, _, rfl, rfl, SqL.of hn11, gl a a0 a1, _, rfl, _, rfl, nm0, _, _, _, rfl, rfl, SqL.of hn11, gl b b0 b1, ?_⟩
        refine ⟨by show 2 ≤ sizeLine; decide, fun tq H12 n12 S12 h12 => ⟨rs.map V.ref, S12 _ _ hd, ?_, fun c1 o hc => ?_, rs ++ [tq], ?_, ?_⟩⟩
        · rw [List.length_map, hr.1, List.length_map, List.length_take, sizeLine_eq]
          omega
        · rw [upd_ne (ne_of_none hc hD)]
          exact S12 _ _ (S _ _ hc)
        · rw [upd_same, List.map_append]
          rfl
        · have et : (us.take (j + 1)).map (glT n at7) = (us.take j).map (glT n at7) ++ [glT n at7 (a, b)] := by
            rw [take_more htj, List.map_append]
            rfl
          rw [et]
          have keep : ∀ u xs, H12 u = some (.tup xs) → (upd H12 D (.lst (rs.map V.ref ++ [V.ref tq]))) u = some (.tup xs) := fun u xs e => by
            have hd2 := S12 _ _ hd
            rw [upd_ne (fun z => by
              rw [z, hd2] at e
              cases e)]
            exact e
          refine PrsAt.app (hr.mono fun u xs e => keep u xs (S12 _ _ e)) ⟨rfl, fun j2 u c1 d1 e1 e2 => ?_⟩
          have j0 : j2 = 0 := by
            have z := (List.getElem?_eq_some_iff.mp e1).1
            rw [List.length_singleton] at z
            omega
          subst j0
          cases e1
          cases e2
          exact keep _ _ h12
      rintro H11 ⟨S11, rs, hd, hr⟩
      have en : us.take (qs6.map V.ref).length = us := List.take_of_length_le (by rw [List.length_map, q62.1]; exact Nat.le_refl _)
      rw [en] at hr
      obtain ⟨qs4, q41, q42⟩ := hT10.same S11
      refine ⟨tl, D, _, _, rfl, rfl, q41, hd, by rw [List.length_map, List.length_map, q42.1, hr.1, List.length_map, sizeLine_eq]; omega, fun nt H12 n12 S12 h12 => ?_⟩
      have e12 : (n : Int) + (m : Int) - 1 = ((n + m - 1 : Nat) : Int) := by omega
      refine ⟨_, rfl, _, rfl, _, _, rfl, rfl, _, _, rfl, rfl, _, _, rfl, nt, n + m - 1, ts ++ us.map (glT n at7), k7, ⟨some (.int (0 + (i : Nat))), some (.ref l6), some (.int (m : Int)), some (.int at7), some (.ref nm0), by rw [← e12]; rfl⟩, (B10.trans (sameBut S11)).trans (sameBut S12), ((hp10.same S11).new n12).1.symm, ⟨qs4 ++ rs, by rw [h12, List.map_append], ?_⟩, glue_good g g6 t0 t1 (by omega), by omega, by omega, ?_, by omega, (hp10.same S11).same S12⟩
      · exact (q42.mono fun q xs e => S12 _ _ e).app (hr.mono fun q xs e => S12 _ _ e)
      · rw [List.length_append, List.length_map]
        omega
    · rintro σ H4 ⟨tl, n, ts, k4, ⟨u, v, x, y, z, rfl⟩, B4, ntl, hPt, g, n2, nm, hts, hk4, hp4⟩
      have ht : turns.toNat ≤ 3 := by omega
      refine ⟨_, rfl, _, rfl, _, rfl, _, rfl, p, c, k4, n, rfl, hp4, by omega, by omega, fun nl H5 ns k5 B5 nnl hnl hns hk5 hp5 => ?_⟩
      obtain ⟨cells4, x4, e4, _⟩ := id hp4
      obtain ⟨hnlen, _, _, _⟩ := upto_get hns
      refine ⟨tl, nl, ts, ns, rfl, hPt.but B5 ntl e4, hnl, by omega, fun t ht => ?_, fun t us H6 S6 hperm hasc hT => ?_⟩
      · obtain ⟨a, b, c1, d, _⟩ := g.inn t ht
        rw [hnlen]
        exact ⟨a, b, c1, d⟩
      · obtain ⟨gu, hlt⟩ := named_good g hns hperm
        refine ⟨by show 2 ≤ sizeLine; decide, fun r H7 n7 S7 h7 => ?_⟩
        have nr : H r = none := by
          cases e : H r with
          | none => rfl
          | some o =>
            have np : r ≠ p := ((hp5.same S6).new n7).1.symm
            have z := S6 _ _ (B5 _ _ np (B4 _ _ np e))
            rw [n7] at z
            cases z
        obtain ⟨qs, q1, q2⟩ := hT
        have hul : us.length = ts.length := by rw [hperm.length_eq, List.length_map]
        refine q r H7 n us k5 ((B4.trans B5).trans (sameBut (S6.trans S7))) nr ⟨t, h7, qs, S7 _ _ q1, q2.mono fun u xs e => S7 _ _ e⟩ gu hlt hasc n2 nm (by omega) (by omega) (hp5.same (S6.trans S7))
end
end Sb

/-! ## S65 -/
/-! set(xs) of a list of whole numbers, as a set that is known from then on. -/
namespace Sb
open PySem PySem.Spec PyProof.Rows L2
/-- an empty set, as a call of set lays it -/
abbrev bareSet (w : World) : Obj := { cls := .type "set", dict := none, data := .set #[] 0 (.fresh 0 0 (!w.params.followText "set-order")) }

section
variable {P : Program} {w : World} {A : Around} {E : Value → Shared → Prop} {s : Shared}
theorem set_of_list {l : Addr} {vs : List Value} {ns : List Int} {Q : Value → Shared → Prop} (hh : A.handled = none) (hl : s.heap.IsList l vs.toArray) (hi : IntsAre vs ns) (hb : ns.length + 1 < scanBound)
    (q : ∀ h2 tk c, SetR w h2 s.heap.objs.size (fun j => decide (j ∈ ns)) c → c ≤ ns.length → (∀ b o, s.heap.get? b = some o → h2.get? b = some o) → Q (.ref s.heap.objs.size) { s with heap := h2, toks := tk }) :
    wpAny (model P w) A (call (.type "set") [.ref l]) Q E s := by
  have len : vs.toArray.size = ns.length := by rw [List.size_toArray, hi.length]
  have at_ : (s.heap.push (bareSet w)).get? s.heap.objs.size = some (bareSet w) := Heap.get?_push_size _ rfl
  have ll : l < s.heap.objs.size := by
    obtain ⟨o, e, _⟩ := hl
    exact Heap.lt_size e
  -- the type is called: laid, then filled
  have F0 := F.called_set
  obtain ⟨c0, tl, hmro⟩ := F0.mro
  have hmade := F0.made
  have hsub := F0.sub
  have hnt := F0.notType
  have hcc := F0.canCreate
  have hct := F.typeCall_set_1 (.ref l)
  refine wpAny_call (codeAny_of_tree (show wpAny _ _ (callAny (.type "set") _) _ _ _ from wpAny_pure ⟨Code.quiet_builtin _ (by decide +kernel), codeAny_builtin F.entry_type_call ?_⟩))
  rw [Around.under_plain (weight_type_call_type "set" [.ref l] []) rfl]
  all_goals repeat (any_goals first | assumption | wp_step)
  refine codeAny_mono (code_set_led1 (.ref l) (E := E) (Q₁ := fun o s1 => o = .ref s.heap.objs.size ∧ s1 = { s with heap := s.heap.push (bareSet w) }) ⟨rfl, rfl⟩) fun r s1 hs => ?_
  rcases r with e | fl
  · exact hs
  cases fl with
  | next => exact hs.elim
  | brk => exact hs.elim
  | cont => exact hs.elim
  | ret o =>
  obtain ⟨rfl, rfl⟩ := hs
  have tt : Shared.TypeIs { s with heap := s.heap.push (bareSet w) } (.ref s.heap.objs.size) "set" := ⟨_, at_, rfl⟩
  have lk := F0.init.lookup
  have bd := F0.init.bind (.ref s.heap.objs.size)
  all_goals repeat (any_goals first | assumption | wp_step)
  let Done : Shared → Prop := fun s2 => ∃ h2 tk c, s2 = { s with heap := h2, toks := tk } ∧ SetR w h2 s.heap.objs.size (fun j => decide (j ∈ ns)) c ∧ c ≤ ns.length ∧ ∀ b o, s.heap.get? b = some o → h2.get? b = some o
  refine codeAny_mono (codeAny_call_builtin (R := wants (fun r s2 => r = .none ∧ Done s2) E) F0.init.plain F.entry_set_init (check_set_init_1 tt ?_)) fun r s2 hs => ?_
  rotate_left
  · rcases r with e | fl
    · exact hs
    cases fl with
    | next => exact hs.elim
    | brk => exact hs.elim
    | cont => exact hs.elim
    | ret o =>
      obtain ⟨rfl, h2, tk, c, rfl, R, hc, kp⟩ := hs
      all_goals repeat (any_goals first | assumption | wp_step)
      exact q _ _ _ R hc kp
  have hl1 : (s.heap.push (bareSet w)).IsList l vs.toArray := hl.push _
  obtain ⟨⟨ocls, odict, odata, oslots⟩, hol', hcl, nl, hdl⟩ := id hl1
  simp only at hcl hdl
  subst hcl hdl
  have n1 := F.sub_list_set
  have n2 := F.sub_list_frozenset
  have n3 : (Value.type "list" == Value.type "dict") = false := by decide
  have hS := at_
  unfold Builtin.«set.__init__» noKeywords Builtin.Frozenset.updateFrom
  generalize hPI : pyIter = PI
  wp_walk
  subst hPI
  refine wpAny_pyIter_list hl1 (wpAny_bind (wpAny_runValue ?_))
  let h1 := s.heap.push (bareSet w)
  have z1 : h1.objs.size = s.heap.objs.size + 1 := Heap.size_push ..
  have nI : l ≠ h1.objs.size := fun z => Nat.ne_of_lt (Nat.lt_succ_of_lt ll) (z.trans z1)
  have nS : s.heap.objs.size ∉ [h1.objs.size, l] := fun z => by
    rcases List.mem_cons.mp z with z | z
    · exact Nat.ne_of_lt (Nat.lt_succ_self s.heap.objs.size) (z.trans z1)
    · exact Nat.ne_of_gt ll (List.mem_singleton.mp z)
  have vals : ∀ (i : Nat) (v : Value), vs.toArray[i]? = some v → ∃ k t, ns[i]? = some k ∧ v = Value.int k t := fun i v hv => by
    have hv2 : vs[i]? = some v := by simpa using hv
    have hlen := hi.length
    have hlt : i < ns.length := by
      have := (List.getElem?_eq_some_iff.mp hv2).1
      omega
    obtain ⟨t, ht⟩ := hi.get i _ (List.getElem?_eq_getElem hlt)
    rw [hv2] at ht
    exact ⟨_, t, List.getElem?_eq_getElem hlt, Option.some.inj ht⟩
  have st0 := setR_new_at (w := w) (ns := ns) (Heap.get?_push_of_some { cls := .type "list_iterator", data := .fields #[.ref l, .int 0 0] } at_)
  refine set_update_ints ((Walks.list (prog := P) (w := w) (A := A.in1.in1.in1) (by simp [hh]) _ l nI vs.toArray).toS) _ nS ns len hb vals (vs.toArray.size - 0) 0 _ (by omega) (Nat.zero_le _) ⟨⟨_, Heap.get?_push_size _ rfl, rfl, rfl⟩, hl1.push _⟩ ⟨0, Nat.le_refl 0, st0⟩ ?_
  rintro ⟨h2, g2, e2, tk2, o2⟩ c hm hc R
  obtain rfl : g2 = s.gens := hm.gens
  obtain rfl : e2 = s.drawn := hm.drawn
  obtain rfl : o2 = s.os := hm.os
  refine wpAny_pure (show wpAny _ _ (ret Value.none) _ _ _ from wpAny_pure ⟨rfl, h2, tk2, c, rfl, R, by omega, fun b o e => ?_⟩)
  have lb := Heap.lt_size e
  refine hm.heap b o (fun z => ?_) (Heap.get?_push_of_some _ (Heap.get?_push_of_some _ e))
  rcases List.mem_cons.mp z with z | z
  · exact Nat.ne_of_lt lb z
  · exact Nat.ne_of_lt (Nat.lt_succ_of_lt lb) ((List.mem_singleton.mp z).trans z1)
end
section
variable {X : Cx}
/-- set(xs), xs a list of whole numbers -/
def rSetL (K : PySem.W.Frag) (w : World) : List V → Hp → VK → Prop := fun vs H Q => ∃ (l : Addr) (ns : List Int), vs = [.ref l] ∧ SqL K H l (ns.map V.int) ∧ ns.length ≤ 4000 ∧ ∀ p c H2, H p = none → (∀ b u, H b = some u → H2 b = some u) → H2 p = some (SetO w p (fun j => decide (j ∈ ns)) c) → c ≤ ns.length → Q (.ref p) H2
theorem cr_setL (hc : X.calm = true) : CallR X (.type "set") (rSetL X.K X.w) := by
  intro pins s σ H vs us Q I r h
  obtain ⟨l, ns, rfl, hs, hl, q⟩ := h
  obtain rfl := Vals.ref1 r
  obtain ⟨its, rv, pl, _⟩ := I.list hs
  refine set_of_list (I.ok.hd hc) pl.isList rv.ints (by unfold scanBound; omega) fun h2 tk c R hcn kp => ?_
  have I2 : Inv X pins σ (upd H s.heap.objs.size (SetO X.w s.heap.objs.size (fun j => decide (j ∈ ns)) c)) { s with heap := h2, toks := tk } := I.laid (t' := tk) kp (Nat.le_refl _) (setO_new R)
  have n0 : H s.heap.objs.size = none := I.hok.fresh (Nat.le_refl _)
  exact ⟨.ref _, _, I2, rfl, q _ c _ n0 (fun b u e => by rw [upd_ne (ne_of_none e n0)]; exact e) upd_same hcn⟩
end
end Sb

/-! ## TU -/
/-! Tuples of whole numbers: index, count, set. -/
namespace Sb
open PySem PySem.Spec PyProof.Rows L2
theorem inV_ints {g : Int} {J : List Int} : inV (.int g) (J.map V.int) = decide (g ∈ J) := by
  unfold inV
  rw [List.any_map]
  refine Bool.eq_iff_iff.mpr ⟨fun h => ?_, fun h => ?_⟩
  · obtain ⟨j, hj, e⟩ := List.any_eq_true.mp h
    have e : (j == g) = true := e
    exact decide_eq_true (beq_iff_eq.mp e ▸ hj)
  · exact List.any_eq_true.mpr ⟨g, of_decide_eq_true h, show (g == g) = true from beq_iff_eq.mpr rfl⟩
theorem flat_ints : ∀ {J : List Int}, (J.map V.int).all flatV = true
  | [] => rfl
  | _ :: J => by
    rw [List.map_cons, List.all_cons, flat_ints]
    rfl
section
variable {X : Cx}
/-- t.count(k) -/
def rCntT (K : PySem.W.Frag) : V → List V → Hp → VK → Prop := fun x xs H Q => ∃ (p : Addr) (ns : List Int) (k : Int), x = .ref p ∧ xs = [.int k] ∧ SqT K H p (ns.map V.int) ∧ Q (.int (ns.count k : Nat)) H
theorem mt_tcount : MtR X "tuple.count" (rCntT X.K) := by
  intro pins s σ H x xs v us Q I rx rxs h
  obtain ⟨p, ns, k, rfl, rfl, hs, q⟩ := h
  cases rx
  obtain ⟨u, rfl, ru⟩ := rxs.one
  obtain ⟨t, rfl⟩ := ru
  obtain ⟨its, rv, pl, hz⟩ := I.tuple hs
  obtain ⟨⟨cls, dd, dt, sl⟩, ho, hc, n, hd⟩ := pl
  simp only at hc hd
  subst hc hd
  have hi := rv.ints
  refine call_meets PySem.F.slot_tuple_count ⟨_, ho, rfl⟩ PySem.F.entry_tuple_count (PySem.F.args_tuple_count_2 _ _)
    (SeqAt.tuple_countAt p its.toArray n dd sl (.int k t) (eqk k)) ⟨ho, fun y hy => (eqk_gives hi y (by simpa using hy)).at _ _, ?_⟩
  have ec : its.toArray.toList.countP (eqk k) = ns.count k := eqk_count hi
  refine ⟨.int (ns.count k : Nat), H, I.tok _, ⟨s.toks, ?_⟩, q⟩
  show Value.int ((its.toArray.toList.countP (eqk k) : Nat) : Int) s.toks = Value.int ((ns.count k : Nat) : Int) s.toks
  rw [ec]
/-- t.index(k), the first place -/
def rIxTI (K : PySem.W.Frag) : V → List V → Hp → VK → Prop := fun x xs H Q => ∃ (p : Addr) (ns : List Int) (k : Int) (j : Nat), x = .ref p ∧ xs = [.int k] ∧ SqT K H p (ns.map V.int) ∧ ns[j]? = some k ∧ (∀ m : Nat, m < j → ns[m]? ≠ some k) ∧ Q (.int (j : Nat)) H
theorem mt_tindex : MtR X "tuple.index" (rIxTI X.K) := by
  intro pins s σ H x xs v us Q I rx rxs h
  obtain ⟨p, ns, k, j, rfl, rfl, hs, hj, hno, q⟩ := h
  cases rx
  obtain ⟨u, rfl, ru⟩ := rxs.one
  obtain ⟨t, rfl⟩ := ru
  obtain ⟨its, rv, pl, hz⟩ := I.tuple hs
  obtain ⟨⟨cls, dd, dt, sl⟩, ho, hc, n, hd⟩ := pl
  simp only at hc hd
  subst hc hd
  have hi := rv.ints
  have hl : its.length = ns.length := hi.length
  have hjl : j < its.toArray.size := by
    rw [List.size_toArray, hl]
    exact (List.getElem?_eq_some_iff.mp hj).1
  have at' : ∀ (m : Nat) (hm : m < its.toArray.size), ∃ y, ns[m]? = some y ∧ eqk k its.toArray[m] = (y == k) := fun m hm => by
    have hm' : m < ns.length := by
      rw [List.size_toArray, hl] at hm
      exact hm
    obtain ⟨t', ht⟩ := hi.get m _ (List.getElem?_eq_getElem hm')
    refine ⟨ns[m], List.getElem?_eq_getElem hm', ?_⟩
    have e := (List.getElem?_eq_some_iff.mp ht).2
    rw [show its.toArray[m] = its[m]'(by omega) by simp, e]
    rfl
  refine call_meets PySem.F.slot_tuple_index ⟨_, ho, rfl⟩ PySem.F.entry_tuple_index (PySem.F.args_tuple_index_2 _ _) (TI.tuple_indexAt p its.toArray n dd sl (.int k t) (eqk k) j hjl ?_ ?_)
    ⟨ho, fun y hy => (eqk_gives hi y (by simpa using hy)).at _ _, ⟨.int (j : Nat), H, I.tok _, ⟨_, rfl⟩, q⟩⟩
  · obtain ⟨y, h1, h2⟩ := at' j hjl
    rw [hj] at h1
    cases h1
    rw [h2]
    exact beq_self_eq_true k
  · intro m hm hmj
    obtain ⟨y, h1, h2⟩ := at' m hm
    rw [h2]
    exact beq_eq_false_iff_ne.mpr fun e => hno m hmj (e ▸ h1)
/-- set(t), t a tuple of whole numbers -/
def rSetT (K : PySem.W.Frag) (w : World) : List V → Hp → VK → Prop := fun vs H Q => ∃ (l : Addr) (ns : List Int), vs = [.ref l] ∧ SqT K H l (ns.map V.int) ∧ ns.length ≤ 4000 ∧ ∀ p c H2, H p = none → (∀ b u, H b = some u → H2 b = some u) → H2 p = some (SetO w p (fun j => decide (j ∈ ns)) c) → c ≤ ns.length → Q (.ref p) H2
theorem cr_setT (hc : X.calm = true) : CallR X (.type "set") (rSetT X.K X.w) := by
  intro pins s σ H vs us Q I r h
  obtain ⟨l, ns, rfl, hs, hl, q⟩ := h
  obtain rfl := Vals.ref1 r
  obtain ⟨its, rv, pl, _⟩ := I.tuple hs
  refine call_set_tupI ns (I.ok.hd hc) (show s.heap.IsTuple l its.toArray from pl) (by simpa using rv.ints) (by unfold scanBound; omega) fun h2 tk c R hcn kp => ?_
  have I2 : Inv X pins σ (upd H s.heap.objs.size (SetO X.w s.heap.objs.size (fun j => decide (j ∈ ns)) c)) { s with heap := h2, toks := tk } := I.laid (t' := tk) kp (Nat.le_refl _) (setO_new R)
  have n0 : H s.heap.objs.size = none := I.hok.fresh (Nat.le_refl _)
  exact ⟨.ref _, _, I2, rfl, q _ c _ n0 (fun b u e => by rw [upd_ne (ne_of_none e n0)]; exact e) upd_same hcn⟩
end
/-! ### len of a set of whole numbers -/
def rLenS (w : World) : List V → Hp → VK → Prop := fun xs H Q => ∃ (a : Addr) (S : Int → Bool) (c : Nat), xs = [.ref a] ∧ H a = some (SetO w a S c) ∧ c < scanBound ∧ ((∃ ks : List Int, ks.Nodup ∧ (∀ k, S k = true ↔ k ∈ ks) ∧ ks.length = c) → Q (.int (c : Nat)) H)
theorem cr_lenS {X : Cx} : CallR X (.builtin "len") (rLenS X.w) := by
  intro pins s σ H xs us Q I r h
  obtain ⟨a, S, c, rfl, ha, hc, q⟩ := h
  obtain rfl := Vals.ref1 r
  obtain ⟨o, es, ep, t, ho, hex, hd, g, nd, hm, hb, hf, hn, _⟩ := setO_get I ha
  refine call_len_set ho hex hd hf (by rw [hn]; unfold scanBound at hc; omega) ⟨.int c, H, I.tok _, ⟨_, by rw [hn]⟩, q ⟨es.toList.map keyOf, nd, hm, by rw [List.length_map, Array.length_toList]; exact hn⟩⟩
end Sb

/-! ## BK0 -/
/-! A tuple turned about by a slice; things that are small. -/
namespace Sb
open PySem PySem.Spec PyProof.Rows L2
section
variable {prog : Program} {w : World} {A : Around} {E : Value → Shared → Prop} {s : Shared}
theorem fm_congr {α β : Type} {f g : α → Option β} : ∀ l : List α, (∀ x ∈ l, f x = g x) → l.filterMap f = l.filterMap g
  | [], _ => rfl
  | x :: l, h => by rw [List.filterMap_cons, List.filterMap_cons, h x List.mem_cons_self, fm_congr l fun y hy => h y (List.mem_cons_of_mem _ hy)]
theorem back_pick (n : Nat) (xs : Array Value) (hn : xs.size = n) : ((List.range n).filterMap fun (k : Nat) => xs[((n : Int) - 1 + (k : Int) * (-1)).toNat]?).toArray = xs.toList.reverse.toArray := by
  have h1 : ((List.range n).filterMap fun (k : Nat) => xs[((n : Int) - 1 + (k : Int) * (-1)).toNat]?) = ((List.range n).map fun k => n - 1 - k).filterMap (xs[·]?) := by
    rw [List.filterMap_map]
    refine fm_congr _ fun k hk => ?_
    have hk := List.mem_range.mp hk
    show xs[((n : Int) - 1 + (k : Int) * (-1)).toNat]? = xs[n - 1 - k]?
    have e : ((n : Int) - 1 + (k : Int) * (-1)).toNat = n - 1 - k := by omega
    rw [e]
  rw [h1, PySem.W.krv_range, List.filterMap_reverse, ← hn, PySem.W.krv_all]
theorem back_parts {sl : Addr} {vs : Value} {n : Nat} {Q : Int × Int × Nat → Shared → Prop} (hsl : s.heap.IsSliceOf sl .none .none vs) (ps : IsPart vs (some (-1))) (h : Q ((n : Int) - 1, -1, n) s) :
    wpAny (model prog w) A (Builtin.Slice.sliceApplied (.ref sl) (pure (n : Int))) Q E s := by
  obtain ⟨ob, hob, hcl, hdt⟩ := id hsl
  unfold Builtin.Slice.sliceApplied Builtin.Slice.sliceFields
  refine wpAny_bind (wpAny_bind (wpAny_field hob hdt (x := .none) rfl (wpAny_bind (wpAny_field hob hdt (x := .none) rfl (wpAny_bind (wpAny_field hob hdt (x := vs) rfl (wpAny_pure ?_)))))))
  cases ps with
  | int _ t =>
    refine wpAny_bind (slicePart_int ?_)
    show wpAny _ _ (if ((-1 : Int) == 0) = true then _ else _) _ _ s
    rw [if_neg (by decide : ¬ ((-1 : Int) == 0) = true)]
    refine wpAny_bind (slicePart_none (wpAny_bind (slicePart_none (wpAny_bind (wpAny_pure ?_)))))
    have e : Builtin.Slice.sliceAdjust none none (-1) (n : Int) = ((n : Int) - 1, -1) := rfl
    have e2 : Builtin.Slice.slicePlaces ((n : Int) - 1) (-1) (-1) = n := by
      unfold Builtin.Slice.slicePlaces
      rw [if_neg (by decide : ¬ (-1 : Int) > 0)]
      by_cases hn : (n : Int) - 1 > -1
      · rw [if_pos hn, show (- -1 : Int) = 1 by decide, Int.ediv_one]
        omega
      · rw [if_neg hn]
        omega
    show wpAny _ _ (match Builtin.Slice.sliceAdjust none none (-1) (n : Int) with | (a, b) => pure (a, (-1 : Int), Builtin.Slice.slicePlaces a b (-1))) _ _ s
    rw [e]
    show wpAny _ _ (pure ((n : Int) - 1, (-1 : Int), Builtin.Slice.slicePlaces ((n : Int) - 1) (-1) (-1))) _ _ s
    rw [e2]
    exact wpAny_pure h
theorem back_tuple {t sl : Addr} {its : Array Value} {vs : Value} {Q : Value → Shared → Prop} (hT : IsTup s.heap t its) (hsl : s.heap.IsSliceOf sl .none .none vs) (ps : IsPart vs (some (-1)))
    (h : Q (.ref s.heap.objs.size) { s with heap := s.heap.push { cls := .type "tuple", data := .seq its.toList.reverse.toArray } }) (hz : its.size ≤ sizeLine) : wpAny (model prog w) A (getItem (.ref t) (.ref sl)) Q E s := by
  have hsz : sizeOk (.seq its.toList.reverse.toArray) := by
    show its.toList.reverse.toArray.size ≤ sizeLine
    rw [List.size_toArray, List.length_reverse, Array.length_toList]
    exact hz
  obtain ⟨ob, hob, hcl, hdt⟩ := id hsl
  have hSl : s.TypeIs (.ref sl) "slice" := ⟨ob, hob, hcl⟩
  unfold getItem
  try with_reducible refine wpAny_holding ?_
  first | refine wpAny_bind (wpAny_pure ?_) | skip
  refine wpAny_bind (wpAny_sequenceKey hT.typeIs (by decide) (wpAny_bind (wpAny_callSpecial?_slot (name := Str.ofString "__getitem__") hT.typeIs PyProof.Rows.slot_tuple_getitem (wpAny_call_entry PyProof.Rows.slot_tuple_getitem hT.typeIs entry_tuple_getitem ?_ (args_tuple_getitem _ _)))))
  show wpAny _ _ (Builtin.Tuple.tupleItemsOf (.ref t) >>= _) _ _ s
  refine wpAny_bind (tupleItemsOf_ hT (wpAny_bind (wpAny_typeOf hSl ?_)))
  rw [if_pos (by decide)]
  refine wpAny_bind (back_parts hsl ps ?_)
  have hno : ¬ ((((its.size : Int) - 1) == 0 && (-1 : Int) == 1 && its.size == its.size) = true) := by
    rw [show ((-1 : Int) == 1) = false by decide, Bool.and_false, Bool.false_and]
    exact Bool.false_ne_true
  show wpAny _ _ (if ((((its.size : Int) - 1) == 0 && (-1 : Int) == 1 && its.size == its.size) = true) then _ else _) _ _ s
  rw [if_neg hno, back_pick its.size its rfl]
  first
    | exact wpAny_bind (m := Builtin.Tuple.tupleExact _) (wpAny_newObj_type (wpAny_pure ⟨_, rfl, wpAny_pure h⟩) hsz)
    | exact wpAny_bind (m := Builtin.Tuple.tupleExact _) (wpAny_newObj_type (wpAny_bind (wpAny_pure (wpAny_pure ⟨_, rfl, wpAny_pure h⟩))) hsz)
    | exact wpAny_bind (wpAny_bind (m := Builtin.Tuple.tupleExact _) (wpAny_newObj_type (wpAny_pure (wpAny_pure ⟨_, rfl, wpAny_pure h⟩)) hsz))
    | exact wpAny_bind (wpAny_bind (m := Builtin.Tuple.tupleExact _) (wpAny_newObj_type (wpAny_pure ⟨_, rfl, wpAny_pure h⟩) hsz))
end
section
variable {X : Cx}
def tBackT (te : TE) : TE := fun σ H Q => te σ H fun x H1 => ∃ a xs, x = .ref a ∧ H1 a = some (.tup xs) ∧ ∀ b, H1 b = none → Q (.ref b) (upd H1 b (.tup xs.reverse))
theorem pe_backT {e : Expr} {te : TE} {k : Nat} {p1 p2 p3 pos : Pos} (he : PE X e te) : PE X (.Subscript e (.Slice none none (some (.UnaryOp .USub (.Constant (.int 1) k p1) p2)) p3) pos) (tBackT te) := by
  refine ⟨fun pins s σ H Q I h => Subscript_ (thn (he.run pins s σ H _ I h) fun v s1 ⟨x, H1, I1, r1, a, xs, ex, hx, q⟩ => ?_)⟩
  subst ex
  cases r1
  have hst : PO X (some (.UnaryOp .USub (.Constant (.int 1) k p1) p2)) (tPart (tUn (rU fun i => .int (-i)) (tC (.int 1)))) := po_some (pe_un un_neg pe_int)
  refine wpAny_Slice (thn (po_none.run pins s1 σ H1 (fun o H2 => o = none ∧ H2 = H1) I1 ⟨rfl, rfl⟩) fun vl s2 ⟨l, H2, I2, pl, el, e2⟩ => ?_)
  subst el e2
  cases pl
  refine thn (po_none.run pins s2 σ H2 (fun o H3 => o = none ∧ H3 = H2) I2 ⟨rfl, rfl⟩) fun vu s3 ⟨u, H3, I3, pu, eu, e3⟩ => ?_
  subst eu e3
  cases pu
  refine thn (hst.run pins s3 σ H3 (fun o H4 => o = some (-1) ∧ H4 = H3) I3 ⟨1, rfl, -1, rfl, rfl, rfl⟩) fun vst s4 ⟨o, H4, I4, pst, eo, e4⟩ => ?_
  subst eo e4
  have J : Inv X pins σ H4 { s4 with heap := s4.heap.push { cls := .type "slice", data := .fields #[.none, .none, vst] } } := I4.kept (t' := s4.toks) fun b ob q => Heap.get?_push_of_some _ q
  obtain ⟨its, r, hT, hz⟩ := J.tuple (SqT.of (K := X.K) hx)
  show wpAny (model X.prog X.w) X.A (subscriptTail e (.Slice none none (some (.UnaryOp .USub (.Constant (.int 1) k p1) p2)) p3) (.ref a) (.ref s4.heap.objs.size)) (EP X pins σ Q) X.xe { s4 with heap := s4.heap.push { cls := .type "slice", data := .fields #[.none, .none, vst] } }
  refine tail_any (ops := [.ref a, .ref s4.heap.objs.size]) hT.typeIs PyProof.Rows.slot_tuple_getitem.lookup ?_ (by with_unfolding_all rfl)
  have hl := r.length
  refine back_tuple hT (Heap.IsSliceOf.new _ .none .none vst) pst ?_ (by rw [List.size_toArray, ← hl]; exact hz)
  refine ⟨.ref _, _, J.laid (t' := s4.toks) (o := .tup xs.reverse) (fun b ob q => Heap.get?_push_of_some _ q) (Nat.le_refl _) ?_, rfl, q _ (J.hok.fresh (Nat.le_refl _))⟩
  exact ⟨by rw [List.length_reverse]; exact hz, _, r.reverse, IsTup.new _ _⟩
end
end Sb

/-! ## TZ -/
/-! Tuples that surely have no dict of their own: their methods can be called. -/
namespace Sb
open PySem PySem.Spec PyProof.Rows L2
/-- a tuple, and that it has no dict -/
def TupZ (H : Hp) (a : Addr) (xs : List V) : Prop := ∃ o : Obj, o.dict = none ∧ H a = some (.frz o (.tup xs))
theorem TupZ.rd {H : Hp} {a : Addr} {xs : List V} (h : TupZ H a xs) : Rd H a (.tup xs) := let ⟨o, _, e⟩ := h; .inr ⟨o, e⟩
theorem TupZ.sq {K : PySem.W.Frag} {H : Hp} {a : Addr} {xs : List V} (h : TupZ H a xs) : SqT K H a xs := .inl h.rd
theorem TupZ.same {H H' : Hp} {a : Addr} {xs : List V} (h : TupZ H a xs) (k : Same H H') : TupZ H' a xs := let ⟨o, d, e⟩ := h; ⟨o, d, k _ _ e⟩
theorem TupZ.inj {H : Hp} {a : Addr} {xs ys : List V} (h : TupZ H a xs) (g : TupZ H a ys) : xs = ys := by
  obtain ⟨o, _, e⟩ := h
  obtain ⟨o', _, e'⟩ := g
  rw [e] at e'
  injection e' with e'
  injection e' with _ e'
  injection e' with e'
abbrev zOb (its : List Value) : Obj := { cls := .type "tuple", data := .seq its.toArray }
/-- a new one -/
abbrev NewZ (H : Hp) (xs : List V) (Q : VK) : Prop := ∀ p H', H p = none → Same H H' → TupZ H' p xs → Q (.ref p) H'
section
variable {X : Cx}
theorem NewZ.go {H : Hp} {xs : List V} {Q : VK} (q : NewZ H xs Q) {p : Addr} {o : Obj} (d : o.dict = none) (n : H p = none) : Q (.ref p) (upd H p (.frz o (.tup xs))) := q p _ n (fun c u h => by rw [upd_ne (ne_of_none h n)]; exact h) ⟨o, d, upd_same⟩
theorem laidZ {pins : List (Addr × Obj)} {σ : L2.St} {H : Hp} {s : Shared} {Q : VK} {xs : List V} {its : List Value} (I : Inv X pins σ H s) (z : xs.length ≤ sizeLine) (r : Vals xs its) (q : NewZ H xs Q) : EP X pins σ Q (.ref s.heap.objs.size) { s with heap := s.heap.push (zOb its) } := by
  have hf : H s.heap.objs.size = none := I.hok.fresh (Nat.le_refl _)
  refine ⟨.ref s.heap.objs.size, upd H s.heap.objs.size (.frz (zOb its) (.tup xs)), I.laid (t' := s.toks) (fun b u e => Heap.get?_push_of_some _ e) (Nat.le_refl _) ?_, rfl, q.go rfl hf⟩
  exact ⟨Heap.get?_push_size _ rfl, z, its, r, ⟨_, Heap.get?_push_size _ rfl, rfl, _, rfl⟩⟩
/-- (a, b) -/
def tTupZ (t : TA) : TE := fun σ H Q => t σ H fun xs H1 => xs.length ≤ sizeLine ∧ NewZ H1 xs Q
theorem pe_tupZ {es : List Expr} {t : TA} {pos : Pos} {x1} (h : PA X es t) : PE X (.Tuple es x1 pos) (tTupZ t) := by
  refine ⟨fun pins s σ H Q I hq => ?_⟩
  refine wpAny_Tuple_spliced (thn (h.run pos pins s σ H _ I hq) fun us s1 ⟨xs, H1, I1, r, z, q⟩ => ⟨by rw [← r.length]; exact z, ?_⟩)
  exact laidZ I1 z r q
/-- tuple(xs), tuple(t) -/
def rTupZ (K : PySem.W.Frag) : List V → Hp → VK → Prop := fun xs H Q => ∃ p ys, xs = [.ref p] ∧ ((SqL K H p ys ∧ NewZ H ys Q) ∨ (TupZ H p ys ∧ Q (.ref p) H))
theorem call_tuple_ofZ : CallR X (.type "tuple") (rTupZ X.K) := by
  intro pins s σ H xs us Q I r h
  obtain ⟨p, ys, rfl, h⟩ := h
  obtain ⟨u, rfl, rx⟩ := vals1 r
  cases rx
  rcases h with ⟨hq, q⟩ | ⟨hq, q⟩
  · obtain ⟨its, r', pl, hz⟩ := I.list hq
    have hlen := r'.length
    refine call_tuple_list pl.isList (fun h' kp => ?_) (by simp only [List.size_toArray] <;> omega)
    have I1 : Inv X pins σ H { s with heap := h' } := I.kept (t' := s.toks) kp
    exact laidZ I1 hz r' q
  · obtain ⟨its, r', pl, hz⟩ := I.tuple (hq.sq (K := X.K))
    exact call_tuple_same pl ⟨.ref p, H, I, rfl, q⟩
/-- t[lo:hi] -/
def rSlZ : V → Option Int → Option Int → Hp → VK → Prop := fun x lo hi H Q => ∃ a xs, x = .ref a ∧ TupZ H a xs ∧ ∀ p H', Same H H' → TupZ H' p (cutV xs lo hi) → Q (.ref p) H'
theorem sl_tupZ : SlR X rSlZ := by
  intro pins s σ H x v vl vu lo hi sl Q I rx hs pl pu h
  obtain ⟨a, xs, rfl, hx, q⟩ := h
  cases rx
  obtain ⟨its, r, ht, hz⟩ := I.tuple (hx.sq (K := X.K))
  have hlen : its.toArray.size = xs.length := by rw [List.size_toArray]; exact r.length.symm
  refine ⟨"tuple", _, PyProof.Rows.slot_tuple_getitem.lookup, ht.typeIs, ?_⟩
  by_cases hw : HT.sIx xs.length 0 lo = 0 ∧ HT.sIx xs.length xs.length hi = xs.length
  · refine getItem_tuple_whole ht hs pl pu (by rw [hlen]; exact hw) ⟨.ref a, H, I, rfl, q a H (Same.refl H) ?_⟩
    have c : cutV xs lo hi = xs := by
      unfold cutV
      rw [hw.1, hw.2, List.drop_zero, Nat.sub_zero, List.take_length]
    rw [c]
    exact hx
  · refine HT.getItem_tuple_cut ht hs pl pu (by rw [hlen]; exact hw) ?_ (by rw [hlen]; exact hz)
    rw [hlen]
    exact laidZ I (Nat.le_trans (cutV_length xs lo hi) hz) ((r.drop (HT.sIx xs.length 0 lo)).take (HT.sIx xs.length xs.length hi - HT.sIx xs.length 0 lo)) fun p H' n S t => q p H' S t
/-- t + u -/
def rCatZ : R2 := fun x y H Q => ∃ a b xs ys, x = .ref a ∧ y = .ref b ∧ TupZ H a xs ∧ TupZ H b ys ∧ xs.length + ys.length ≤ sizeLine ∧ ∀ p H', Same H H' → TupZ H' p (xs ++ ys) → Q (.ref p) H'
theorem op_catZ : OpR X (binaryOp .Add) rCatZ := by
  intro pins s σ H x y v u Q I rx ry h
  obtain ⟨a, b, xs, ys, rfl, rfl, ha, hb, hz, q⟩ := h
  cases rx
  cases ry
  obtain ⟨its, r1, p1, _⟩ := I.tuple (ha.sq (K := X.K))
  obtain ⟨its2, r2, p2, _⟩ := I.tuple (hb.sq (K := X.K))
  by_cases hx : xs = []
  · subst hx
    cases r1
    exact cat_tup0 p1 p2 ⟨.ref b, H, I, rfl, q b H (Same.refl H) hb⟩
  · refine HT.cat_tup p1 p2 (fun z => hx (r1.nil_iff.mp z)) (fun z => ⟨.ref a, H, I, rfl, q a H (Same.refl H) ?_⟩) (fun z => ?_) (by rw [← r1.length, ← r2.length]; exact hz)
    · rw [r2.nil_iff.mp z, List.append_nil]
      exact ha
    · exact laidZ I (by rw [List.length_append]; exact hz) (r1.append r2) fun p H' n S t => q p H' S t
/-- t[::-1] -/
def tBackZ (te : TE) : TE := fun σ H Q => te σ H fun x H1 => ∃ a xs, x = .ref a ∧ TupZ H1 a xs ∧ NewZ H1 xs.reverse Q
theorem pe_backZ {e : Expr} {te : TE} {k : Nat} {p1 p2 p3 pos : Pos} (he : PE X e te) : PE X (.Subscript e (.Slice none none (some (.UnaryOp .USub (.Constant (.int 1) k p1) p2)) p3) pos) (tBackZ te) := by
  refine ⟨fun pins s σ H Q I h => Subscript_ (thn (he.run pins s σ H _ I h) fun v s1 ⟨x, H1, I1, r1, a, xs, ex, hx, q⟩ => ?_)⟩
  subst ex
  cases r1
  have hst : PO X (some (.UnaryOp .USub (.Constant (.int 1) k p1) p2)) (tPart (tUn (rU fun i => .int (-i)) (tC (.int 1)))) := po_some (pe_un un_neg pe_int)
  refine wpAny_Slice (thn (po_none.run pins s1 σ H1 (fun o H2 => o = none ∧ H2 = H1) I1 ⟨rfl, rfl⟩) fun vl s2 ⟨l, H2, I2, pl, el, e2⟩ => ?_)
  subst el e2
  cases pl
  refine thn (po_none.run pins s2 σ H2 (fun o H3 => o = none ∧ H3 = H2) I2 ⟨rfl, rfl⟩) fun vu s3 ⟨u, H3, I3, pu, eu, e3⟩ => ?_
  subst eu e3
  cases pu
  refine thn (hst.run pins s3 σ H3 (fun o H4 => o = some (-1) ∧ H4 = H3) I3 ⟨1, rfl, -1, rfl, rfl, rfl⟩) fun vst s4 ⟨o, H4, I4, pst, eo, e4⟩ => ?_
  subst eo e4
  have J : Inv X pins σ H4 { s4 with heap := s4.heap.push { cls := .type "slice", data := .fields #[.none, .none, vst] } } := I4.kept (t' := s4.toks) fun b ob q => Heap.get?_push_of_some _ q
  obtain ⟨its, r, hT, hz⟩ := J.tuple (hx.sq (K := X.K))
  show wpAny (model X.prog X.w) X.A (subscriptTail e (.Slice none none (some (.UnaryOp .USub (.Constant (.int 1) k p1) p2)) p3) (.ref a) (.ref s4.heap.objs.size)) (EP X pins σ Q) X.xe { s4 with heap := s4.heap.push { cls := .type "slice", data := .fields #[.none, .none, vst] } }
  refine tail_any (ops := [.ref a, .ref s4.heap.objs.size]) hT.typeIs PyProof.Rows.slot_tuple_getitem.lookup ?_ (by with_unfolding_all rfl)
  have hl := r.length
  refine back_tuple hT (Heap.IsSliceOf.new _ .none .none vst) pst ?_ (by rw [List.size_toArray, ← hl]; exact hz)
  exact laidZ J (by rw [List.length_reverse]; exact hz) r.reverse q
/-- t.m(..) -/
def tTM (r : V → List V → Hp → VK → Prop) (to : TE) (t : TA) : TE := fun σ H Q => to σ H fun x H1 => (∃ a xs, x = .ref a ∧ TupZ H1 a xs) ∧ t σ H1 fun vs H2 => r x vs H2 Q
theorem pe_tm {o e : Expr} {es : List Expr} {name : Str} {id : String} {r : V → List V → Hp → VK → Prop} {to : TE} {t : TA} {apos cpos : Pos} (pa : PlainAttrs "tuple") (slot : Slot "tuple" name id) (hty : typeOf (.builtin id) = pure (.type "method_descriptor")) (hm : MtR X id r) (ho : PE X o to) (ha : PA X (e :: es) t)
    (hbase : attributeBase o name X.env (eval o X.env) = eval o X.env := by rfl)
    (hfew : ((backTo cpos (starEach (e :: es) X.env)).all (fun x => !x.1) && (backToKw cpos (keywordEach [] X.env)).all (fun x => x.1.isSome)
      && decide ((e :: es).length + ([] : List Keyword).length + (if ([] : List Keyword).isEmpty then 0 else 1) < 30)) = true := by rfl)
    (hline : (apos.endLine == cpos.line) = true := by rfl) (hs : starEach (e :: es) X.env = (false, eval e X.env) :: starEach es X.env := by rfl) (hplain : (backTo cpos (starEach es X.env)).any (·.1) = false := by rfl) :
    PE X (.Call (.Attribute o name apos) (e :: es) [] cpos) (tTM r to t) := by
  refine ⟨fun pins s σ H Q I h => ?_⟩
  refine wpAny_Call_method_late hbase hfew hline rfl (thn (ho.run pins s σ H _ I h) fun v s1 ⟨x, H1, I1, r1, ty, q1⟩ => ?_)
  obtain ⟨a, xs, rfl, ob, hd, hH⟩ := ty
  cases r1
  obtain ⟨hg, _, its, rv, hT⟩ := I1.hok a _ hH
  refine ⟨"tuple", id, pa, slot, hty, hT.typeIs, fun b e => ?_, ?_⟩
  · cases e
    exact ⟨ob, hg, hd⟩
  have hA := ha.run cpos pins s1 σ H1 _ I1 q1
  rw [hs] at hA ⊢
  refine Calls.callWith_builtin (by show (false || (backTo cpos (starEach es X.env)).any (·.1)) = false; rw [hplain] <;> rfl) (Calls.evalArgs_plain ?_)
  exact thn hA fun us s2 ⟨vs, H2, I2, r2, q2⟩ => hm pins s2 σ H2 (.ref a) vs (.ref a) us Q I2 rfl r2 q2
end
end Sb

/-! ## BL -/
/-! Small things: numbers to 1900. -/
namespace Sb
open PySem PySem.Spec PyProof.Rows L2
/-! ### small things -/
mutual
def smallD : PyData → Bool
  | .none | .bool _ => true
  | .int i => decide (-1 ≤ i) && decide (i ≤ 1900)
  | .str x => decide (x.cps.size ≤ 10) && x.cps.toList.all fun c => decide (c < 1000)
  | .list xs | .tuple xs => smallAll xs
  | .dict kvs => kvs.isEmpty
def smallAll : List PyData → Bool
  | [] => true
  | x :: xs => smallD x && smallAll xs
end
/- what a web's things are made of: small numbers, tuples -/
mutual
def pureD : PyData → Bool
  | .int i => decide (0 ≤ i) && decide (i ≤ 1000)
  | .tuple xs => pureAll xs
  | _ => false
def pureAll : List PyData → Bool
  | [] => true
  | x :: xs => pureD x && pureAll xs
end
theorem smallAll_app : ∀ (a b : List PyData), smallAll (a ++ b) = (smallAll a && smallAll b)
  | [], b => (Bool.true_and _).symm
  | x :: a, b => by
    show (smallD x && smallAll (a ++ b)) = ((smallD x && smallAll a) && smallAll b)
    rw [smallAll_app a b, Bool.and_assoc]
theorem pureAll_app : ∀ (a b : List PyData), pureAll (a ++ b) = (pureAll a && pureAll b)
  | [], b => (Bool.true_and _).symm
  | x :: a, b => by
    show (pureD x && pureAll (a ++ b)) = ((pureD x && pureAll a) && pureAll b)
    rw [pureAll_app a b, Bool.and_assoc]
theorem bulkAll_app : ∀ (a b : List PyData), PyData.bulkAll (a ++ b) = PyData.bulkAll a + PyData.bulkAll b
  | [], b => (Nat.zero_add _).symm
  | x :: a, b => by
    rw [List.cons_append, PyData.bulkAll, PyData.bulkAll, bulkAll_app a b]
    omega
theorem depthAll_app : ∀ (a b : List PyData), PyData.depthAll (a ++ b) = max (PyData.depthAll a) (PyData.depthAll b)
  | [], b => by rw [List.nil_append, PyData.depthAll, Nat.zero_max]
  | x :: a, b => by
    rw [List.cons_append, PyData.depthAll, PyData.depthAll, depthAll_app a b]
    omega
theorem hasDictAll_app : ∀ (a b : List PyData), PyData.hasDictAll (a ++ b) = (PyData.hasDictAll a || PyData.hasDictAll b)
  | [], b => by rw [List.nil_append, PyData.hasDictAll, Bool.false_or]
  | x :: a, b => by
    rw [List.cons_append, PyData.hasDictAll, PyData.hasDictAll, hasDictAll_app a b, Bool.or_assoc]
theorem noLists_app : ∀ (a b : List PyData), noLists (a ++ b) = (noLists a && noLists b)
  | [], b => (Bool.true_and _).symm
  | x :: a, b => by
    show (noList x && noLists (a ++ b)) = ((noList x && noLists a) && noLists b)
    rw [noLists_app a b, Bool.and_assoc]
mutual
theorem pure_small : ∀ d : PyData, pureD d = true → smallD d = true ∧ d.hasDict = false ∧ noList d = true
  | .int i, h => by
    have h : (decide (0 ≤ i) && decide (i ≤ 1000)) = true := h
    rw [Bool.and_eq_true] at h
    have h1 := of_decide_eq_true h.1
    have h2 := of_decide_eq_true h.2
    refine ⟨?_, by rw [PyData.hasDict], rfl⟩
    show (decide (-1 ≤ i) && decide (i ≤ 1900)) = true
    rw [decide_eq_true (by omega), decide_eq_true (by omega)]
    rfl
  | .tuple xs, h => by
    obtain ⟨a, b, c⟩ := pure_smallAll xs h
    exact ⟨a, by rw [PyData.hasDict]; exact b, c⟩
  | .none, h => by cases h
  | .bool _, h => by cases h
  | .str _, h => by cases h
  | .list _, h => by cases h
  | .dict _, h => by cases h
theorem pure_smallAll : ∀ xs : List PyData, pureAll xs = true → smallAll xs = true ∧ PyData.hasDictAll xs = false ∧ noLists xs = true
  | [], _ => ⟨rfl, by rw [PyData.hasDictAll], rfl⟩
  | x :: xs, h => by
    have h : (pureD x && pureAll xs) = true := h
    rw [Bool.and_eq_true] at h
    obtain ⟨a1, b1, c1⟩ := pure_small x h.1
    obtain ⟨a2, b2, c2⟩ := pure_smallAll xs h.2
    refine ⟨?_, by rw [PyData.hasDictAll, b1, b2]; rfl, ?_⟩
    · show (smallD x && smallAll xs) = true
      rw [a1, a2]
      rfl
    · show (noList x && noLists xs) = true
      rw [c1, c2]
      rfl
end
theorem int_short : ∀ k ∈ List.range 1902, (PyData.shown (.int ((k : Int) - 1))).length ≤ 8 := by decide +kernel
theorem int_len {i : Int} (h : (decide (-1 ≤ i) && decide (i ≤ 1900)) = true) : (PyData.shown (.int i)).length ≤ 8 ∧ i.natAbs.log2 < 1920 := by
  rw [Bool.and_eq_true] at h
  have h1 := of_decide_eq_true h.1
  have h2 := of_decide_eq_true h.2
  have z := int_short (i + 1).toNat (List.mem_range.mpr (by omega))
  rw [show (((i + 1).toNat : Nat) : Int) - 1 = i by omega] at z
  refine ⟨z, Nat.lt_of_le_of_lt (Nat.log2_le_self _) ?_⟩
  omega
mutual
theorem small_short : ∀ d : PyData, smallD d = true → d.leavesShort 8 = true ∧ d.showable = true
  | .none, _ => ⟨by rw [PyData.leavesShort], by rw [PyData.showable]⟩
  | .bool _, _ => ⟨by rw [PyData.leavesShort], by rw [PyData.showable]⟩
  | .int i, h => by
    obtain ⟨a, b⟩ := int_len h
    exact ⟨by rw [PyData.leavesShort]; exact decide_eq_true a, by rw [PyData.showable]; exact decide_eq_true b⟩
  | .str x, h => by
    have h : (decide (x.cps.size ≤ 10) && x.cps.toList.all fun c => decide (c < 1000)) = true := h
    rw [Bool.and_eq_true] at h
    refine ⟨?_, by rw [PyData.showable]⟩
    rw [PyData.leavesShort]
    refine List.all_eq_true.mpr fun c hc => decide_eq_true ?_
    have z := of_decide_eq_true (List.all_eq_true.mp h.2 c hc)
    exact Nat.lt_of_lt_of_le z (by decide)
  | .list xs, h => by
    obtain ⟨a, b⟩ := small_shortAll xs h
    exact ⟨by rw [PyData.leavesShort]; exact a, by rw [PyData.showable]; exact b⟩
  | .tuple xs, h => by
    obtain ⟨a, b⟩ := small_shortAll xs h
    exact ⟨by rw [PyData.leavesShort]; exact a, by rw [PyData.showable]; exact b⟩
  | .dict kvs, h => by
    cases kvs with
    | nil => exact ⟨by rw [PyData.leavesShort, PyData.leavesShortKv], by rw [PyData.showable, PyData.showableKv]⟩
    | cons a r => cases h
theorem small_shortAll : ∀ xs : List PyData, smallAll xs = true → PyData.leavesShortAll 8 xs = true ∧ PyData.showableAll xs = true
  | [], _ => ⟨by rw [PyData.leavesShortAll], by rw [PyData.showableAll]⟩
  | x :: xs, h => by
    have h : (smallD x && smallAll xs) = true := h
    rw [Bool.and_eq_true] at h
    obtain ⟨a1, b1⟩ := small_short x h.1
    obtain ⟨a2, b2⟩ := small_shortAll xs h.2
    exact ⟨by rw [PyData.leavesShortAll, a1, a2]; rfl, by rw [PyData.showableAll, b1, b2]; rfl⟩
end
/-- what can be shown and looked at -/
structure OKD (d : PyData) : Prop where
  sm : smallD d = true
  nd : d.hasDict = true → noList d = true
  dep : d.depth ≤ 40
  bk : d.bulk ≤ 100000
theorem OKD.show_ {d : PyData} (h : OKD d) : d.showable = true ∧ d.shown.length ≤ sizeLine := by
  obtain ⟨a, b⟩ := small_short d h.sm
  refine ⟨b, ?_⟩
  have z := PyData.shown_le_bulk 8 (Nat.le_refl 8) d a
  have := h.bk
  rw [sizeLine_eq]
  omega
theorem bulk_len : ∀ xs : List PyData, xs.length ≤ PyData.bulkAll xs
  | [] => Nat.zero_le _
  | x :: xs => by
    have := bulk_len xs
    rw [PyData.bulkAll, List.length_cons]
    omega
theorem bulk_mem : ∀ {xs : List PyData} {x : PyData}, x ∈ xs → x.bulk + 1 ≤ PyData.bulkAll xs
  | y :: xs, x, h => by
    rw [PyData.bulkAll]
    rcases List.mem_cons.mp h with z | z
    · rw [z]
      omega
    · have := bulk_mem z
      omega
theorem depth_mem : ∀ {xs : List PyData} {x : PyData}, x ∈ xs → x.depth ≤ PyData.depthAll xs
  | y :: xs, x, h => by
    rw [PyData.depthAll]
    rcases List.mem_cons.mp h with z | z
    · rw [z]
      omega
    · have := depth_mem z
      omega
theorem pure_mem : ∀ {xs : List PyData} {x : PyData}, pureAll xs = true → x ∈ xs → pureD x = true
  | y :: xs, x, h, m => by
    have h : (pureD y && pureAll xs) = true := h
    rw [Bool.and_eq_true] at h
    rcases List.mem_cons.mp m with z | z
    · rw [z]
      exact h.1
    · exact pure_mem h.2 z
/-- d bent: what it can become -/
structure Bt (d e : PyData) : Prop where
  sm : smallD e = true
  nd : e.hasDict = true → noList e = true
  dep : e.depth ≤ d.depth + 2
  bk : e.bulk ≤ 2 * d.bulk + 5
/-- one part exchanged -/
theorem Bt.part {A B : List PyData} {x e : PyData} (h : Bt x e) (hp : pureAll (A ++ x :: B) = true) : Bt (.tuple (A ++ x :: B)) (.tuple (A ++ e :: B)) := by
  have e1 : A ++ x :: B = A ++ [x] ++ B := by rw [List.append_assoc]; rfl
  have e2 : A ++ e :: B = A ++ [e] ++ B := by rw [List.append_assoc]; rfl
  have hx := bulk_mem (xs := A ++ x :: B) (x := x) (List.mem_append_right _ List.mem_cons_self)
  rw [e1] at hp hx ⊢
  rw [e2]
  rw [pureAll_app, pureAll_app, Bool.and_eq_true, Bool.and_eq_true] at hp
  obtain ⟨⟨pA, _⟩, pB⟩ := hp
  obtain ⟨sA, dA, lA⟩ := pure_smallAll A pA
  obtain ⟨sB, dB, lB⟩ := pure_smallAll B pB
  have he : smallAll [e] = true := by
    show (smallD e && true) = true
    rw [h.sm]
    rfl
  refine ⟨?_, fun z => ?_, ?_, ?_⟩
  · show smallAll (A ++ [e] ++ B) = true
    rw [smallAll_app, smallAll_app, sA, sB, he]
    rfl
  · rw [PyData.hasDict, hasDictAll_app, hasDictAll_app, dA, dB, Bool.false_or, Bool.or_false, PyData.hasDictAll, PyData.hasDictAll, Bool.or_false] at z
    show noLists (A ++ [e] ++ B) = true
    rw [noLists_app, noLists_app, lA, lB, Bool.true_and, Bool.and_true]
    show (noList e && true) = true
    rw [h.nd z]
    rfl
  · have z := h.dep
    rw [PyData.depth, PyData.depth, depthAll_app, depthAll_app, depthAll_app, depthAll_app, PyData.depthAll, PyData.depthAll, PyData.depthAll]
    omega
  · have z := h.bk
    rw [bulkAll_app, bulkAll_app, PyData.bulkAll, PyData.bulkAll] at hx
    rw [PyData.bulk, PyData.bulk, bulkAll_app, bulkAll_app, bulkAll_app, bulkAll_app, PyData.bulkAll, PyData.bulkAll, PyData.bulkAll]
    omega
/-- parts left out, twice, in another order -/
theorem Bt.row {xs ys : List PyData} (hy : pureAll ys = true) (hd : PyData.depthAll ys ≤ PyData.depthAll xs) (hb : PyData.bulkAll ys ≤ 2 * PyData.bulkAll xs) : Bt (.tuple xs) (.list ys) ∧ Bt (.tuple xs) (.tuple ys) := by
  obtain ⟨s, d, l⟩ := pure_smallAll ys hy
  refine ⟨⟨s, fun z => ?_, ?_, ?_⟩, ⟨s, fun _ => l, ?_, ?_⟩⟩
  · rw [PyData.hasDict, d] at z
    cases z
  · rw [PyData.depth, PyData.depth]
    omega
  · rw [PyData.bulk, PyData.bulk]
    omega
  · rw [PyData.depth, PyData.depth]
    omega
  · rw [PyData.bulk, PyData.bulk]
    omega
theorem bulkAll_perm {a b : List PyData} (h : a.Perm b) : PyData.bulkAll a = PyData.bulkAll b := by
  induction h with
  | nil => rfl
  | cons x _ ih => rw [PyData.bulkAll, PyData.bulkAll, ih]
  | swap x y l =>
    rw [PyData.bulkAll, PyData.bulkAll, PyData.bulkAll, PyData.bulkAll]
    omega
  | trans _ _ i1 i2 => exact i1.trans i2
theorem depthAll_sub {a b : List PyData} (h : ∀ x ∈ a, x ∈ b) : PyData.depthAll a ≤ PyData.depthAll b := by
  induction a with
  | nil =>
    rw [PyData.depthAll]
    exact Nat.zero_le _
  | cons x r ih =>
    have h1 := depth_mem (h x List.mem_cons_self)
    have h2 := ih fun y hy => h y (List.mem_cons_of_mem _ hy)
    rw [PyData.depthAll]
    omega
theorem pureAll_sub {a b : List PyData} (hb : pureAll b = true) (h : ∀ x ∈ a, x ∈ b) : pureAll a = true := by
  induction a with
  | nil => rfl
  | cons x r ih =>
    show (pureD x && pureAll r) = true
    rw [pure_mem hb (h x List.mem_cons_self), ih fun y hy => h y (List.mem_cons_of_mem _ hy)]
    rfl
end Sb

/-! ## MB -/
/-! Trees in graphs: which of a tree's ties lie on rings together. -/
namespace Sb
structure TreeP (n : Nat) (par : Int → Int) (dep : Int → Nat) : Prop where
  root : dep 0 = 0
  up : ∀ v : Int, 0 ≤ v → v < (n : Int) → v ≠ 0 → 0 ≤ par v ∧ par v < (n : Int) ∧ dep (par v) + 1 = dep v
/-- v is x or above it -/
inductive Sub (par : Int → Int) (v : Int) : Int → Prop
  | refl : Sub par v v
  | step {x : Int} : x ≠ 0 → Sub par v (par x) → Sub par v x
/-- the tie above v lies between a and b -/
def Path (par : Int → Int) (a b v : Int) : Prop := ¬ (Sub par v a ↔ Sub par v b)
theorem Path.symm {par : Int → Int} {a b v : Int} (h : Path par a b v) : Path par b a v := fun z => h z.symm
section
variable {n : Nat} {par : Int → Int} {dep : Int → Nat}
theorem sub_in (T : TreeP n par dep) {v x : Int} (x0 : 0 ≤ x) (x1 : x < (n : Int)) (h : Sub par v x) : (0 ≤ v ∧ v < (n : Int)) ∧ (v = x ∨ dep v < dep x) := by
  induction h with
  | refl => exact ⟨⟨x0, x1⟩, .inl rfl⟩
  | @step x ne _ ih =>
    obtain ⟨a, b, c⟩ := T.up x x0 x1 ne
    obtain ⟨d, e⟩ := ih a b
    refine ⟨d, .inr ?_⟩
    rcases e with e | e
    · rw [e]
      omega
    · omega
theorem sub_par {v x : Int} (ne : x ≠ 0) : Sub par v x ↔ v = x ∨ Sub par v (par x) := by
  constructor
  · intro h
    cases h with
    | refl => exact .inl rfl
    | step _ h => exact .inr h
  · rintro (h | h)
    · rw [h]
      exact .refl
    · exact .step ne h
theorem sub_trans {v x y : Int} (h : Sub par v x) (g : Sub par x y) : Sub par v y := by
  induction g with
  | refl => exact h
  | step ne _ ih => exact .step ne ih
theorem sub_comp {v w x : Int} (h : Sub par v x) (g : Sub par w x) : Sub par v w ∨ Sub par w v := by
  induction h with
  | refl => exact .inr g
  | @step x ne h ih =>
    cases g with
    | refl => exact .inl (.step ne h)
    | step _ g => exact ih g
theorem sub_root (T : TreeP n par dep) : ∀ (k : Nat) (x : Int), 0 ≤ x → x < (n : Int) → dep x ≤ k → Sub par 0 x
  | k, x, x0, x1, hk => by
    by_cases e : x = 0
    · rw [e]
      exact .refl
    · obtain ⟨a, b, c⟩ := T.up x x0 x1 e
      cases k with
      | zero => omega
      | succ k => exact .step e (sub_root T k (par x) a b (by omega))
theorem sub_child {w y : Int} (h : Sub par w y) (ne : y ≠ w) : ∃ c, c ≠ 0 ∧ par c = w ∧ Sub par c y := by
  induction h with
  | refl => exact absurd rfl ne
  | @step x nx h ih =>
    by_cases e : par x = w
    · exact ⟨x, nx, e, .refl⟩
    · obtain ⟨c, c0, c1, c2⟩ := ih e
      exact ⟨c, c0, c1, .step nx c2⟩
theorem child_one (T : TreeP n par dep) {c d w y : Int} (y0 : 0 ≤ y) (y1 : y < (n : Int)) (c0 : c ≠ 0) (d0 : d ≠ 0) (hc : par c = w) (hd : par d = w) (h : Sub par c y) (g : Sub par d y) : c = d := by
  obtain ⟨⟨a, b⟩, _⟩ := sub_in T y0 y1 h
  obtain ⟨⟨a', b'⟩, _⟩ := sub_in T y0 y1 g
  have e1 := (T.up c a b c0).2.2
  have e2 := (T.up d a' b' d0).2.2
  rw [hc] at e1
  rw [hd] at e2
  rcases sub_comp h g with z | z
  · rcases (sub_in T a' b' z).2 with z | z
    · exact z
    · omega
  · rcases (sub_in T a b z).2 with z | z
    · exact z.symm
    · omega
/-- the tie at w that leads towards y, named by its lower bay -/
def Dir (par : Int → Int) (w y c : Int) : Prop := (Sub par w y ∧ c ≠ 0 ∧ par c = w ∧ Sub par c y) ∨ (¬ Sub par w y ∧ c = w)
theorem dir_ex (w : Int) {y : Int} (ne : y ≠ w) : ∃ c, Dir par w y c := by
  by_cases h : Sub par w y
  · obtain ⟨c, a, b, d⟩ := sub_child h ne
    exact ⟨c, .inl ⟨h, a, b, d⟩⟩
  · exact ⟨w, .inr ⟨h, rfl⟩⟩
theorem dir_path (T : TreeP n par dep) {w z c : Int} (w0 : 0 ≤ w) (w1 : w < (n : Int)) (h : Dir par w z c) : Path par w z c := by
  rcases h with ⟨h1, h2, h3, h4⟩ | ⟨h1, rfl⟩
  · intro q
    have g := q.mpr h4
    obtain ⟨⟨a, b⟩, e⟩ := sub_in T w0 w1 g
    have e1 := (T.up c a b h2).2.2
    rw [h3] at e1
    rcases e with e | e
    · rw [e] at e1
      omega
    · omega
  · exact fun q => h1 (q.mp .refl)
theorem dir_two (T : TreeP n par dep) {w y z c d : Int} (y0 : 0 ≤ y) (y1 : y < (n : Int)) (z0 : 0 ≤ z) (z1 : z < (n : Int)) (hc : Dir par w y c) (hd : Dir par w z d) (ne : c ≠ d) : Path par y z c ∧ Path par y z d := by
  rcases hc with ⟨c1, c2, c3, c4⟩ | ⟨c1, rfl⟩
  · rcases hd with ⟨d1, d2, d3, d4⟩ | ⟨d1, rfl⟩
    · exact ⟨fun q => ne (child_one T z0 z1 c2 d2 c3 d3 (q.mp c4) d4), fun q => ne (child_one T y0 y1 c2 d2 c3 d3 c4 (q.mpr d4))⟩
    · refine ⟨fun q => d1 ?_, fun q => d1 (q.mp c1)⟩
      exact sub_trans (.step c2 (by rw [c3]; exact .refl)) (q.mp c4)
  · rcases hd with ⟨d1, d2, d3, d4⟩ | ⟨d1, rfl⟩
    · refine ⟨fun q => c1 (q.mpr d1), fun q => c1 ?_⟩
      exact sub_trans (.step d2 (by rw [d3]; exact .refl)) (q.mpr d4)
    · exact absurd rfl ne
end
/-! ### joined -/
inductive Cn {α : Type} (R : α → α → Prop) (a : α) : α → Prop
  | refl : Cn R a a
  | step {b c : α} : Cn R a b → R b c → Cn R a c
theorem Cn.trans {α : Type} {R : α → α → Prop} {a b c : α} (h : Cn R a b) (g : Cn R b c) : Cn R a c := by
  induction g with
  | refl => exact h
  | step _ r ih => exact .step ih r
theorem Cn.one {α : Type} {R : α → α → Prop} {a b : α} (r : R a b) : Cn R a b := .step .refl r
theorem Cn.symm {α : Type} {R : α → α → Prop} (s : ∀ a b, R a b → R b a) {a b : α} (h : Cn R a b) : Cn R b a := by
  induction h with
  | refl => exact .refl
  | step _ r ih => exact (Cn.one (s _ _ r)).trans ih
theorem Cn.mono {α : Type} {R S : α → α → Prop} (k : ∀ a b, R a b → Cn S a b) {a b : α} (h : Cn R a b) : Cn S a b := by
  induction h with
  | refl => exact .refl
  | step _ r ih => exact ih.trans (k _ _ r)
/-- both between the ends of one tie -/
def Jn (par : Int → Int) (Ed : Int → Int → Prop) (u v : Int) : Prop := ∃ a b, Ed a b ∧ Path par a b u ∧ Path par a b v
theorem Jn.symm {par : Int → Int} {Ed : Int → Int → Prop} {u v : Int} (h : Jn par Ed u v) : Jn par Ed v u := by
  obtain ⟨a, b, e, x, y⟩ := h
  exact ⟨a, b, e, y, x⟩
abbrev Jc (par : Int → Int) (Ed : Int → Int → Prop) : Int → Int → Prop := Cn (Jn par Ed)
theorem Jc.symm {par : Int → Int} {Ed : Int → Int → Prop} {u v : Int} (h : Jc par Ed u v) : Jc par Ed v u := Cn.symm (fun _ _ r => r.symm) h
/-- a graph on the bays below n with a tree of it -/
structure GT (n : Nat) (par : Int → Int) (dep : Int → Nat) (Ed : Int → Int → Prop) : Prop extends TreeP n par dep where
  inn : ∀ a b, Ed a b → (0 ≤ a ∧ a < (n : Int)) ∧ (0 ≤ b ∧ b < (n : Int)) ∧ a ≠ b
  sym : ∀ a b, Ed a b → Ed b a
  tree : ∀ v : Int, 0 ≤ v → v < (n : Int) → v ≠ 0 → Ed v (par v)
/-- a walk along ties that keeps off w behind its first bay -/
inductive Wk (Ed : Int → Int → Prop) (w : Int) (a : Int) : Int → Prop
  | refl : Wk Ed w a a
  | step {b c : Int} : Wk Ed w a b → Ed b c → c ≠ w → Wk Ed w a c
section
variable {n : Nat} {par : Int → Int} {dep : Int → Nat} {Ed : Int → Int → Prop}
theorem walk_dir (G : GT n par dep Ed) {w a b : Int} (h : Wk Ed w a b) (a0 : 0 ≤ a) (a1 : a < (n : Int)) (na : a ≠ w) : b ≠ w ∧ (0 ≤ b ∧ b < (n : Int)) ∧ ∀ c d, Dir par w a c → Dir par w b d → Jc par Ed c d := by
  induction h with
  | refl =>
    refine ⟨na, ⟨a0, a1⟩, fun c d hc hd => ?_⟩
    by_cases e : c = d
    · rw [e]
      exact .refl
    · obtain ⟨x, y⟩ := dir_two G.toTreeP a0 a1 a0 a1 hc hd e
      exact absurd Iff.rfl x
  | @step b c _ e nc ih =>
    obtain ⟨nb, ⟨b0, b1⟩, ih⟩ := ih
    obtain ⟨_, ⟨c0, c1⟩, _⟩ := G.inn _ _ e
    refine ⟨nc, ⟨c0, c1⟩, fun p q hp hq => ?_⟩
    obtain ⟨r, hr⟩ := dir_ex (par := par) w nb
    have h1 := ih p r hp hr
    by_cases z : r = q
    · rw [← z]
      exact h1
    · obtain ⟨x, y⟩ := dir_two G.toTreeP b0 b1 c0 c1 hr hq z
      exact .step h1 ⟨b, c, e, x, y⟩
/-- two ties at w, their other ends joined by a walk that keeps off w: one class -/
theorem turn_class (G : GT n par dep Ed) {u w x : Int} (e1 : Ed u w) (e2 : Ed w x) (h : Wk Ed w x u) {p q : Int} (hp : Path par u w p) (hq : Path par w x q) : Jc par Ed p q := by
  obtain ⟨⟨u0, u1⟩, ⟨w0, w1⟩, nuw⟩ := G.inn _ _ e1
  obtain ⟨_, ⟨x0, x1⟩, nwx⟩ := G.inn _ _ e2
  obtain ⟨c, hc⟩ := dir_ex (par := par) w nuw
  obtain ⟨d, hd⟩ := dir_ex (par := par) w (Ne.symm nwx)
  have k := (walk_dir G h x0 x1 (Ne.symm nwx)).2.2 d c hd hc
  have p1 := dir_path G.toTreeP w0 w1 hc
  have p2 := dir_path G.toTreeP w0 w1 hd
  have j1 : Jc par Ed p c := .one ⟨u, w, e1, hp, p1.symm⟩
  have j2 : Jc par Ed d q := .one ⟨w, x, e2, p2, hq⟩
  exact (j1.trans k.symm).trans j2
/-- a class lies below the bay above one of it, if that bay is not in the class -/
theorem class_below (G : GT n par dep Ed) {c : Int} (c0 : 0 ≤ c) (c1 : c < (n : Int)) (nc : c ≠ 0) (out : ∀ y, Jc par Ed c y → y ≠ par c) : ∀ y, Jc par Ed c y → Sub par (par c) y ∧ y ≠ par c := fun y h => by
  induction h with
  | refl => exact ⟨.step nc .refl, out c .refl⟩
  | @step y z h r ih =>
    obtain ⟨hy, ny⟩ := ih
    have nz := out z (.step h r)
    refine ⟨?_, nz⟩
    obtain ⟨a, b, e, p, q⟩ := r
    obtain ⟨⟨a0, a1⟩, ⟨b0, b1⟩, _⟩ := G.inn _ _ e
    have nw : ¬ Path par a b (par c) := fun k => out (par c) (.step h ⟨a, b, e, p, k⟩) rfl
    have iw : Sub par (par c) a ↔ Sub par (par c) b := Classical.not_not.mp nw
    -- w is above a and b
    have wa : Sub par (par c) a := by
      by_cases s : Sub par y a
      · exact sub_trans hy s
      · have s2 : Sub par y b := Classical.byContradiction fun k => p ⟨fun t => absurd t s, fun t => absurd t k⟩
        exact iw.mpr (sub_trans hy s2)
    have wb := iw.mp wa
    by_cases s : Sub par z a
    · rcases sub_comp s wa with k | k
      · exact absurd ⟨fun _ => sub_trans k wb, fun _ => s⟩ q
      · exact k
    · have s2 : Sub par z b := Classical.byContradiction fun k => q ⟨fun t => absurd t s, fun t => absurd t k⟩
      rcases sub_comp s2 wb with k | k
      · exact absurd ⟨fun _ => s2, fun _ => sub_trans k wa⟩ q
      · exact k
/-- .. and each of it lies below a bay of it that has g above it -/
theorem class_child (G : GT n par dep Ed) {t : Int} (t0 : 0 ≤ t) (t1 : t < (n : Int)) (nt : t ≠ 0) (out : ∀ y, Jc par Ed t y → y ≠ par t) : ∀ y, Jc par Ed t y → ∃ c, c ≠ 0 ∧ par c = par t ∧ Sub par c y ∧ Jc par Ed t c := fun y h => by
  induction h with
  | refl => exact ⟨t, nt, rfl, .refl, .refl⟩
  | @step y z h r ih =>
    obtain ⟨c, nc, ec, sc, jc⟩ := ih
    obtain ⟨sz, nz⟩ := class_below G t0 t1 nt out z (.step h r)
    obtain ⟨d, nd, ed, sd⟩ := sub_child sz nz
    refine ⟨d, nd, ed, sd, ?_⟩
    by_cases k : c = d
    · rw [← k]
      exact jc
    obtain ⟨a, b, e, p, q⟩ := r
    obtain ⟨⟨a0, a1⟩, ⟨b0, b1⟩, _⟩ := G.inn _ _ e
    have cd : ∀ x : Int, 0 ≤ x → x < (n : Int) → Sub par c x → ¬ Sub par d x := fun x x0 x1 s1 s2 => k (child_one G.toTreeP x0 x1 nc nd ec ed s1 s2)
    -- d lies between a and b
    have pd : Path par a b d := by
      intro i
      have hyab : Sub par y a ∨ Sub par y b := Classical.byContradiction fun g => p ⟨fun s => absurd (.inl s) g, fun s => absurd (.inr s) g⟩
      have hzab : Sub par z a ∨ Sub par z b := Classical.byContradiction fun g => q ⟨fun s => absurd (.inl s) g, fun s => absurd (.inr s) g⟩
      have da : Sub par d a := hzab.elim (fun s => sub_trans sd s) fun s => i.mpr (sub_trans sd s)
      have db := i.mp da
      rcases hyab with s | s
      · exact cd a a0 a1 (sub_trans sc s) da
      · exact cd b b0 b1 (sub_trans sc s) db
    exact .step h ⟨a, b, e, p, pd⟩
/-- without the gate none of a class is come to from bay 0 -/
theorem gate_shuts (G : GT n par dep Ed) (hn : 0 < n) {t : Int} (t0 : 0 ≤ t) (t1 : t < (n : Int)) (nt : t ≠ 0) (out : ∀ y, Jc par Ed t y → y ≠ par t) (ng : par t ≠ 0) {y : Int} (hy : Jc par Ed t y) (h : Wk Ed (par t) 0 y) : False := by
  obtain ⟨c, nc, ec, sc, jc⟩ := class_child G t0 t1 nt out y hy
  obtain ⟨sy, ny⟩ := class_below G t0 t1 nt out y hy
  have z0 : ¬ Sub par (par t) 0 := fun s => by
    rcases (sub_in G.toTreeP (Int.le_refl 0) (by omega) s).2 with k | k
    · exact ng k
    · rw [G.root] at k
      exact Nat.not_lt_zero _ k
  have k := (walk_dir G h (Int.le_refl 0) (by omega) (Ne.symm ng)).2.2 (par t) c (.inr ⟨z0, rfl⟩) (.inl ⟨sy, nc, ec, sc⟩)
  exact out (par t) (jc.trans k.symm) rfl
end
end Sb

/-! ## MC -/
/-! Rings: their ties are of one class; between the ends of a tie runs one. -/
namespace Sb
def nrm (a b : Int) : Int × Int := if a ≤ b then (a, b) else (b, a)
theorem nrm_symm (a b : Int) : nrm a b = nrm b a := by
  unfold nrm
  by_cases h : a ≤ b
  · by_cases g : b ≤ a
    · rw [if_pos h, if_pos g]
      have : a = b := Int.le_antisymm h g
      rw [this]
    · rw [if_pos h, if_neg g]
  · rw [if_neg h, if_pos (by omega)]
theorem nrm_path {par : Int → Int} {a b v : Int} : Path par (nrm a b).1 (nrm a b).2 v ↔ Path par a b v := by
  unfold nrm
  by_cases h : a ≤ b
  · rw [if_pos h]
  · rw [if_neg h]
    exact ⟨Path.symm, Path.symm⟩
def Chn (Ed : Int → Int → Prop) : List Int → Prop
  | a :: b :: r => Ed a b ∧ Chn Ed (b :: r)
  | _ => True
structure Ring (Ed : Int → Int → Prop) (row : List Int) : Prop where
  nd : row.Nodup
  len : 3 ≤ row.length
  chn : Chn Ed row
  close : ∀ a b, row.head? = some a → row.getLast? = some b → Ed b a
/-- a tie of a round -/
def InR (row : List Int) (t : Int × Int) : Prop := (∃ A u w B, row = A ++ u :: w :: B ∧ t = nrm u w) ∨ ∃ a b, row.head? = some a ∧ row.getLast? = some b ∧ t = nrm b a
section
variable {Ed : Int → Int → Prop}
theorem chn_app {l m : List Int} {a b : Int} (h : Chn Ed (l ++ [a])) (e : Ed a b) (g : Chn Ed (b :: m)) : Chn Ed (l ++ a :: b :: m) := by
  induction l with
  | nil => exact ⟨e, g⟩
  | cons x l ih =>
    cases l with
    | nil => exact ⟨h.1, ih h.2⟩
    | cons y l => exact ⟨h.1, ih h.2⟩
theorem chn_left {l m : List Int} (h : Chn Ed (l ++ m)) : Chn Ed l := by
  induction l with
  | nil => exact trivial
  | cons x l ih =>
    cases l with
    | nil => exact trivial
    | cons y l => exact ⟨h.1, ih h.2⟩
theorem chn_right {l m : List Int} (h : Chn Ed (l ++ m)) : Chn Ed m := by
  induction l with
  | nil => exact h
  | cons x l ih =>
    cases l with
    | nil =>
      cases m with
      | nil => exact trivial
      | cons y m => exact h.2
    | cons y l => exact ih h.2
theorem chn_mid {l m : List Int} {a b : Int} (h : Chn Ed (l ++ a :: b :: m)) : Ed a b := (chn_right h).1
theorem chn_rev (s : ∀ a b, Ed a b → Ed b a) : ∀ {l : List Int}, Chn Ed l → Chn Ed l.reverse
  | [], _ => trivial
  | [_], _ => trivial
  | a :: b :: r, h => by
    have ih := chn_rev s h.2
    rw [List.reverse_cons] at ih ⊢
    rw [List.reverse_cons, List.append_assoc]
    exact chn_app ih (s _ _ h.1) (show Chn Ed [a] from trivial)
/-- along a chain that keeps off w -/
theorem chn_walk {w : Int} : ∀ {l : List Int} {a b : Int}, Chn Ed (a :: l) → (a :: l).getLast? = some b → (∀ x ∈ l, x ≠ w) → Wk Ed w a b
  | [], a, b, _, e, _ => by
    cases e
    exact .refl
  | c :: l, a, b, h, e, k => by
    have e2 : (c :: l).getLast? = some b := by
      rw [List.getLast?_cons_cons] at e
      exact e
    have ih := chn_walk (w := w) h.2 e2 fun x hx => k x (List.mem_cons_of_mem _ hx)
    -- one step in front
    have front : ∀ {y z : Int}, Wk Ed w y z → Ed a y → y ≠ w → Wk Ed w a z := fun {y z} hyz ey ny => by
      induction hyz with
      | refl => exact .step .refl ey ny
      | step _ e n ih => exact .step ih e n
    exact front ih h.1 (k c List.mem_cons_self)
theorem Wk.trans {w a b c : Int} (h : Wk Ed w a b) (g : Wk Ed w b c) : Wk Ed w a c := by
  induction g with
  | refl => exact h
  | step _ e n ih => exact .step ih e n
end
section
variable {n : Nat} {par : Int → Int} {dep : Int → Nat} {Ed : Int → Int → Prop}
/-- two ties of a round with a bay in common -/
theorem ring_turn (G : GT n par dep Ed) {A B : List Int} {u w : Int} (R : Ring Ed (A ++ u :: w :: B)) : ∃ x, ((∃ B', B = x :: B') ∨ (B = [] ∧ (A ++ [u]).head? = some x)) ∧ Ed w x ∧ ∀ p q, Path par u w p → Path par w x q → Jc par Ed p q := by
  have e1 : Ed u w := chn_mid R.chn
  have nd := R.nd
  have hd : ∃ h, (A ++ [u]).head? = some h := by
    cases A with
    | nil => exact ⟨u, rfl⟩
    | cons a A => exact ⟨a, rfl⟩
  obtain ⟨hh, eh⟩ := hd
  have ehead : (A ++ u :: w :: B).head? = some hh := by
    cases A with
    | nil => exact eh
    | cons a A => exact eh
  rw [show A ++ u :: w :: B = (A ++ [u]) ++ w :: B by simp] at nd
  obtain ⟨nd1, nd2, nd3⟩ := List.nodup_append.mp nd
  have offA : ∀ x ∈ A ++ [u], x ≠ w := fun x hx => nd3 x hx w List.mem_cons_self
  have offB : ∀ x ∈ B, x ≠ w := fun x hx e => (List.nodup_cons.mp nd2).1 (e ▸ hx)
  have cA : Chn Ed (A ++ [u]) := by
    have z := R.chn
    rw [show A ++ u :: w :: B = (A ++ [u]) ++ w :: B by simp] at z
    exact chn_left z
  have lastA : (A ++ [u]).getLast? = some u := List.getLast?_concat
  have wA : Wk Ed w hh u := by
    cases hl : A ++ [u] with
    | nil => simp at hl
    | cons a l =>
      rw [hl] at cA lastA eh offA
      cases eh
      exact chn_walk cA lastA fun x hx => offA x (List.mem_cons_of_mem _ hx)
  have hhw : hh ≠ w := offA hh (List.mem_of_mem_head? eh)
  cases B with
  | nil =>
    refine ⟨hh, .inr ⟨rfl, eh⟩, ?_, fun p q hp hq => turn_class G e1 ?_ wA hp hq⟩
    · exact R.close hh w ehead (by rw [show A ++ [u, w] = (A ++ [u]) ++ [w] by simp]; exact List.getLast?_concat)
    · exact R.close hh w ehead (by rw [show A ++ [u, w] = (A ++ [u]) ++ [w] by simp]; exact List.getLast?_concat)
  | cons x B' =>
    have cB : Chn Ed (w :: x :: B') := by
      have z := R.chn
      rw [show A ++ u :: w :: x :: B' = (A ++ [u]) ++ w :: x :: B' by simp] at z
      exact chn_right z
    obtain ⟨lb, el⟩ : ∃ lb, (x :: B').getLast? = some lb := ⟨_, List.getLast?_eq_some_getLast (List.cons_ne_nil _ _)⟩
    have w1 : Wk Ed w x lb := chn_walk cB.2 el fun y hy => offB y (List.mem_cons_of_mem _ hy)
    have elast : (A ++ u :: w :: x :: B').getLast? = some lb := by
      rw [List.getLast?_append, List.getLast?_cons_cons, List.getLast?_cons_cons, el]
      rfl
    have w2 : Wk Ed w x hh := .step w1 (R.close hh lb ehead elast) hhw
    exact ⟨x, .inl ⟨B', rfl⟩, cB.1, fun p q hp hq => turn_class G e1 cB.1 (w2.trans wA) hp hq⟩
/-- all ties of a round are of one class -/
theorem ring_class (G : GT n par dep Ed) {row : List Int} (R : Ring Ed row) {t t' : Int × Int} (h : InR row t) (h' : InR row t') {p q : Int} (hp : Path par t.1 t.2 p) (hq : Path par t'.1 t'.2 q) : Jc par Ed p q := by
  -- the first tie
  obtain ⟨r0, r1, r2, rest, rfl⟩ : ∃ r0 r1 r2 rest, row = r0 :: r1 :: r2 :: rest := by
    have z := R.len
    match row, z with
    | r0 :: r1 :: r2 :: rest, _ => exact ⟨r0, r1, r2, rest, rfl⟩
  have ex : ∀ a b, Ed a b → ∃ v, Path par a b v := fun a b e => by
    obtain ⟨⟨a0, a1⟩, ⟨b0, b1⟩, ne⟩ := G.inn _ _ e
    refine Classical.byContradiction fun k => ?_
    have all : ∀ v, Sub par v a ↔ Sub par v b := fun v => Classical.not_not.mp fun z => k ⟨v, z⟩
    rcases (sub_in G.toTreeP b0 b1 ((all a).mp .refl)).2 with z | z
    · exact ne z
    · rcases (sub_in G.toTreeP a0 a1 ((all b).mpr .refl)).2 with y | y
      · exact ne y.symm
      · omega
  have mid : ∀ (A : List Int) (u w : Int) (B : List Int), r0 :: r1 :: r2 :: rest = A ++ u :: w :: B → ∀ v z, Path par u w v → Path par r0 r1 z → Jc par Ed z v := fun A => by
    induction hl : A.length generalizing A with
    | zero =>
      intro u w B e v z hv hz
      cases List.eq_nil_of_length_eq_zero hl
      cases e
      exact .one ⟨r0, r1, R.chn.1, hz, hv⟩
    | succ k ih =>
      intro u w B e v z hv hz
      have hne : A ≠ [] := fun c => by rw [c] at hl; cases hl
      obtain ⟨A', y, rfl⟩ : ∃ A' y, A = A' ++ [y] := ⟨A.dropLast, A.getLast hne, (List.dropLast_concat_getLast hne).symm⟩
      have e2 : r0 :: r1 :: r2 :: rest = A' ++ y :: u :: (w :: B) := by rw [e]; simp
      have R2 : Ring Ed (A' ++ y :: u :: (w :: B)) := e2 ▸ R
      obtain ⟨x, hx, exw, cl⟩ := ring_turn G R2
      have exq : x = w := by
        rcases hx with ⟨B', h⟩ | ⟨h, _⟩
        · cases h
          rfl
        · cases h
      subst exq
      obtain ⟨s, hs⟩ := ex y u (chn_mid R2.chn)
      have i1 := ih A' (by rw [List.length_append, List.length_singleton] at hl; omega) y u (x :: B) e2 s z hs hz
      exact i1.trans (cl s v hs hv)
  have all : ∀ t, InR (r0 :: r1 :: r2 :: rest) t → ∀ v z, Path par t.1 t.2 v → Path par r0 r1 z → Jc par Ed z v := fun t ht v z hv hz => by
    rcases ht with ⟨A, u, w, B, e, rfl⟩ | ⟨a, b, ea, eb, rfl⟩
    · exact mid A u w B e v z (nrm_path.mp hv) hz
    · cases ea
      have hv := nrm_path.mp hv
      -- the last two
      obtain ⟨A, u, e⟩ : ∃ A u, r0 :: r1 :: r2 :: rest = A ++ [u, b] := by
        have h1 : r0 :: r1 :: r2 :: rest = (r0 :: r1 :: r2 :: rest).dropLast ++ [b] := by
          have z := List.dropLast_concat_getLast (List.cons_ne_nil r0 (r1 :: r2 :: rest))
          rw [List.getLast?_eq_some_getLast (List.cons_ne_nil _ _)] at eb
          rw [← Option.some.inj eb]
          exact z.symm
        have h2 : (r0 :: r1 :: r2 :: rest).dropLast ≠ [] := by simp
        refine ⟨(r0 :: r1 :: r2 :: rest).dropLast.dropLast, (r0 :: r1 :: r2 :: rest).dropLast.getLast h2, ?_⟩
        have z := List.dropLast_concat_getLast h2
        rw [show ∀ (l : List Int) (x : Int), l ++ [x, b] = (l ++ [x]) ++ [b] from fun l x => by simp, z]
        exact h1
      have R2 : Ring Ed (A ++ u :: b :: []) := e ▸ R
      obtain ⟨x, hx, exw, cl⟩ := ring_turn G R2
      have exa : x = r0 := by
        rcases hx with ⟨B', h⟩ | ⟨_, h⟩
        · cases h
        · have z : (A ++ [u, b]).head? = (A ++ [u]).head? := by cases A <;> rfl
          rw [← e] at z
          rw [← z] at h
          cases h
          rfl
      subst exa
      obtain ⟨s, hs⟩ := ex u b (chn_mid R2.chn)
      exact (mid A u b [] e s z hs hz).trans (cl s v hs hv)
  obtain ⟨z, hz⟩ := ex r0 r1 R.chn.1
  exact (all t h p z hp hz).symm.trans (all t' h' q z hq hz)
/-! ### between the ends of a tie -/
/-- a and the bays above it that are not above b, then the first that is -/
theorem up_list (T : TreeP n par dep) {b : Int} (b0 : 0 ≤ b) (b1 : b < (n : Int)) : ∀ (k : Nat) (a : Int), dep a = k → 0 ≤ a → a < (n : Int) → ∃ (A : List Int) (m : Int), (A ++ [m]).head? = some a ∧ Chn (fun x y => (0 ≤ x ∧ x < (n : Int)) ∧ x ≠ 0 ∧ y = par x) (A ++ [m]) ∧ (∀ v ∈ A, Sub par v a ∧ ¬ Sub par v b) ∧ A.Nodup ∧ Sub par m a ∧ Sub par m b ∧
    (∀ v, Sub par v a → ¬ Sub par v b → v ∈ A) ∧ (∀ v, Sub par v a → Sub par v b → Sub par v m) ∧ 0 ≤ m ∧ m < (n : Int) := fun k => by
  induction k with
  | zero =>
    intro a ha a0 a1
    have e : a = 0 := Classical.byContradiction fun ne => by
      have := (T.up a a0 a1 ne).2.2
      omega
    subst e
    have s := sub_root T (dep b) b b0 b1 (Nat.le_refl _)
    refine ⟨[], 0, rfl, trivial, fun v hv => (by cases hv), List.nodup_nil, .refl, s, fun v hv nv => ?_, fun v hv _ => hv, Int.le_refl 0, a1⟩
    rcases (sub_in T a0 a1 hv).2 with z | z
    · rw [z] at nv
      exact absurd s nv
    · rw [T.root] at z
      exact absurd z (Nat.not_lt_zero _)
  | succ k ih =>
    intro a ha a0 a1
    by_cases s : Sub par a b
    · exact ⟨[], a, rfl, trivial, fun v hv => (by cases hv), List.nodup_nil, .refl, s, fun v hv nv => absurd (sub_trans hv s) nv, fun v hv _ => hv, a0, a1⟩
    have ne : a ≠ 0 := fun e => by
      rw [e, T.root] at ha
      cases ha
    obtain ⟨p0, p1, pd⟩ := T.up a a0 a1 ne
    obtain ⟨A, m, h1, h2, h3, h4, h5, h6, h7, h8, h9⟩ := ih (par a) (by omega) p0 p1
    refine ⟨a :: A, m, rfl, ?_, fun v hv => ?_, List.nodup_cons.mpr ⟨fun z => ?_, h4⟩, .step ne h5, h6, fun v hv nv => ?_, fun v hv sv => ?_, h9⟩
    · cases hA : A ++ [m] with
      | nil => simp at hA
      | cons x l =>
        rw [hA] at h1 h2
        cases h1
        show Chn _ (a :: (A ++ [m]))
        rw [hA]
        exact ⟨⟨⟨a0, a1⟩, ne, rfl⟩, h2⟩
    · rcases List.mem_cons.mp hv with z | z
      · rw [z]
        exact ⟨.refl, s⟩
      · exact ⟨.step ne (h3 v z).1, (h3 v z).2⟩
    · rcases (sub_in T p0 p1 (h3 a z).1).2 with y | y
      · rw [← y] at pd
        omega
      · omega
    · rcases (sub_par ne).mp hv with z | z
      · rw [z]
        exact List.mem_cons_self
      · exact List.mem_cons_of_mem _ (h7 v z nv)
    · rcases (sub_par ne).mp hv with z | z
      · rw [z] at sv
        exact absurd sv s
      · exact h8 v z sv
theorem chn_imp {R S : Int → Int → Prop} (k : ∀ a b, R a b → S a b) : ∀ {l : List Int}, Chn R l → Chn S l
  | [], _ => trivial
  | [_], _ => trivial
  | _ :: _ :: _, h => ⟨k _ _ h.1, chn_imp k h.2⟩
/-- the ties up a chain of the tree are ties of the chain -/
theorem up_tie {R : Int → Int → Prop} : ∀ {A : List Int} {m v : Int}, Chn (fun x y => R x y ∧ y = par x) (A ++ [m]) → v ∈ A → ∃ L M, A ++ [m] = L ++ v :: par v :: M
  | [], _, _, _, h => by cases h
  | a :: A, m, v, c, h => by
    cases A with
    | nil =>
      rw [List.mem_singleton.mp h]
      refine ⟨[], [], ?_⟩
      rw [← c.1.2]
      rfl
    | cons b A =>
      rcases List.mem_cons.mp h with z | z
      · rw [z]
        refine ⟨[], A ++ [m], ?_⟩
        rw [← c.1.2]
        rfl
      · obtain ⟨L, M, e⟩ := up_tie (A := b :: A) c.2 z
        exact ⟨a :: L, M, by rw [List.cons_append, e]; rfl⟩
/-- a tie that is none of the tree: a round through it, with all tree ties between its ends -/
theorem tie_ring (G : GT n par dep Ed) {a b : Int} (e : Ed a b) (n1 : par a ≠ b) (n2 : par b ≠ a) : ∃ row, Ring Ed row ∧ InR row (nrm a b) ∧ ∀ v, Path par a b v → InR row (nrm v (par v)) := by
  obtain ⟨⟨a0, a1⟩, ⟨b0, b1⟩, nab⟩ := G.inn _ _ e
  obtain ⟨A, m, h1, h2, h3, h4, h5, h6, h7, h8, m0, m1⟩ := up_list G.toTreeP b0 b1 (dep a) a rfl a0 a1
  obtain ⟨B, m', g1, g2, g3, g4, g5, g6, g7, g8, _, _⟩ := up_list G.toTreeP a0 a1 (dep b) b rfl b0 b1
  have em : m' = m := by
    have s1 := h8 m' g6 g5
    have s2 := g8 m h6 h5
    have hm' := sub_in G.toTreeP m0 m1 s1
    rcases hm'.2 with z | z
    · exact z
    · rcases (sub_in G.toTreeP hm'.1.1 hm'.1.2 s2).2 with y | y
      · exact y.symm
      · omega
  subst em
  have tr : ∀ x y : Int, (0 ≤ x ∧ x < (n : Int)) ∧ x ≠ 0 ∧ y = par x → Ed x y := fun x y ⟨⟨x0, x1⟩, nx, ey⟩ => by
    rw [ey]
    exact G.tree x x0 x1 nx
  have cA := chn_imp tr h2
  have cB : Chn Ed (m' :: B.reverse) := by
    have z := chn_rev G.sym (chn_imp tr g2)
    rw [List.reverse_append] at z
    exact z
  have crow : Chn Ed (A ++ m' :: B.reverse) := by
    cases hB : B.reverse with
    | nil => exact cA
    | cons x l =>
      rw [hB] at cB
      exact chn_app cA cB.1 cB.2
  have nd : (A ++ m' :: B.reverse).Nodup := by
    refine List.nodup_append.mpr ⟨h4, List.nodup_cons.mpr ⟨fun z => ?_, (List.reverse_perm B).nodup_iff.mpr g4⟩, fun x hx y hy exy => ?_⟩
    · exact (g3 m' (List.mem_reverse.mp z)).2 h5
    · subst exy
      rcases List.mem_cons.mp hy with z | z
      · rw [z] at hx
        exact (h3 m' hx).2 h6
      · exact (h3 x hx).2 (g3 x (List.mem_reverse.mp z)).1
  have hhead : (A ++ m' :: B.reverse).head? = some a := by
    cases A with
    | nil => exact h1
    | cons x A => exact h1
  have hlast : (A ++ m' :: B.reverse).getLast? = some b := by
    rw [List.getLast?_append]
    cases B with
    | nil =>
      cases g1
      rfl
    | cons y B =>
      cases g1
      rw [List.reverse_cons, ← List.cons_append, List.getLast?_concat]
      rfl
  have len : 3 ≤ (A ++ m' :: B.reverse).length := by
    rw [List.length_append, List.length_cons, List.length_reverse]
    match A, B, h1, g1, h2, g2 with
    | [], [], h1, g1, _, _ =>
      cases h1
      cases g1
      exact absurd rfl nab
    | [x], [], h1, g1, h2, _ =>
      cases h1
      cases g1
      exact absurd h2.1.2.2.symm n1
    | [], [y], h1, g1, _, g2 =>
      cases h1
      cases g1
      exact absurd g2.1.2.2.symm n2
    | x :: y :: l, B, _, _, _, _ =>
      simp only [List.length_cons]
      omega
    | A, x :: y :: l, _, _, _, _ =>
      simp only [List.length_cons]
      omega
    | [x], [y], _, _, _, _ => exact Nat.le_refl 3
  refine ⟨A ++ m' :: B.reverse, ⟨nd, len, crow, fun x y ex ey => ?_⟩, .inr ⟨a, b, hhead, hlast, nrm_symm a b⟩, fun v hv => ?_⟩
  · rw [hhead] at ex
    rw [hlast] at ey
    cases ex
    cases ey
    exact G.sym _ _ e
  · have c1 := chn_imp (S := fun x y => ((0 ≤ x ∧ x < (n : Int)) ∧ x ≠ 0) ∧ y = par x) (fun x y h => ⟨⟨h.1, h.2.1⟩, h.2.2⟩) h2
    have c2 := chn_imp (S := fun x y => ((0 ≤ x ∧ x < (n : Int)) ∧ x ≠ 0) ∧ y = par x) (fun x y h => ⟨⟨h.1, h.2.1⟩, h.2.2⟩) g2
    by_cases sa : Sub par v a
    · have nb : ¬ Sub par v b := fun sb => hv ⟨fun _ => sb, fun _ => sa⟩
      obtain ⟨L, M, eq⟩ := up_tie c1 (h7 v sa nb)
      refine .inl ⟨L, v, par v, M ++ B.reverse, ?_, rfl⟩
      have z : A ++ m' :: B.reverse = (A ++ [m']) ++ B.reverse := by simp
      rw [z, eq]
      simp
    · have sb : Sub par v b := Classical.byContradiction fun k => hv ⟨fun z => absurd z sa, fun z => absurd z k⟩
      obtain ⟨L, M, eq⟩ := up_tie c2 (g7 v sb sa)
      refine .inl ⟨A ++ M.reverse, par v, v, L.reverse, ?_, nrm_symm _ _⟩
      have z : A ++ m' :: B.reverse = A ++ (B ++ [m']).reverse := by simp
      rw [z, eq]
      simp
end
end Sb

/-! ## MD -/
/-! Labels that are merged; the classes of a web's ties; a class's gate. -/
namespace Sb
/-! ### labels -/
def mrg (c : Int) (S : List Int) (x : Int) : Int := if x ∈ S then c else x
theorem mrg_iff {c : Int} {S : List Int} {x y : Int} (hc : c ∈ S) : mrg c S x = mrg c S y ↔ x = y ∨ (x ∈ S ∧ y ∈ S) := by
  unfold mrg
  by_cases hx : x ∈ S
  · by_cases hy : y ∈ S
    · rw [if_pos hx, if_pos hy]
      exact ⟨fun _ => .inr ⟨hx, hy⟩, fun _ => rfl⟩
    · rw [if_pos hx, if_neg hy]
      refine ⟨fun e => absurd (e ▸ hc) hy, fun h => ?_⟩
      rcases h with h | h
      · exact absurd (h ▸ hx) hy
      · exact absurd h.2 hy
  · by_cases hy : y ∈ S
    · rw [if_neg hx, if_pos hy]
      refine ⟨fun e => absurd (e ▸ hc) hx, fun h => ?_⟩
      rcases h with h | h
      · exact absurd (h ▸ hy) hx
      · exact absurd h.1 hx
    · rw [if_neg hx, if_neg hy]
      exact ⟨.inl, fun h => h.elim id fun z => absurd z.1 hx⟩
section
variable {α : Type}
/-- alike labels: just those that R joins -/
structure Lab (D : α → Prop) (f : α → Int) (R : α → α → Prop) : Prop where
  iff : ∀ x y, D x → D y → (f x = f y ↔ Cn R x y)
  inn : ∀ x y, R x y → D x ∧ D y
  sym : ∀ x y, R x y → R y x
theorem Cn.dom {D : α → Prop} {R : α → α → Prop} (inn : ∀ x y, R x y → D x ∧ D y) {x y : α} (hx : D x) (h : Cn R x y) : D y := by
  cases h with
  | refl => exact hx
  | step _ r => exact (inn _ _ r).2
theorem lab_step {D : α → Prop} {f : α → Int} {R : α → α → Prop} {J : List α} {c : Int} (h : Lab D f R) (hJ : ∀ x ∈ J, D x) (hc : c ∈ J.map f) : Lab D (fun x => mrg c (J.map f) (f x)) (fun x y => R x y ∨ (x ∈ J ∧ y ∈ J)) := by
  have inn : ∀ x y, R x y ∨ (x ∈ J ∧ y ∈ J) → D x ∧ D y := fun x y k => k.elim (h.inn x y) fun z => ⟨hJ _ z.1, hJ _ z.2⟩
  refine ⟨fun x y hx hy => ⟨fun e => ?_, fun k => ?_⟩, inn, fun x y k => k.elim (fun z => .inl (h.sym _ _ z)) fun z => .inr ⟨z.2, z.1⟩⟩
  · have mo : ∀ {a b : α}, Cn R a b → Cn (fun x y => R x y ∨ (x ∈ J ∧ y ∈ J)) a b := fun k => k.mono fun _ _ r => .one (.inl r)
    rcases (mrg_iff hc).mp e with e | ⟨e1, e2⟩
    · exact mo ((h.iff x y hx hy).mp e)
    · obtain ⟨j, hj, ej⟩ := List.mem_map.mp e1
      obtain ⟨i, hi, ei⟩ := List.mem_map.mp e2
      have k1 := mo ((h.iff x j hx (hJ j hj)).mp ej.symm)
      have k2 := mo ((h.iff i y (hJ i hi) hy).mp ei)
      exact (k1.trans (.one (.inr ⟨hj, hi⟩))).trans k2
  · induction k with
    | refl => rfl
    | @step b z kb r ih =>
      have hb := Cn.dom inn hx kb
      refine (ih hb).trans ((mrg_iff hc).mpr ?_)
      rcases r with r | ⟨r1, r2⟩
      · exact .inl ((h.iff b z hb hy).mpr (.one r))
      · exact .inr ⟨List.mem_map.mpr ⟨_, r1, rfl⟩, List.mem_map.mpr ⟨_, r2, rfl⟩⟩
theorem lab_skip {D : α → Prop} {f : α → Int} {R : α → α → Prop} {J : List α} (h : Lab D f R) (hJ : ∀ x ∈ J, D x) (hs : ∀ x ∈ J, ∀ y ∈ J, f x = f y) : Lab D f (fun x y => R x y ∨ (x ∈ J ∧ y ∈ J)) := by
  refine ⟨fun x y hx hy => (h.iff x y hx hy).trans ⟨fun k => k.mono fun _ _ r => .one (.inl r), fun k => k.mono fun a b r => ?_⟩, fun x y k => k.elim (h.inn x y) fun z => ⟨hJ _ z.1, hJ _ z.2⟩, fun x y k => k.elim (fun z => .inl (h.sym _ _ z)) fun z => .inr ⟨z.2, z.1⟩⟩
  rcases r with r | ⟨r1, r2⟩
  · exact .one r
  · exact (h.iff a b (hJ _ r1) (hJ _ r2)).mp (hs a r1 b r2)
theorem Lab.congr {D : α → Prop} {f g : α → Int} {R S : α → α → Prop} (h : Lab D f R) (e : ∀ x, D x → g x = f x) (k : ∀ x y, R x y ↔ S x y) : Lab D g S := by
  have : R = S := funext fun x => funext fun y => propext (k x y)
  subst this
  exact ⟨fun x y hx hy => by rw [e x hx, e y hy]; exact h.iff x y hx hy, h.inn, h.sym⟩
theorem lab_start {D : α → Prop} {f : α → Int} (inj : ∀ x y, D x → D y → f x = f y → x = y) : Lab D f (fun _ _ => False) :=
  ⟨fun x y hx hy => ⟨fun e => inj x y hx hy e ▸ .refl, fun k => by
    cases k with
    | refl => rfl
    | step _ r => exact r.elim⟩, fun _ _ r => r.elim, fun _ _ r => r.elim⟩
/-- one of so many lists holds both -/
def InOne (Js : List (List α)) (x y : α) : Prop := ∃ J ∈ Js, x ∈ J ∧ y ∈ J
theorem inOne_snoc {Js : List (List α)} {J : List α} {x y : α} : (InOne Js x y ∨ (x ∈ J ∧ y ∈ J)) ↔ InOne (Js ++ [J]) x y := by
  constructor
  · rintro (⟨K, hK, h⟩ | h)
    · exact ⟨K, List.mem_append_left _ hK, h⟩
    · exact ⟨J, List.mem_append_right _ (List.mem_singleton.mpr rfl), h⟩
  · rintro ⟨K, hK, h⟩
    rcases List.mem_append.mp hK with hK | hK
    · exact .inl ⟨K, hK, h⟩
    · rw [List.mem_singleton.mp hK] at h
      exact .inr h
theorem inOne_nil {x y : α} : False ↔ InOne ([] : List (List α)) x y := ⟨False.elim, fun ⟨_, h, _⟩ => by cases h⟩
end
/-! ### up from both ends of a tie -/
def climb (above away : List Int) : Nat → Int → Int → List Int
  | 0, _, _ => []
  | k + 1, a, b => if a = b then [] else if away.getD a.toNat 0 < away.getD b.toNat 0 then b :: climb above away k (above.getD b.toNat 0) a else a :: climb above away k (above.getD a.toNat 0) b
section
variable {n : Nat} {par : Int → Int} {dep : Int → Nat} {Ed : Int → Int → Prop}
theorem dep_zero (T : TreeP n par dep) {v : Int} (v0 : 0 ≤ v) (v1 : v < (n : Int)) (e : dep v = 0) : v = 0 :=
  Classical.byContradiction fun ne => by
    have := (T.up v v0 v1 ne).2.2
    omega
theorem path_nil {a v : Int} : ¬ Path par a a v := fun h => h Iff.rfl
theorem path_up (T : TreeP n par dep) {a b v : Int} (a0 : 0 ≤ a) (a1 : a < (n : Int)) (b0 : 0 ≤ b) (b1 : b < (n : Int)) (ne : a ≠ b) (hd : dep b ≤ dep a) : a ≠ 0 ∧ (Path par a b v ↔ v = a ∨ Path par (par a) b v) := by
  have na : a ≠ 0 := fun e => by
    rw [e, T.root] at hd
    exact ne (e.trans (dep_zero T b0 b1 (by omega)).symm)
  have nsab : ¬ Sub par a b := fun s => by
    rcases (sub_in T b0 b1 s).2 with z | z
    · exact ne z
    · omega
  refine ⟨na, ?_⟩
  by_cases e : v = a
  · rw [e]
    refine ⟨fun _ => .inl rfl, fun _ i => nsab (i.mp .refl)⟩
  · have k : Sub par v a ↔ Sub par v (par a) := (sub_par na).trans ⟨fun h => h.elim (fun z => absurd z e) id, .inr⟩
    unfold Path
    rw [k]
    exact ⟨.inr, fun h => h.elim (fun z => absurd z e) id⟩
theorem path_in (T : TreeP n par dep) {a b v : Int} (a0 : 0 ≤ a) (a1 : a < (n : Int)) (b0 : 0 ≤ b) (b1 : b < (n : Int)) (h : Path par a b v) : 0 ≤ v ∧ v < (n : Int) ∧ v ≠ 0 := by
  have k : Sub par v a ∨ Sub par v b := Classical.byContradiction fun g => h ⟨fun s => absurd (.inl s) g, fun s => absurd (.inr s) g⟩
  have nz : v ≠ 0 := fun e => by
    rw [e] at h
    exact h ⟨fun _ => sub_root T _ b b0 b1 (Nat.le_refl _), fun _ => sub_root T _ a a0 a1 (Nat.le_refl _)⟩
  rcases k with k | k
  · have := (sub_in T a0 a1 k).1
    exact ⟨this.1, this.2, nz⟩
  · have := (sub_in T b0 b1 k).1
    exact ⟨this.1, this.2, nz⟩
end
theorem climb_path {n : Nat} {above away : List Int} (T : TreeP n (fun v => above.getD v.toNat 0) (fun v => (away.getD v.toNat 0).toNat)) (nn : ∀ v : Int, 0 ≤ v → v < (n : Int) → 0 ≤ away.getD v.toNat 0) :
    ∀ (k : Nat) (a b : Int), 0 ≤ a → a < (n : Int) → 0 ≤ b → b < (n : Int) → (away.getD a.toNat 0).toNat + (away.getD b.toNat 0).toNat ≤ k → ∀ v, v ∈ climb above away k a b ↔ Path (fun v => above.getD v.toNat 0) a b v
  | 0, a, b, a0, a1, b0, b1, hk, v => by
    have ea := dep_zero T a0 a1 (by show (away.getD a.toNat 0).toNat = 0; omega)
    have eb := dep_zero T b0 b1 (by show (away.getD b.toNat 0).toNat = 0; omega)
    rw [ea, eb]
    exact ⟨fun h => (by cases h), fun h => absurd h path_nil⟩
  | k + 1, a, b, a0, a1, b0, b1, hk, v => by
    have na := nn a a0 a1
    have nb := nn b b0 b1
    unfold climb
    by_cases e : a = b
    · rw [if_pos e, e]
      exact ⟨fun h => (by cases h), fun h => absurd h path_nil⟩
    rw [if_neg e]
    by_cases c : away.getD a.toNat 0 < away.getD b.toNat 0
    · rw [if_pos c]
      obtain ⟨nz, q⟩ := path_up T (v := v) b0 b1 a0 a1 (Ne.symm e) (by show (away.getD a.toNat 0).toNat ≤ (away.getD b.toNat 0).toNat; omega)
      obtain ⟨p0, p1, pd⟩ := T.up b b0 b1 nz
      have pd : (away.getD (above.getD b.toNat 0).toNat 0).toNat + 1 = (away.getD b.toNat 0).toNat := pd
      have ih := climb_path T nn k (above.getD b.toNat 0) a p0 p1 a0 a1 (by omega) v
      rw [List.mem_cons, ih]
      exact q.symm.trans ⟨Path.symm, Path.symm⟩
    · rw [if_neg c]
      obtain ⟨nz, q⟩ := path_up T (v := v) a0 a1 b0 b1 e (by show (away.getD b.toNat 0).toNat ≤ (away.getD a.toNat 0).toNat; omega)
      obtain ⟨p0, p1, pd⟩ := T.up a a0 a1 nz
      have pd : (away.getD (above.getD a.toNat 0).toNat 0).toNat + 1 = (away.getD a.toNat 0).toNat := pd
      have ih := climb_path T nn k (above.getD a.toNat 0) b p0 p1 b0 b1 (by omega) v
      rw [List.mem_cons, ih]
      exact q.symm
/-! ### the program's groups -/
def climbT (above away : List Int) (t : Int × Int) : List Int := climb above away ((away.getD t.1.toNat 0).toNat + (away.getD t.2.toNat 0).toNat) t.1 t.2
def gjoin (above away : List Int) (g : List Int) (t : Int × Int) : List Int := (climbT above away t).map fun v => g.getD v.toNat 0
def manyB (J : List Int) : Bool := J.any fun x => decide (x ≠ J.headD 0)
def gstep (above away : List Int) (g : List Int) (t : Int × Int) : List Int := if manyB (gjoin above away g t) = true then g.map (mrg ((gjoin above away g t).headD 0) (gjoin above away g t)) else g
theorem gstep_len {above away : List Int} {g : List Int} {t : Int × Int} : (gstep above away g t).length = g.length := by
  unfold gstep
  by_cases h : manyB (gjoin above away g t) = true
  · rw [if_pos h, List.length_map]
  · rw [if_neg h]
theorem many_no {J : List Int} (h : ¬ manyB J = true) : ∀ x ∈ J, ∀ y ∈ J, x = y := fun x hx y hy => by
  have q : ∀ z ∈ J, z = J.headD 0 := fun z hz => Classical.byContradiction fun ne => h (List.any_eq_true.mpr ⟨z, hz, decide_eq_true ne⟩)
  rw [q x hx, q y hy]
theorem many_head {J : List Int} (h : manyB J = true) : J.headD 0 ∈ J := by
  cases J with
  | nil => cases h
  | cons x l => exact List.mem_cons_self
def Bay (n : Nat) (v : Int) : Prop := 0 ≤ v ∧ v < (n : Int)
theorem gstep_lab {n : Nat} {above away : List Int} {g : List Int} {t : Int × Int} {R : Int → Int → Prop} (hl : g.length = n) (h : Lab (Bay n) (fun v => g.getD v.toNat 0) R) (hJ : ∀ v ∈ climbT above away t, Bay n v) :
    Lab (Bay n) (fun v => (gstep above away g t).getD v.toNat 0) (fun x y => R x y ∨ (x ∈ climbT above away t ∧ y ∈ climbT above away t)) := by
  unfold gstep
  by_cases c : manyB (gjoin above away g t) = true
  · rw [if_pos c]
    refine (lab_step h hJ (many_head c)).congr (fun v hv => ?_) fun _ _ => Iff.rfl
    have hv2 : v.toNat < g.length := by
      have := hv.1
      have := hv.2
      omega
    rw [List.getD_eq_getElem?_getD, List.getElem?_map, List.getD_eq_getElem?_getD, List.getElem?_eq_getElem hv2]
    rfl
  · rw [if_neg c]
    exact lab_skip h hJ fun x hx y hy => many_no c _ (List.mem_map.mpr ⟨x, hx, rfl⟩) _ (List.mem_map.mpr ⟨y, hy, rfl⟩)
theorem gfold_lab {n : Nat} {above away : List Int} : ∀ (ps : List (Int × Int)) {g : List Int} {R : Int → Int → Prop}, g.length = n → Lab (Bay n) (fun v => g.getD v.toNat 0) R → (∀ t ∈ ps, ∀ v ∈ climbT above away t, Bay n v) →
    (ps.foldl (gstep above away) g).length = n ∧ Lab (Bay n) (fun v => (ps.foldl (gstep above away) g).getD v.toNat 0) (fun x y => R x y ∨ ∃ t ∈ ps, x ∈ climbT above away t ∧ y ∈ climbT above away t)
  | [], g, R, hl, h, _ => ⟨hl, h.congr (fun _ _ => rfl) fun x y => ⟨.inl, fun z => z.elim id fun ⟨_, q, _⟩ => (by cases q)⟩⟩
  | t :: ps, g, R, hl, h, hJ => by
    obtain ⟨q1, q2⟩ := gfold_lab ps (gstep_len.trans hl) (gstep_lab hl h (hJ t List.mem_cons_self)) fun s hs => hJ s (List.mem_cons_of_mem _ hs)
    refine ⟨q1, q2.congr (fun _ _ => rfl) fun x y => ⟨fun z => ?_, fun z => ?_⟩⟩
    · rcases z with (z | z) | ⟨s, hs, z⟩
      · exact .inl z
      · exact .inr ⟨t, List.mem_cons_self, z⟩
      · exact .inr ⟨s, List.mem_cons_of_mem _ hs, z⟩
    · rcases z with z | ⟨s, hs, z⟩
      · exact .inl (.inl z)
      · rcases List.mem_cons.mp hs with e | e
        · rw [e] at z
          exact .inl (.inr z)
        · exact .inr ⟨s, e, z⟩
end Sb

/-! ## Y242 -/
/-! is_web, need_web, need_bay of any thing. -/
namespace Sb
open PySem PySem.Spec PyProof.Rows L2
theorem FnOk.or {P : Program} {w : World} {K : PySem.W.Frag} {mg : Str → Option Value} {base : Heap} {CX : CXT} {k : Nat} {f : Addr} {fd : FuncData} {ps : List Str} {s1 s2 sp : Sp} (F1 : FnOk P w K mg base CX k f fd ps s1) (F2 : FnOk P w K mg base CX k f fd ps s2)
    (h : ∀ vs H Q E, sp vs H Q E → s1 vs H Q E ∨ s2 vs H Q E) : FnOk P w K mg base CX k f fd ps sp where
  len := fun vs H Q E z => (h vs H Q E z).elim (F1.len vs H Q E) (F2.len vs H Q E)
  run := fun A outer s H args us vs Q E hr e0 hb r z => (h vs H Q E z).elim (F1.run A outer s H args us vs Q E hr e0 hb r) (F2.run A outer s H args us vs Q E hr e0 hb r)
theorem shapeD_some {d : PyData} {n : Int} {ts : List (Int × Int)} (h : shapeD d = some (n, ts)) : ∃ es : List PyData, d = .tuple [.int n, .tuple es] ∧ es.all isPairD = true ∧ ts = es.map pairD := by
  unfold shapeD at h
  split at h
  · rename_i m es
    split at h
    · rename_i c
      cases h
      exact ⟨es, rfl, c, rfl⟩
    · cases h
  · cases h
theorem pairD_is {d : PyData} (h : isPairD d = true) : d = .tuple [.int (pairD d).1, .int (pairD d).2] := by
  unfold isPairD at h
  split at h
  · rfl
  · cases h
theorem th_two {H : Hp} {q : Addr} {a b : Int} (h : Th H (.ref q) (.tuple [.int a, .int b])) : Rd H q (.tup [.int a, .int b]) := by
  cases h with
  | @tupR _ xs _ e hs =>
    obtain ⟨v1, v2, d1, d2, rfl, e2, g1, g2⟩ := two_th hs (by rw [thAll_len hs]; rfl)
    cases e2
    cases g1
    cases g2
    exact e
/-- pairs in a tuple, as things -/
theorem prs_th {H : Hp} : ∀ {ys : List V} {es : List PyData}, ThAll H ys es → es.all isPairD = true → ∃ qs : List Addr, ys = qs.map V.ref ∧ qs.length = es.length ∧ ∀ (i : Nat) (q : Addr) (a b : Int), qs[i]? = some q → (es.map pairD)[i]? = some (a, b) → Rd H q (.tup [.int a, .int b])
  | _, _, .nil, _ => ⟨[], rfl, rfl, fun i q a b e _ => by simp at e⟩
  | _, _, .cons (v := v) (d := d) h hs, ha => by
    rw [List.all_cons, Bool.and_eq_true] at ha
    obtain ⟨qs, e1, e2, e3⟩ := prs_th hs ha.2
    have hd := pairD_is ha.1
    rw [hd] at h
    cases h with
    | @tupR q xs _ e hx =>
      refine ⟨q :: qs, by rw [e1]; rfl, by rw [List.length_cons, List.length_cons, e2], fun i r a b h1 h2 => ?_⟩
      cases i with
      | zero =>
        cases h1
        have h2 : pairD d = (a, b) := Option.some.inj h2
        have z := th_two (.tupR e hx)
        rw [h2] at z
        exact z
      | succ i => exact e3 i r a b h1 h2
theorem th_web {K : PySem.W.Frag} {H : Hp} {v : V} {d : PyData} {n : Int} {ts : List (Int × Int)} (h : Th H v d) (e : shapeD d = some (n, ts)) : WebAt K H v n ts := by
  obtain ⟨es, rfl, ha, rfl⟩ := shapeD_some e
  cases h with
  | @tupR r xs _ hr hs =>
    obtain ⟨v1, v2, d1, d2, rfl, e2, g1, g2⟩ := two_th hs (by rw [thAll_len hs]; rfl)
    cases e2
    cases g1
    cases g2 with
    | @tupR t ys _ ht hes =>
      obtain ⟨qs, rfl, q2, q3⟩ := prs_th hes ha
      exact ⟨r, t, rfl, sqR hr, qs, sqR ht, by rw [q2, List.length_map], fun i q a b e1 e2 => sqR (q3 i q a b e1 e2)⟩
theorem shape_len {d : PyData} {n : Int} {ts : List (Int × Int)} (e : shapeD d = some (n, ts)) : ts.length = tiesOf d := by
  obtain ⟨es, rfl, _, rfl⟩ := shapeD_some e
  exact List.length_map _
def spWebT : Sp := fun vs H Q _ => ∃ v d, vs = [v] ∧ Th H v d ∧ tiesOf d ≤ 100000 ∧ ∀ H', Same H H' → Q (.bl (webD d)) H'
section
variable {P : Program} {w : World} {K : PySem.W.Frag} {mg : Str → Option Value} {base : Heap}
theorem ok_webT {f fW fT fR fS : Addr} {fd fdW fdT fdR fdS : FuncData} (F : FnP K "is_web" sWeb f fd) (T : WebTxt mg) (T2 : WebTxt2 mg) (FW : FnP K "is_whole" sWhole fW fdW) (gW : mg "is_whole" = some (.ref fW)) (FT : FnP K "is_tie" sTie fT fdT) (gT : mg "is_tie" = some (.ref fT))
    (FR : FnP K "rows_of" sRows fR fdR) (gR : mg "rows_of" = some (.ref fR)) (FS : FnP K "steps_from" sSteps fS fdS) (gS : mg "steps_from" = some (.ref fS)) : FnOk P w K mg base CX0 3 f fd ["thing"] spWebT := by
  refine FnOk.or (ok_web F T T2 FW gW FT gT FR gR FS gS) (ok_webN F T T2 FW gW FT gT) fun vs H Q E h => ?_
  obtain ⟨v, d, rfl, hv, hm, q⟩ := h
  unfold webD at q
  cases e : shapeD d with
  | none =>
    rw [e] at q
    exact .inr ⟨v, d, rfl, hv, e, hm, q⟩
  | some p =>
    obtain ⟨n, ts⟩ := p
    rw [e] at q
    exact .inl (.inr ⟨v, n, ts, rfl, th_web hv e, by rw [shape_len e]; exact hm, q⟩)
end
/-! ### an error's class, as the head tells it -/
structure ErrOne (K : PySem.W.Frag) (mg : Str → Option Value) (x : Str) (C : Addr) : Prop where
  gs : mg x = some (.ref C)
  kp : PySem.W.keepIn K (.ref C) = true
  ex : PySem.W.excIn K C He.veBase "ValueError.__new__" = true
end Sb

/-! ## PBt42 -/
/-! path_between of a web's rows, is_bay of any thing. -/
namespace Sb
open PySem PySem.Spec PyProof.Rows L2
abbrev sIsBayQ : Stmt := top 23
def bayD (n : Int) : PyData → Bool
  | .int b => decide (0 ≤ b) && decide (b < n)
  | _ => false
theorem bayD_int {n z : Int} : bayD n (.int z) = (decide (0 ≤ z) && decide (z < n)) := rfl
theorem bayD_is {n : Int} {d : PyData} (h : bayD n d = true) : ∃ b : Int, d = .int b ∧ 0 ≤ b ∧ b < n := by
  unfold bayD at h
  split at h
  · rw [Bool.and_eq_true] at h
    exact ⟨_, rfl, of_decide_eq_true h.1, of_decide_eq_true h.2⟩
  · cases h
theorem th_int {H : Hp} {v : V} {b : Int} (h : Th H v (.int b)) : v = .int b := by
  cases h
  rfl
def spNeedT (C : Nat → Addr) : Sp := fun vs H Q E => ∃ v d, vs = [v] ∧ Th H v d ∧ tiesOf d ≤ 100000 ∧ (webD d = true → ∀ H', Same H H' → Q .non H') ∧ (webD d = false → ∀ H', Same H H' → E (.ref (C 0)) none H')
/-- is_bay of a web and any thing -/
def spIsBayQ (K : PySem.W.Frag) : Sp := fun vs H Q _ => ∃ v n ts b d, vs = [v, b] ∧ WebAt K H v n ts ∧ Th H b d ∧ Q (.bl (bayD n d)) H
section
variable {P : Program} {w : World} {K : PySem.W.Frag} {mg : Str → Option Value} {base : Heap}
theorem scIsBayQ : FnScope ["web", "thing"] ["web", "thing"] (defScope sIsBayQ) := ⟨rfl, rfl, rfl, by decide +kernel, rfl, by decide +kernel, by decide +kernel⟩
theorem ok_isBayQ {f fW : Addr} {fd fdW : FuncData} (F : FnP K "is_bay" sIsBayQ f fd) (T : WebTxt mg) (FW : FnP K "is_whole" sWhole fW fdW) (gW : mg "is_whole" = some (.ref fW)) : FnOk P w K mg base CX0 2 f fd ["web", "thing"] (spIsBayQ K) := by
  have GW : FnOk P w K mg base CX0 1 fW fdW ["thing"] spWholeT := ok_wholeT FW T
  have bW : Binds K fdW ["thing"] [] := FW.bindsN fun _ _ _ _ _ _ us hl => match us, hl with | [_], _ => rfl
  refine ok0 F scIsBayQ (fun vs H Q E h => ?_) (fun cdv A outer s H vs Q E hr h => ?_)
  · obtain ⟨v, n, ts, b, d, rfl, _⟩ := h
    rfl
  · obtain ⟨v, n, ts, b, d, rfl, ⟨wa, wt, rfl, hw, hT⟩, hb, q⟩ := h
    refine ⟨_, (pss_one (ps_ret (pe_and (pe_call GW hr rfl gW FW.kp bW .nil pass0 (pa_cons (pv 1) pa_nil)) (pe_one (pe_chain op_le op_lt pe_int (pv 1) (pe_ix ix_tup (pv 0) pe_int (fun _ _ => rfl))))))), ?_⟩
    refine ⟨_, rfl, b, d, rfl, hb, _, rfl, ?_⟩
    cases ew : wholeD d with
    | false =>
      refine iteC rfl ?_
      have e : bayD n d = false := by cases d <;> first | rfl | cases ew
      rw [e] at q
      exact q
    | true =>
      obtain ⟨z, rfl⟩ : ∃ z : Int, d = .int z := by
        cases d <;> first | exact ⟨_, rfl⟩ | cases ew
      rw [th_int hb]
      refine iteD rfl ?_
      refine ⟨_, rfl, _, _, rfl, rfl, _, rfl, ?_⟩
      rw [bayD_int] at q
      by_cases h1 : 0 ≤ z
      · rw [decide_eq_true h1, Bool.true_and] at q
        exact iteD (decide_eq_true h1) ⟨_, rfl, wa, _, _, _, rfl, rfl, hw, rfl, _, _, rfl, rfl, q⟩
      · rw [decide_eq_false h1, Bool.false_and] at q
        exact iteC (decide_eq_false h1) q
end
end Sb

/-! ## SLt42 -/
/-! Slides: tied_along, slid, led_to. -/
namespace Sb
open PySem PySem.Spec PyProof.Rows L2
abbrev sTied : Stmt := top 15
abbrev sSlid : Stmt := top 16
/-- two bays' pieces exchanged -/
def swp (L : List Int) (i j : Int) : List Int := (L.set i.toNat (L.getD j.toNat 0)).set j.toNat (L.getD i.toNat 0)
/-- what stands, and where the empty bay is, after moves -/
def slidS (L : List Int) (e : Int) (ms : List Int) : List Int × Int := ms.foldl (fun st b => (swp st.1 st.2 b, b)) (L, e)
theorem swp_len (L : List Int) (i j : Int) : (swp L i j).length = L.length := by
  unfold swp
  rw [List.length_set, List.length_set]
theorem slidS_snoc {L : List Int} {e : Int} {ms : List Int} {b : Int} : slidS L e (ms ++ [b]) = (swp (slidS L e ms).1 (slidS L e ms).2 b, b) := by
  unfold slidS
  rw [List.foldl_append]
  rfl
theorem slidS_fold_len : ∀ (ms : List Int) (st : List Int × Int), (ms.foldl (fun st b => (swp st.1 st.2 b, b)) st).1.length = st.1.length
  | [], _ => rfl
  | b :: ms, st => by
    rw [List.foldl_cons, slidS_fold_len ms]
    exact swp_len _ _ _
theorem slidS_len (L : List Int) (e : Int) (ms : List Int) : (slidS L e ms).1.length = L.length := slidS_fold_len ms (L, e)
theorem slidS_fold_in {n : Nat} : ∀ (ms : List Int) (st : List Int × Int), Bay n st.2 → (∀ b ∈ ms, Bay n b) → Bay n (ms.foldl (fun st b => (swp st.1 st.2 b, b)) st).2
  | [], _, h, _ => h
  | b :: ms, st, _, g => by
    rw [List.foldl_cons]
    exact slidS_fold_in ms _ (g b List.mem_cons_self) fun c hc => g c (List.mem_cons_of_mem _ hc)
theorem slidS_in {n : Nat} {L : List Int} {e : Int} {ms : List Int} (he : Bay n e) (h : ∀ b ∈ ms, Bay n b) : Bay n (slidS L e ms).2 := slidS_fold_in ms (L, e) he h
/-- whether each bay is tied to the one ahead of it -/
def tiedS (rss : List (List Int)) : Int → List Int → Bool
  | _, [] => true
  | e, b :: ms => decide (b ∈ gR rss e) && tiedS rss b ms
def spTied : Sp := fun vs H Q _ => ∃ (l m : Addr) (ps : List Addr) (rss : List (List Int)) (e : Int) (ms : List Int), vs = [.ref l, .int e, .ref m] ∧ RowsL H l ps rss ∧ H m = some (.lst (ms.map V.int)) ∧ Bay rss.length e ∧ (∀ b ∈ ms, Bay rss.length b) ∧ ∀ H', Same H H' → Q (.bl (tiedS rss e ms)) H'
def spSlid (K : PySem.W.Frag) : Sp := fun vs H Q _ => ∃ (p m : Addr) (L ms : List Int) (e : Int), vs = [.ref p, .int e, .ref m] ∧ (SqL K H p (L.map V.int) ∨ SqT K H p (L.map V.int)) ∧ SqL K H m (ms.map V.int) ∧ Bay L.length e ∧ (∀ b ∈ ms, Bay L.length b) ∧ L.length ≤ 1000 ∧
  ∀ a H', Same H H' → H a = none → H' a = some (.lst ((slidS L e ms).1.map V.int)) → Q (.ref a) H'
structure SlTxt (mg : Str → Option Value) : Prop where
  list : mg "list" = none
  tuple : mg "tuple" = none
section
variable {P : Program} {w : World} {K : PySem.W.Frag} {mg : Str → Option Value} {base : Heap}
abbrev scTiedN : List Str := ["rows", "start", "moves", "at", "bay"]
theorem scTied : FnScope ["rows", "start", "moves", "at", "bay"] ["rows", "start", "moves"] (defScope sTied) := ⟨rfl, rfl, rfl, by decide +kernel, rfl, by decide +kernel, by decide +kernel⟩
theorem ok_tied {f : Addr} {fd : FuncData} (F : FnP K "tied_along" sTied f fd) : FnOk P w K mg base CX0 1 f fd ["rows", "start", "moves"] spTied := by
  refine ok0 F scTied (fun vs H Q E h => ?_) (fun cdv A outer s H vs Q E hr h => ?_)
  · obtain ⟨l, m, ps, rss, e, ms, rfl, _⟩ := h
    rfl
  · obtain ⟨l, m, ps, rss, e, ms, rfl, R, hm, he, hms, q⟩ := h
    refine ⟨_, (pss_cons (ps_set (i := 3) scTied.nd rfl (Or.inl rfl) (pv 1))
    (pss_cons (ps_for PassesOwn.never rfl (pi_list (pv 2)) (pg_name (i := 4) scTied.nd rfl (Or.inl rfl))
      (pss_cons (ps_if (pt_cmpR op_notIn_seq (pv 4) (pe_ix ix_list (pv 0) (pv 3) (fun _ _ => rfl)) (by rfl))
      (pss_one (ps_ret pe_bl))
      pss_nil)
    (pss_one (ps_set (i := 3) scTied.nd rfl (Or.inl rfl) (pv 4)))))
    (pss_one (ps_ret pe_bl)))), ?_⟩
    refine ⟨_, rfl, _, rfl, m, rfl, ⟨_, SqL.of hm⟩, for_list (K := K) (a := m) (xs := ms.map V.int) (fun i σ H' => (∃ (at_ : Int) (u : Option V), σ = [some (.ref l), some (.int e), some (.ref m), some (.int at_), u] ∧ Bay rss.length at_ ∧ tiedS rss e ms = tiedS rss at_ (ms.drop i)) ∧ Same H H') ⟨⟨e, none, rfl, he, rfl⟩, Same.refl H⟩ (fun i σ H' _ ⟨_, S⟩ => SqL.of (S _ _ hm)) ?_ ?_⟩
    · rintro i y σ H' hi ⟨⟨at_, u, rfl, hat, et⟩, S⟩
      obtain ⟨b, hb, rfl⟩ := getMap hi
      obtain ⟨p, gp, xp⟩ := R.get hat.1 hat.2
      have rp := S _ _ (R.row _ _ gp)
      have ed : ms.drop i = b :: ms.drop (i + 1) := by
        have hil := (List.getElem?_eq_some_iff.mp hb).1
        rw [← (List.getElem?_eq_some_iff.mp hb).2]
        exact (List.getElem_cons_drop (h := hil)).symm
      rw [ed] at et
      have et : tiedS rss e ms = (decide (b ∈ gR rss at_) && tiedS rss b (ms.drop (i + 1))) := et
      have hbb := hms b (List.mem_of_getElem? hb)
      refine ⟨_, rfl, _, rfl, _, rfl, l, _, _, _, rfl, rfl, SqL.of (S _ _ R.at_), xp, p, _, rfl, .inl (SqL.of rp), rfl, flat_ints, _, rfl, ?_⟩
      by_cases hin : b ∈ gR rss at_
      · rw [decide_eq_true hin, Bool.true_and] at et
        refine iteC (by rw [inV_ints, decide_eq_true (show b ∈ rss.getD at_.toNat [] from hin)]; rfl) ?_
        exact ⟨_, rfl, ⟨b, _, rfl, hbb, et⟩, S⟩
      · rw [decide_eq_false hin, Bool.false_and] at et
        refine iteD (by rw [inV_ints, decide_eq_false (show ¬ b ∈ rss.getD at_.toNat [] from hin)]; rfl) ?_
        rw [et] at q
        exact q H' S
    · rintro σ H' ⟨⟨at_, u, rfl, hat, et⟩, S⟩
      rw [List.length_map, List.drop_length] at et
      have et : tiedS rss e ms = true := et
      rw [et] at q
      exact q H' S
abbrev scSlidN : List Str := ["pieces", "empty", "moves", "after", "at", "bay"]
theorem scSlid : FnScope ["pieces", "empty", "moves", "after", "at", "bay"] ["pieces", "empty", "moves"] (defScope sSlid) := ⟨rfl, rfl, rfl, by decide +kernel, rfl, by decide +kernel, by decide +kernel⟩
theorem ok_slid {f : Addr} {fd : FuncData} (F : FnP K "slid" sSlid f fd) (T : SlTxt mg) : FnOk P w K mg base CX0 1 f fd ["pieces", "empty", "moves"] (spSlid K) := by
  refine ok0 F scSlid (fun vs H Q E h => ?_) (fun cdv A outer s H vs Q E hr h => ?_)
  · obtain ⟨p, m, L, ms, e, rfl, _⟩ := h
    rfl
  · obtain ⟨p, m, L, ms, e, rfl, hp, hm, he, hms, hL, q⟩ := h
    refine ⟨_, (pss_cons (ps_set (i := 3) scSlid.nd rfl (Or.inl rfl) (pe_callTy (T := "list") call_list_ofL (by rfl) T.list (by decide +kernel) (pa_cons (pv 0) pa_nil)))
    (pss_cons (ps_set (i := 4) scSlid.nd rfl (Or.inl rfl) (pv 1))
    (pss_cons (ps_for PassesOwn.never rfl (pi_list (pv 2)) (pg_name (i := 5) scSlid.nd rfl (Or.inl rfl))
      (pss_cons (ps_asg (pe_tupL (pa_cons (pe_ix ix_list (pv 3) (pv 5) (fun _ _ => rfl)) (pa_cons (pe_ix ix_list (pv 3) (pv 4) (fun _ _ => rfl)) pa_nil))) (pg_tup (by rfl) (pgs_cons (pg_sub (pv 3) (pv 4) set_listL) (pgs_cons (pg_sub (pv 3) (pv 5) set_listL) pgs_nil))))
    (pss_one (ps_set (i := 4) scSlid.nd rfl (Or.inl rfl) (pv 5)))))
    (pss_one (ps_ret (pv 3)))))), ?_⟩
    refine ⟨_, rfl, p, _, rfl, hp, fun a H1 n1 S1 h1 => ?_⟩
    have na : H a = none := n1
    refine ⟨_, rfl, _, rfl, m, rfl, ⟨_, S1.seq hm⟩, for_list (K := K) (a := m) (xs := ms.map V.int) (fun i σ H' => (∃ u : Option V, σ = [some (.ref p), some (.int e), some (.ref m), some (.ref a), some (.int (slidS L e (ms.take i)).2), u]) ∧ Same H H' ∧ H' a = some (.lst ((slidS L e (ms.take i)).1.map V.int))) ⟨⟨none, rfl⟩, S1, h1⟩ (fun i σ H' _ ⟨_, S, _⟩ => S.seq hm) ?_ ?_⟩
    · rintro i y σ H' hi ⟨⟨u, rfl⟩, S, ha⟩
      obtain ⟨b, hb, rfl⟩ := getMap hi
      have hbb := hms b (List.mem_of_getElem? hb)
      have hee : Bay L.length (slidS L e (ms.take i)).2 := slidS_in he fun c hc => hms c (List.mem_of_mem_take hc)
      have hLl := slidS_len L e (ms.take i)
      have sn := slidS_snoc (L := L) (e := e) (ms := ms.take i) (b := b)
      rw [← take_more hb] at sn
      generalize slidS L e (ms.take i) = st at ha hee hLl sn
      obtain ⟨M, at_⟩ := st
      dsimp only at ha hee hLl sn
      have x1 : atI (M.map V.int) b = some (.int (M.getD b.toNat 0)) := atI_map hbb.1 (by rw [hLl]; exact hbb.2)
      have x2 : atI (M.map V.int) at_ = some (.int (M.getD at_.toNat 0)) := atI_map hee.1 (by rw [hLl]; exact hee.2)
      refine ⟨_, rfl, _, rfl, a, _, _, _, rfl, rfl, SqL.of ha, x1, _, rfl, _, rfl, a, _, _, _, rfl, rfl, SqL.of ha, x2, by show 2 ≤ sizeLine; decide, fun t H1 n1 S1 ht => ?_⟩
      have ha1 := S1 _ _ ha
      refine ⟨t, _, rfl, SqT.of ht, rfl, _, _, rfl, _, rfl, _, rfl, a, _, _, _, rfl, rfl, ha1, ixN_map hee.1 (by rw [hLl]; exact hee.2), fun H2 B2 h2 => ?_⟩
      refine ⟨_, _, rfl, _, rfl, _, rfl, a, _, _, b.toNat, rfl, rfl, h2, ?_, fun H3 B3 h3 => ?_⟩
      · rw [List.length_set]
        exact ixN_map hbb.1 (by rw [hLl]; exact hbb.2)
      refine ⟨rfl, _, rfl, ⟨_, by rw [sn]; rfl⟩, same_but (same_but (S.trans S1) na B2) na B3, ?_⟩
      rw [h3, sn]
      show some (HO.lst _) = some (HO.lst ((swp M at_ b).map V.int))
      unfold swp
      rw [List.map_set, List.map_set]
    · rintro σ H' ⟨⟨u, rfl⟩, S, ha⟩
      rw [List.length_map, List.take_length] at ha
      exact ⟨_, rfl, q a H' S na ha⟩
/-- the empty bay of a loose standing -/
def e0 (L : List Int) : Int := ((L.idxOf 0 : Nat) : Int)
theorem e0_at {L : List Int} (h : (0 : Int) ∈ L) : Bay L.length (e0 L) ∧ L[L.idxOf 0]? = some 0 ∧ ∀ m : Nat, m < L.idxOf 0 → L[m]? ≠ some 0 := by
  have hl := List.idxOf_lt_length_of_mem h
  refine ⟨⟨by unfold e0; omega, by unfold e0; omega⟩, by rw [List.getElem?_eq_getElem hl, List.getElem_idxOf], fun m hm e => ?_⟩
  have hm2 : m < L.length := by omega
  rw [List.getElem?_eq_getElem hm2] at e
  have e := Option.some.inj e
  exact absurd (List.not_of_lt_findIdx (p := fun x => x == (0 : Int)) hm) (by simp [e])
def ledP (n : Nat) (ts : List (Int × Int)) (L : List Int) (b : Int) : List Int := (slidS L (e0 L) (pathOf n ts (e0 L) b)).1
theorem path_bays {n : Nat} {ts : List (Int × Int)} (W : WebP n ts) {a b : Int} (a0 : 0 ≤ a) (a1 : a < (n : Int)) (b0 : 0 ≤ b) (b1 : b < (n : Int)) : ∀ z ∈ pathOf n ts a b, Bay n z := by
  have F := web_far W b0 b1
  have key : ∀ (k : Nat) (v : Int), 0 ≤ v → v < (n : Int) → gI (stepsOf (rowsOf n ts) b.toNat) v = (k : Int) → ∀ z ∈ pathP (rowsOf n ts) (stepsOf (rowsOf n ts) b.toNat) k v, Bay n z := by
    intro k
    induction k with
    | zero => intro v _ _ _ z hz; cases hz
    | succ k ih =>
      intro v v0 v1 e z hz
      have ne : v ≠ b := fun q => by
        have := (F.z v v0 v1).mpr q
        omega
      obtain ⟨r, _, x0, x1, ex, _⟩ := nxt_facts W F v0 v1 ne
      rcases List.mem_cons.mp hz with q | q
      · rw [q]
        exact ⟨x0, x1⟩
      · exact ih _ x0 x1 (by omega) z q
  have nn := F.nn a a0 a1
  exact key (gI (stepsOf (rowsOf n ts) b.toNat) a).toNat a a0 a1 (by omega)
end
end Sb

/-! ## NWt42 -/
/-! need_web, need_bay; what raises. -/
namespace Sb
open PySem PySem.Spec PyProof.Rows L2
/-- a class of errors, as the head tells it -/
structure ErrN (K : PySem.W.Frag) (mg : Str → Option Value) (x : Str) (C : Addr) : Prop where
  gs : mg x = some (.ref C)
  kp : PySem.W.keepIn K (.ref C) = true
  ex : PySem.W.excIn K C He.veBase "ValueError.__new__" = true
  su : PySem.W.subIn K (.ref C) (.type "BaseException") = some true
  ty : PySem.W.typeIn K (.ref C) = some (.type "type")
section
variable {P : Program} {w : World} {K : PySem.W.Frag} {mg : Str → Option Value} {base : Heap} {x qual : Str} {params : Arguments} {body : List Stmt} {scope : Scope} {dvs : List V} {kws : List (Str × V)} {f : Addr} {fd : FuncData}
/-- a def that may raise -/
theorem okX {N ps : List Str} {k : Nat} {sp : Sp} (F : FunD K x qual params body scope dvs kws f fd) (S : FnScope N ps scope) (len : ∀ vs H Q E, sp vs H Q E → vs.length = ps.length)
    (hbody : ∀ (cdv : Value) (A : Around) (outer : List Env) (s : Shared) (H : Hp) (vs : List V) (Q : VK) (E : XK), Room k (A.deeper (envOfC qual scope s.heap.objs.size f cdv)) → sp vs H Q E →
      ∃ t, PSs (cxOf (L2.CX P w) P w K mg base N qual scope f cdv A outer s H E) body t ∧ t { nx := fun _ H' => Q .non H', rt := Q } (start N vs) H) : FnOk P w K mg base (L2.CX P w) (k + 1) f fd ps sp :=
  F.ok S len fun cdv A outer s H vs Q E hr hsp => hbody cdv A outer s H vs Q E hr hsp
end
def spNeedN (C : Addr) : Sp := fun vs H Q E => ∃ v d, vs = [v] ∧ Th H v d ∧ tiesOf d ≤ 100000 ∧ (webD d = true → ∀ H', Same H H' → Q .non H') ∧ (webD d = false → ∀ H', Same H H' → E (.ref C) none H')
theorem webD_is {d : PyData} (h : webD d = true) : ∃ (n : Nat) (ts : List (Int × Int)), shapeD d = some ((n : Int), ts) ∧ WebP n ts := by
  unfold webD at h
  cases e : shapeD d with
  | none =>
    rw [e] at h
    cases h
  | some p =>
    obtain ⟨m, ts⟩ := p
    rw [e] at h
    obtain ⟨W, em⟩ := WebP.of (m := m) (ts := ts) h
    exact ⟨m.toNat, ts, by rw [em], W⟩
def spBayN (K : PySem.W.Frag) (C : Addr) : Sp := fun vs H Q E => ∃ v n ts b d, vs = [v, b] ∧ WebAt K H v n ts ∧ Th H b d ∧ (bayD n d = true → Q .non H) ∧ (bayD n d = false → E (.ref C) none H)
section
variable {P : Program} {w : World} {K : PySem.W.Frag} {mg : Str → Option Value} {base : Heap} {C : Addr}
theorem scNeed : FnScope ["web"] ["web"] (defScope sNeed) := ⟨rfl, rfl, rfl, by decide +kernel, rfl, by decide +kernel, by decide +kernel⟩
theorem ok_needN {f fW : Addr} {fd fdW : FuncData} (F : FnP K "need_web" sNeed f fd) (E : ErrN K mg "NoWeb" C) (FW : FnP K "is_web" sWeb fW fdW) (gW : mg "is_web" = some (.ref fW)) (GW : FnOk P w K mg base CX0 3 fW fdW ["thing"] spWebT) : FnOk P w K mg base (L2.CX P w) 4 f fd ["web"] (spNeedN C) := by
  have bW : Binds K fdW ["thing"] [] := FW.bindsN fun _ _ _ _ _ _ us hl => match us, hl with | [_], _ => rfl
  refine okX F scNeed (fun vs H Q E h => ?_) (fun cdv A outer s H vs Q E0 hr h => ?_)
  · obtain ⟨v, d, rfl, _⟩ := h
    rfl
  · refine ⟨_, (pss_one (ps_if (pt_not (pt_val (pe_call GW hr rfl gW FW.kp bW .nil pass0 (pa_cons (pv 0) pa_nil))))
      (pss_one (ps_raise rfl (takes_of rfl rfl rfl rfl) (pmk_own PySem.F.excBase_ValueError E.ex E.gs E.kp (raises_own E.su E.ty) rfl)))
      pss_nil)), ?_⟩
    obtain ⟨v, d, rfl, hv, hl, q1, q2⟩ := h
    refine ⟨_, rfl, v, d, rfl, hv, hl, fun H' S => ⟨_, rfl, ?_⟩⟩
    cases e : webD d with
    | true => exact iteC rfl (q1 e H' S)
    | false => exact iteD rfl (q2 e H' S)
theorem scBay : FnScope ["web", "bay"] ["web", "bay"] (defScope sBay) := ⟨rfl, rfl, rfl, by decide +kernel, rfl, by decide +kernel, by decide +kernel⟩
theorem ok_bayN {f fQ : Addr} {fd fdQ : FuncData} (F : FnP K "need_bay" sBay f fd) (E : ErrN K mg "NoBay" C) (FQ : FnP K "is_bay" sIsBayQ fQ fdQ) (gQ : mg "is_bay" = some (.ref fQ)) (GQ : FnOk P w K mg base CX0 2 fQ fdQ ["web", "thing"] (spIsBayQ K)) : FnOk P w K mg base (L2.CX P w) 3 f fd ["web", "bay"] (spBayN K C) := by
  have bQ : Binds K fdQ ["web", "thing"] [] := FQ.bindsN fun _ _ _ _ _ _ us hl => match us, hl with | [_, _], _ => rfl
  refine okX F scBay (fun vs H Q E h => ?_) (fun cdv A outer s H vs Q E0 hr h => ?_)
  · obtain ⟨v, n, ts, b, d, rfl, _⟩ := h
    rfl
  · obtain ⟨v, n, ts, b, d, rfl, hW, hb, q1, q2⟩ := h
    refine ⟨_, (pss_one (ps_if (pt_not (pt_val (pe_call GQ hr rfl gQ FQ.kp bQ .nil pass0 (pa_cons (pv 0) (pa_cons (pv 1) pa_nil)))))
      (pss_one (ps_raise rfl (takes_of rfl rfl rfl rfl) (pmk_own PySem.F.excBase_ValueError E.ex E.gs E.kp (raises_own E.su E.ty) rfl)))
      pss_nil)), ?_⟩
    refine ⟨_, rfl, _, rfl, v, n, ts, b, d, rfl, hW, hb, _, rfl, ?_⟩
    cases e : bayD n d with
    | true => exact iteC rfl (q1 e)
    | false => exact iteD rfl (q2 e)
end
end Sb

/-! ## ME -/
/-! Classes of ties by rings and by the tree; the bays of a class; its gate. -/
namespace Sb
theorem nrm_or (a b : Int) : nrm a b = (a, b) ∨ nrm a b = (b, a) := by
  unfold nrm
  by_cases h : a ≤ b
  · exact .inl (if_pos h)
  · exact .inr (if_neg h)
theorem nrm_lt {a b : Int} (h : a < b) : nrm a b = (a, b) := if_pos (Int.le_of_lt h)
section
variable {n : Nat} {par : Int → Int} {dep : Int → Nat} {Ed : Int → Int → Prop}
theorem nrm_ed (G : GT n par dep Ed) {a b : Int} (e : Ed a b) : Ed (nrm a b).1 (nrm a b).2 := by
  rcases nrm_or a b with h | h
  · rw [h]
    exact e
  · rw [h]
    exact G.sym _ _ e
theorem inR_ed (G : GT n par dep Ed) {row : List Int} (R : Ring Ed row) {t : Int × Int} (h : InR row t) : Ed t.1 t.2 := by
  rcases h with ⟨A, u, w, B, e, rfl⟩ | ⟨a, b, ea, eb, rfl⟩
  · have c := R.chn
    rw [e] at c
    exact nrm_ed G (chn_mid c)
  · exact nrm_ed G (R.close a b ea eb)
theorem ed_path (G : GT n par dep Ed) {a b : Int} (e : Ed a b) : ∃ v, Path par a b v := by
  obtain ⟨⟨a0, a1⟩, ⟨b0, b1⟩, ne⟩ := G.inn _ _ e
  refine Classical.byContradiction fun k => ?_
  have all : ∀ v, Sub par v a ↔ Sub par v b := fun v => Classical.not_not.mp fun z => k ⟨v, z⟩
  rcases (sub_in G.toTreeP b0 b1 ((all a).mp .refl)).2 with z | z
  · exact ne z
  · rcases (sub_in G.toTreeP a0 a1 ((all b).mpr .refl)).2 with y | y
    · exact ne y.symm
    · omega
/-- on a ring together -/
def OnR (Ed : Int → Int → Prop) (t s : Int × Int) : Prop := ∃ row, Ring Ed row ∧ InR row t ∧ InR row s
/-- the tie above v has just v between its ends -/
theorem path_par (T : TreeP n par dep) {v x : Int} (v0 : 0 ≤ v) (v1 : v < (n : Int)) (nv : v ≠ 0) : Path par v (par v) x ↔ x = v := by
  obtain ⟨p0, p1, pd⟩ := T.up v v0 v1 nv
  have q := (path_up T (v := x) v0 v1 p0 p1 (fun e => by rw [← e] at pd; omega) (by omega)).2
  rw [q]
  exact ⟨fun h => h.elim id fun z => absurd z path_nil, .inl⟩
/-- each tie between whose ends v lies is joined by rings with the tie above v -/
theorem up_on (G : GT n par dep Ed) (z0 : par 0 = 0) {t : Int × Int} (ht : Ed t.1 t.2) (hn : nrm t.1 t.2 = t) {v : Int} (h : Path par t.1 t.2 v) : Cn (OnR Ed) (nrm v (par v)) t := by
  obtain ⟨⟨a0, a1⟩, ⟨b0, b1⟩, ne⟩ := G.inn _ _ ht
  obtain ⟨v0, v1, nv⟩ := path_in G.toTreeP a0 a1 b0 b1 h
  by_cases c1 : par t.1 = t.2
  · have nz : t.1 ≠ 0 := fun e => by
      rw [e] at c1 ne
      exact ne (z0.symm.trans c1)
    have e := (path_par G.toTreeP (x := v) a0 a1 nz).mp (by rw [c1]; exact h)
    rw [e, c1, hn]
    exact .refl
  by_cases c2 : par t.2 = t.1
  · have nz : t.2 ≠ 0 := fun e => by
      rw [e] at c2 ne
      exact ne (c2.symm.trans z0)
    have e := (path_par G.toTreeP (x := v) b0 b1 nz).mp (by rw [c2]; exact h.symm)
    rw [e, c2, nrm_symm, hn]
    exact .refl
  obtain ⟨row, R, i1, i2⟩ := tie_ring G ht c1 c2
  rw [hn] at i1
  exact .one ⟨row, R, i2 v h, i1⟩
theorem OnR.symm {t s : Int × Int} (h : OnR Ed t s) : OnR Ed s t := by
  obtain ⟨row, R, a, b⟩ := h
  exact ⟨row, R, b, a⟩
/-- ties are joined by rings just if what lies between their ends is -/
theorem tie_class (G : GT n par dep Ed) (z0 : par 0 = 0) {t s : Int × Int} (ht : Ed t.1 t.2) (hs : Ed s.1 s.2) (nt : nrm t.1 t.2 = t) (ns : nrm s.1 s.2 = s) {p q : Int} (hp : Path par t.1 t.2 p) (hq : Path par s.1 s.2 q) : Cn (OnR Ed) t s ↔ Jc par Ed p q := by
  constructor
  · intro h
    induction h generalizing q with
    | refl => exact .one ⟨t.1, t.2, ht, hp, hq⟩
    | @step b c _ r ih =>
      obtain ⟨row, R, i1, i2⟩ := r
      have eb := inR_ed G R i1
      obtain ⟨v, hv⟩ := ed_path G eb
      have k := ring_class G R i1 i2 hv hq
      have nb : nrm b.1 b.2 = b := by
        rcases i1 with ⟨A, u, w, B, e, rfl⟩ | ⟨a, b, ea, eb, rfl⟩
        · rcases nrm_or u w with h | h
          · rw [h]
            exact h
          · rw [h, nrm_symm]
            exact h
        · rcases nrm_or b a with h | h
          · rw [h]
            exact h
          · rw [h, nrm_symm]
            exact h
      exact (ih eb nb hv).trans k
  · intro h
    have sy : ∀ {x y : Int × Int}, Cn (OnR Ed) x y → Cn (OnR Ed) y x := fun h => Cn.symm (fun _ _ r => r.symm) h
    have main : ∀ {q : Int}, Jc par Ed p q → Cn (OnR Ed) t (nrm q (par q)) := fun {q} h => by
      induction h with
      | refl => exact sy (up_on G z0 ht nt hp)
      | @step u w _ r ih =>
        obtain ⟨a, b, e, x, y⟩ := r
        have en := nrm_ed G e
        have nn : nrm (nrm a b).1 (nrm a b).2 = nrm a b := by
          rcases nrm_or a b with h | h
          · rw [h]
            exact h
          · rw [h, nrm_symm]
            exact h
        exact ih.trans ((up_on G z0 en nn (nrm_path.mpr x)).trans (sy (up_on G z0 en nn (nrm_path.mpr y))))
    exact (main h).trans (up_on G z0 hs ns hq)
/-! ### the bays of a class -/
/-- t is one of its class with the fewest steps -/
structure Top (n : Nat) (par : Int → Int) (dep : Int → Nat) (Ed : Int → Int → Prop) (t : Int) : Prop where
  t0 : 0 ≤ t
  t1 : t < (n : Int)
  nt : t ≠ 0
  least : ∀ y, Jc par Ed t y → dep t ≤ dep y
theorem jc_in (G : GT n par dep Ed) {t y : Int} (h : Jc par Ed t y) (t0 : 0 ≤ t) (t1 : t < (n : Int)) (nt : t ≠ 0) : 0 ≤ y ∧ y < (n : Int) ∧ y ≠ 0 := by
  cases h with
  | refl => exact ⟨t0, t1, nt⟩
  | step _ r =>
    obtain ⟨a, b, e, _, y⟩ := r
    obtain ⟨⟨a0, a1⟩, ⟨b0, b1⟩, _⟩ := G.inn _ _ e
    exact path_in G.toTreeP a0 a1 b0 b1 y
theorem Top.out (G : GT n par dep Ed) {t : Int} (h : Top n par dep Ed t) : ∀ y, Jc par Ed t y → y ≠ par t := fun y hy e => by
  have k := h.least y hy
  have := (G.up t h.t0 h.t1 h.nt).2.2
  rw [e] at k
  omega
theorem class_par (G : GT n par dep Ed) {t : Int} (h : Top n par dep Ed t) {u : Int} (hu : Jc par Ed t u) : Jc par Ed t (par u) ∨ par u = par t := by
  by_cases c : Jc par Ed t (par u)
  · exact .inl c
  refine .inr ?_
  obtain ⟨u0, u1, nu⟩ := jc_in G hu h.t0 h.t1 h.nt
  have outu : ∀ y, Jc par Ed u y → y ≠ par u := fun y hy e => c (e ▸ hu.trans hy)
  obtain ⟨s1, n1⟩ := class_below G u0 u1 nu outu t hu.symm
  obtain ⟨s2, n2⟩ := class_below G h.t0 h.t1 h.nt (h.out G) u hu
  have e1 := (G.up u u0 u1 nu).2.2
  have e2 := (G.up t h.t0 h.t1 h.nt).2.2
  -- par u above t, par t above u
  have a1 : Sub par (par u) (par t) := by
    rcases (sub_par h.nt).mp s1 with z | z
    · exact absurd z.symm n1
    · exact z
  have a2 : Sub par (par t) (par u) := by
    rcases (sub_par nu).mp s2 with z | z
    · exact absurd z.symm n2
    · exact z
  obtain ⟨p0, p1, _⟩ := G.up t h.t0 h.t1 h.nt
  obtain ⟨q0, q1, _⟩ := G.up u u0 u1 nu
  rcases (sub_in G.toTreeP p0 p1 a1).2 with z | z
  · exact z
  · rcases (sub_in G.toTreeP q0 q1 a2).2 with y | y
    · exact y.symm
    · omega
/-- the bays of the ties of a class -/
theorem class_bays (G : GT n par dep Ed) {t : Int} (h : Top n par dep Ed t) (x : Int) : (∃ a b v, Ed a b ∧ Path par a b v ∧ Jc par Ed t v ∧ (x = a ∨ x = b)) ↔ Jc par Ed t x ∨ x = par t := by
  have one : ∀ a b v, Ed a b → Path par a b v → Jc par Ed t v → Jc par Ed t a ∨ a = par t := fun a b v e hv hj => by
    obtain ⟨⟨a0, a1⟩, ⟨b0, b1⟩, ne⟩ := G.inn _ _ e
    by_cases s : Sub par a b
    · obtain ⟨c, nc, ec, sc⟩ := sub_child s (Ne.symm ne)
      have pc : Path par a b c := fun i => by
        have sa := i.mpr sc
        obtain ⟨⟨c0, c1⟩, k⟩ := sub_in G.toTreeP a0 a1 sa
        have := (G.up c c0 c1 nc).2.2
        rw [ec] at this
        rcases k with k | k
        · rw [k] at this
          omega
        · omega
      have jc : Jc par Ed t c := hj.trans (.one ⟨a, b, e, hv, pc⟩)
      rw [← ec]
      exact class_par G h jc
    · exact .inl (hj.trans (.one ⟨a, b, e, hv, fun i => s (i.mp .refl)⟩))
  constructor
  · rintro ⟨a, b, v, e, hv, hj, rfl | rfl⟩
    · exact one _ b v e hv hj
    · exact one _ a v (G.sym _ _ e) hv.symm hj
  · rintro (k | k)
    · obtain ⟨x0, x1, nx⟩ := jc_in G k h.t0 h.t1 h.nt
      exact ⟨x, par x, x, G.tree x x0 x1 nx, (path_par G.toTreeP x0 x1 nx).mpr rfl, k, .inl rfl⟩
    · exact ⟨t, par t, t, G.tree t h.t0 h.t1 h.nt, (path_par G.toTreeP h.t0 h.t1 h.nt).mpr rfl, .refl, .inr k⟩
/-! ### the gate -/
/-- to the bays above g one comes from bay 0 without a bay that isn't above g -/
theorem up_reach (G : GT n par dep Ed) {x : Int} : ∀ (k : Nat) (g : Int), dep g = k → 0 ≤ g → g < (n : Int) → ¬ Sub par x g → Wk Ed x 0 g
  | 0, g, e, g0, g1, _ => by
    rw [dep_zero G.toTreeP g0 g1 e]
    exact .refl
  | k + 1, g, e, g0, g1, ns => by
    have ng : g ≠ 0 := fun z => by
      rw [z, G.root] at e
      cases e
    obtain ⟨p0, p1, pd⟩ := G.up g g0 g1 ng
    have ih := up_reach G (x := x) k (par g) (by omega) p0 p1 fun s => ns (.step ng s)
    exact .step ih (G.sym _ _ (G.tree g g0 g1 ng)) fun z => ns (z ▸ .refl)
/-- bars w all of the class but itself -/
def Bars (par : Int → Int) (Ed : Int → Int → Prop) (t w : Int) : Prop := ∀ y, (Jc par Ed t y ∨ y = par t) → y ≠ w → ¬ Wk Ed w 0 y
theorem gate_bars (G : GT n par dep Ed) (hn : 0 < n) {t : Int} (h : Top n par dep Ed t) (ng : par t ≠ 0) {w : Int} (hw : Jc par Ed t w ∨ w = par t) : Bars par Ed t w ↔ w = par t := by
  constructor
  · intro k
    refine Classical.byContradiction fun ne => ?_
    have jw := hw.resolve_right ne
    obtain ⟨s, _⟩ := class_below G h.t0 h.t1 h.nt (h.out G) w jw
    obtain ⟨p0, p1, _⟩ := G.up t h.t0 h.t1 h.nt
    refine k (par t) (.inr rfl) (Ne.symm ne) (up_reach G _ _ rfl p0 p1 fun s2 => ?_)
    obtain ⟨w0, w1, _⟩ := jc_in G jw h.t0 h.t1 h.nt
    rcases (sub_in G.toTreeP w0 w1 s).2 with z | z
    · exact ne z.symm
    · rcases (sub_in G.toTreeP p0 p1 s2).2 with y | y
      · exact ne y
      · omega
  · rintro rfl y hy ne hk
    exact gate_shuts G hn h.t0 h.t1 h.nt (h.out G) ng (hy.resolve_right ne) hk
end
end Sb

/-! ## MF -/
/-! All rings: walked from their least bay. -/
namespace Sb
def ringTies (row : List Int) : List (Int × Int) := (row.zip (row.drop 1 ++ row.take 1)).map fun p => nrm p.1 p.2
theorem zip_next {z u w : Int} : ∀ (l : List Int) (x : Int), (u, w) ∈ (x :: l).zip (l ++ [z]) ↔ (∃ A B, x :: l = A ++ u :: w :: B) ∨ ((x :: l).getLast? = some u ∧ w = z)
  | [], x => by
    show (u, w) ∈ [(x, z)] ↔ _
    rw [List.mem_singleton]
    constructor
    · intro h
      cases h
      exact .inr ⟨rfl, rfl⟩
    · rintro (⟨A, B, e⟩ | ⟨e, rfl⟩)
      · have := congrArg List.length e
        simp only [List.length_append, List.length_cons, List.length_nil] at this
        exact absurd this (by omega)
      · cases e
        rfl
  | y :: l, x => by
    show (u, w) ∈ (x, y) :: (y :: l).zip (l ++ [z]) ↔ _
    rw [List.mem_cons, zip_next l y, List.getLast?_cons_cons]
    constructor
    · rintro (h | ⟨A, B, e⟩ | h)
      · cases h
        exact .inl ⟨[], l, rfl⟩
      · exact .inl ⟨x :: A, B, by rw [e]; rfl⟩
      · exact .inr h
    · rintro (⟨A, B, e⟩ | h)
      · cases A with
        | nil =>
          cases e
          exact .inl rfl
        | cons a A =>
          exact .inr (.inl ⟨A, B, (List.cons.inj e).2⟩)
      · exact .inr (.inr h)
theorem ringTies_mem {row : List Int} (h : row ≠ []) {t : Int × Int} : t ∈ ringTies row ↔ InR row t := by
  cases row with
  | nil => exact absurd rfl h
  | cons x l =>
    unfold ringTies
    show t ∈ ((x :: l).zip (l ++ [x])).map _ ↔ _
    constructor
    · intro k
      obtain ⟨⟨u, w⟩, hm, rfl⟩ := List.mem_map.mp k
      rcases (zip_next l x).mp hm with ⟨A, B, e⟩ | ⟨e, rfl⟩
      · exact .inl ⟨A, u, w, B, e, rfl⟩
      · exact .inr ⟨w, u, rfl, e, rfl⟩
    · rintro (⟨A, u, w, B, e, rfl⟩ | ⟨a, b, ea, eb, rfl⟩)
      · exact List.mem_map.mpr ⟨(u, w), (zip_next l x).mpr (.inl ⟨A, B, e⟩), rfl⟩
      · cases ea
        exact List.mem_map.mpr ⟨(b, x), (zip_next l x).mpr (.inr ⟨eb, rfl⟩), rfl⟩
theorem ringTies_turn (a c : Int) (m : List Int) : (ringTies (a :: c :: m)).Perm (ringTies (c :: m ++ [a])) := by
  unfold ringTies
  refine List.Perm.map _ ?_
  show ((a, c) :: (c :: m).zip (m ++ [a])).Perm ((c :: m ++ [a]).zip ((m ++ [a]) ++ [c]))
  rw [List.zip_append (by rw [List.length_append]; rfl)]
  exact List.perm_append_comm (l₁ := [(a, c)])
section
variable {Ed : Int → Int → Prop}
theorem ring_turn1 {a : Int} {l : List Int} (R : Ring Ed (a :: l)) : Ring Ed (l ++ [a]) ∧ ∀ t, InR (l ++ [a]) t ↔ InR (a :: l) t := by
  obtain ⟨c, m, rfl⟩ : ∃ c m, l = c :: m := by
    cases l with
    | nil => exact absurd (show 3 ≤ 1 from R.len) (by decide)
    | cons c m => exact ⟨c, m, rfl⟩
  refine ⟨⟨?_, ?_, ?_, fun x y hx hy => ?_⟩, fun t => ?_⟩
  · exact (List.perm_append_comm (l₁ := [a])).nodup_iff.mp R.nd
  · have := R.len
    rw [List.length_append, List.length_singleton]
    exact this
  · obtain ⟨b, eb⟩ : ∃ b, (c :: m).getLast? = some b := ⟨_, List.getLast?_eq_some_getLast (List.cons_ne_nil _ _)⟩
    have e := R.close a b rfl (by rw [List.getLast?_cons_cons]; exact eb)
    have z := List.dropLast_concat_getLast (List.cons_ne_nil c m)
    rw [List.getLast?_eq_some_getLast (List.cons_ne_nil c m)] at eb
    rw [Option.some.inj eb] at z
    have h2 := R.chn.2
    rw [← z] at h2 ⊢
    rw [List.append_assoc]
    exact chn_app h2 e (show Chn Ed [a] from trivial)
  · rw [List.getLast?_concat] at hy
    cases hy
    cases hx
    exact R.chn.1
  · rw [← ringTies_mem (by simp), ← ringTies_mem (List.cons_ne_nil _ _)]
    exact (ringTies_turn a c m).mem_iff.symm
theorem ring_rot : ∀ (A : List Int) {B : List Int}, Ring Ed (A ++ B) → Ring Ed (B ++ A) ∧ ∀ t, InR (B ++ A) t ↔ InR (A ++ B) t
  | [], B, R => by
    rw [List.append_nil]
    exact ⟨R, fun _ => Iff.rfl⟩
  | a :: A, B, R => by
    obtain ⟨R1, i1⟩ := ring_turn1 (l := A ++ B) R
    rw [List.append_assoc] at R1 i1
    obtain ⟨R2, i2⟩ := ring_rot A R1
    rw [List.append_assoc] at R2 i2
    exact ⟨R2, fun t => (i2 t).trans (i1 t)⟩
theorem least_of : ∀ {l : List Int}, l ≠ [] → ∃ m ∈ l, ∀ x ∈ l, m ≤ x
  | [], h => absurd rfl h
  | [a], _ => ⟨a, List.mem_cons_self, fun x hx => by rw [List.mem_singleton.mp hx]; exact Int.le_refl _⟩
  | a :: b :: l, _ => by
    obtain ⟨m, hm, k⟩ := least_of (List.cons_ne_nil b l)
    by_cases c : a ≤ m
    · refine ⟨a, List.mem_cons_self, fun x hx => ?_⟩
      rcases List.mem_cons.mp hx with z | z
      · rw [z]
        exact Int.le_refl _
      · exact Int.le_trans c (k x z)
    · refine ⟨m, List.mem_cons_of_mem _ hm, fun x hx => ?_⟩
      rcases List.mem_cons.mp hx with z | z
      · rw [z]
        omega
      · exact k x z
/-- its first bay is the least -/
def LeastHd (row : List Int) : Prop := ∀ a l, row = a :: l → ∀ x ∈ l, a < x
theorem ring_least {row : List Int} (R : Ring Ed row) : ∃ r, Ring Ed r ∧ LeastHd r ∧ ∀ t, InR r t ↔ InR row t := by
  have ne : row ≠ [] := fun e => by
    have := R.len
    rw [e] at this
    exact absurd this (by decide)
  obtain ⟨m, hm, k⟩ := least_of ne
  obtain ⟨A, B, e⟩ := List.append_of_mem hm
  rw [e] at R
  obtain ⟨R2, i2⟩ := ring_rot A R
  refine ⟨m :: B ++ A, R2, fun a l el x hx => ?_, fun t => by rw [e]; exact i2 t⟩
  cases el
  have nd := (List.nodup_cons.mp R2.nd).1
  have hx2 : x ∈ row := by
    rw [e]
    rcases List.mem_append.mp hx with z | z
    · exact List.mem_append_right _ (List.mem_cons_of_mem _ z)
    · exact List.mem_append_left _ z
  have h1 := k x hx2
  have h2 : x ≠ m := fun z => nd (z ▸ hx)
  omega
/-! ### the walk over rows -/
/-- how many rows come of one that lacks m bays -/
def rowsMost : Nat → Nat
  | 0 => 1
  | m + 1 => 1 + (m + 1) * rowsMost m
theorem rowsMost_pos : ∀ m, 1 ≤ rowsMost m
  | 0 => Nat.le_refl _
  | m + 1 => Nat.le_add_right _ _
def wSum (n : Nat) (ws : List (List Int)) : Nat := (ws.map fun r => rowsMost (n - r.length)).sum
theorem wSum_app {n : Nat} {a b : List (List Int)} : wSum n (a ++ b) = wSum n a + wSum n b := by
  unfold wSum
  rw [List.map_append, List.sum_append]
theorem wSum_len {n : Nat} : ∀ {ws : List (List Int)}, ws.length ≤ wSum n ws
  | [] => Nat.le_refl _
  | r :: ws => by
    have h1 := rowsMost_pos (n - r.length)
    have h2 := wSum_len (n := n) (ws := ws)
    show ws.length + 1 ≤ rowsMost (n - r.length) + wSum n ws
    omega
/-- a row without a bay twice, along ties, its first bay the least -/
structure RowOK (n : Nat) (Ed : Int → Int → Prop) (row : List Int) : Prop where
  ne : row ≠ []
  nd : row.Nodup
  chn : Chn Ed row
  inn : ∀ x ∈ row, Bay n x
  lst : LeastHd row
structure RInv (n : Nat) (Ed : Int → Int → Prop) (ws : List (List Int)) (Js : List (List (Int × Int))) : Prop where
  rows : ∀ r ∈ ws, RowOK n Ed r
  sound : ∀ J ∈ Js, ∃ row, Ring Ed row ∧ J = ringTies row
  full : ∀ row, Ring Ed row → LeastHd row → ringTies row ∈ Js ∨ ∃ w ∈ ws, w <+: row
/-- the bays that go on from a row -/
def goOn (near : List Int) (row : List Int) : List Int := near.filter fun o => decide (o ∉ row ∧ row.headD 0 < o)
def shutB (near : List Int) (row : List Int) : Bool := near.any fun o => decide (o = row.headD 0 ∧ 2 < row.length)
theorem pigeon : ∀ (ys xs : List Nat), xs.Nodup → (∀ x ∈ xs, x ∈ ys) → xs.length ≤ ys.length
  | [], xs, _, h => by
    cases xs with
    | nil => exact Nat.le_refl _
    | cons x xs => exact absurd (h x List.mem_cons_self) (fun z => by cases z)
  | y :: ys, xs, nd, h => by
    have ih := pigeon ys (xs.erase y) (nd.erase y) fun x hx => by
      have h1 := (nd.mem_erase_iff.mp hx)
      exact (List.mem_cons.mp (h x h1.2)).resolve_left h1.1
    have := List.le_length_erase (l := xs) (a := y)
    rw [List.length_cons]
    omega
theorem goOn_len {n : Nat} {near row : List Int} (hnd : near.Nodup) (hin : ∀ o ∈ near, Bay n o) (h : RowOK n Ed row) : (goOn near row).length + row.length ≤ n := by
  have nd : (goOn near row ++ row).Nodup := List.nodup_append.mpr ⟨hnd.filter _, h.nd, fun x hx y hy e => by
    have := (of_decide_eq_true (List.mem_filter.mp hx).2).1
    exact this (e ▸ hy)⟩
  have all : ∀ x ∈ goOn near row ++ row, Bay n x := fun x hx => (List.mem_append.mp hx).elim (fun z => hin x (List.mem_filter.mp z).1) (h.inn x)
  have k : ∀ {l : List Int}, l.Nodup → (∀ x ∈ l, Bay n x) → l.length ≤ n := fun {l} nd all => by
    have q : (l.map Int.toNat).Nodup := List.pairwise_map.mpr (List.Pairwise.imp_of_mem (fun {a b} ha hb ne e => by
      have h1 := all a ha
      have h2 := all b hb
      exact ne (by have := h1.1; have := h2.1; omega)) nd)
    have z := pigeon (List.range n) (l.map Int.toNat) q fun x hx => by
      obtain ⟨y, hy, rfl⟩ := List.mem_map.mp hx
      have h1 := all y hy
      have := h1.1
      have := h1.2
      exact List.mem_range.mpr (by omega)
    rw [List.length_map, List.length_range] at z
    exact z
  have z := k nd all
  rw [List.length_append] at z
  exact z
theorem grow_sum {n : Nat} {near row : List Int} (hnd : near.Nodup) (hin : ∀ o ∈ near, Bay n o) (h : RowOK n Ed row) : wSum n ((goOn near row).map fun o => row ++ [o]) + 1 ≤ rowsMost (n - row.length) := by
  have hl := goOn_len hnd hin h
  have e : wSum n ((goOn near row).map fun o => row ++ [o]) = (goOn near row).length * rowsMost (n - (row.length + 1)) := by
    unfold wSum
    rw [List.map_map]
    have : ((fun r : List Int => rowsMost (n - r.length)) ∘ fun o => row ++ [o]) = fun _ => rowsMost (n - (row.length + 1)) := funext fun o => by
      show rowsMost (n - (row ++ [o]).length) = _
      rw [List.length_append]
      rfl
    rw [this, List.map_const', List.sum_replicate_nat]
  rw [e]
  by_cases c : n - row.length = 0
  · have z : (goOn near row).length = 0 := by omega
    rw [z, Nat.zero_mul]
    exact rowsMost_pos _
  · obtain ⟨m, hm⟩ : ∃ m, n - row.length = m + 1 := ⟨n - row.length - 1, by omega⟩
    have e2 : n - (row.length + 1) = m := by omega
    rw [hm, e2]
    show _ + 1 ≤ 1 + (m + 1) * rowsMost m
    have := Nat.mul_le_mul_right (rowsMost m) (show (goOn near row).length ≤ m + 1 by omega)
    omega
theorem chn_snoc {l : List Int} {b x : Int} (h : Chn Ed l) (e : l.getLast? = some b) (r : Ed b x) : Chn Ed (l ++ [x]) := by
  have ne : l ≠ [] := fun z => by rw [z] at e; cases e
  have z := List.dropLast_concat_getLast ne
  rw [List.getLast?_eq_some_getLast ne] at e
  rw [Option.some.inj e] at z
  rw [← z] at h ⊢
  rw [List.append_assoc]
  exact chn_app h r (show Chn Ed [x] from trivial)
/-- one row is taken off and looked at -/
theorem rinv_step {n : Nat} {ws : List (List Int)} {row : List Int} {Js : List (List (Int × Int))} {near : List Int} {b : Int} (I : RInv n Ed (ws ++ [row]) Js) (hb : row.getLast? = some b) (hn : ∀ o, o ∈ near ↔ Ed b o) (inn : ∀ x y, Ed x y → Bay n x ∧ Bay n y) :
    RInv n Ed (ws ++ (goOn near row).map fun o => row ++ [o]) (Js ++ if shutB near row = true then [ringTies row] else []) := by
  have ok := I.rows row (List.mem_append_right _ (List.mem_singleton.mpr rfl))
  obtain ⟨h, l, el⟩ : ∃ h l, row = h :: l := by
    cases row with
    | nil => exact absurd rfl ok.ne
    | cons h l => exact ⟨h, l, rfl⟩
  have hd : row.headD 0 = h := by rw [el]; rfl
  have hd2 : row.head? = some h := by rw [el]; rfl
  refine ⟨fun r hr => ?_, fun J hJ => ?_, fun r R L => ?_⟩
  · rcases List.mem_append.mp hr with z | z
    · exact I.rows r (List.mem_append_left _ z)
    · obtain ⟨o, ho, rfl⟩ := List.mem_map.mp z
      obtain ⟨o1, o2⟩ := List.mem_filter.mp ho
      obtain ⟨o3, o4⟩ := of_decide_eq_true o2
      have e := (hn o).mp o1
      refine ⟨by simp, List.nodup_append.mpr ⟨ok.nd, (List.nodup_cons.mpr ⟨(fun z => by cases z), List.nodup_nil⟩), fun x hx y hy e => ?_⟩, chn_snoc ok.chn hb e, fun x hx => ?_, fun a m em x hx => ?_⟩
      · rw [List.mem_singleton.mp hy] at e
        exact o3 (e ▸ hx)
      · rcases List.mem_append.mp hx with z | z
        · exact ok.inn x z
        · rw [List.mem_singleton.mp z]
          exact (inn _ _ e).2
      · rw [el] at em
        cases em
        rcases List.mem_append.mp hx with z | z
        · exact ok.lst h l el x z
        · rw [List.mem_singleton.mp z, ← hd]
          exact o4
  · rcases List.mem_append.mp hJ with z | z
    · exact I.sound J z
    · by_cases c : shutB near row = true
      · rw [if_pos c] at z
        rw [List.mem_singleton.mp z]
        obtain ⟨o, o1, o2⟩ := List.any_eq_true.mp c
        obtain ⟨o3, o4⟩ := of_decide_eq_true o2
        refine ⟨row, ⟨ok.nd, o4, ok.chn, fun x y hx hy => ?_⟩, rfl⟩
        rw [hb] at hy
        rw [hd2] at hx
        cases hx
        cases hy
        rw [hd] at o3
        rw [← o3]
        exact (hn o).mp o1
      · rw [if_neg c] at z
        cases z
  · rcases I.full r R L with z | ⟨w, hw, pw⟩
    · exact .inl (List.mem_append_left _ z)
    · rcases List.mem_append.mp hw with z | z
      · exact .inr ⟨w, List.mem_append_left _ z, pw⟩
      · rw [List.mem_singleton.mp z] at pw
        obtain ⟨B, eB⟩ := pw
        cases B with
        | nil =>
          rw [List.append_nil] at eB
          subst eB
          have c : shutB near row = true := List.any_eq_true.mpr ⟨h, (hn h).mpr (R.close h b hd2 hb), decide_eq_true ⟨hd.symm, R.len⟩⟩
          rw [if_pos c]
          exact .inl (List.mem_append_right _ (List.mem_singleton.mpr rfl))
        | cons x B =>
          subst eB
          refine .inr ⟨row ++ [x], List.mem_append_right _ (List.mem_map.mpr ⟨x, List.mem_filter.mpr ⟨(hn x).mpr ?_, decide_eq_true ⟨?_, ?_⟩⟩, rfl⟩), B, by simp⟩
          · have z := List.dropLast_concat_getLast ok.ne
            rw [List.getLast?_eq_some_getLast ok.ne] at hb
            rw [Option.some.inj hb] at z
            have c := R.chn
            rw [← z, List.append_assoc] at c
            exact chn_mid c
          · intro hx
            exact (List.nodup_append.mp R.nd).2.2 x hx x List.mem_cons_self rfl
          · rw [hd]
            exact L h (l ++ x :: B) (by rw [el]; rfl) x (List.mem_append_right _ List.mem_cons_self)
end
end Sb

/-! ## STt42 -/
/-! Standings: fits_loosely, no_two_alike, need_loose, need_moves. -/
namespace Sb
open PySem PySem.Spec PyProof.Rows L2
abbrev sFits : Stmt := top 28
abbrev sOpenly : Stmt := top 29
abbrev sPc0 : Stmt := top 30
abbrev sNeedTied : Stmt := top 32
abbrev sAreBays : Stmt := top 33
abbrev sNeedL : Stmt := top 31
abbrev sNeedM : Stmt := top 34
/-- a thing whose tuples have no dict -/
def ExV (H : Hp) (v : V) : Prop := ∀ a xs, v = .ref a → Rd H a (.tup xs) → TupZ H a xs
theorem ExV.same0 {H H' : Hp} {v : V} {d : PyData} (h : Th H v d) (e : ExV H v) (S : Same H H') : ExV H' v := fun a xs ev r => by
  subst ev
  cases h with
  | lst hp _ =>
    have := S _ _ hp
    rcases r with r | ⟨o, r⟩
    · rw [this] at r; cases r
    · rw [this] at r; cases r
  | dct hp =>
    have := S _ _ hp
    rcases r with r | ⟨o, r⟩
    · rw [this] at r; cases r
    · rw [this] at r; cases r
  | @tupR _ ys _ hp _ =>
    have z := e a ys rfl hp
    have z' := z.same S
    obtain ⟨o, hd, ho⟩ := id z'
    have exy : xs = ys := by
      rcases r with r | ⟨o', r⟩
      · rw [ho] at r; cases r
      · rw [ho] at r
        injection r with r
        injection r with _ r
        injection r with r
        exact r.symm
    rw [exy]
    exact z'
def intD : PyData → Int
  | .int z => z
  | _ => -1
def pieceD : PyData → Bool
  | .int z => decide (0 ≤ z) && decide (z ≤ 999)
  | _ => false
def looseD (n : Int) : PyData → Bool
  | .tuple ds => decide ((ds.length : Int) = n) && (ds.all pieceD && decide ((ds.map intD).count 0 = 1))
  | _ => false
def nonD : PyData → Bool
  | .none => true
  | _ => false
/-- None or a piece -/
def optD (d : PyData) : Bool := nonD d || pieceD d
/-- a loose standing that may have None at bays -/
def openD (n : Int) : PyData → Bool
  | .tuple ds => decide ((ds.length : Int) = n) && (ds.all optD && decide (ds.countP (fun d => decide (intD d = 0)) = 1))
  | _ => false
theorem intD_non {d : PyData} (h : nonD d = true) : intD d = -1 := by
  cases d <;> first | rfl | cases h
theorem piece_non {d : PyData} (h : pieceD d = true) : nonD d = false := by
  cases d <;> first | rfl | cases h
theorem all_opt : ∀ {ds : List PyData}, ds.all pieceD = (ds.all optD && !ds.any nonD)
  | [] => rfl
  | d :: ds => by
    rw [List.all_cons, List.all_cons, List.any_cons, all_opt]
    unfold optD
    cases e : pieceD d with
    | true =>
      rw [piece_non e]
      simp
    | false =>
      cases nonD d <;> simp
theorem loose_open {n : Int} {d : PyData} : looseD n d = (openD n d && !(match d with | .tuple ds => ds.any nonD | _ => true)) := by
  cases d with
  | tuple ds =>
    show (decide ((ds.length : Int) = n) && (ds.all pieceD && decide ((ds.map intD).count 0 = 1))) = ((decide ((ds.length : Int) = n) && (ds.all optD && decide (ds.countP (fun d => decide (intD d = 0)) = 1))) && !ds.any nonD)
    rw [all_opt, show (ds.map intD).count 0 = ds.countP (fun d => decide (intD d = 0)) by
      rw [List.count, List.countP_map]
      rfl]
    cases decide ((ds.length : Int) = n) <;> cases ds.all optD <;> cases ds.any nonD <;> cases decide (ds.countP (fun d => decide (intD d = 0)) = 1) <;> rfl
  | _ => rfl
theorem piece_is {d : PyData} (h : pieceD d = true) : ∃ z : Int, d = .int z ∧ 0 ≤ z ∧ z ≤ 999 := by
  unfold pieceD at h
  split at h
  · rw [Bool.and_eq_true] at h
    exact ⟨_, rfl, of_decide_eq_true h.1, of_decide_eq_true h.2⟩
  · cases h
theorem pieces_is : ∀ {ds : List PyData}, ds.all pieceD = true → ds = (ds.map intD).map PyData.int ∧ ∀ z ∈ ds.map intD, 0 ≤ z ∧ z ≤ 999
  | [], _ => ⟨rfl, fun z hz => by cases hz⟩
  | d :: ds, h => by
    rw [List.all_cons, Bool.and_eq_true] at h
    obtain ⟨z, rfl, z0, z1⟩ := piece_is h.1
    obtain ⟨e, f⟩ := pieces_is h.2
    refine ⟨by rw [List.map_cons, List.map_cons, ← e]; rfl, fun y hy => ?_⟩
    rcases List.mem_cons.mp hy with q | q
    · rw [q]
      exact ⟨z0, z1⟩
    · exact f y q
/-- a loose standing of n bays -/
structure LooseP (n : Nat) (L : List Int) : Prop where
  len : L.length = n
  inn : ∀ z ∈ L, 0 ≤ z ∧ z ≤ 999
  one : L.count 0 = 1
theorem LooseP.zero {n : Nat} {L : List Int} (h : LooseP n L) : (0 : Int) ∈ L := List.count_pos_iff.mp (by rw [h.one]; decide)
theorem looseD_is {n : Nat} {d : PyData} (h : looseD (n : Int) d = true) : ∃ L : List Int, d = .tuple (L.map PyData.int) ∧ LooseP n L := by
  unfold looseD at h
  split at h
  · rename_i ds
    rw [Bool.and_eq_true, Bool.and_eq_true] at h
    obtain ⟨h1, h2, h3⟩ := h
    obtain ⟨e, f⟩ := pieces_is h2
    have h1 := of_decide_eq_true h1
    exact ⟨ds.map intD, by rw [← e], by rw [List.length_map]; omega, f, of_decide_eq_true h3⟩
  · cases h
theorem map_intD (L : List Int) : (L.map PyData.int).map intD = L := by
  rw [List.map_map]
  exact (List.map_congr_left fun _ _ => rfl).trans (List.map_id _)
theorem looseD_of {n : Nat} {L : List Int} (h : LooseP n L) : looseD (n : Int) (.tuple (L.map PyData.int)) = true := by
  show (decide (((L.map PyData.int).length : Int) = n) && ((L.map PyData.int).all pieceD && decide (((L.map PyData.int).map intD).count 0 = 1))) = true
  rw [map_intD, h.one, List.length_map, h.len, decide_eq_true rfl, decide_eq_true rfl, Bool.true_and, Bool.and_true, List.all_map, List.all_eq_true]
  intro z hz
  obtain ⟨a, b⟩ := h.inn z hz
  show (decide (0 ≤ z) && decide (z ≤ 999)) = true
  rw [decide_eq_true a, decide_eq_true b]
  rfl
theorem all_ints_th {H : Hp} : ∀ {ys : List V} {ds : List PyData}, ThAll H ys ds → ds.all pieceD = true → ys = (ds.map intD).map V.int
  | _, _, .nil, _ => rfl
  | _, _, .cons h g, e => by
    rw [List.all_cons, Bool.and_eq_true] at e
    obtain ⟨z, rfl, _⟩ := piece_is e.1
    rw [List.map_cons, List.map_cons, ← all_ints_th g e.2, th_int h]
    rfl
structure StTxt (mg : Str → Option Value) : Prop extends WebTxt mg where
  set : mg "set" = none
  list : mg "list" = none
  great : ∃ t, mg "GREATEST_PIECE" = some (.int 999 t)
def spOpenly (K : PySem.W.Frag) : Sp := fun vs H Q _ => ∃ v n ts x d, vs = [v, x] ∧ WebAt K H v n ts ∧ n ≤ 1000 ∧ Th H x d ∧ ExV H x ∧ ∀ H', Same H H' → Q (.bl (openD n d)) H'
def spFits (K : PySem.W.Frag) : Sp := fun vs H Q _ => ∃ v n ts x d, vs = [v, x] ∧ WebAt K H v n ts ∧ n ≤ 1000 ∧ Th H x d ∧ ExV H x ∧ ∀ H', Same H H' → Q (.bl (looseD n d)) H'
def spPc0 : Sp := fun vs H Q _ => ∃ x d, vs = [x] ∧ Th H x d ∧ Q (.bl (pieceD d)) H
theorem th_non {H : Hp} {v : V} (h : Th H v .none) : v = .non := by
  cases h
  rfl
theorem non_of {d : PyData} (h : nonD d = true) : d = .none := by
  cases d <;> first | rfl | cases h
theorem opts_flat {H : Hp} : ∀ {ys : List V} {ds : List PyData}, ThAll H ys ds → ds.all optD = true → ys.all flatV = true ∧ ys.countP (fun y => eqV y (.int 0)) = ds.countP (fun d => decide (intD d = 0)) ∧ inV .non ys = ds.any nonD
  | _, _, .nil, _ => ⟨rfl, rfl, rfl⟩
  | _, _, .cons (v := v) (d := d) h g, e => by
    rw [List.all_cons, Bool.and_eq_true] at e
    obtain ⟨h1, h2, h3⟩ := opts_flat g e.2
    unfold inV at h3 ⊢
    rw [List.all_cons, List.countP_cons, List.countP_cons, List.any_cons, List.any_cons, h1, h2, h3]
    have e1 := e.1
    unfold optD at e1
    cases en : nonD d with
    | true =>
      cases non_of en
      cases th_non h
      exact ⟨rfl, rfl, rfl⟩
    | false =>
      rw [en, Bool.false_or] at e1
      obtain ⟨z, rfl, _⟩ := piece_is e1
      rw [th_int h]
      refine ⟨rfl, ?_, rfl⟩
      have : eqV (.int z) (.int 0) = decide (intD (.int z) = 0) := by
        show (z == 0) = decide (z = 0)
        rfl
      rw [this]
theorem count_eqU {x : V} : ∀ {xs : List V} {us : List Value}, Vals xs us → xs.all flatV = true → us.countP (eqU x) = xs.countP fun y => eqV y x
  | _, _, .nil, _ => rfl
  | y :: xs, u :: us, .cons r t, f => by
    rw [List.all_cons, Bool.and_eq_true] at f
    rw [List.countP_cons, List.countP_cons, eqU_of r f.1, count_eqU t f.2]
/-- t.count(k), t of flat items -/
def rCntF (K : PySem.W.Frag) : V → List V → Hp → VK → Prop := fun x xs H Q => ∃ (p : Addr) (ys : List V) (k : V), x = .ref p ∧ xs = [k] ∧ SqT K H p ys ∧ flatV k = true ∧ ys.all flatV = true ∧ Q (.int (ys.countP (fun y => eqV y k) : Nat)) H
theorem mt_tcountF {X : Cx} : MtR X "tuple.count" (rCntF X.K) := by
  intro pins s σ H x xs v us Q I rx rxs h
  obtain ⟨p, ys, k, rfl, rfl, hs, fx, fs, q⟩ := h
  cases rx
  obtain ⟨u, rfl, ru⟩ := rxs.one
  obtain ⟨its, rv, pl, hz⟩ := I.tuple hs
  obtain ⟨⟨cls, dd, dt, sl⟩, ho, hc, n, hd⟩ := pl
  simp only at hc hd
  subst hc hd
  refine call_meets PySem.F.slot_tuple_count ⟨_, ho, rfl⟩ PySem.F.entry_tuple_count (PySem.F.args_tuple_count_2 _ _)
    (SeqAt.tuple_countAt p its.toArray n dd sl u (eqU k)) ⟨ho, fun y hy => mem_eqAt ru fx rv fs y (by simpa using hy), ?_⟩
  have ec : its.toArray.toList.countP (eqU k) = ys.countP (fun y => eqV y k) := count_eqU rv fs
  refine ⟨.int (ys.countP (fun y => eqV y k) : Nat), H, I.tok _, ⟨s.toks, ?_⟩, q⟩
  show Value.int ((its.toArray.toList.countP (eqU k) : Nat) : Int) s.toks = Value.int ((ys.countP (fun y => eqV y k) : Nat) : Int) s.toks
  rw [ec]
section
variable {P : Program} {w : World} {K : PySem.W.Frag} {mg : Str → Option Value} {base : Heap}
theorem scPc0 : FnScope ["thing"] ["thing"] (defScope sPc0) := ⟨rfl, rfl, rfl, by decide +kernel, rfl, by decide +kernel, by decide +kernel⟩
theorem ok_piece0 {f fW : Addr} {fd fdW : FuncData} (F : FnP K "is_piece_or_0" sPc0 f fd) (T : StTxt mg) (FW : FnP K "is_whole" sWhole fW fdW) (gW : mg "is_whole" = some (.ref fW)) : FnOk P w K mg base CX0 2 f fd ["thing"] spPc0 := by
  obtain ⟨tg, hgreat⟩ := T.great
  have GW : FnOk P w K mg base CX0 1 fW fdW ["thing"] spWholeT := ok_wholeT FW T.toWebTxt
  have bW : Binds K fdW ["thing"] [] := FW.bindsN fun _ _ _ _ _ _ us hl => match us, hl with | [_], _ => rfl
  refine ok0 F scPc0 (fun vs H Q E h => ?_) (fun cdv A outer s H vs Q E hr h => ?_)
  · obtain ⟨x, d, rfl, _⟩ := h
    rfl
  · obtain ⟨x, d, rfl, hx, q⟩ := h
    refine ⟨_, (pss_one (ps_ret (pe_and (pe_call GW hr rfl gW FW.kp bW .nil pass0 (pa_cons (pv 0) pa_nil)) (pe_one (pe_chain op_le op_le pe_int (pv 0) (pe_glob (v := .int 999) rfl hgreat ⟨_, rfl⟩)))))), ?_⟩
    refine ⟨_, rfl, x, d, rfl, hx, _, rfl, ?_⟩
    cases ew : wholeD d with
    | false =>
      have e : pieceD d = false := by cases d <;> first | rfl | cases ew
      rw [e] at q
      exact iteC rfl q
    | true =>
      obtain ⟨z, rfl⟩ : ∃ z : Int, d = .int z := by
        cases d <;> first | exact ⟨_, rfl⟩ | cases ew
      rw [th_int hx]
      refine iteD rfl ⟨_, rfl, _, _, rfl, rfl, _, rfl, ?_⟩
      have e : pieceD (.int z) = (decide (0 ≤ z) && decide (z ≤ 999)) := rfl
      rw [e] at q
      by_cases h0 : 0 ≤ z
      · rw [decide_eq_true h0, Bool.true_and] at q
        exact iteD (decide_eq_true h0) ⟨_, _, rfl, rfl, q⟩
      · rw [decide_eq_false h0, Bool.false_and] at q
        exact iteC (decide_eq_false h0) q
abbrev scOpenlyN : List Str := ["web", "thing", "piece"]
abbrev scOpenlyS : Scope := defScope sOpenly
theorem scOpenly : FnScope ["web", "thing", "piece"] ["web", "thing"] (defScope sOpenly) := ⟨rfl, rfl, rfl, by decide +kernel, rfl, by decide +kernel, by decide +kernel⟩
theorem ok_openly {f fW : Addr} {fd fdW : FuncData} (F : FnP K "fits_openly" sOpenly f fd) (T : StTxt mg) (FW : FnP K "is_piece_or_0" sPc0 fW fdW) (gW : mg "is_piece_or_0" = some (.ref fW)) (GW : FnOk P w K mg base CX0 2 fW fdW ["thing"] spPc0) : FnOk P w K mg base CX0 3 f fd ["web", "thing"] (spOpenly K) := by
  have bW : Binds K fdW ["thing"] [] := FW.bindsN fun _ _ _ _ _ _ us hl => match us, hl with | [_], _ => rfl
  refine ok0 F scOpenly (fun vs H Q E h => ?_) (fun cdv A outer s H vs Q E hr h => ?_)
  · obtain ⟨v, n, ts, x, d, rfl, _⟩ := h
    rfl
  · obtain ⟨v, n, ts, x, d, rfl, ⟨wa, wt, rfl, hw, hT⟩, hn, hx, ex, q⟩ := h
    refine ⟨_, (pss_cons (ps_if (PW.pt (pw_or (pt_not (pt_val (pe_callB (id := "isinstance") cr_isaD (by rfl) T.isinstance (by decide +kernel) (pa_cons (pv 1) (pa_cons (pe_bltn (v := .ty "tuple") rfl T.tuple (by decide +kernel) rfl) pa_nil))))) (pw_or1 (pt_cmpR op_ne (pe_callB (id := "len") call_len_seq (by rfl) T.len (by decide +kernel) (pa_cons (pv 1) pa_nil)) (pe_ix ix_tup (pv 0) pe_int (fun _ _ => rfl)) (nomark _)))))
      (pss_one (ps_ret pe_bl))
      pss_nil)
    (pss_cons (ps_if (pt_not (pt_val (pe_callB (id := "all") (cr_all rfl) (by rfl) T.all (by decide +kernel) (pa_cons (pe_lc (own := [("piece", 2)]) (g := gName 2) (by rfl) scOpenly.nd (pi_tup (pv 1)) (blkOk_by (own := [("piece", 2)]) (N := scOpenlyN) (sc := scOpenlyS) (by decide +kernel)) (fun _ _ _ _ _ => pg_name (i := 2) scOpenly.nd rfl (Or.inl rfl)) (fun _ _ _ _ _ => pts_nil) (fun _ _ _ _ _ => (pe_or (pe_cmpR op_isN (pv 2) pe_non (nomark _)) (pe_one (pe_call GW hr rfl gW FW.kp bW .nil pass0 (pa_cons (pv 2) pa_nil)))))) pa_nil))))
      (pss_one (ps_ret pe_bl))
      pss_nil)
    (pss_one (ps_ret (pe_cmpR op_eq (pe_tm PySem.F.plainAttrs_tuple PySem.F.slot_tuple_count PySem.F.type_tuple_count mt_tcountF (pv 1) (pa_cons pe_int pa_nil)) pe_int (nomark _)))))), ?_⟩
    have q0 : (∀ ds, d ≠ .tuple ds) → ∀ H', Same H H' → Q (.bl false) H' := fun nt H' S => by
      have e : openD n d = false := by
        cases d <;> first | rfl | exact absurd rfl (nt _)
      rw [← e]
      exact q H' S
    refine ⟨_, rfl, x, d, "tuple", rfl, hx, by simp, _, rfl, ?_⟩
    cases hx with
    | non => exact iteD rfl (iteD rfl (q0 (fun _ z => by cases z) H (Same.refl H)))
    | bl b => exact iteD rfl (iteD rfl (q0 (fun _ z => by cases z) H (Same.refl H)))
    | int i => exact iteD rfl (iteD rfl (q0 (fun _ z => by cases z) H (Same.refl H)))
    | str y => exact iteD rfl (iteD rfl (q0 (fun _ z => by cases z) H (Same.refl H)))
    | lst _ _ => exact iteD rfl (iteD rfl (q0 (fun _ z => by cases z) H (Same.refl H)))
    | dct _ => exact iteD rfl (iteD rfl (q0 (fun _ z => by cases z) H (Same.refl H)))
    | @tupR p xs ds hp hds =>
      have hz := ex p xs rfl hp
      have hl := thAll_len hds
      have hds0 : ThAll H xs ds := hds
      refine iteC rfl ⟨_, rfl, p, _, rfl, .inr (sqR hp), _, rfl, wa, _, _, _, rfl, rfl, hw, at_of (j := 0) rfl rfl, rfl, _, rfl, ?_⟩
      by_cases h1 : (ds.length : Int) = n
      rotate_left
      · refine iteD ?_ ?_
        · rw [decide_eq_false fun z => h1 (by
            have z := V.int.inj z
            omega)]
          rfl
        have e : openD n (.tuple ds) = false := by
          show (decide ((ds.length : Int) = n) && _) = false
          rw [decide_eq_false h1]
          rfl
        rw [← e]
        exact q H (Same.refl H)
      refine iteC ?_ ?_
      · rw [decide_eq_true (by rw [hl, h1])]
        rfl
      have hn2 : ds.length ≤ 1000 := by omega
      refine ⟨_, rfl, p, rfl, ⟨_, sqR hp⟩, fun D hD => lc_tup (K := K) (a := p) (xs := xs) (fun i H' => Same H H' ∧ H' D = some (.lst (((ds.take i).map optD).map V.bl))) ⟨same_upd hD, by rw [upd_same, List.take_zero]; rfl⟩ (fun i H' _ ⟨S, _⟩ => sqR (rdS S hp)) ?_ ?_⟩
      · rintro i y H' hi ⟨S, e⟩
        obtain ⟨dy, hdy, hy⟩ := thAll_get hds0 hi
        have fin : ∃ acc, H' D = some (HO.lst acc) ∧ acc.length < sizeLine ∧ (Same H (upd H' D (.lst (acc ++ [V.bl (optD dy)]))) ∧ (upd H' D (.lst (acc ++ [V.bl (optD dy)]))) D = some (.lst (((ds.take (i + 1)).map optD).map V.bl))) := by
          refine ⟨_, e, ?_, fun c o hc => by rw [upd_ne (ne_of_none hc hD)]; exact S _ _ hc, ?_⟩
          · rw [List.length_map, List.length_map, List.length_take, sizeLine_eq]
            omega
          · rw [upd_same, take_more hdy, List.map_append, List.map_append]
            rfl
        refine ⟨rfl, _, rfl, rfl, _, rfl, ?_⟩
        cases en : nonD dy with
        | true =>
          cases non_of en
          cases th_non hy
          exact iteD rfl fin
        | false =>
          have ne : y ≠ .non := fun e => by
            subst e
            cases hy
            cases en
          have eo : optD dy = pieceD dy := by
            unfold optD
            rw [en, Bool.false_or]
          rw [eo] at fin
          exact iteC (decide_eq_false ne) ⟨_, rfl, y, dy, rfl, hy.mono S, fin⟩
      rintro H1 ⟨S1, e1⟩
      rw [hl, List.take_length] at e1
      refine ⟨D, _, rfl, SqL.of e1, _, rfl, ?_⟩
      have el : openD n (.tuple ds) = (ds.all optD && decide (ds.countP (fun d => decide (intD d = 0)) = 1)) := by
        show (decide ((ds.length : Int) = n) && _) = _
        rw [decide_eq_true h1, Bool.true_and]
      have ea : (((ds.map optD).all id)) = ds.all optD := by rw [List.all_map]; rfl
      rw [ea]
      cases ep : ds.all optD with
      | false =>
        refine iteD rfl ?_
        have z := q H1 S1
        rw [el, ep] at z
        exact z
      | true =>
        refine iteC rfl ?_
        obtain ⟨fl, ec, _⟩ := opts_flat hds0 ep
        refine ⟨_, rfl, ⟨p, _, rfl, hz.same S1⟩, p, xs, .int 0, rfl, rfl, (hz.same S1).sq, rfl, fl, rfl, ?_⟩
        have z := q H1 S1
        rw [el, ep, Bool.true_and] at z
        rw [ec]
        have e2 : decide (V.int ((ds.countP (fun d => decide (intD d = 0)) : Nat) : Int) = V.int 1) = decide (ds.countP (fun d => decide (intD d = 0)) = 1) := decide_eq_decide.mpr ⟨fun z => by
          have z := V.int.inj z
          omega, fun z => by rw [z]; rfl⟩
        rw [← e2] at z
        exact z
theorem scFits : FnScope ["web", "thing"] ["web", "thing"] (defScope sFits) := ⟨rfl, rfl, rfl, by decide +kernel, rfl, by decide +kernel, by decide +kernel⟩
theorem ok_fits {f fO : Addr} {fd fdO : FuncData} (F : FnP K "fits_loosely" sFits f fd) (FO : FnP K "fits_openly" sOpenly fO fdO) (gO : mg "fits_openly" = some (.ref fO)) (GO : FnOk P w K mg base CX0 3 fO fdO ["web", "thing"] (spOpenly K)) : FnOk P w K mg base CX0 4 f fd ["web", "thing"] (spFits K) := by
  have bO : Binds K fdO ["web", "thing"] [] := FO.bindsN fun _ _ _ _ _ _ us hl => match us, hl with | [_, _], _ => rfl
  refine ok0 F scFits (fun vs H Q E h => ?_) (fun cdv A outer s H vs Q E hr h => ?_)
  · obtain ⟨v, n, ts, x, d, rfl, _⟩ := h
    rfl
  · obtain ⟨v, n, ts, x, d, rfl, hW, hn, hx, ex, q⟩ := h
    refine ⟨_, (pss_one (ps_ret (pe_and (pe_call GO hr rfl gO FO.kp bO .nil pass0 (pa_cons (pv 0) (pa_cons (pv 1) pa_nil))) (pe_one (pe_cmpR op_notIn_seq pe_non (pv 1) (by rfl)))))), ?_⟩
    refine ⟨_, rfl, _, rfl, v, n, ts, x, d, rfl, hW, hn, hx, ex, fun H1 S1 => ?_⟩
    have q := q H1 S1
    rw [loose_open] at q
    cases eo : openD n d with
    | false =>
      rw [eo, Bool.false_and] at q
      exact ⟨_, rfl, iteC rfl q⟩
    | true =>
      rw [eo, Bool.true_and] at q
      refine ⟨_, rfl, iteD rfl ?_⟩
      have hx1 := hx.mono S1
      have ex1 := ex.same0 hx S1
      cases d with
      | tuple ds =>
        cases hx1 with
        | @tupR p xs _ hp hds =>
          have ea : ds.all optD = true := by
            have eo : (decide ((ds.length : Int) = n) && (ds.all optD && decide (ds.countP (fun d => decide (intD d = 0)) = 1))) = true := eo
            rw [Bool.and_eq_true, Bool.and_eq_true] at eo
            exact eo.2.1
          obtain ⟨fl, _, ei⟩ := opts_flat hds ea
          refine ⟨_, rfl, p, xs, rfl, .inr (ex1 p xs rfl hp).sq, rfl, fl, ?_⟩
          rw [if_pos rfl, ei]
          exact q
      | _ => cases eo
/-! ### no two alike -/
theorem nodup_len {L ks : List Int} (nd : ks.Nodup) (hm : ∀ k, k ∈ L ↔ k ∈ ks) : (ks.length = L.length) ↔ L.Nodup := by
  have key : ∀ {A B : List Int}, A.Nodup → (∀ x ∈ A, x ∈ B) → A.length ≤ B.length := by
    intro A
    induction A with
    | nil => intro B _ _; exact Nat.zero_le _
    | cons a A ih =>
      intro B nd h
      obtain ⟨n1, n2⟩ := List.nodup_cons.mp nd
      have ha := h a List.mem_cons_self
      have hl := List.length_erase_of_mem ha
      have := ih (B := B.erase a) n2 fun x hx => by
        have hne : x ≠ a := fun e => n1 (e ▸ hx)
        exact (List.mem_erase_of_ne hne).mpr (h x (List.mem_cons_of_mem _ hx))
      have hp : 0 < B.length := List.length_pos_of_mem ha
      rw [List.length_cons]
      omega
  constructor
  · intro e
    refine Classical.byContradiction fun no => ?_
    have : ∃ x, x ∈ L ∧ 2 ≤ L.count x := by
      refine Classical.byContradiction fun z => no (List.nodup_iff_count.mpr fun x => ?_)
      refine Classical.byContradiction fun y => z ⟨x, ?_, by omega⟩
      exact List.count_pos_iff.mp (by omega)
    obtain ⟨x, hx, h2⟩ := this
    have hl := List.length_erase_of_mem hx
    have hx2 : x ∈ L.erase x := List.count_pos_iff.mp (by rw [List.count_erase_self]; omega)
    have := key (A := ks) (B := L.erase x) nd fun y hy => by
      by_cases e : y = x
      · rw [e]
        exact hx2
      · exact (List.mem_erase_of_ne e).mpr ((hm y).mpr hy)
    have hp : 0 < L.length := List.length_pos_of_mem hx
    omega
  · intro h
    have h1 := key (A := ks) (B := L) nd fun x hx => (hm x).mpr hx
    have h2 := key (A := L) (B := ks) h fun x hx => (hm x).mp hx
    omega
/-! ### need_loose, need_moves -/
def spNeedL (K : PySem.W.Frag) (C : Addr) : Sp := fun vs H Q E => ∃ v n ts x d, vs = [v, x] ∧ WebAt K H v n ts ∧ n ≤ 1000 ∧ Th H x d ∧ ExV H x ∧ (looseD n d = true → ∀ H', Same H H' → Q .non H') ∧ (looseD n d = false → ∀ H', Same H H' → E (.ref C) none H')
theorem scNeedL : FnScope ["web", "loose"] ["web", "loose"] (defScope sNeedL) := ⟨rfl, rfl, rfl, by decide +kernel, rfl, by decide +kernel, by decide +kernel⟩
theorem ok_needL {C : Addr} {f fF : Addr} {fd fdF : FuncData} (F : FnP K "need_loose" sNeedL f fd) (E : ErrN K mg "NoStanding" C) (FF : FnP K "fits_loosely" sFits fF fdF) (gF : mg "fits_loosely" = some (.ref fF)) (GF : FnOk P w K mg base CX0 4 fF fdF ["web", "thing"] (spFits K)) : FnOk P w K mg base (L2.CX P w) 5 f fd ["web", "loose"] (spNeedL K C) := by
  have bF : Binds K fdF ["web", "thing"] [] := FF.bindsN fun _ _ _ _ _ _ us hl => match us, hl with | [_, _], _ => rfl
  refine okX F scNeedL (fun vs H Q E h => ?_) (fun cdv A outer s H vs Q E0 hr h => ?_)
  · obtain ⟨v, n, ts, x, d, rfl, _⟩ := h
    rfl
  · obtain ⟨v, n, ts, x, d, rfl, hW, hn, hx, ex, q1, q2⟩ := h
    refine ⟨_, (pss_one (ps_if (pt_not (pt_val (pe_call GF hr rfl gF FF.kp bF .nil pass0 (pa_cons (pv 0) (pa_cons (pv 1) pa_nil)))))
      (pss_one (ps_raise rfl (takes_of rfl rfl rfl rfl) (pmk_own PySem.F.excBase_ValueError E.ex E.gs E.kp (raises_own E.su E.ty) rfl)))
      pss_nil)), ?_⟩
    refine ⟨_, rfl, _, rfl, v, n, ts, x, d, rfl, hW, hn, hx, ex, fun H1 S1 => ⟨_, rfl, ?_⟩⟩
    cases e : looseD n d with
    | true => exact iteC rfl (q1 e H1 S1)
    | false => exact iteD rfl (q2 e H1 S1)
/-- a list of bays -/
def movesD (n : Int) : PyData → Bool
  | .list ds => ds.all (bayD n)
  | _ => false
theorem movesD_is {n : Int} {d : PyData} (h : movesD n d = true) : ∃ ms : List Int, d = .list (ms.map PyData.int) ∧ ∀ b ∈ ms, 0 ≤ b ∧ b < n := by
  unfold movesD at h
  split at h
  · rename_i ds
    have key : ∀ {ds : List PyData}, ds.all (bayD n) = true → ∃ ms : List Int, ds = ms.map PyData.int ∧ ∀ b ∈ ms, 0 ≤ b ∧ b < n := by
      intro ds
      induction ds with
      | nil => exact fun _ => ⟨[], rfl, fun b hb => by cases hb⟩
      | cons d ds ih =>
        intro h
        rw [List.all_cons, Bool.and_eq_true] at h
        obtain ⟨b, rfl, b0, b1⟩ := bayD_is h.1
        obtain ⟨ms, rfl, hm⟩ := ih h.2
        refine ⟨b :: ms, rfl, fun c hc => ?_⟩
        rcases List.mem_cons.mp hc with e | e
        · rw [e]
          exact ⟨b0, b1⟩
        · exact hm c e
    obtain ⟨ms, rfl, hm⟩ := key h
    exact ⟨ms, rfl, hm⟩
  · cases h
def spNeedM (K : PySem.W.Frag) (C : Addr) : Sp := fun vs H Q E => ∃ v n ts x d, vs = [v, x] ∧ WebAt K H v n ts ∧ Th H x d ∧ d.bulk ≤ 100000 ∧ (movesD n d = true → ∀ H', Same H H' → Q .non H') ∧ (movesD n d = false → ∀ H', Same H H' → E (.ref C) none H')
def spAreBays (K : PySem.W.Frag) : Sp := fun vs H Q _ => ∃ v n ts x d, vs = [v, x] ∧ WebAt K H v n ts ∧ Th H x d ∧ d.bulk ≤ 100000 ∧ ∀ H', Same H H' → Q (.bl (movesD n d)) H'
abbrev scAreBaysN : List Str := ["web", "thing", "bay"]
abbrev scAreBaysS : Scope := defScope sAreBays
theorem scAreBays : FnScope ["web", "thing", "bay"] ["web", "thing"] (defScope sAreBays) := ⟨rfl, rfl, rfl, by decide +kernel, rfl, by decide +kernel, by decide +kernel⟩
theorem ok_areBays {f fQ : Addr} {fd fdQ : FuncData} (F : FnP K "are_bays" sAreBays f fd) (T : StTxt mg) (FQ : FnP K "is_bay" sIsBayQ fQ fdQ) (gQ : mg "is_bay" = some (.ref fQ)) (GQ : FnOk P w K mg base CX0 2 fQ fdQ ["web", "thing"] (spIsBayQ K)) : FnOk P w K mg base CX0 3 f fd ["web", "thing"] (spAreBays K) := by
  have bQ : Binds K fdQ ["web", "thing"] [] := FQ.bindsN fun _ _ _ _ _ _ us hl => match us, hl with | [_, _], _ => rfl
  refine ok0 F scAreBays (fun vs H Q E h => ?_) (fun cdv A outer s H vs Q E0 hr h => ?_)
  · obtain ⟨v, n, ts, x, d, rfl, _⟩ := h
    rfl
  · obtain ⟨v, n, ts, x, d, rfl, hW, hx, hb, q⟩ := h
    refine ⟨_, (pss_one (ps_ret (pe_and (pe_callB (id := "isinstance") cr_isaD (by rfl) T.isinstance (by decide +kernel) (pa_cons (pv 1) (pa_cons (pe_bltn (v := .ty "list") rfl T.list (by decide +kernel) rfl) pa_nil))) (pe_one (pe_callB (id := "all") (cr_all rfl) (by rfl) T.all (by decide +kernel) (pa_cons (pe_lc (own := [("bay", 2)]) (g := gName 2) (by rfl) scAreBays.nd (pi_list (pv 1)) (blkOk_by (own := [("bay", 2)]) (N := scAreBaysN) (sc := scAreBaysS) (by decide +kernel)) (fun _ _ _ _ _ => pg_name (i := 2) scAreBays.nd rfl (Or.inl rfl)) (fun _ _ _ _ _ => pts_nil) (fun _ _ _ _ _ => (pe_call GQ hr rfl gQ FQ.kp bQ .nil pass0 (pa_cons (pv 0) (pa_cons (pv 2) pa_nil))))) pa_nil)))))), ?_⟩
    have q0 : (∀ ds, d ≠ .list ds) → Q (.bl false) H := fun nt => by
      have e : movesD n d = false := by
        cases d <;> first | rfl | exact absurd rfl (nt _)
      rw [← e]
      exact q H (Same.refl H)
    refine ⟨_, rfl, x, d, "list", rfl, hx, by simp, _, rfl, ?_⟩
    cases hx with
    | non => exact iteC rfl (q0 (fun _ z => by cases z))
    | bl b => exact iteC rfl (q0 (fun _ z => by cases z))
    | int i => exact iteC rfl (q0 (fun _ z => by cases z))
    | str y => exact iteC rfl (q0 (fun _ z => by cases z))
    | tupR _ _ => exact iteC rfl (q0 (fun _ z => by cases z))
    | dct _ => exact iteC rfl (q0 (fun _ z => by cases z))
    | @lst p xs ds hp hds =>
      have hl := thAll_len hds
      have hds0 : ThAll H xs ds := hds
      have lb : ds.length ≤ 100000 := by
        have := bulk_len ds
        rw [PyData.bulk] at hb
        omega
      refine iteD rfl ?_
      refine ⟨_, rfl, p, rfl, ⟨_, SqL.of hp⟩, fun D hD => lc_list (K := K) (a := p) (xs := xs) (fun i H' => Same H H' ∧ H' D = some (.lst (((ds.take i).map (bayD n)).map V.bl))) ⟨same_upd hD, by rw [upd_same, List.take_zero]; rfl⟩ (fun i H' _ ⟨S, _⟩ => SqL.of (S _ _ hp)) ?_ ?_⟩
      · rintro i y H' hi ⟨S, e⟩
        obtain ⟨dy, hdy, hy⟩ := thAll_get hds0 hi
        refine ⟨rfl, _, rfl, _, rfl, v, n, ts, y, dy, rfl, hW.same S, hy.mono S, _, e, ?_, fun c o hc => by rw [upd_ne (ne_of_none hc hD)]; exact S _ _ hc, ?_⟩
        · rw [List.length_map, List.length_map, List.length_take, sizeLine_eq]
          omega
        · rw [upd_same, take_more hdy, List.map_append, List.map_append]
          rfl
      rintro H1 ⟨S1, e1⟩
      rw [hl, List.take_length] at e1
      refine ⟨D, _, rfl, SqL.of e1, ?_⟩
      have ea : (((ds.map (bayD n)).all id)) = movesD n (.list ds) := by rw [List.all_map]; rfl
      rw [ea]
      exact q H1 S1
theorem scNeedM : FnScope ["web", "moves"] ["web", "moves"] (defScope sNeedM) := ⟨rfl, rfl, rfl, by decide +kernel, rfl, by decide +kernel, by decide +kernel⟩
theorem ok_needM {C : Addr} {f fA : Addr} {fd fdA : FuncData} (F : FnP K "need_moves" sNeedM f fd) (E : ErrN K mg "NoMoves" C) (FA : FnP K "are_bays" sAreBays fA fdA) (gA : mg "are_bays" = some (.ref fA)) (GA : FnOk P w K mg base CX0 3 fA fdA ["web", "thing"] (spAreBays K)) : FnOk P w K mg base (L2.CX P w) 4 f fd ["web", "moves"] (spNeedM K C) := by
  have bA : Binds K fdA ["web", "thing"] [] := FA.bindsN fun _ _ _ _ _ _ us hl => match us, hl with | [_, _], _ => rfl
  refine okX F scNeedM (fun vs H Q E h => ?_) (fun cdv A outer s H vs Q E0 hr h => ?_)
  · obtain ⟨v, n, ts, x, d, rfl, _⟩ := h
    rfl
  · obtain ⟨v, n, ts, x, d, rfl, hW, hx, hb, q1, q2⟩ := h
    refine ⟨_, (pss_one (ps_if (pt_not (pt_val (pe_call GA hr rfl gA FA.kp bA .nil pass0 (pa_cons (pv 0) (pa_cons (pv 1) pa_nil)))))
      (pss_one (ps_raise rfl (takes_of rfl rfl rfl rfl) (pmk_own PySem.F.excBase_ValueError E.ex E.gs E.kp (raises_own E.su E.ty) rfl)))
      pss_nil)), ?_⟩
    refine ⟨_, rfl, _, rfl, v, n, ts, x, d, rfl, hW, hx, hb, fun H1 S1 => ⟨_, rfl, ?_⟩⟩
    cases ep : movesD n d with
    | false => exact iteD rfl (q2 ep H1 S1)
    | true => exact iteC rfl (q1 ep H1 S1)
/-! ### need_tied -/
def spNeedTied (K : PySem.W.Frag) (C : Addr) : Sp := fun vs H Q E => ∃ (l p pm : Addr) (ps : List Addr) (rss : List (List Int)) (L ms : List Int), vs = [.ref l, .ref p, .ref pm] ∧ RowsL H l ps rss ∧ TupZ H p (L.map V.int) ∧ (0 : Int) ∈ L ∧ L.length = rss.length ∧ H pm = some (.lst (ms.map V.int)) ∧ (∀ b ∈ ms, Bay rss.length b) ∧
  (tiedS rss (e0 L) ms = true → ∀ H', Same H H' → Q .non H') ∧ (tiedS rss (e0 L) ms = false → ∀ H', Same H H' → E (.ref C) none H')
theorem scNeedTied : FnScope ["rows", "loose", "moves"] ["rows", "loose", "moves"] (defScope sNeedTied) := ⟨rfl, rfl, rfl, by decide +kernel, rfl, by decide +kernel, by decide +kernel⟩
theorem ok_needTied {C : Addr} {f fD : Addr} {fd fdD : FuncData} (F : FnP K "need_tied" sNeedTied f fd) (E : ErrN K mg "BadMove" C) (FD : FnP K "tied_along" sTied fD fdD) (gD : mg "tied_along" = some (.ref fD)) (GD_ : FnOk P w K mg base CX0 1 fD fdD ["rows", "start", "moves"] spTied) : FnOk P w K mg base (L2.CX P w) 2 f fd ["rows", "loose", "moves"] (spNeedTied K C) := by
  have bD : Binds K fdD ["rows", "start", "moves"] [] := FD.bindsN fun _ _ _ _ _ _ us hl => match us, hl with | [_, _, _], _ => rfl
  refine okX F scNeedTied (fun vs H Q E h => ?_) (fun cdv A outer s H vs Q E0 hr h => ?_)
  · obtain ⟨l, p, pm, ps, rss, L, ms, rfl, _⟩ := h
    rfl
  · obtain ⟨l, p, pm, ps, rss, L, ms, rfl, R, hp, h0, hL, hpm, hms, q1, q2⟩ := h
    refine ⟨_, (pss_one (ps_if (pt_not (pt_val (pe_call GD_ hr rfl gD FD.kp bD .nil pass0 (pa_cons (pv 0) (pa_cons (pe_tm PySem.F.plainAttrs_tuple PySem.F.slot_tuple_index PySem.F.type_tuple_index mt_tindex (pv 1) (pa_cons pe_int pa_nil)) (pa_cons (pv 2) pa_nil))))))
      (pss_one (ps_raise rfl (takes_of rfl rfl rfl rfl) (pmk_own PySem.F.excBase_ValueError E.ex E.gs E.kp (raises_own E.su E.ty) rfl)))
      pss_nil)), ?_⟩
    obtain ⟨b0, e1, e2⟩ := e0_at h0
    rw [hL] at b0
    refine ⟨_, rfl, _, rfl, ⟨p, _, rfl, hp⟩, p, L, 0, L.idxOf 0, rfl, rfl, hp.sq, e1, e2, _, rfl, l, pm, ps, rss, e0 L, ms, rfl, R, hpm, b0, hms, fun H5 S5 => ⟨_, rfl, ?_⟩⟩
    cases et : tiedS rss (e0 L) ms with
    | false => exact iteD rfl (q2 et H5 S5)
    | true => exact iteC rfl (q1 et H5 S5)
end
end Sb

/-! ## LSt42 -/
/-! The law's standings and moves: any_standing, moved. -/
namespace Sb
open PySem PySem.Spec PyProof.Rows L2
abbrev sAnyStand : Stmt := top 55
abbrev sMoved : Stmt := top 56
def spAnyStand : Sp := fun vs H Q _ => ∃ (p c : Addr) (k n most : Nat), vs = [.ref p, .int (n : Int), .int (most : Int)] ∧ Pen H p c k ∧ k < 800000 ∧ 1 ≤ n ∧ n ≤ most + 1 ∧ most ≤ 999 ∧
  ∀ (t : Addr) H' (L : List Int) k', But p H H' → H t = none → TupZ H' t (L.map V.int) → LooseP n L → L.Nodup → k' ≤ k + 2 * n → Pen H' p c k' → Q (.ref t) H'
section
variable {P : Program} {w : World} {K : PySem.W.Frag} {mg : Str → Option Value} {base : Heap}
abbrev scAnyStandN : List Str := ["pen", "n", "most", "pieces", "left", "found", "turn"]
theorem scAnyStand : FnScope ["pen", "n", "most", "pieces", "left", "found", "turn"] ["pen", "n", "most"] (defScope sAnyStand) := ⟨rfl, rfl, rfl, by decide +kernel, rfl, by decide +kernel, by decide +kernel⟩
def oneTo (m : Nat) : List Int := (List.range m).map fun i => (1 : Int) + (i : Nat)
theorem rg_one (m : Nat) : rgV 1 ((m : Int) + 1) = (oneTo m).map V.int := by
  unfold rgV oneTo
  rw [List.map_map, show ((m : Int) + 1 - 1).toNat = m by omega]
  rfl
theorem oneTo_len (m : Nat) : (oneTo m).length = m := by
  unfold oneTo
  rw [List.length_map, List.length_range]
theorem oneTo_mem {m : Nat} {z : Int} (h : z ∈ oneTo m) : 1 ≤ z ∧ z ≤ (m : Int) := by
  unfold oneTo at h
  obtain ⟨i, hi, rfl⟩ := List.mem_map.mp h
  have := List.mem_range.mp hi
  omega
theorem oneTo_nd (m : Nat) : (oneTo m).Nodup := by
  unfold oneTo
  refine List.pairwise_map.mpr (List.nodup_range.imp fun {a b} h e => h (by omega))
/-- what was taken, and 0: a standing -/
theorem stand_of {n m : Nat} {fs rs L : List Int} (hn : 1 ≤ n) (hm : m ≤ 999) (hp : (fs ++ rs).Perm (oneTo m)) (hl : fs.length = n - 1) (hL : L.Perm (fs ++ [0])) : LooseP n L ∧ L.Nodup := by
  have hin : ∀ z ∈ fs, 1 ≤ z ∧ z ≤ (m : Int) := fun z hz => oneTo_mem (hp.mem_iff.mp (List.mem_append_left _ hz))
  have nd : (fs ++ rs).Nodup := hp.nodup_iff.mpr (oneTo_nd m)
  have n0 : (0 : Int) ∉ fs := fun z => by
    have := hin 0 z
    omega
  refine ⟨⟨by rw [hL.length_eq, List.length_append, hl, List.length_singleton]; omega, fun z hz => ?_, by rw [hL.count_eq, List.count_append, List.count_eq_zero.mpr n0]; rfl⟩, hL.nodup_iff.mpr (List.nodup_append.mpr ⟨(List.nodup_append.mp nd).1, List.nodup_cons.mpr ⟨(fun z => by cases z), List.nodup_nil⟩, fun x hx y hy e => ?_⟩)⟩
  · rcases List.mem_append.mp (hL.mem_iff.mp hz) with h | h
    · have := hin z h
      omega
    · rw [List.mem_singleton.mp h]
      omega
  · rw [List.mem_singleton.mp hy] at e
    exact n0 (e ▸ hx)
theorem ok_anyStand {f fT : Addr} {fd fdT : FuncData} (F : FnP K "_law_any_standing" sAnyStand f fd) (T : WTxt mg) (FT : FnP K "_law_take" sTake fT fdT) (gT : mg "_law_take" = some (.ref fT)) (GT : FnOk P w K mg base CX0 2 fT fdT ["pen", "many"] spTake) : FnOk P w K mg base CX0 3 f fd ["pen", "n", "most"] spAnyStand := by
  have bT : Binds K fdT ["pen", "many"] [] := FT.bindsN fun _ _ _ _ _ _ us hl => match us, hl with | [_, _], _ => rfl
  refine ok0 F scAnyStand (fun vs H Q E h => ?_) (fun cdv A outer s H vs Q E hr h => ?_)
  · obtain ⟨p, c, k, n, most, rfl, _⟩ := h
    rfl
  · obtain ⟨p, c, k, n, most, rfl, hp, hk, n1, nm, m9, q⟩ := h
    refine ⟨_, (pss_cons (ps_par3 (i := 3) (j := 4) (l := 5) (by rfl) scAnyStand.nd rfl rfl rfl (by decide) (by decide) (by decide) rfl rfl rfl (pa_cons (pe_lstL pa_nil) (pa_cons (pe_listRg rfl rfl T.list (prg_2 rfl T.range pe_int (pe_op op_add (pv 2) pe_int))) (pa_cons (pe_lstL pa_nil) pa_nil))) (by rfl))
    (pss_cons (ps_for PassesOwn.never rfl (pi_range1 (by rfl) T.range (pa_cons (pe_op op_sub (pv 1) pe_int) pa_nil)) (pg_name (i := 6) scAnyStand.nd rfl (Or.inl rfl))
      (pss_one (ps_expr (pe_bm PySem.F.plainAttrs_list PySem.F.slot_list_append PySem.F.type_list_append mt_appendL (pv 3) (pa_cons (pe_bm PySem.F.plainAttrs_list PySem.F.slot_list_pop PySem.F.type_list_pop mt_popAt (pv 4) (pa_cons (pe_call GT hr rfl gT FT.kp bT .nil pass0 (pa_cons (pv 0) (pa_cons (pe_callB (id := "len") call_len_seq (by rfl) T.len (by decide +kernel) (pa_cons (pv 4) pa_nil)) pa_nil))) pa_nil)) pa_nil)))))
    (pss_cons (ps_expr (pe_bm PySem.F.plainAttrs_list PySem.F.slot_list_append PySem.F.type_list_append mt_appendL (pv 3) (pa_cons pe_int pa_nil)))
    (pss_cons (ps_for PassesOwn.never rfl (pi_range1 (by rfl) T.range (pa_cons (pv 1) pa_nil)) (pg_name (i := 6) scAnyStand.nd rfl (Or.inl rfl))
      (pss_one (ps_expr (pe_bm PySem.F.plainAttrs_list PySem.F.slot_list_append PySem.F.type_list_append mt_appendL (pv 5) (pa_cons (pe_bm PySem.F.plainAttrs_list PySem.F.slot_list_pop PySem.F.type_list_pop mt_popAt (pv 3) (pa_cons (pe_call GT hr rfl gT FT.kp bT .nil pass0 (pa_cons (pv 0) (pa_cons (pe_callB (id := "len") call_len_seq (by rfl) T.len (by decide +kernel) (pa_cons (pv 3) pa_nil)) pa_nil))) pa_nil)) pa_nil)))))
    (pss_one (ps_ret (pe_callTy (T := "tuple") call_tuple_ofZ (by rfl) T.tuple (by decide +kernel) (pa_cons (pv 5) pa_nil)))))))), ?_⟩
    obtain ⟨⟨op, hop⟩, ⟨oc, hoc⟩⟩ := hp.there
    -- pieces, left, found
    refine ⟨by show 0 ≤ sizeLine; decide, fun pa H1 m1 S1 h1 => ?_⟩
    refine ⟨_, rfl, _, _, rfl, rfl, _, _, rfl, rfl, RgOk.of_le (by decide) (by omega) (by decide) (by omega), fun la m2 => ?_⟩
    have h2 : (upd H1 la (.lst (rgV 1 ((most : Int) + 1)))) la = some (.lst ((oneTo most).map V.int)) := by rw [upd_same, rg_one]
    have S2 : Same H1 (upd H1 la (.lst (rgV 1 ((most : Int) + 1)))) := same_upd m2
    generalize upd H1 la (.lst (rgV 1 ((most : Int) + 1))) = H2 at h2 S2
    refine ⟨by show 0 ≤ sizeLine; decide, fun fa H4 m3 S24 h3 => ⟨_, _, _, rfl, ?_⟩⟩
    have h1 : H1 pa = some (.lst ([] : List V)) := h1
    have h3 : H4 fa = some (.lst ([] : List V)) := h3
    have S14 := S2.trans S24
    have S04 := S1.trans S14
    have npa : p ≠ pa := ne_of_none hop m1
    have npl : p ≠ la := ne_of_none (S1 _ _ hop) m2
    have npf : p ≠ fa := ne_of_none (S2 _ _ (S1 _ _ hop)) m3
    have nca : c ≠ pa := ne_of_none hoc m1
    have ncl : c ≠ la := ne_of_none (S1 _ _ hoc) m2
    have ncf : c ≠ fa := ne_of_none (S2 _ _ (S1 _ _ hoc)) m3
    have nal : pa ≠ la := ne_of_none h1 m2
    have naf : pa ≠ fa := ne_of_none (S2 _ _ h1) m3
    have nlf : la ≠ fa := ne_of_none h2 m3
    have e1 : ((n : Int) - 1).toNat = n - 1 := by omega
    refine ⟨_, rfl, _, _, rfl, rfl, _, rfl, by omega, by omega, for_range (lo := 0) (n := ((n : Int) - 1).toNat) (fun i σ H' => (∃ x, σ = [some (.ref p), some (.int (n : Int)), some (.int (most : Int)), some (.ref pa), some (.ref la), some (.ref fa), x]) ∧ But p H H' ∧ ∃ (rs fs : List Int) (k' : Nat), H' la = some (.lst (rs.map V.int)) ∧ H' pa = some (.lst (fs.map V.int)) ∧ H' fa = some (.lst []) ∧ fs.length = i ∧ (fs ++ rs).Perm (oneTo most) ∧ k' ≤ k + i ∧ Pen H' p c k')
      ⟨⟨none, rfl⟩, sameBut S04, oneTo most, [], k, S24 _ _ h2, S14 _ _ h1, h3, rfl, List.Perm.refl _, Nat.le_refl _, hp.same S04⟩ ?_ ?_⟩
    · rintro i σ H' hi ⟨⟨x, rfl⟩, B, rs, fs, k', hl, hpa, hf, hfl, hpm, hk', hpn⟩
      have hi : i < n - 1 := by omega
      have hrl : rs.length = most - i := by
        have z := hpm.length_eq
        rw [List.length_append, oneTo_len] at z
        omega
      refine ⟨_, rfl, .inl ⟨rfl, _, SqL.of hpa⟩, _, rfl, .inl ⟨rfl, _, SqL.of hl⟩, _, rfl, _, rfl, la, _, rfl, .inl (SqL.of hl), p, c, k', _, rfl, hpn, by rw [List.length_map]; omega, by rw [List.length_map]; omega, by omega, fun r H5 k4 r0 r1 B4 hk4 hp4 => ?_⟩
      rw [List.length_map] at r1
      have hr : r.toNat < rs.length := by omega
      have hl4 := B4 _ _ npl.symm hl
      have hpa4 := B4 _ _ npa.symm hpa
      have hf4 := B4 _ _ npf.symm hf
      refine ⟨la, _, r, r.toNat, .int rs[r.toNat], rfl, rfl, hl4, by omega, by omega, seqIndex_of r0 (by rw [List.length_map]; exact r1), by rw [List.getElem?_map, List.getElem?_eq_getElem hr]; rfl, ?_⟩
      have ge : ((rs.map V.int).eraseIdx r.toNat) = (rs.eraseIdx r.toNat).map V.int := erase_mapI rs r.toNat
      refine ⟨pa, _, _, rfl, rfl, (by rw [upd_ne nal]; exact hpa4), ?_, fun H6 B5 h5 => ?_⟩
      · rw [List.length_map]
        exact small1000 (by omega)
      refine ⟨⟨_, rfl⟩, fun b o nb hb => ?_, rs.eraseIdx r.toNat, fs ++ [rs[r.toNat]], k4, ?_, ?_, ?_, ?_, ?_, by omega, ?_⟩
      · have e1 : b ≠ pa := ne_of_none hb m1
        have e2 : b ≠ la := ne_of_none (S1 _ _ hb) m2
        refine B5 _ _ e1 ?_
        rw [upd_ne e2]
        exact B4 _ _ nb (B _ _ nb hb)
      · refine B5 _ _ nal.symm ?_
        rw [upd_same, ge]
      · rw [h5, List.map_append]
        rfl
      · refine B5 _ _ naf.symm ?_
        rw [upd_ne nlf.symm]
        exact hf4
      · rw [List.length_append, hfl]
        rfl
      · refine List.Perm.trans ?_ hpm
        rw [List.append_assoc]
        exact List.Perm.append_left fs (perm_erase hr)
      · refine hp4.at (fun o e => B5 _ _ npa ?_) (fun o e => B5 _ _ nca ?_)
        · rw [upd_ne npl]
          exact e
        · rw [upd_ne ncl]
          exact e
    · rintro σ H' ⟨⟨x, rfl⟩, B, rs, fs, k', hl, hpa, hf, hfl, hpm, hk', hpn⟩
      rw [e1] at hfl hk'
      -- pieces.append(0)
      refine ⟨_, rfl, .inl ⟨rfl, _, SqL.of hpa⟩, pa, _, _, rfl, rfl, hpa, by rw [List.length_map]; exact small1000 (by omega), fun H6 B6 h6 => ?_⟩
      have h6 : H6 pa = some (.lst ((fs ++ [0]).map V.int)) := by rw [h6, List.map_append]; rfl
      have hf6 := B6 _ _ naf.symm hf
      have hp6 : Pen H6 p c k' := hpn.at (fun o e => B6 _ _ npa e) (fun o e => B6 _ _ nca e)
      have B06 : But p H H6 := fun b o nb hb => B6 _ _ (ne_of_none hb m1) (B _ _ nb hb)
      have l0 : (fs ++ [0]).length = n := by
        rw [List.length_append, hfl, List.length_singleton]
        omega
      refine ⟨_, rfl, n, rfl, by omega, by omega, for_range (lo := 0) (n := (n : Int).toNat) (fun i σ H' => (∃ x, σ = [some (.ref p), some (.int (n : Int)), some (.int (most : Int)), some (.ref pa), some (.ref la), some (.ref fa), x]) ∧ But p H H' ∧ ∃ (rs gs : List Int) (k' : Nat), H' pa = some (.lst (rs.map V.int)) ∧ H' fa = some (.lst (gs.map V.int)) ∧ gs.length = i ∧ (gs ++ rs).Perm (fs ++ [0]) ∧ k' ≤ k + (n - 1) + i ∧ Pen H' p c k')
        ⟨⟨_, rfl⟩, B06, fs ++ [0], [], k', h6, hf6, rfl, List.Perm.refl _, hk', hp6⟩ ?_ ?_⟩
      · rintro i σ H' hi ⟨⟨x, rfl⟩, B, rs, gs, k', hpa, hf, hfl, hpm2, hk', hpn⟩
        have hi : i < n := by omega
        have hrl : rs.length = n - i := by
          have z := hpm2.length_eq
          rw [List.length_append, l0] at z
          omega
        refine ⟨_, rfl, .inl ⟨rfl, _, SqL.of hf⟩, _, rfl, .inl ⟨rfl, _, SqL.of hpa⟩, _, rfl, _, rfl, pa, _, rfl, .inl (SqL.of hpa), p, c, k', _, rfl, hpn, by rw [List.length_map]; omega, by rw [List.length_map]; omega, by omega, fun r H7 k4 r0 r1 B4 hk4 hp4 => ?_⟩
        rw [List.length_map] at r1
        have hr : r.toNat < rs.length := by omega
        have hpa4 := B4 _ _ npa.symm hpa
        have hf4 := B4 _ _ npf.symm hf
        refine ⟨pa, _, r, r.toNat, .int rs[r.toNat], rfl, rfl, hpa4, by omega, by omega, seqIndex_of r0 (by rw [List.length_map]; exact r1), by rw [List.getElem?_map, List.getElem?_eq_getElem hr]; rfl, ?_⟩
        have ge : ((rs.map V.int).eraseIdx r.toNat) = (rs.eraseIdx r.toNat).map V.int := erase_mapI rs r.toNat
        refine ⟨fa, _, _, rfl, rfl, (by rw [upd_ne naf.symm]; exact hf4), ?_, fun H8 B5 h5 => ?_⟩
        · rw [List.length_map]
          exact small1000 (by omega)
        refine ⟨⟨_, rfl⟩, fun b o nb hb => ?_, rs.eraseIdx r.toNat, gs ++ [rs[r.toNat]], k4, ?_, ?_, ?_, ?_, by omega, ?_⟩
        · have e1 : b ≠ fa := ne_of_none (S2 _ _ (S1 _ _ hb)) m3
          have e2 : b ≠ pa := ne_of_none hb m1
          refine B5 _ _ e1 ?_
          rw [upd_ne e2]
          exact B4 _ _ nb (B _ _ nb hb)
        · refine B5 _ _ naf ?_
          rw [upd_same, ge]
        · rw [h5, List.map_append]
          rfl
        · rw [List.length_append, hfl]
          rfl
        · refine List.Perm.trans ?_ hpm2
          rw [List.append_assoc]
          exact List.Perm.append_left gs (perm_erase hr)
        · refine hp4.at (fun o e => B5 _ _ npf ?_) (fun o e => B5 _ _ ncf ?_)
          · rw [upd_ne npa]
            exact e
          · rw [upd_ne nca]
            exact e
      · rintro σ H' ⟨⟨x, rfl⟩, B, rs, gs, k', hpa, hf, hgl, hpm2, hk', hpn⟩
        have en : ((n : Int)).toNat = n := by omega
        rw [en] at hgl hk'
        have hr0 : rs = [] := by
          have z := hpm2.length_eq
          rw [List.length_append, l0] at z
          exact List.eq_nil_of_length_eq_zero (by omega)
        rw [hr0, List.append_nil] at hpm2
        obtain ⟨LP, LN⟩ := stand_of n1 m9 hpm hfl hpm2
        refine ⟨_, rfl, fa, _, rfl, .inl ⟨SqL.of hf, fun t H9 nt S9 ht => ?_⟩⟩
        exact q t H9 gs k' (fun b o nb hb => S9 _ _ (B b o nb hb)) (Classical.byContradiction fun z => by
          cases e : H t with
          | none => exact z e
          | some o =>
            by_cases tp : t = p
            · obtain ⟨⟨op', hop'⟩, _⟩ := hpn.there
              rw [tp, hop'] at nt
              cases nt
            · have := B t o tp e
              rw [this] at nt
              cases nt) ht LP LN (by omega) (hpn.same S9)
end
end Sb

/-! ## LMt42 -/
/-! The law's moves: moved, any_moves, led. -/
namespace Sb
open PySem PySem.Spec PyProof.Rows L2
abbrev sAnyMoves : Stmt := top 57
theorem swp_perm {L : List Int} {i j : Int} (hi : Bay L.length i) (hj : Bay L.length j) : (swp L i j).Perm L := by
  have h1 : i.toNat < L.length := by have := hi.1; have := hi.2; omega
  have h2 : j.toNat < L.length := by have := hj.1; have := hj.2; omega
  unfold swp
  rw [List.getD_eq_getElem?_getD, List.getElem?_eq_getElem h2, List.getD_eq_getElem?_getD, List.getElem?_eq_getElem h1]
  exact List.set_set_perm h1 h2
theorem LooseP.perm {n : Nat} {L M : List Int} (h : LooseP n L) (p : M.Perm L) : LooseP n M := ⟨by rw [p.length_eq, h.len], fun z hz => h.inn z (p.mem_iff.mp hz), by rw [p.count_eq, h.one]⟩
theorem e0_is {n : Nat} {L : List Int} (h : LooseP n L) {b : Nat} (e : L[b]? = some 0) : e0 L = (b : Int) := by
  obtain ⟨h1, h2, h3⟩ := e0_at h.zero
  have hb := (List.getElem?_eq_some_iff.mp e).1
  have hne : ¬ L.idxOf 0 < b := fun lt => by
    -- two places of 0
    have e1 : L = L.take b ++ 0 :: L.drop (b + 1) := by
      have := List.drop_eq_getElem_cons hb
      rw [(List.getElem?_eq_some_iff.mp e).2] at this
      rw [← this, List.take_append_drop]
    have hm : (0 : Int) ∈ L.take b := by
      refine List.mem_take_iff_getElem.mpr ⟨L.idxOf 0, by omega, ?_⟩
      exact (List.getElem?_eq_some_iff.mp h2).2
    have hc := h.one
    rw [e1, List.count_append, List.count_cons_self] at hc
    have := List.count_pos_iff.mpr hm
    omega
  have hge : ¬ b < L.idxOf 0 := fun lt => h3 b lt e
  unfold e0
  omega
theorem swp_empty {n : Nat} {L : List Int} (h : LooseP n L) {b : Int} (hb : Bay n b) : LooseP n (swp L (e0 L) b) ∧ e0 (swp L (e0 L) b) = b := by
  obtain ⟨h1, h2, h3⟩ := e0_at h.zero
  have hb' : Bay L.length b := by rw [h.len]; exact hb
  have hp := swp_perm h1 hb'
  have LP := h.perm hp
  refine ⟨LP, ?_⟩
  have hbl : b.toNat < L.length := by have := hb'.1; have := hb'.2; omega
  have e : (swp L (e0 L) b)[b.toNat]? = some 0 := by
    unfold swp
    rw [List.getElem?_set_self (by rw [List.length_set]; exact hbl)]
    have : L.getD (e0 L).toNat 0 = 0 := by
      rw [show (e0 L).toNat = L.idxOf 0 by unfold e0; omega, List.getD_eq_getElem?_getD, h2]
      rfl
    rw [this]
  have := e0_is LP e
  have := hb.1
  omega
theorem slid_loose {n : Nat} {L : List Int} (h : LooseP n L) : ∀ {ms : List Int}, (∀ b ∈ ms, Bay n b) → LooseP n (slidS L (e0 L) ms).1 ∧ e0 (slidS L (e0 L) ms).1 = (slidS L (e0 L) ms).2 ∧ (slidS L (e0 L) ms).1.Perm L := by
  have key : ∀ (ms : List Int) (M : List Int), LooseP n M → M.Perm L → (∀ b ∈ ms, Bay n b) → LooseP n (ms.foldl (fun st b => (swp st.1 st.2 b, b)) (M, e0 M)).1 ∧ e0 (ms.foldl (fun st b => (swp st.1 st.2 b, b)) (M, e0 M)).1 = (ms.foldl (fun st b => (swp st.1 st.2 b, b)) (M, e0 M)).2 ∧ (ms.foldl (fun st b => (swp st.1 st.2 b, b)) (M, e0 M)).1.Perm L := by
    intro ms
    induction ms with
    | nil => exact fun M h p _ => ⟨h, rfl, p⟩
    | cons b ms ih =>
      intro M hM pM hb
      have hbb := hb b List.mem_cons_self
      obtain ⟨h1, h2⟩ := swp_empty hM hbb
      have hp := swp_perm (e0_at hM.zero).1 (show Bay M.length b by rw [hM.len]; exact hbb)
      rw [List.foldl_cons]
      have := ih (swp M (e0 M) b) h1 (hp.trans pM) fun c hc => hb c (List.mem_cons_of_mem _ hc)
      rw [h2] at this
      exact this
  exact fun {ms} hb => key ms L h (List.Perm.refl _) hb
theorem tiedS_snoc {rss : List (List Int)} (L : List Int) : ∀ (ms : List Int) (e b : Int), tiedS rss e (ms ++ [b]) = (tiedS rss e ms && decide (b ∈ gR rss (slidS L e ms).2))
  | [], e, b => by
    show (decide (b ∈ gR rss e) && true) = (true && decide (b ∈ gR rss e))
    rw [Bool.and_true, Bool.true_and]
  | c :: ms, e, b => by
    have ih := tiedS_snoc (rss := rss) (swp L e c) ms c b
    show (decide (c ∈ gR rss e) && tiedS rss c (ms ++ [b])) = ((decide (c ∈ gR rss e) && tiedS rss c ms) && _)
    rw [ih, Bool.and_assoc]
    rfl
theorem TupZ.but {H H' : Hp} {p a : Addr} {xs ys : List V} (h : TupZ H a xs) (B : But p H H') (e : H p = some (.lst ys)) : TupZ H' a xs := by
  obtain ⟨o, d, ho⟩ := h
  refine ⟨o, d, B _ _ (fun z => ?_) ho⟩
  rw [z, e] at ho
  cases ho
def spMoved : Sp := fun vs H Q _ => ∃ (p : Addr) (L : List Int) (b : Int), vs = [.ref p, .int b] ∧ TupZ H p (L.map V.int) ∧ (0 : Int) ∈ L ∧ Bay L.length b ∧ ∀ t H', Same H H' → H t = none → TupZ H' t ((swp L (e0 L) b).map V.int) → Q (.ref t) H'
structure MvTxt (mg : Str → Option Value) : Prop where
  list : mg "list" = none
  tuple : mg "tuple" = none
  range : mg "range" = none
section
variable {P : Program} {w : World} {K : PySem.W.Frag} {mg : Str → Option Value} {base : Heap}
abbrev scMovedN : List Str := ["standing", "bay", "found"]
theorem scMoved : FnScope ["standing", "bay", "found"] ["standing", "bay"] (defScope sMoved) := ⟨rfl, rfl, rfl, by decide +kernel, rfl, by decide +kernel, by decide +kernel⟩
theorem ok_moved {f : Addr} {fd : FuncData} (F : FnP K "_law_moved" sMoved f fd) (T : MvTxt mg) : FnOk P w K mg base CX0 1 f fd ["standing", "bay"] spMoved := by
  refine ok0 F scMoved (fun vs H Q E h => ?_) (fun cdv A outer s H vs Q E hr h => ?_)
  · obtain ⟨p, L, b, rfl, _⟩ := h
    rfl
  · obtain ⟨p, L, b, rfl, hp, h0, hb, q⟩ := h
    obtain ⟨he, h1, h2⟩ := e0_at h0
    have hbl : b.toNat < L.length := by have := hb.1; have := hb.2; omega
    refine ⟨_, (pss_cons (ps_set (i := 2) scMoved.nd rfl (Or.inl rfl) (pe_callTy (T := "list") call_list_ofL (by rfl) T.list (by decide +kernel) (pa_cons (pv 0) pa_nil)))
    (pss_cons (ps_asg (pe_tupL (pa_cons (pe_ix ix_tup (pv 0) (pv 1) (fun _ _ => rfl)) (pa_cons pe_int pa_nil))) (pg_tup (by rfl) (pgs_cons (pg_sub (pv 2) (pe_tm PySem.F.plainAttrs_tuple PySem.F.slot_tuple_index PySem.F.type_tuple_index mt_tindex (pv 0) (pa_cons pe_int pa_nil)) set_listL) (pgs_cons (pg_sub (pv 2) (pv 1) set_listL) pgs_nil))))
    (pss_one (ps_ret (pe_callTy (T := "tuple") call_tuple_ofZ (by rfl) T.tuple (by decide +kernel) (pa_cons (pv 2) pa_nil)))))), ?_⟩
    have x1 : atI (L.map V.int) b = some (.int (L.getD b.toNat 0)) := atI_map hb.1 hb.2
    refine ⟨_, rfl, p, _, rfl, .inr hp.sq, fun a H1 n1 S1 ha => ?_⟩
    refine ⟨_, rfl, _, rfl, p, _, _, _, rfl, rfl, (hp.same S1).sq, x1, by show 2 ≤ sizeLine; decide, fun t H2 n2 S2 ht => ?_⟩
    have ha2 := S2 _ _ ha
    have hp2 := hp.same (S1.trans S2)
    refine ⟨t, _, rfl, SqT.of ht, rfl, _, _, rfl, _, rfl, _, rfl, ⟨p, _, rfl, hp2⟩, p, L, 0, L.idxOf 0, rfl, rfl, hp2.sq, h1, h2, a, _, _, _, rfl, rfl, ha2, ixN_nat (by rw [List.length_map]; exact (List.getElem?_eq_some_iff.mp h1).1), fun H3 B3 h3 => ?_⟩
    refine ⟨_, _, rfl, _, rfl, _, rfl, a, _, _, b.toNat, rfl, rfl, h3, ?_, fun H4 B4 h4 => ?_⟩
    · rw [List.length_set]
      exact ixN_map hb.1 hb.2
    refine ⟨rfl, _, rfl, a, _, rfl, .inl ⟨SqL.of h4, fun u H5 nu S5 hu => q u H5 ((same_but (same_but (S1.trans S2) n1 B3) n1 B4).trans S5) ((same_but (same_but (S1.trans S2) n1 B3) n1 B4).free nu) ?_⟩⟩
    have e : (swp L (e0 L) b).map V.int = ((L.map V.int).set (L.idxOf 0) (V.int (L.getD b.toNat 0))).set b.toNat (V.int 0) := by
      unfold swp
      have : L.getD (e0 L).toNat 0 = 0 := by
        rw [show (e0 L).toNat = L.idxOf 0 by unfold e0; omega, List.getD_eq_getElem?_getD, h1]
        rfl
      rw [this, List.map_set, List.map_set, show (e0 L).toNat = L.idxOf 0 by unfold e0; omega]
    rw [e]
    exact hu
theorem pen_lst {H : Hp} {p c : Addr} {k : Nat} (h : Pen H p c k) : ∃ xs, H p = some (.lst xs) := by
  obtain ⟨cells, x, e, _⟩ := h
  exact ⟨_, e⟩
/-- each bay is tied to one -/
theorem has_near {n : Nat} {ts : List (Int × Int)} (W : WebP n ts) {v : Int} (v0 : 0 ≤ v) (v1 : v < (n : Int)) : gR (rowsOf n ts) v ≠ [] := by
  have n2 := W.n2
  have key : ∃ z, (v, z) ∈ ts ∨ (z, v) ∈ ts := by
    have st : ∀ {c : Int}, Lk ts 0 c → (c = 0 ∨ ((∃ z, ((0 : Int), z) ∈ ts ∨ (z, (0 : Int)) ∈ ts) ∧ ∃ z, (c, z) ∈ ts ∨ (z, c) ∈ ts)) := by
      intro c h
      induction h with
      | refl => exact .inl rfl
      | @step b c _ t ih =>
        refine .inr ⟨?_, b, t.symm⟩
        rcases ih with e | ⟨h, _⟩
        · rw [e] at t
          exact ⟨c, t⟩
        · exact h
    by_cases e : v = 0
    · rcases st (W.con 1 (by omega) (by omega)) with h | ⟨h, _⟩
      · omega
      · rw [e]
        exact h
    · rcases st (W.con v v0 v1) with h | ⟨_, h⟩
      · exact absurd h e
      · exact h
  obtain ⟨z, hz⟩ := key
  have := (rows_iff (z := z) W.ti v0).mpr hz
  intro e
  rw [e] at this
  cases this
def spAnyMoves : Sp := fun vs H Q _ => ∃ (p c r sa : Addr) (k n : Nat) (ts : List (Int × Int)) (L : List Int) (many : Nat), vs = [.ref p, .ref r, .ref sa, .int (many : Int)] ∧ Pen H p c k ∧ k + many < 800000 ∧ many ≤ 1000 ∧ WebH H r n ts ∧ WebP n ts ∧ ts.length ≤ 1000 ∧ TupZ H sa (L.map V.int) ∧ LooseP n L ∧
  ∀ (o fa sb : Addr) H' (ms : List Int) k', But p H H' → H' o = some (.tup [.ref fa, .ref sb]) → H fa = none → fa ≠ p → H' fa = some (.lst (ms.map V.int)) → TupZ H' sb ((slidS L (e0 L) ms).1.map V.int) → (∀ b ∈ ms, Bay n b) → tiedS (rowsOf n ts) (e0 L) ms = true → ms.length = many → k' ≤ k + many → Pen H' p c k' → Q (.ref o) H'
abbrev scAnyMovesN : List Str := ["pen", "web", "standing", "many", "found", "turn", "bay"]
theorem scAnyMoves : FnScope ["pen", "web", "standing", "many", "found", "turn", "bay"] ["pen", "web", "standing", "many"] (defScope sAnyMoves) := ⟨rfl, rfl, rfl, by decide +kernel, rfl, by decide +kernel, by decide +kernel⟩
def AmInv (H : Hp) (p c r fa : Addr) (k n : Nat) (ts : List (Int × Int)) (L : List Int) (many : Nat) (i : Nat) (σ : L2.St) (H' : Hp) : Prop :=
  ∃ (sb : Addr) (ms : List Int) (k' : Nat), (∃ u v, σ = [some (.ref p), some (.ref r), some (.ref sb), some (.int (many : Int)), some (.ref fa), u, v]) ∧ But p H H' ∧ H' fa = some (.lst (ms.map V.int)) ∧ TupZ H' sb ((slidS L (e0 L) ms).1.map V.int) ∧ (∀ b ∈ ms, Bay n b) ∧ tiedS (rowsOf n ts) (e0 L) ms = true ∧ ms.length = i ∧ k' ≤ k + i ∧ Pen H' p c k'
theorem ok_anyMoves {f fO fN fM : Addr} {fd fdO fdN fdM : FuncData} (F : FnP K "_law_any_moves" sAnyMoves f fd) (T : MvTxt mg) (FO : FnP K "_law_one_of" sOneOf fO fdO) (gO : mg "_law_one_of" = some (.ref fO)) (GO : FnOk P w K mg base CX0 3 fO fdO ["pen", "some"] (spOneOf K))
    (FN : FnP K "_law_near" sNear fN fdN) (gN : mg "_law_near" = some (.ref fN)) (GN : FnOk P w K mg base CX0 1 fN fdN ["ties", "bay"] (spNear K)) (FM : FnP K "_law_moved" sMoved fM fdM) (gM : mg "_law_moved" = some (.ref fM)) (GM : FnOk P w K mg base CX0 1 fM fdM ["standing", "bay"] spMoved) : FnOk P w K mg base CX0 4 f fd ["pen", "web", "standing", "many"] spAnyMoves := by
  have bO : Binds K fdO ["pen", "some"] [] := FO.bindsN fun _ _ _ _ _ _ us hl => match us, hl with | [_, _], _ => rfl
  have bN : Binds K fdN ["ties", "bay"] [] := FN.bindsN fun _ _ _ _ _ _ us hl => match us, hl with | [_, _], _ => rfl
  have bM : Binds K fdM ["standing", "bay"] [] := FM.bindsN fun _ _ _ _ _ _ us hl => match us, hl with | [_, _], _ => rfl
  refine ok0 F scAnyMoves (fun vs H Q E h => ?_) (fun cdv A outer s H vs Q E hr h => ?_)
  · obtain ⟨p, c, r, sa, k, n, ts, L, many, rfl, _⟩ := h
    rfl
  · obtain ⟨p, c, r, sa, k, n, ts, L, many, rfl, hp, hk, hmany, hW, W, hts, hs, hL, q⟩ := h
    have hr1 : Room 1 _ := hr.mono (by decide)
    have hr3 : Room 3 _ := hr.mono (by decide)
    refine ⟨_, (pss_cons (ps_set (i := 4) scAnyMoves.nd rfl (Or.inl rfl) (pe_lstL pa_nil))
    (pss_cons (ps_for PassesOwn.never rfl (pi_range1 (by rfl) T.range (pa_cons (pv 3) pa_nil)) (pg_name (i := 5) scAnyMoves.nd rfl (Or.inl rfl))
      (pss_cons (ps_set (i := 6) scAnyMoves.nd rfl (Or.inl rfl) (pe_call GO hr3 rfl gO FO.kp bO .nil pass0 (pa_cons (pv 0) (pa_cons (pe_call GN hr1 rfl gN FN.kp bN .nil pass0 (pa_cons (pe_ix ix_tup (pv 1) pe_int (fun _ _ => rfl)) (pa_cons (pe_tm PySem.F.plainAttrs_tuple PySem.F.slot_tuple_index PySem.F.type_tuple_index mt_tindex (pv 2) (pa_cons pe_int pa_nil)) pa_nil))) pa_nil))))
    (pss_cons (ps_expr (pe_bm PySem.F.plainAttrs_list PySem.F.slot_list_append PySem.F.type_list_append mt_appendL (pv 4) (pa_cons (pv 6) pa_nil)))
    (pss_one (ps_set (i := 2) scAnyMoves.nd rfl (Or.inl rfl) (pe_call GM hr1 rfl gM FM.kp bM .nil pass0 (pa_cons (pv 2) (pa_cons (pv 6) pa_nil))))))))
    (pss_one (ps_ret (pe_tupL (pa_cons (pv 4) (pa_cons (pv 2) pa_nil))))))), ?_⟩
    obtain ⟨ys, hpy⟩ := pen_lst hp
    refine ⟨by show 0 ≤ sizeLine; decide, fun fa H1 n1 S1 h1 => ?_⟩
    have nfp : fa ≠ p := (ne_of_none hpy n1).symm
    refine ⟨_, rfl, many, rfl, by omega, by omega, for_range (lo := 0) (n := (many : Int).toNat) (AmInv H p c r fa k n ts L many) ⟨sa, [], k, ⟨_, _, rfl⟩, sameBut S1, h1, hs.same S1, (fun b hb => by cases hb), rfl, rfl, Nat.le_refl _, hp.same S1⟩ ?_ ?_⟩
    · rintro i σ H' hi ⟨sb, ms, k', ⟨u, v, rfl⟩, B, hf, hsb, hms, ht, hlen, hk', hpn⟩
      have hi : i < many := by omega
      obtain ⟨LP, e0e, _⟩ := slid_loose hL hms
      obtain ⟨he, h0, h2⟩ := e0_at LP.zero
      rw [LP.len] at he
      have hW' := hW.mono fun b xs hb => B b _ (fun z => by rw [z, hpy] at hb; cases hb) hb
      obtain ⟨wt, hr', hT⟩ := id hW'
      obtain ⟨wa, wt2, ewa, hwa, hT2⟩ := hW'.at (K := K)
      cases ewa
      refine ⟨_, rfl, _, rfl, r, _, _, _, rfl, rfl, hwa, at_of (j := 1) rfl rfl, _, rfl, ⟨sb, _, rfl, hsb⟩, sb, _, 0, _, rfl, rfl, hsb.sq, h0, h2, ?_⟩
      have ncf : c ≠ fa := (hp.new n1).2
      refine ⟨wt2, ts, _, rfl, hT2, by omega, fun out nl H2 hpm hst S2 nn hn => ?_⟩
      have eo : out = gR (rowsOf n ts) (e0 (slidS L (e0 L) ms).1) := near_row (n := n) he.1 W.asc W.inn hpm hst
      rw [e0e] at eo
      subst eo
      have hne := has_near W (v := (slidS L (e0 L) ms).2) (by rw [← e0e]; exact he.1) (by rw [← e0e]; exact he.2)
      have hlr : (gR (rowsOf n ts) (slidS L (e0 L) ms).2).length ≤ 2 * ts.length := by
        have q := rowsOf_small n ts ts.length (slidS L (e0 L) ms).2.toNat
        rw [List.take_length] at q
        exact q
      obtain ⟨ys', hpy'⟩ := pen_lst hpn
      refine ⟨p, c, nl, k', _, rfl, hpn.same S2, SqL.of hn, (ne_of_none hpy' nn).symm, ?_, by rw [List.length_map]; omega, by omega, fun j v2 H3 k2 hv B3 hk2 hp3 => ?_⟩
      · rw [List.length_map]
        exact List.length_pos_iff.mpr hne
      obtain ⟨b, hb, rfl⟩ := getMap hv
      have hbm := List.mem_of_getElem? hb
      have hbb : Bay n b := W.rin _ b hbm
      have hpy2 := S2 _ _ hpy'
      have hf3 := B3 _ _ nfp (S2 _ _ hf)
      have hsb3 := (hsb.same S2).but B3 hpy2
      refine ⟨_, rfl, .inl ⟨rfl, _, SqL.of hf3⟩, _, rfl, fa, _, _, rfl, rfl, hf3, by rw [List.length_map]; exact small1000 (by omega), fun H4 B4 h4 => ?_⟩
      have hsb4 := hsb3.but B4 hf3
      refine ⟨_, rfl, _, rfl, sb, _, b, rfl, hsb4, LP.zero, by rw [LP.len]; exact hbb, fun t H5 S5 nt ht5 => ?_⟩
      refine ⟨t, ms ++ [b], k2, ⟨_, _, rfl⟩, fun a o na ha => S5 _ _ (B4 _ _ (ne_of_none ha n1) (B3 _ _ na (S2 _ _ (B _ _ na ha)))), ?_, ?_, fun d hd => ?_, ?_, by rw [List.length_append, hlen]; rfl, by omega, ?_⟩
      · rw [S5 _ _ h4, List.map_append]
        rfl
      · rw [slidS_snoc, ← e0e]
        exact ht5
      · rcases List.mem_append.mp hd with z | z
        · exact hms d z
        · rw [List.mem_singleton.mp z]
          exact hbb
      · rw [tiedS_snoc L, ht, Bool.true_and]
        exact decide_eq_true hbm
      · exact (hp3.at (fun o e => B4 _ _ nfp.symm e) (fun o e => B4 _ _ ncf e)).same S5
    · rintro σ H' ⟨sb, ms, k', ⟨u, v, rfl⟩, B, hf, hsb, hms, ht, hlen, hk', hpn⟩
      have e1 : ((many : Int)).toNat = many := by omega
      rw [e1] at hlen hk'
      refine ⟨_, rfl, _, rfl, by show 2 ≤ sizeLine; decide, fun o H5 n5 S5 h5 => ?_⟩
      exact q o fa sb H5 ms k' (fun b o nb hb => S5 _ _ (B _ _ nb hb)) h5 n1 nfp (S5 _ _ hf) (hsb.same S5) hms ht hlen hk' (hpn.same S5)
end
end Sb

/-! ## NB -/
/-! Small things that hold no dict. -/
namespace Sb
open PySem PySem.Spec PyProof.Rows L2
def intsD (ns : List Int) : PyData := .list (ns.map PyData.int)
/-- no dict within, small -/
structure NoD (a b : Nat) (d : PyData) : Prop where
  sm : smallD d = true
  nd : d.hasDict = false
  dep : d.depth ≤ a
  bk : d.bulk ≤ b
theorem NoD.ok {a b : Nat} {d : PyData} (h : NoD a b d) (ha : a ≤ 40) (hb : b ≤ 100000) : OKD d := ⟨h.sm, fun z => (by rw [h.nd] at z; cases z), Nat.le_trans h.dep ha, Nat.le_trans h.bk hb⟩
theorem NoD.int {a b : Nat} {z : Int} (h0 : -1 ≤ z) (h1 : z ≤ 1900) : NoD a b (.int z) := by
  refine ⟨?_, by rw [PyData.hasDict], by rw [PyData.depth]; exact Nat.zero_le _, by rw [PyData.bulk]; exact Nat.zero_le _⟩
  show (decide (-1 ≤ z) && decide (z ≤ 1900)) = true
  rw [decide_eq_true h0, decide_eq_true h1]
  rfl
structure NoDs (a b : Nat) (ds : List PyData) : Prop where
  sm : smallAll ds = true
  nd : PyData.hasDictAll ds = false
  dep : PyData.depthAll ds ≤ a
  bk : PyData.bulkAll ds ≤ b
theorem NoDs.nil {a : Nat} : NoDs a 0 [] := ⟨rfl, by rw [PyData.hasDictAll], by rw [PyData.depthAll]; exact Nat.zero_le _, by rw [PyData.bulkAll]; exact Nat.le_refl _⟩
theorem NoDs.cons {a b c : Nat} {d : PyData} {ds : List PyData} (h : NoD a b d) (g : NoDs a c ds) : NoDs a (b + 1 + c) (d :: ds) := by
  obtain ⟨h1, h2, h3, h4⟩ := h
  obtain ⟨g1, g2, g3, g4⟩ := g
  refine ⟨?_, by rw [PyData.hasDictAll, h2, g2]; rfl, by rw [PyData.depthAll]; omega, by rw [PyData.bulkAll]; omega⟩
  show (smallD d && smallAll ds) = true
  rw [h1, g1]
  rfl
theorem NoDs.app {a b c : Nat} {ds es : List PyData} (h : NoDs a b ds) (g : NoDs a c es) : NoDs a (b + c) (ds ++ es) := by
  obtain ⟨h1, h2, h3, h4⟩ := h
  obtain ⟨g1, g2, g3, g4⟩ := g
  refine ⟨by rw [smallAll_app, h1, g1]; rfl, by rw [hasDictAll_app, h2, g2]; rfl, by rw [depthAll_app]; omega, by rw [bulkAll_app]; omega⟩
theorem NoDs.tup {a b : Nat} {ds : List PyData} (h : NoDs a b ds) : NoD (a + 1) b (.tuple ds) := ⟨h.sm, by rw [PyData.hasDict]; exact h.nd, by rw [PyData.depth]; exact Nat.succ_le_succ h.dep, by rw [PyData.bulk]; exact h.bk⟩
theorem NoDs.lst {a b : Nat} {ds : List PyData} (h : NoDs a b ds) : NoD (a + 1) b (.list ds) := ⟨h.sm, by rw [PyData.hasDict]; exact h.nd, by rw [PyData.depth]; exact Nat.succ_le_succ h.dep, by rw [PyData.bulk]; exact h.bk⟩
theorem NoD.mono {a b c d : Nat} {x : PyData} (h : NoD a b x) (h1 : a ≤ c) (h2 : b ≤ d) : NoD c d x := ⟨h.sm, h.nd, Nat.le_trans h.dep h1, Nat.le_trans h.bk h2⟩
theorem NoDs.pure {a b : Nat} {ds : List PyData} (h : pureAll ds = true) (h1 : PyData.depthAll ds ≤ a) (h2 : PyData.bulkAll ds ≤ b) : NoDs a b ds := by
  obtain ⟨x, y, _⟩ := pure_smallAll ds h
  exact ⟨x, y, h1, h2⟩
def nodB (d : PyData) : Bool := smallD d && (!d.hasDict && (decide (d.depth ≤ 40) && decide (d.bulk ≤ 100000)))
theorem nodB_ok {d : PyData} (h : nodB d = true) : OKD d := by
  unfold nodB at h
  rw [Bool.and_eq_true, Bool.and_eq_true (!d.hasDict), Bool.and_eq_true (decide (d.depth ≤ 40))] at h
  obtain ⟨x, y, z, u⟩ := h
  refine ⟨x, fun e => ?_, of_decide_eq_true z, of_decide_eq_true u⟩
  rw [e] at y
  cases y
theorem ints_nod {a : Nat} : ∀ {ns : List Int}, (∀ z ∈ ns, -1 ≤ z ∧ z ≤ 1900) → NoDs a ns.length (ns.map PyData.int)
  | [], _ => NoDs.nil
  | z :: ns, h => by
    obtain ⟨z0, z1⟩ := h z List.mem_cons_self
    have g := NoDs.cons (NoD.int (a := a) (b := 0) z0 z1) (ints_nod (a := a) fun y hy => h y (List.mem_cons_of_mem _ hy))
    rw [show 0 + 1 + ns.length = (z :: ns).length by rw [List.length_cons]; omega] at g
    exact g
theorem all_ints {H : Hp} : ∀ ns : List Int, ThAll H (ns.map V.int) (ns.map PyData.int)
  | [] => .nil
  | z :: ns => .cons (.int z) (all_ints ns)
theorem th_ints {H : Hp} {a : Addr} {ns : List Int} (h : H a = some (.lst (ns.map V.int))) : Th H (.ref a) (intsD ns) := .lst h (all_ints ns)
theorem th_tints {H : Hp} {a : Addr} {ns : List Int} (h : H a = some (.tup (ns.map V.int))) : Th H (.ref a) (.tuple (ns.map PyData.int)) := .tup h (all_ints ns)
theorem rRepr_ok {H : Hp} {Q : VK} {v : V} {d : PyData} (h : Th H v d) (o : OKD d) (q : Q (.str d.shown) H) : rRepr [v] H Q := by
  obtain ⟨a, b⟩ := o.show_
  exact ⟨v, d, rfl, h, a, o.nd, by have := o.dep; omega, b, q⟩
end Sb

/-! ## CY -/
/-! Turns again and again: the bays of a tour by rounds of bays. -/
namespace Sb.Cy
def itr (f : Nat → Nat) : Nat → Nat → Nat
  | 0, v => v
  | k + 1, v => f (itr f k v)
theorem itr_add (f : Nat → Nat) (a : Nat) : ∀ b v, itr f (a + b) v = itr f a (itr f b v)
  | b, v => by
    induction a with
    | zero =>
      rw [Nat.zero_add]
      rfl
    | succ a ih =>
      rw [show a + 1 + b = (a + b) + 1 by omega]
      show f (itr f (a + b) v) = f (itr f a (itr f b v))
      rw [ih]
theorem itr_back {f : Nat → Nat} {n k : Nat} {v : Nat} (inj : ∀ x y, x < n → y < n → f x = f y → x = y) (hf : ∀ x, x < n → f x < n) (hv : v < n) : itr f k v < n := by
  induction k with
  | zero => exact hv
  | succ k ih => exact hf _ ih
theorem itr_inj {f : Nat → Nat} {n : Nat} (inj : ∀ x y, x < n → y < n → f x = f y → x = y) (hf : ∀ x, x < n → f x < n) : ∀ k x y, x < n → y < n → itr f k x = itr f k y → x = y
  | 0, _, _, _, _, e => e
  | k + 1, x, y, hx, hy, e => itr_inj inj hf k x y hx hy (inj _ _ (itr_back inj hf hx) (itr_back inj hf hy) e)
/-- c is the round of f that begins at s -/
structure Cyc (f : Nat → Nat) (s : Nat) (c : List Nat) : Prop where
  pos : 0 < c.length
  is : ∀ i, i < c.length → c[i]? = some (itr f i s)
  back : itr f c.length s = s
  nd : c.Nodup
theorem itr_mul {f : Nat → Nat} {s k : Nat} (h : itr f k s = s) : ∀ m, itr f (k * m) s = s
  | 0 => rfl
  | m + 1 => by rw [Nat.mul_succ, itr_add, h, itr_mul h m]
theorem itr_mod {f : Nat → Nat} {s k : Nat} (h : itr f k s = s) (t : Nat) : itr f t s = itr f (t % k) s := by
  have e := Nat.mod_add_div t k
  rw [← e, itr_add, itr_mul h, e]
theorem Cyc.at_ {f : Nat → Nat} {s : Nat} {c : List Nat} (h : Cyc f s c) (t : Nat) : c[t % c.length]? = some (itr f t s) := by
  rw [h.is _ (Nat.mod_lt _ h.pos), ← itr_mod h.back]
/-- a round is back where it was by its length's multiples only -/
theorem Cyc.div {f : Nat → Nat} {s : Nat} {c : List Nat} (h : Cyc f s c) {m : Nat} (e : itr f m s = s) : c.length ∣ m := by
  have h1 := h.at_ m
  rw [e] at h1
  have h0 := h.is 0 h.pos
  have lt := Nat.mod_lt m h.pos
  have : m % c.length = 0 := by
    have e1 := (List.getElem?_eq_some_iff.mp h1)
    have e2 := (List.getElem?_eq_some_iff.mp h0)
    obtain ⟨l1, v1⟩ := e1
    obtain ⟨l2, v2⟩ := e2
    exact (List.getElem_inj (h₀ := l1) (h₁ := l2) h.nd).mp (v1.trans v2.symm)
  exact Nat.dvd_of_mod_eq_zero this
/-- the bay at place i goes on by t -/
theorem Cyc.go {f : Nat → Nat} {s : Nat} {c : List Nat} (h : Cyc f s c) {i v : Nat} (hi : c[i]? = some v) (t : Nat) : c[(i + t) % c.length]? = some (itr f t v) := by
  have il := (List.getElem?_eq_some_iff.mp hi).1
  have e := h.is i il
  rw [hi] at e
  have e := Option.some.inj e
  rw [h.at_, Nat.add_comm, itr_add, ← e]
theorem Cyc.all_back {f : Nat → Nat} {s : Nat} {c : List Nat} (h : Cyc f s c) {v : Nat} (hv : v ∈ c) {m : Nat} (d : c.length ∣ m) : itr f m v = v := by
  obtain ⟨i, hi⟩ := List.mem_iff_getElem?.mp hv
  have il := (List.getElem?_eq_some_iff.mp hi).1
  have := h.go hi m
  obtain ⟨q, rfl⟩ := d
  rw [Nat.add_mul_mod_self_left, Nat.mod_eq_of_lt il, hi] at this
  exact (Option.some.inj this).symm
/-- rounds that hold all bays below n -/
structure Rounds (n : Nat) (f : Nat → Nat) (cs : List (List Nat)) : Prop where
  each : ∀ c ∈ cs, ∃ s, Cyc f s c
  all : ∀ v, v < n → ∃ c ∈ cs, v ∈ c
  inn : ∀ c ∈ cs, ∀ v ∈ c, v < n
def lcms (cs : List (List Nat)) : Nat := cs.foldl (fun t c => Nat.lcm t c.length) 1
theorem lcms_from : ∀ (cs : List (List Nat)) (t : Nat), t ∣ cs.foldl (fun t c => Nat.lcm t c.length) t ∧ (∀ c ∈ cs, c.length ∣ cs.foldl (fun t c => Nat.lcm t c.length) t) ∧ ∀ m, t ∣ m → (∀ c ∈ cs, c.length ∣ m) → cs.foldl (fun t c => Nat.lcm t c.length) t ∣ m
  | [], t => ⟨Nat.dvd_refl _, ⟨fun c hc => absurd hc List.not_mem_nil, fun m h _ => h⟩⟩
  | c :: cs, t => by
    obtain ⟨h1, h2, h3⟩ := lcms_from cs (Nat.lcm t c.length)
    refine ⟨Nat.dvd_trans (Nat.dvd_lcm_left _ _) h1, fun d hd => ?_, fun m ht hm => h3 m (Nat.lcm_dvd ht (hm c List.mem_cons_self)) fun d hd => hm d (List.mem_cons_of_mem _ hd)⟩
    rcases List.mem_cons.mp hd with e | e
    · rw [e]
      exact Nat.dvd_trans (Nat.dvd_lcm_right _ _) h1
    · exact h2 d e
theorem Rounds.order {n : Nat} {f : Nat → Nat} {cs : List (List Nat)} (h : Rounds n f cs) (m : Nat) : (∀ v, v < n → itr f m v = v) ↔ lcms cs ∣ m := by
  obtain ⟨_, h2, h3⟩ := lcms_from cs 1
  constructor
  · intro k
    refine h3 m (Nat.one_dvd _) fun c hc => ?_
    obtain ⟨s, hs⟩ := h.each c hc
    have h0 := hs.is 0 hs.pos
    exact hs.div (k s (h.inn c hc s (List.mem_of_getElem? h0)))
  · intro d v hv
    obtain ⟨c, hc, hvc⟩ := h.all v hv
    obtain ⟨s, hs⟩ := h.each c hc
    exact hs.all_back hvc (Nat.dvd_trans (h2 c hc) d)
theorem lcms_pos {cs : List (List Nat)} (h : ∀ c ∈ cs, 0 < c.length) : ∀ t, 0 < t → 0 < cs.foldl (fun t c => Nat.lcm t c.length) t := by
  induction cs with
  | nil => exact fun t ht => ht
  | cons c cs ih => exact fun t ht => ih (fun d hd => h d (List.mem_cons_of_mem _ hd)) _ (Nat.lcm_pos ht (h c List.mem_cons_self))
theorem le_two : ∀ a, 0 < a → a ≤ 2 ^ (a - 1)
  | 0, h => absurd h (Nat.lt_irrefl _)
  | 1, _ => Nat.le_refl _
  | a + 2, _ => by
    have := le_two (a + 1) (Nat.succ_pos _)
    show a + 2 ≤ 2 ^ (a + 1)
    rw [Nat.pow_succ]
    have e : a + 1 - 1 = a := rfl
    rw [e] at this
    omega
/-- a number of times that is no greater than 2 to the bays but one -/
theorem lcms_le : ∀ (cs : List (List Nat)) (t : Nat), 0 < t → (∀ c ∈ cs, 0 < c.length) → cs.foldl (fun t c => Nat.lcm t c.length) t ≤ t * 2 ^ ((cs.map fun c => c.length - 1).sum)
  | [], t, _, _ => by simp
  | c :: cs, t, ht, h => by
    have hc := h c List.mem_cons_self
    have ih := lcms_le cs (Nat.lcm t c.length) (Nat.lcm_pos ht hc) fun d hd => h d (List.mem_cons_of_mem _ hd)
    have h1 : Nat.lcm t c.length ≤ t * c.length := Nat.le_of_dvd (Nat.mul_pos ht hc) (Nat.lcm_dvd_mul t c.length)
    have h2 := le_two _ hc
    have h3 : Nat.lcm t c.length ≤ t * 2 ^ (c.length - 1) := Nat.le_trans h1 (Nat.mul_le_mul_left _ h2)
    refine Nat.le_trans ih ?_
    rw [List.map_cons, List.sum_cons, Nat.pow_add, ← Nat.mul_assoc]
    exact Nat.mul_le_mul_right _ h3
/-- rounds, apart from each other -/
structure Part (n : Nat) (f : Nat → Nat) (cs : List (List Nat)) : Prop where
  each : ∀ c ∈ cs, ∃ s, Cyc f s c
  inn : ∀ c ∈ cs, ∀ v ∈ c, v < n
  nd : cs.flatten.Nodup
theorem Part.nil {n : Nat} {f : Nat → Nat} : Part n f [] := ⟨fun c hc => absurd hc List.not_mem_nil, fun c hc => absurd hc List.not_mem_nil, List.nodup_nil⟩
/-- who goes into a round comes from it -/
theorem Part.pred {n : Nat} {f : Nat → Nat} {cs : List (List Nat)} (h : Part n f cs) (inj : ∀ x y, x < n → y < n → f x = f y → x = y) {v : Nat} (hv : v < n) (e : f v ∈ cs.flatten) : v ∈ cs.flatten := by
  obtain ⟨c, hc, hm⟩ := List.mem_flatten.mp e
  obtain ⟨s, hs⟩ := h.each c hc
  obtain ⟨i, hi⟩ := List.mem_iff_getElem?.mp hm
  have il := (List.getElem?_eq_some_iff.mp hi).1
  -- the one before it
  have ex : ∃ u, u ∈ c ∧ f u = f v := by
    have lt := Nat.mod_lt (i + (c.length - 1)) hs.pos
    have hu := List.getElem?_eq_getElem lt
    refine ⟨c[(i + (c.length - 1)) % c.length], List.getElem_mem lt, ?_⟩
    have h1 := hs.go hu 1
    have h2 : (((i + (c.length - 1)) % c.length + 1) % c.length) = i := by
      have := hs.pos
      rcases Nat.eq_zero_or_pos i with z | z
      · subst z
        rw [Nat.zero_add, Nat.mod_eq_of_lt (show c.length - 1 < c.length by omega), show c.length - 1 + 1 = c.length by omega, Nat.mod_self]
      · have e1 : i + (c.length - 1) = (i - 1) + c.length := by omega
        rw [e1, Nat.add_mod_right, Nat.mod_eq_of_lt (show i - 1 < c.length by omega), show i - 1 + 1 = i by omega, Nat.mod_eq_of_lt il]
    rw [h2, hi] at h1
    exact (Option.some.inj h1).symm
  obtain ⟨u, hu, eu⟩ := ex
  rw [← inj u v (h.inn c hc u hu) hv eu]
  exact List.mem_flatten.mpr ⟨c, hc, hu⟩
def run (f : Nat → Nat) (s k : Nat) : List Nat := (List.range k).map fun i => itr f i s
theorem run_len {f : Nat → Nat} {s k : Nat} : (run f s k).length = k := by
  unfold run
  rw [List.length_map, List.length_range]
theorem run_at {f : Nat → Nat} {s k i : Nat} (h : i < k) : (run f s k)[i]? = some (itr f i s) := by
  unfold run
  rw [List.getElem?_map, List.getElem?_range h]
  rfl
theorem run_more {f : Nat → Nat} {s k : Nat} : run f s (k + 1) = run f s k ++ [itr f k s] := by
  unfold run
  rw [List.range_succ, List.map_append]
  rfl
structure Wlk (n : Nat) (f : Nat → Nat) (cs : List (List Nat)) (s k : Nat) : Prop where
  nd : (run f s k).Nodup
  out : ∀ v ∈ run f s k, v ∉ cs.flatten
theorem Wlk.start {n : Nat} {f : Nat → Nat} {cs : List (List Nat)} {s : Nat} : Wlk n f cs s 0 := ⟨List.nodup_nil, fun v hv => absurd hv List.not_mem_nil⟩
theorem Wlk.step {n : Nat} {f : Nat → Nat} {cs : List (List Nat)} {s k : Nat} (h : Wlk n f cs s k) (h1 : itr f k s ∉ cs.flatten) (h2 : itr f k s ∉ run f s k) : Wlk n f cs s (k + 1) := by
  refine ⟨?_, fun v hv => ?_⟩
  · rw [run_more]
    exact List.nodup_append.mpr ⟨h.nd, by simp, fun a ha b hb e => h2 (by rw [← List.mem_singleton.mp hb, ← e]; exact ha)⟩
  · rw [run_more] at hv
    rcases List.mem_append.mp hv with z | z
    · exact h.out v z
    · rw [List.mem_singleton.mp z]
      exact h1
theorem Wlk.few {n : Nat} {f : Nat → Nat} {cs : List (List Nat)} {s k : Nat} (h : Wlk n f cs s k) (inj : ∀ x y, x < n → y < n → f x = f y → x = y) (hf : ∀ x, x < n → f x < n) (hs : s < n) : k ≤ n := by
  have : ∀ {A B : List Nat}, A.Nodup → (∀ x ∈ A, x ∈ B) → A.length ≤ B.length := fun {A B} nd sub => by
    induction A generalizing B with
    | nil => exact Nat.zero_le _
    | cons a A ih =>
      obtain ⟨n1, n2⟩ := List.nodup_cons.mp nd
      have ha := sub a List.mem_cons_self
      have := ih (B := B.erase a) n2 fun x hx => (List.mem_erase_of_ne (fun e => n1 (by rw [← e]; exact hx))).mpr (sub x (List.mem_cons_of_mem _ hx))
      rw [List.length_erase_of_mem ha] at this
      have := List.length_pos_of_mem ha
      rw [List.length_cons]
      omega
  have q := this (B := List.range n) h.nd fun x hx => by
    obtain ⟨i, _, rfl⟩ := List.mem_map.mp hx
    exact List.mem_range.mpr (itr_back inj hf hs)
  rw [run_len, List.length_range] at q
  exact q
theorem Wlk.close {n : Nat} {f : Nat → Nat} {cs : List (List Nat)} {s k : Nat} (p : Part n f cs) (h : Wlk n f cs s (k + 1)) (inj : ∀ x y, x < n → y < n → f x = f y → x = y) (hf : ∀ x, x < n → f x < n) (hs : s < n) (hm : itr f (k + 1) s ∈ cs.flatten ∨ itr f (k + 1) s ∈ run f s (k + 1)) : Part n f (cs ++ [run f s (k + 1)]) := by
  have no : itr f (k + 1) s ∉ cs.flatten := fun z => h.out (itr f k s) (List.mem_of_getElem? (run_at (Nat.lt_succ_self k))) (p.pred inj (itr_back inj hf hs) z)
  have hm := hm.resolve_left no
  obtain ⟨j, hj, e⟩ := List.mem_map.mp hm
  have hj := List.mem_range.mp hj
  have e : itr f j s = itr f (k + 1) s := e
  have bk : itr f (k + 1 - j) s = s := by
    have : itr f j (itr f (k + 1 - j) s) = itr f j s := by
      rw [← itr_add, show j + (k + 1 - j) = k + 1 by omega, e]
    exact itr_inj inj hf j _ _ (itr_back inj hf hs) hs this
  have j0 : j = 0 := by
    refine Classical.byContradiction fun nz => ?_
    have a1 := run_at (f := f) (s := s) (k := k + 1) (i := k + 1 - j) (by omega)
    have a0 := run_at (f := f) (s := s) (k := k + 1) (i := 0) (by omega)
    rw [bk] at a1
    obtain ⟨l1, v1⟩ := List.getElem?_eq_some_iff.mp a1
    obtain ⟨l2, v2⟩ := List.getElem?_eq_some_iff.mp a0
    have := (List.getElem_inj (h₀ := l1) (h₁ := l2) h.nd).mp (v1.trans v2.symm)
    omega
  subst j0
  have cy : Cyc f s (run f s (k + 1)) := ⟨by rw [run_len]; exact Nat.succ_pos _, fun i hi => run_at (by rw [run_len] at hi; exact hi), by rw [run_len]; exact bk, h.nd⟩
  refine ⟨fun c hc => ?_, fun c hc v hv => ?_, ?_⟩
  · rcases List.mem_append.mp hc with z | z
    · exact p.each c z
    · rw [List.mem_singleton.mp z]
      exact ⟨s, cy⟩
  · rcases List.mem_append.mp hc with z | z
    · exact p.inn c z v hv
    · rw [List.mem_singleton.mp z] at hv
      obtain ⟨i, _, rfl⟩ := List.mem_map.mp hv
      exact itr_back inj hf hs
  · rw [List.flatten_append]
    refine List.nodup_append.mpr ⟨p.nd, by simpa using h.nd, fun a ha b hb e => ?_⟩
    have hb : b ∈ run f s (k + 1) := by simpa using hb
    exact h.out b hb (by rw [← e]; exact ha)
/-- a round, turned on by r -/
theorem rot_at {c : List Nat} {r i : Nat} (hr : r < c.length) (hi : i < c.length) : (c.drop r ++ c.take r)[i]? = c[(i + r) % c.length]? := by
  rcases Nat.lt_or_ge i (c.length - r) with h | h
  · rw [List.getElem?_append_left (by rw [List.length_drop]; exact h), List.getElem?_drop, Nat.mod_eq_of_lt (by omega), Nat.add_comm]
  · rw [List.getElem?_append_right (by rw [List.length_drop]; exact h), List.length_drop, List.getElem?_take_of_lt (by omega)]
    have e : (i + r) % c.length = i - (c.length - r) := by
      have : i + r = (i - (c.length - r)) + c.length := by omega
      rw [this, Nat.add_mod_right, Nat.mod_eq_of_lt (by omega)]
    rw [e]
theorem Cyc.rot {f : Nat → Nat} {s : Nat} {c : List Nat} (h : Cyc f s c) (t : Nat) {i v : Nat} (hi : c[i]? = some v) : (c.drop (t % c.length) ++ c.take (t % c.length))[i]? = some (itr f t v) := by
  have il := (List.getElem?_eq_some_iff.mp hi).1
  rw [rot_at (Nat.mod_lt _ h.pos) il, Nat.add_mod_mod]
  exact h.go hi t
end Sb.Cy

/-! ## CZ -/
/-! Turns again and again: rounds that are there; what a number of times makes; the least number of times. -/
namespace Sb.Cy
theorem walk_ex {n : Nat} {f : Nat → Nat} {cs : List (List Nat)} (p : Part n f cs) (inj : ∀ x y, x < n → y < n → f x = f y → x = y) (hf : ∀ x, x < n → f x < n) {s : Nat} (hs : s < n) : ∀ (m k : Nat), m = n + 1 - k → Wlk n f cs s (k + 1) → ∃ j, Part n f (cs ++ [run f s (j + 1)])
  | 0, k, e, h => by
    have := h.few inj hf hs
    omega
  | m + 1, k, e, h => by
    by_cases hm : itr f (k + 1) s ∈ cs.flatten ∨ itr f (k + 1) s ∈ run f s (k + 1)
    · exact ⟨k, h.close p inj hf hs hm⟩
    · have hm := not_or.mp hm
      exact walk_ex p inj hf hs m (k + 1) (by omega) (h.step hm.1 hm.2)
theorem part_ex {n : Nat} {f : Nat → Nat} (inj : ∀ x y, x < n → y < n → f x = f y → x = y) (hf : ∀ x, x < n → f x < n) : ∀ i, i ≤ n → ∃ cs, Part n f cs ∧ ∀ v, v < i → v ∈ cs.flatten
  | 0, _ => ⟨[], Part.nil, fun v hv => absurd hv (Nat.not_lt_zero v)⟩
  | i + 1, hi => by
    obtain ⟨cs, p, h⟩ := part_ex inj hf i (by omega)
    by_cases hin : i ∈ cs.flatten
    · refine ⟨cs, p, fun v hv => ?_⟩
      rcases Nat.lt_or_ge v i with q | q
      · exact h v q
      · rw [show v = i by omega]
        exact hin
    · have w : Wlk n f cs i 1 := Wlk.step Wlk.start hin List.not_mem_nil
      obtain ⟨j, pj⟩ := walk_ex p inj hf (show i < n by omega) (n + 1 - 0) 0 rfl w
      refine ⟨_, pj, fun v hv => ?_⟩
      rw [List.flatten_append]
      rcases Nat.lt_or_ge v i with q | q
      · exact List.mem_append_left _ (h v q)
      · rw [show v = i by omega]
        refine List.mem_append_right _ ?_
        rw [List.flatten_cons, List.flatten_nil, List.append_nil]
        exact List.mem_of_getElem? (run_at (f := f) (s := i) (i := 0) (Nat.succ_pos j))
theorem rounds_ex {n : Nat} {f : Nat → Nat} (inj : ∀ x y, x < n → y < n → f x = f y → x = y) (hf : ∀ x, x < n → f x < n) : ∃ cs, Rounds n f cs ∧ cs.flatten.Nodup := by
  obtain ⟨cs, p, h⟩ := part_ex inj hf n (Nat.le_refl _)
  exact ⟨cs, ⟨p.each, fun v hv => by
    obtain ⟨c, hc, hm⟩ := List.mem_flatten.mp (h v hv)
    exact ⟨c, hc, hm⟩, p.inn⟩, p.nd⟩
theorem Rounds.pos {n : Nat} {f : Nat → Nat} {cs : List (List Nat)} (h : Rounds n f cs) : 0 < lcms cs := lcms_pos (fun c hc => let ⟨s, hs⟩ := h.each c hc; hs.pos) 1 Nat.one_pos
theorem itr_surj {n : Nat} {f : Nat → Nat} (inj : ∀ x y, x < n → y < n → f x = f y → x = y) (hf : ∀ x, x < n → f x < n) (t : Nat) {u : Nat} (hu : u < n) : ∃ v, v < n ∧ itr f t v = u := by
  obtain ⟨cs, r, _⟩ := rounds_ex inj hf
  have hp := r.pos
  have h := (r.order (lcms cs * t)).mpr (Nat.dvd_mul_right _ _) u hu
  have le : t ≤ lcms cs * t := Nat.le_mul_of_pos_left t hp
  refine ⟨itr f (lcms cs * t - t) u, itr_back inj hf hu, ?_⟩
  rw [← itr_add, show t + (lcms cs * t - t) = lcms cs * t by omega, h]
/-- two rows into which the same is brought by the same way are the same -/
theorem eq_of_go {α : Type} {n : Nat} {f : Nat → Nat} {t : Nat} {A B : List α} (inj : ∀ x y, x < n → y < n → f x = f y → x = y) (hf : ∀ x, x < n → f x < n) (hA : A.length = n) (hB : B.length = n) (h : ∀ v, v < n → A[itr f t v]? = B[itr f t v]?) : A = B := by
  refine List.ext_getElem? fun i => ?_
  rcases Nat.lt_or_ge i n with hi | hi
  · obtain ⟨v, hv, rfl⟩ := itr_surj inj hf t hi
    exact h v hv
  · rw [List.getElem?_eq_none (by omega), List.getElem?_eq_none (by omega)]
/-- the least number of times until all are back -/
structure Least (n : Nat) (f : Nat → Nat) (m : Nat) : Prop where
  pos : 0 < m
  back : ∀ v, v < n → itr f m v = v
  least : ∀ j, 0 < j → j < m → ¬ ∀ v, v < n → itr f j v = v
theorem Least.is {n : Nat} {f : Nat → Nat} {m : Nat} {cs : List (List Nat)} (h : Least n f m) (r : Rounds n f cs) : lcms cs = m := by
  have d := (r.order m).mp h.back
  have le := Nat.le_of_dvd h.pos d
  have := r.pos
  rcases Nat.lt_or_ge (lcms cs) m with q | q
  · exact absurd ((r.order _).mpr (Nat.dvd_refl _)) (h.least _ this q)
  · omega
theorem least_mod {n : Nat} {f : Nat → Nat} {m : Nat} (back : ∀ v, v < n → itr f m v = v) (t : Nat) {v : Nat} (hv : v < n) : itr f t v = itr f (t % m) v := itr_mod (back v hv) t
theorem sum_less1 : ∀ cs : List (List Nat), (∀ c ∈ cs, 0 < c.length) → (cs.map fun c => c.length - 1).sum + cs.length = cs.flatten.length
  | [], _ => rfl
  | c :: cs, h => by
    have := sum_less1 cs fun d hd => h d (List.mem_cons_of_mem _ hd)
    have := h c List.mem_cons_self
    rw [List.map_cons, List.sum_cons, List.flatten_cons, List.length_append, List.length_cons]
    omega
theorem nodup_few {n : Nat} {A : List Nat} (nd : A.Nodup) (inn : ∀ v ∈ A, v < n) : A.length ≤ n := by
  have key : ∀ {A B : List Nat}, A.Nodup → (∀ x ∈ A, x ∈ B) → A.length ≤ B.length := fun {A B} nd sub => by
    induction A generalizing B with
    | nil => exact Nat.zero_le _
    | cons a A ih =>
      obtain ⟨n1, n2⟩ := List.nodup_cons.mp nd
      have ha := sub a List.mem_cons_self
      have := ih (B := B.erase a) n2 fun x hx => (List.mem_erase_of_ne (fun e => n1 (by rw [← e]; exact hx))).mpr (sub x (List.mem_cons_of_mem _ hx))
      rw [List.length_erase_of_mem ha] at this
      have := List.length_pos_of_mem ha
      rw [List.length_cons]
      omega
  have := key (B := List.range n) nd fun x hx => List.mem_range.mpr (inn x hx)
  rw [List.length_range] at this
  exact this
/-- ten bays: no more than 512 times -/
theorem order_few {n : Nat} {f : Nat → Nat} (n1 : 1 ≤ n) (n10 : n ≤ 10) (inj : ∀ x y, x < n → y < n → f x = f y → x = y) (hf : ∀ x, x < n → f x < n) : ∃ m, 0 < m ∧ m ≤ 512 ∧ ∀ j, (∀ v, v < n → itr f j v = v) ↔ m ∣ j := by
  obtain ⟨cs, r, nd⟩ := rounds_ex inj hf
  have hp : ∀ c ∈ cs, 0 < c.length := fun c hc => let ⟨s, hs⟩ := r.each c hc; hs.pos
  refine ⟨lcms cs, r.pos, ?_, r.order⟩
  have h1 := lcms_le cs 1 Nat.one_pos hp
  have h2 := sum_less1 cs hp
  have h3 := nodup_few nd fun v hv => by
    obtain ⟨c, hc, hm⟩ := List.mem_flatten.mp hv
    exact r.inn c hc v hm
  have h4 : 0 < cs.length := by
    obtain ⟨c, hc, _⟩ := r.all 0 (by omega)
    exact List.length_pos_of_mem hc
  have h5 : 2 ^ ((cs.map fun c => c.length - 1).sum) ≤ 2 ^ 9 := Nat.pow_le_pow_right (by decide) (by omega)
  rw [Nat.one_mul] at h1
  unfold lcms
  have e : (2 : Nat) ^ 9 = 512 := by decide
  omega
/-- one more is put where it belongs -/
theorem put_on {α : Type} {n t : Nat} {f : Nat → Nat} {A L : List α} (hf : ∀ x, x < n → f x < n) (inj : ∀ x y, x < n → y < n → f x = f y → x = y) (hA : A.length = n) {done : List Nat} (h : ∀ v ∈ done, v < n ∧ A[itr f t v]? = L[v]?) {b : Nat} (hb : b < n) {x : α} (hx : L[b]? = some x) :
    ∀ v ∈ done ++ [b], v < n ∧ (A.set (itr f t b) x)[itr f t v]? = L[v]? := fun v hv => by
  have hvn : v < n := by
    rcases List.mem_append.mp hv with q | q
    · exact (h v q).1
    · rw [List.mem_singleton.mp q]
      exact hb
  refine ⟨hvn, ?_⟩
  rw [List.getElem?_set]
  by_cases e : itr f t b = itr f t v
  · have := itr_inj inj hf t b v hb hvn e
    subst this
    rw [if_pos rfl, if_pos (by rw [hA]; exact itr_back inj hf hb), hx]
  · rw [if_neg e]
    rcases List.mem_append.mp hv with q | q
    · exact (h v q).2
    · rw [List.mem_singleton.mp q] at e
      exact absurd rfl e
end Sb.Cy

/-! ## TO42 -/
/-! Tours: the rounds of a turn. -/
namespace Sb
open PySem PySem.Spec PyProof.Rows L2
abbrev sCycles : Stmt := top 42
structure TouTxt (mg : Str → Option Value) : Prop where
  len : mg "len" = none
  range : mg "range" = none
abbrev natI (x : List Nat) : List V := (x.map fun d => ((d : Nat) : Int)).map V.int
def pasV (n : Nat) (L : List Nat) : List V := (List.range n).map fun v => V.bl (decide (v ∈ L))
theorem pasV_len {n : Nat} {L : List Nat} : (pasV n L).length = n := by
  unfold pasV
  rw [List.length_map, List.length_range]
theorem pasV_at {n : Nat} {L : List Nat} {v : Nat} (h : v < n) : (pasV n L)[v]? = some (.bl (decide (v ∈ L))) := by
  unfold pasV
  rw [List.getElem?_map, List.getElem?_range h]
  rfl
theorem pasV_set {n : Nat} {L : List Nat} {v : Nat} (h : v < n) : (pasV n L).set v (.bl true) = pasV n (L ++ [v]) := by
  refine List.ext_getElem? fun i => ?_
  rw [List.getElem?_set]
  by_cases e : v = i
  · subst e
    rw [if_pos rfl, if_pos (by rw [pasV_len]; exact h), pasV_at h, decide_eq_true (List.mem_append_right _ (List.mem_singleton.mpr rfl))]
  · rw [if_neg e]
    rcases Nat.lt_or_ge i n with hi | hi
    · rw [pasV_at hi, pasV_at hi]
      congr 2
      rw [decide_eq_decide, List.mem_append, List.mem_singleton]
      exact ⟨.inl, fun z => z.resolve_right fun q => e q.symm⟩
    · rw [List.getElem?_eq_none (by rw [pasV_len]; exact hi), List.getElem?_eq_none (by rw [pasV_len]; exact hi)]
theorem pasV_nil {n : Nat} : pasV n [] = List.replicate n (.bl false) := by
  refine List.ext_getElem? fun i => ?_
  rcases Nat.lt_or_ge i n with hi | hi
  · rw [pasV_at hi, List.getElem?_replicate, if_pos hi]
    rfl
  · rw [List.getElem?_eq_none (by rw [pasV_len]; exact hi), List.getElem?_eq_none (by rw [List.length_replicate]; exact hi)]
theorem flat_rep : ∀ n : Nat, (List.replicate n [V.bl false]).flatten = List.replicate n (V.bl false)
  | 0 => rfl
  | n + 1 => by
    rw [List.replicate_succ, List.flatten_cons, List.replicate_succ]
    exact congrArg _ (flat_rep n)
structure CyH (n : Nat) (H0 H : Hp) (D Pq : Addr) (zs : List (Addr × List Nat)) (L : List Nat) : Prop where
  same : Same H0 H
  fnd : H D = some (.lst (zs.map fun z => V.ref z.1))
  lsts : ∀ z ∈ zs, H z.1 = some (.lst (natI z.2)) ∧ z.1 ≠ D ∧ z.1 ≠ Pq ∧ H0 z.1 = none
  pas : H Pq = some (.lst (pasV n L))
theorem CyH.more {n : Nat} {H0 H H' : Hp} {D Pq : Addr} {zs : List (Addr × List Nat)} {L : List Nat} (h : CyH n H0 H D Pq zs L) (S : Same H H') : CyH n H0 H' D Pq zs L :=
  ⟨h.same.trans S, S _ _ h.fnd, fun z hz => ⟨S _ _ (h.lsts z hz).1, (h.lsts z hz).2⟩, S _ _ h.pas⟩
def CyInv (n : Nat) (f : Nat → Nat) (t : Addr) (H0 : Hp) (D Pq : Addr) (i : Nat) (σ : L2.St) (H' : Hp) : Prop := ∃ zs : List (Addr × List Nat), (∃ u v x, σ = [some (.ref t), some (.ref D), some (.ref Pq), u, v, x]) ∧ CyH n H0 H' D Pq zs (zs.map Prod.snd).flatten ∧ Cy.Part n f (zs.map Prod.snd) ∧ (∀ v, v < i → v ∈ (zs.map Prod.snd).flatten) ∧ zs.length ≤ i
def spCycles (K : PySem.W.Frag) : Sp := fun vs H Q _ => ∃ (t : Addr) (n : Nat) (f : Nat → Nat), vs = [.ref t] ∧ SqT K H t (natI ((List.range n).map f)) ∧ n ≤ 1000 ∧ (∀ x, x < n → f x < n) ∧ (∀ x y, x < n → y < n → f x = f y → x = y) ∧
  ∀ (D : Addr) (zs : List (Addr × List Nat)) H', Same H H' → H D = none → H' D = some (.lst (zs.map fun z => V.ref z.1)) → (∀ z ∈ zs, H' z.1 = some (.lst (natI z.2)) ∧ H z.1 = none) → Cy.Rounds n f (zs.map Prod.snd) → (zs.map Prod.snd).flatten.Nodup → Q (.ref D) H'
section
variable {P : Program} {w : World} {K : PySem.W.Frag} {mg : Str → Option Value} {base : Heap}
abbrev scCyclesN : List Str := ["turn", "found", "passed", "start", "bays", "at"]
abbrev scCyclesS : Scope := defScope sCycles
theorem scCycles : FnScope ["turn", "found", "passed", "start", "bays", "at"] ["turn"] (defScope sCycles) := ⟨rfl, rfl, rfl, by decide +kernel, rfl, by decide +kernel, by decide +kernel⟩
theorem ok_cycles {f : Addr} {fd : FuncData} (F : FnP K "cycles_of" sCycles f fd) (T : TouTxt mg) : FnOk P w K mg base CX0 1 f fd ["turn"] (spCycles K) := by
  refine ok0 F scCycles (fun vs H Q E h => ?_) (fun cdv A outer s H vs Q E hr h => ?_)
  · obtain ⟨t, n, g, rfl, _⟩ := h
    rfl
  · obtain ⟨t, n, g, rfl, ht, hn, hg, inj, q⟩ := h
    refine ⟨_, (pss_cons (ps_set (i := 1) scCycles.nd rfl (Or.inl rfl) (pe_lstL pa_nil))
    (pss_cons (ps_set (i := 2) scCycles.nd rfl (Or.inl rfl) (pe_op op_repL (pe_lstL (pa_cons pe_bl pa_nil)) (pe_callB (id := "len") call_len_seq (by rfl) T.len (by decide +kernel) (pa_cons (pv 0) pa_nil))))
    (pss_cons (ps_for PassesOwn.never rfl (pi_range1 (by rfl) T.range (pa_cons (pe_callB (id := "len") call_len_seq (by rfl) T.len (by decide +kernel) (pa_cons (pv 0) pa_nil)) pa_nil)) (pg_name (i := 3) scCycles.nd rfl (Or.inl rfl))
      (pss_cons (ps_set (i := 4) scCycles.nd rfl (Or.inl rfl) (pe_lstL pa_nil))
    (pss_cons (ps_set (i := 5) scCycles.nd rfl (Or.inl rfl) (pv 3))
    (pss_cons (ps_while PassesOwn.never (pt_not (pt_val (pe_ix ix_list (pv 2) (pv 5) (fun _ _ => rfl))))
      (pss_cons (ps_asg pe_bl (pg_sub (pv 2) (pv 5) set_listL))
    (pss_cons (ps_expr (pe_bm PySem.F.plainAttrs_list PySem.F.slot_list_append PySem.F.type_list_append mt_appendL (pv 4) (pa_cons (pv 5) pa_nil)))
    (pss_one (ps_set (i := 5) scCycles.nd rfl (Or.inl rfl) (pe_ix ix_tup (pv 0) (pv 5) (fun _ _ => rfl)))))))
    (pss_one (ps_if (pt_truth (pv 4) (by intro _; rfl))
      (pss_one (ps_expr (pe_bm PySem.F.plainAttrs_list PySem.F.slot_list_append PySem.F.type_list_append mt_appendL (pv 1) (pa_cons (pv 4) pa_nil))))
      pss_nil))))))
    (pss_one (ps_ret (pv 1)))))), ?_⟩
    have lt : (natI ((List.range n).map g)).length = n := by unfold natI; rw [List.length_map, List.length_map, List.length_map, List.length_range]
    refine ⟨by show 0 ≤ sizeLine; decide, fun D H1 nD S1 h1 => ?_⟩
    refine ⟨by show 1 ≤ sizeLine; decide, fun p1 H2 n2 S2 h2 => ⟨_, rfl, t, _, rfl, .inr (sqT_same (S1.trans S2) ht), ?_⟩⟩
    rw [lt]
    refine ⟨p1, ((n : Nat) : Int), _, rfl, rfl, h2, by omega, by omega, by show 1 * _ ≤ sizeLine; rw [sizeLine_eq]; omega, fun Pq H3 n3 S3 h3 => ?_⟩
    have e3 : (List.replicate (((n : Nat) : Int)).toNat [V.bl false]).flatten = pasV n [] := by
      rw [Int.toNat_natCast, pasV_nil]
      exact flat_rep n
    rw [e3] at h3
    have S03 := (S1.trans S2).trans S3
    have nPq : H Pq = none := (S1.trans S2).free n3
    have nDP : D ≠ Pq := ne_of_none (S2 _ _ h1) n3
    refine ⟨_, rfl, t, _, rfl, .inr (sqT_same S03 ht), ?_⟩
    rw [lt]
    refine ⟨((n : Nat) : Int), rfl, by omega, by omega, for_range (lo := 0) (n := ((n : Nat) : Int).toNat) (CyInv n g t H D Pq) ⟨[], ⟨none, none, none, rfl⟩, ⟨S03, S3 _ _ (S2 _ _ h1), fun z hz => absurd hz List.not_mem_nil, h3⟩, Cy.Part.nil, fun v hv => absurd hv (Nat.not_lt_zero v), Nat.le_refl _⟩ ?_ ?_⟩
    · rintro i σ H4 hi ⟨zs, ⟨u, v, x, rfl⟩, ch, pt, cov, lz⟩
      rw [Int.toNat_natCast] at hi
      refine ⟨by show 0 ≤ sizeLine; decide, fun B H5 nB S5 h5 => ?_⟩
      have ch5 := ch.more S5
      have nB0 : H B = none := ch.same.free nB
      have nBP : B ≠ Pq := (ne_of_none ch.pas nB).symm
      have nBD : B ≠ D := (ne_of_none ch.fnd nB).symm
      have nBz : ∀ z ∈ zs, z.1 ≠ B := fun z hz => ne_of_none (ch.lsts z hz).1 nB
      refine ⟨_, rfl, ?_⟩
      refine ⟨fun m σ H' => ∃ k, m = n + 1 - k ∧ σ = [some (.ref t), some (.ref D), some (.ref Pq), some (.int (0 + (i : Nat))), some (.ref B), some (.int ((Cy.itr g k i : Nat) : Int))] ∧ CyH n H H' D Pq zs ((zs.map Prod.snd).flatten ++ Cy.run g i k) ∧ H' B = some (.lst (natI (Cy.run g i k))) ∧ Cy.Wlk n g (zs.map Prod.snd) i k, ⟨n + 1, 0, rfl, by rw [show (0 : Int) + (i : Nat) = ((i : Nat) : Int) by omega]; rfl, by rw [show Cy.run g i 0 = [] from rfl, List.append_nil]; exact ch5, h5, Cy.Wlk.start⟩, ?_⟩
      rintro m σ H6 ⟨k, rfl, rfl, ch6, h6, wk⟩
      have ik := Cy.itr_back (k := k) inj hg hi
      refine ⟨_, rfl, _, rfl, Pq, _, _, .bl (decide (Cy.itr g k i ∈ (zs.map Prod.snd).flatten ++ Cy.run g i k)), rfl, rfl, SqL.of ch6.pas, at_of (j := Cy.itr g k i) rfl (pasV_at ik), _, rfl, ?_⟩
      by_cases hin : Cy.itr g k i ∈ (zs.map Prod.snd).flatten ++ Cy.run g i k
      · refine iteC (by rw [decide_eq_true hin]; rfl) ?_
        refine ⟨_, rfl, _, .inl ⟨_, SqL.of h6, rfl⟩, ?_⟩
        cases k with
        | zero =>
          refine iteC rfl ⟨zs, ⟨_, _, _, rfl⟩, ?_, pt, fun v hv => ?_, by omega⟩
          · rw [show Cy.run g i 0 = [] from rfl, List.append_nil] at ch6
            exact ch6
          · rw [show Cy.run g i 0 = [] from rfl, List.append_nil] at hin
            rcases Nat.lt_or_ge v i with h | h
            · exact cov v h
            · have : v = i := by omega
              rw [this]
              exact hin
        | succ k =>
          have pt2 := Cy.Wlk.close pt wk inj hg hi (List.mem_append.mp hin)
          have hne : (!(natI (Cy.run g i (k + 1))).isEmpty) = true := by
            rw [Cy.run_more]
            cases Cy.run g i k <;> rfl
          refine iteD hne ⟨_, rfl, .inl ⟨rfl, _, SqL.of ch6.fnd⟩, _, rfl, D, _, _, rfl, rfl, ch6.fnd, by rw [List.length_map, sizeLine_eq]; omega, fun H7 B7 h7 => ?_⟩
          have ef : ((zs ++ [(B, Cy.run g i (k + 1))]).map Prod.snd) = zs.map Prod.snd ++ [Cy.run g i (k + 1)] := by rw [List.map_append]; rfl
          have efl : ((zs ++ [(B, Cy.run g i (k + 1))]).map Prod.snd).flatten = (zs.map Prod.snd).flatten ++ Cy.run g i (k + 1) := by rw [ef, List.flatten_append]; simp
          refine ⟨zs ++ [(B, Cy.run g i (k + 1))], ⟨_, _, _, rfl⟩, ⟨same_but ch6.same nD B7, by rw [h7, List.map_append]; rfl, fun z hz => ?_, by rw [efl]; exact B7 _ _ nDP.symm ch6.pas⟩, by rw [ef]; exact pt2, fun v hv => ?_, by rw [List.length_append, List.length_singleton]; omega⟩
          · rcases List.mem_append.mp hz with h | h
            · obtain ⟨a, b, c⟩ := ch6.lsts z h
              exact ⟨B7 _ _ b a, b, c⟩
            · rw [List.mem_singleton.mp h]
              exact ⟨B7 _ _ nBD h6, nBD, nBP, nB0⟩
          · rw [efl]
            rcases Nat.lt_or_ge v i with h | h
            · exact List.mem_append_left _ (cov v h)
            · have e : v = i := by omega
              rw [e]
              exact List.mem_append_right _ (List.mem_of_getElem? (Cy.run_at (f := g) (s := i) (i := 0) (Nat.succ_pos k)))
      · have h1_ : Cy.itr g k i ∉ (zs.map Prod.snd).flatten := fun z => hin (List.mem_append_left _ z)
        have h2_ : Cy.itr g k i ∉ Cy.run g i k := fun z => hin (List.mem_append_right _ z)
        have wk2 := wk.step h1_ h2_
        have kn := wk2.few inj hg hi
        refine iteD (by rw [decide_eq_false hin]; rfl) ⟨fun σ' H' => ∃ k', k' = k + 1 ∧ σ' = [some (.ref t), some (.ref D), some (.ref Pq), some (.int (0 + (i : Nat))), some (.ref B), some (.int ((Cy.itr g k' i : Nat) : Int))] ∧ CyH n H H' D Pq zs ((zs.map Prod.snd).flatten ++ Cy.run g i k') ∧ H' B = some (.lst (natI (Cy.run g i k'))) ∧ Cy.Wlk n g (zs.map Prod.snd) i k', fun σ' H' ⟨k', e, r⟩ => ⟨n + 1 - k', by omega, k', rfl, r⟩, ?_⟩
        refine ⟨_, rfl, _, rfl, Pq, _, ((Cy.itr g k i : Nat) : Int), Cy.itr g k i, rfl, rfl, ch6.pas, ixN_nat (by rw [pasV_len]; exact ik), fun H7 B7 h7 => ?_⟩
        rw [pasV_set ik] at h7
        have h67 := B7 _ _ nBP h6
        refine ⟨_, rfl, .inl ⟨rfl, _, SqL.of h67⟩, _, rfl, B, _, _, rfl, rfl, h67, by unfold natI; rw [List.length_map, List.length_map, Cy.run_len, sizeLine_eq]; omega, fun H8 B8 h8 => ?_⟩
        have S8 : Same H H8 := same_but (same_but ch6.same nPq B7) nB0 B8
        refine ⟨_, rfl, _, rfl, t, _, _, .int ((g (Cy.itr g k i) : Nat) : Int), rfl, rfl, sqT_same S8 ht, at_of (j := Cy.itr g k i) rfl ?_, k + 1, rfl, rfl, ⟨S8, B8 _ _ nBD.symm (B7 _ _ nDP ch6.fnd), fun z hz => ?_, ?_⟩, ?_, wk2⟩
        · unfold natI
          rw [List.map_map, List.map_map, List.getElem?_map, List.getElem?_range ik]
          rfl
        · obtain ⟨a, b, c⟩ := ch6.lsts z hz
          exact ⟨B8 _ _ (nBz z hz) (B7 _ _ c.1 a), b, c⟩
        · rw [Cy.run_more, ← List.append_assoc]
          exact B8 _ _ nBP.symm h7
        · rw [h8, Cy.run_more]
          unfold natI
          rw [List.map_append, List.map_append]
          rfl
    · rintro σ H4 ⟨zs, ⟨u, v, x, rfl⟩, ch, pt, cov, lz⟩
      rw [Int.toNat_natCast] at cov
      have lz' := lz
      refine ⟨_, rfl, q D zs H4 ch.same nD ch.fnd (fun z hz => ⟨(ch.lsts z hz).1, (ch.lsts z hz).2.2.2⟩) ⟨pt.each, fun v hv => ?_, pt.inn⟩ pt.nd⟩
      obtain ⟨c, hc, hm⟩ := List.mem_flatten.mp (cov v hv)
      exact ⟨c, hc, hm⟩
end
end Sb

/-! ## TV42 -/
/-! Tours: where each bay's piece comes. -/
namespace Sb
open PySem PySem.Spec PyProof.Rows L2
abbrev sTurnOf : Stmt := top 41
/-- the bays a and b exchanged -/
def sw (a b v : Nat) : Nat := if v = a then b else if v = b then a else v
def goS : Nat → List Nat → Nat → Nat
  | _, [], v => v
  | e, b :: ms, v => goS b ms (sw e b v)
theorem sw_lt {n a b v : Nat} (ha : a < n) (hb : b < n) (hv : v < n) : sw a b v < n := by
  unfold sw
  split
  · exact hb
  · split
    · exact ha
    · exact hv
theorem sw_sw (a b v : Nat) : sw a b (sw a b v) = v := by
  unfold sw
  by_cases h1 : v = a
  · rw [if_pos h1]
    by_cases h2 : b = a
    · rw [if_pos h2]
      omega
    · rw [if_neg h2, if_pos rfl, h1]
  · rw [if_neg h1]
    by_cases h2 : v = b
    · rw [if_pos h2, if_pos rfl, h2]
    · rw [if_neg h2, if_neg h1, if_neg h2]
theorem goS_lt {n : Nat} : ∀ (ms : List Nat) (e v : Nat), e < n → (∀ b ∈ ms, b < n) → v < n → goS e ms v < n
  | [], _, _, _, _, hv => hv
  | b :: ms, e, v, he, hm, hv => goS_lt ms b _ (hm b List.mem_cons_self) (fun c hc => hm c (List.mem_cons_of_mem _ hc)) (sw_lt he (hm b List.mem_cons_self) hv)
theorem goS_inj : ∀ (ms : List Nat) (e u v : Nat), goS e ms u = goS e ms v → u = v
  | [], _, _, _, h => h
  | b :: ms, e, u, v, h => by
    have := goS_inj ms b _ _ h
    rw [← sw_sw e b u, this, sw_sw]
theorem goS_app : ∀ (ms ks : List Nat) (e v : Nat), goS e (ms ++ ks) v = goS (ms.getLastD e) ks (goS e ms v)
  | [], _, _, _ => rfl
  | b :: ms, ks, e, v => by
    show goS b (ms ++ ks) (sw e b v) = goS ((b :: ms).getLastD e) ks (goS b ms (sw e b v))
    rw [goS_app ms ks b]
    congr 1
    cases ms <;> rfl
theorem swp_go {L : List Int} {a b : Int} {v : Nat} (ha : Bay L.length a) (hb : Bay L.length b) (hv : v < L.length) : (swp L a b)[sw a.toNat b.toNat v]? = L[v]? := by
  have ha1 := ha.1
  have ha2 := ha.2
  have hb1 := hb.1
  have hb2 := hb.2
  have an : a.toNat < L.length := by omega
  have bn : b.toNat < L.length := by omega
  have gA : L[a.toNat]? = some (L.getD a.toNat 0) := by rw [List.getD_eq_getElem?_getD, List.getElem?_eq_getElem an]; rfl
  have gB : L[b.toNat]? = some (L.getD b.toNat 0) := by rw [List.getD_eq_getElem?_getD, List.getElem?_eq_getElem bn]; rfl
  unfold swp sw
  by_cases h1 : v = a.toNat
  · rw [if_pos h1, List.getElem?_set, if_pos rfl, if_pos (by rw [List.length_set]; exact bn), h1, gA]
  · rw [if_neg h1]
    by_cases h2 : v = b.toNat
    · rw [if_pos h2]
      by_cases h3 : b.toNat = a.toNat
      · exact absurd (h2.trans h3) h1
      · rw [List.getElem?_set, if_neg h3, List.getElem?_set, if_pos rfl, if_pos an, h2, gB]
    · rw [if_neg h2, List.getElem?_set, if_neg (fun z => h2 z.symm), List.getElem?_set, if_neg (fun z => h1 z.symm)]
/-- where moves bring what stands at v -/
theorem slid_go : ∀ (ms : List Int) (L : List Int) (e : Int) (v : Nat), Bay L.length e → (∀ b ∈ ms, Bay L.length b) → v < L.length → ((ms.foldl (fun st b => (swp st.1 st.2 b, b)) (L, e)).1)[goS e.toNat (ms.map Int.toNat) v]? = L[v]?
  | [], _, _, _, _, _, _ => rfl
  | b :: ms, L, e, v, he, hm, hv => by
    rw [List.foldl_cons]
    have hb := hm b List.mem_cons_self
    have ll := swp_len L e b
    have hsv : sw e.toNat b.toNat v < (swp L e b).length := by
      rw [ll]
      have := he.1
      have := he.2
      have := hb.1
      have := hb.2
      exact sw_lt (by omega) (by omega) hv
    have ih := slid_go ms (swp L e b) b (sw e.toNat b.toNat v) (by rw [ll]; exact hb) (fun c hc => by rw [ll]; exact hm c (List.mem_cons_of_mem _ hc)) hsv
    rw [swp_go he hb hv] at ih
    exact ih
theorem slidS_go {L : List Int} {e : Int} {ms : List Int} {v : Nat} (he : Bay L.length e) (hm : ∀ b ∈ ms, Bay L.length b) (hv : v < L.length) : (slidS L e ms).1[goS e.toNat (ms.map Int.toNat) v]? = L[v]? := slid_go ms L e v he hm hv
theorem slid_permF : ∀ (ms : List Int) (L : List Int) (e : Int), Bay L.length e → (∀ b ∈ ms, Bay L.length b) → (ms.foldl (fun st b => (swp st.1 st.2 b, b)) (L, e)).1.Perm L
  | [], _, _, _, _ => .refl _
  | b :: ms, L, e, he, hm => by
    rw [List.foldl_cons]
    have hb := hm b List.mem_cons_self
    have ll := swp_len L e b
    exact (slid_permF ms (swp L e b) b (by rw [ll]; exact hb) fun c hc => by rw [ll]; exact hm c (List.mem_cons_of_mem _ hc)).trans (swp_perm he hb)
theorem mt_indexK {X : Cx} {K : PySem.W.Frag} (hK : X.K = K := by rfl) : MtR X "list.index" (rIndex K) := hK ▸ mt_index
theorem pe_bmK {X : Cx} {K : PySem.W.Frag} {o e : Expr} {es : List Expr} {to : TE} {t : TA} {name : Str} {apos cpos : Pos} {T id : String} {r : V → List V → Hp → VK → Prop} (pa : PlainAttrs T) (slot : Slot T name id) (hty : typeOf (.builtin id) = pure (.type "method_descriptor")) (hm : MtR X id r) (ho : PE X o to) (ha : PA X (e :: es) t) (hK : X.K = K := by rfl)
    (hbase : attributeBase o name X.env (eval o X.env) = eval o X.env := by rfl)
    (hfew : ((backTo cpos (starEach (e :: es) X.env)).all (fun x => !x.1) && (backToKw cpos (keywordEach [] X.env)).all (fun x => x.1.isSome)
      && decide ((e :: es).length + ([] : List Keyword).length + (if ([] : List Keyword).isEmpty then 0 else 1) < 30)) = true := by rfl)
    (hline : (apos.endLine == cpos.line) = true := by rfl) (hs : starEach (e :: es) X.env = (false, eval e X.env) :: starEach es X.env := by rfl) (hplain : (backTo cpos (starEach es X.env)).any (·.1) = false := by rfl) :
    PE X (.Call (.Attribute o name apos) (e :: es) [] cpos) (tBM K T r to t) := hK ▸ pe_bm pa slot hty hm ho ha hbase hfew hline hs hplain
def spTurnOf (K : PySem.W.Frag) : Sp := fun vs H Q _ => ∃ (v : V) (m : Addr) (n : Nat) (ts : List (Int × Int)) (e : Int) (ms : List Int), vs = [v, .int e, .ref m] ∧ WebAt K H v n ts ∧ n ≤ 1000 ∧ SqL K H m (ms.map V.int) ∧ Bay n e ∧ (∀ b ∈ ms, Bay n b) ∧
  ∀ p H', Same H H' → H p = none → H' p = some (.tup (natI ((List.range n).map (goS e.toNat (ms.map Int.toNat))))) → Q (.ref p) H'
section
variable {P : Program} {w : World} {K : PySem.W.Frag} {mg : Str → Option Value} {base : Heap}
abbrev scTurnOfN : List Str := ["web", "bay", "tour", "came", "start"]
abbrev scTurnOfS : Scope := defScope sTurnOf
theorem scTurnOf : FnScope ["web", "bay", "tour", "came", "start"] ["web", "bay", "tour"] (defScope sTurnOf) := ⟨rfl, rfl, rfl, by decide +kernel, rfl, by decide +kernel, by decide +kernel⟩
structure TurTxt (mg : Str → Option Value) : Prop where
  list : mg "list" = none
  range : mg "range" = none
  tuple : mg "tuple" = none
theorem ok_turnOf {f fS : Addr} {fd fdS : FuncData} (F : FnP K "turn_of" sTurnOf f fd) (T : TurTxt mg) (FS : FnP K "slid" sSlid fS fdS) (gS : mg "slid" = some (.ref fS)) (GS : FnOk P w K mg base CX0 1 fS fdS ["pieces", "empty", "moves"] (spSlid K)) : FnOk P w K mg base CX0 2 f fd ["web", "bay", "tour"] (spTurnOf K) := by
  have bS : Binds K fdS ["pieces", "empty", "moves"] [] := FS.bindsN fun _ _ _ _ _ _ us hl => match us, hl with | [_, _, _], _ => rfl
  refine ok0 F scTurnOf (fun vs H Q E h => ?_) (fun cdv A outer s H vs Q E hr h => ?_)
  · obtain ⟨v, m, n, ts, e, ms, rfl, _⟩ := h
    rfl
  · obtain ⟨v, m, n, ts, e, ms, rfl, hW, hn, hm, he, hms, q⟩ := h
    refine ⟨_, (pss_cons (ps_set (i := 3) scTurnOf.nd rfl (Or.inr rfl) (pe_call GS hr rfl gS FS.kp bS .nil pass0 (pa_cons (pe_listRg rfl rfl T.list (prg_1 rfl T.range (pe_ix ix_tup (pv 0) pe_int (fun _ _ => rfl)))) (pa_cons (pv 1) (pa_cons (pv 2) pa_nil)))))
    (pss_one (ps_ret (pe_callTy (T := "tuple") call_tuple_of (by rfl) T.tuple (by decide +kernel) (pa_cons (pe_lc (own := [("start", 4)]) (g := gName 4) (by rfl) scTurnOf.nd (pi_range1 (by rfl) T.range (pa_cons (pe_ix ix_tup (pv 0) pe_int (fun _ _ => rfl)) pa_nil)) (blkOk_by (own := [("start", 4)]) (N := scTurnOfN) (sc := scTurnOfS) (by decide +kernel)) (fun _ _ _ _ _ => pg_name (i := 4) scTurnOf.nd rfl (Or.inl rfl)) (fun _ _ _ _ _ => pts_nil) (fun _ _ _ _ _ => (pe_bmK (K := K) PySem.F.plainAttrs_list PySem.F.slot_list_index PySem.F.type_list_index (mt_indexK (K := K)) (pv 3) (pa_cons (pv 4) pa_nil)))) pa_nil))))), ?_⟩
    obtain ⟨r, t, rfl, hw, hT⟩ := hW
    have eL : rgV 0 (n : Int) = ((List.range n).map fun i => ((i : Nat) : Int)).map V.int := by
      unfold rgV
      rw [Int.sub_zero, Int.toNat_natCast, List.map_map]
      exact List.map_congr_left fun i _ => by show V.int (0 + (i : Int)) = V.int (i : Int); rw [Int.zero_add]
    have ll : ((List.range n).map fun i => ((i : Nat) : Int)).length = n := by rw [List.length_map, List.length_range]
    have ndL : ((List.range n).map fun i => ((i : Nat) : Int)).Nodup := by
      rw [List.Nodup, List.pairwise_map]
      exact List.nodup_range.imp fun h e => h (Int.ofNat.inj e)
    have atL : ∀ i, i < n → ((List.range n).map fun i => ((i : Nat) : Int))[i]? = some (i : Int) := fun i hi => by rw [List.getElem?_map, List.getElem?_range hi]; rfl
    generalize ((List.range n).map fun i => ((i : Nat) : Int)) = L at eL ll ndL atL
    refine ⟨_, rfl, r, _, _, .int (n : Int), rfl, rfl, hw, at_of (j := 0) rfl rfl, _, rfl, ⟨by omega, by omega, by omega, by omega⟩, fun lq nq => ?_⟩
    have S1 : Same H (upd H lq (.lst (rgV 0 (n : Int)))) := same_upd nq
    have h1 : (upd H lq (.lst (rgV 0 (n : Int)))) lq = some (.lst (L.map V.int)) := by rw [upd_same, eL]
    generalize upd H lq (.lst (rgV 0 (n : Int))) = H1 at S1 h1
    have he' : Bay L.length e := by rw [ll]; exact he
    have hms' : ∀ b ∈ ms, Bay L.length b := fun b hb => by rw [ll]; exact hms b hb
    refine ⟨_, rfl, _, rfl, lq, m, L, ms, e, rfl, .inl (SqL.of h1), S1.seq hm, he', hms', by omega, fun a H2 S2 n2 h2 => ?_⟩
    have lM : (slidS L e ms).1.length = n := by rw [slidS_len, ll]
    have ndM : (slidS L e ms).1.Nodup := (slid_permF ms L e he' hms').nodup_iff.mpr ndL
    have atM : ∀ i, i < n → (slidS L e ms).1[goS e.toNat (ms.map Int.toNat) i]? = some (i : Int) := fun i hi => by rw [slidS_go he' hms' (by omega), atL i hi]
    generalize (slidS L e ms).1 = M at h2 lM ndM atM
    have S02 := S1.trans S2
    refine ⟨_, rfl, r, _, _, .int (n : Int), rfl, rfl, sqT_same S02 hw, at_of (j := 0) rfl rfl, (n : Int), rfl, by omega, by omega, fun D hD => lc_range (lo := 0) (n := ((n : Int)).toNat) (fun i H' => Same H2 H' ∧ H' D = some (.lst (natI ((List.range i).map (goS e.toNat (ms.map Int.toNat)))))) ⟨same_upd hD, upd_same⟩ (fun i H3 hi ⟨S3, h3⟩ => ?_) (fun H3 ⟨S3, h3⟩ => ?_)⟩
    · rw [Int.toNat_natCast] at hi
      have am := atM i hi
      refine ⟨rfl, _, rfl, .inl ⟨rfl, _, SqL.of (S3 _ _ h2)⟩, _, rfl, a, _, _, goS e.toNat (ms.map Int.toNat) i, .int (i : Int), rfl, rfl, SqL.of (S3 _ _ h2), rfl, ?_, ?_, ?_, ?_, _, h3, ?_, fun u o hu => by rw [upd_ne (ne_of_none hu hD)]; exact S3 _ _ hu, ?_⟩
      · rw [List.all_map]
        exact List.all_eq_true.mpr fun x _ => rfl
      · rw [List.getElem?_map, am]
        rfl
      · show ((i : Int) == 0 + (i : Int)) = true
        rw [Int.zero_add]
        exact beq_iff_eq.mpr rfl
      · intro k z' hk hz
        obtain ⟨z, hz2, rfl⟩ := getMap hz
        show (z == 0 + (i : Int)) = false
        rw [Int.zero_add]
        refine beq_eq_false_iff_ne.mpr fun e2 => ?_
        rw [e2] at hz2
        obtain ⟨l1, v1⟩ := List.getElem?_eq_some_iff.mp hz2
        obtain ⟨l2, v2⟩ := List.getElem?_eq_some_iff.mp am
        have := (List.getElem_inj (h₀ := l1) (h₁ := l2) ndM).mp (v1.trans v2.symm)
        omega
      · unfold natI
        rw [List.length_map, List.length_map, List.length_map, List.length_range, sizeLine_eq]
        omega
      · rw [upd_same, List.range_succ, List.map_append]
        unfold natI
        rw [List.map_append, List.map_append]
        rfl
    · rw [Int.toNat_natCast] at h3
      refine ⟨D, _, rfl, .inl ⟨SqL.of h3, fun l nl => ?_⟩⟩
      exact q l _ ((S02.trans S3).trans (same_upd nl)) ((S02.trans S3).free nl) upd_same
end
end Sb

/-! ## TN42 -/
/-! Tours: what is none. -/
namespace Sb
open PySem PySem.Spec PyProof.Rows L2
abbrev sNeedTour : Stmt := top 40
theorem thAll_intsT {H : Hp} : ∀ {L : List Int} {xs : List V}, ThAll H xs (L.map PyData.int) → xs = L.map V.int
  | [], _, .nil => rfl
  | z :: L, _, .cons h g => by rw [List.map_cons, ← thAll_intsT g, th_int h]
theorem moves_atT {H : Hp} {x : V} {L : List Int} (h : Th H x (.list (L.map PyData.int))) : ∃ p, x = .ref p ∧ H p = some (.lst (L.map V.int)) := by
  cases h with
  | @lst p xs _ hp hs =>
    have := thAll_intsT hs
    subst this
    exact ⟨p, rfl, hp⟩
theorem atI_lastT (xs : List V) (v : V) : atI (xs ++ [v]) (-1) = some v := by
  unfold atI
  have e : ixN (xs ++ [v]).length (-1) = some xs.length := by
    unfold ixN
    rw [if_neg (by decide), if_pos (by simp; omega)]
    simp
    omega
  rw [e]
  show (xs ++ [v])[xs.length]? = some v
  rw [List.getElem?_append_right (Nat.le_refl _), Nat.sub_self]
  rfl
def msOf : PyData → List Int
  | .list ds => ds.map intD
  | _ => []
theorem msOf_ints (ms : List Int) : msOf (.list (ms.map PyData.int)) = ms := by
  show (ms.map PyData.int).map intD = ms
  rw [List.map_map]
  exact (List.map_congr_left fun _ _ => rfl).trans (List.map_id _)
def endsAt (e : Int) (ms : List Int) : Bool := ms.isEmpty || decide (ms.getLast? = some e)
def tourD (n : Int) (rss : List (List Int)) (e : Int) (d : PyData) : Bool := movesD n d && (tiedS rss e (msOf d) && endsAt e (msOf d))
def spNeedTour (K : PySem.W.Frag) (C : Addr) : Sp := fun vs H Q E => ∃ (v : V) (n : Nat) (ts : List (Int × Int)) (e : Int) (x : V) (d : PyData), vs = [v, .int e, x] ∧ WebAt K H v n ts ∧ n ≤ 1000 ∧ ts.length ≤ 100000 ∧ (∀ t ∈ ts, tieIn n t) ∧ Th H x d ∧ d.bulk ≤ 100000 ∧ Bay n e ∧
  (tourD n (rowsOf n ts) e d = true → ∀ H', Same H H' → Q .non H') ∧ (tourD n (rowsOf n ts) e d = false → ∀ H', Same H H' → E (.ref C) none H')
section
variable {P : Program} {w : World} {K : PySem.W.Frag} {mg : Str → Option Value} {base : Heap}
theorem scNeedTour : FnScope ["web", "bay", "tour"] ["web", "bay", "tour"] (defScope sNeedTour) := ⟨rfl, rfl, rfl, by decide +kernel, rfl, by decide +kernel, by decide +kernel⟩
theorem ok_needTour {C : Addr} {f fA fD fR : Addr} {fd fdA fdD fdR : FuncData} (F : FnP K "need_tour" sNeedTour f fd) (E : ErrN K mg "NoTour" C) (FA : FnP K "are_bays" sAreBays fA fdA) (gA : mg "are_bays" = some (.ref fA)) (GA : FnOk P w K mg base CX0 3 fA fdA ["web", "thing"] (spAreBays K))
    (FD : FnP K "tied_along" sTied fD fdD) (gD : mg "tied_along" = some (.ref fD)) (GD_ : FnOk P w K mg base CX0 1 fD fdD ["rows", "start", "moves"] spTied) (FR : FnP K "rows_of" sRows fR fdR) (gR_ : mg "rows_of" = some (.ref fR)) (GR : FnOk P w K mg base CX0 1 fR fdR ["web"] (spRows K)) : FnOk P w K mg base (L2.CX P w) 4 f fd ["web", "bay", "tour"] (spNeedTour K C) := by
  have bA : Binds K fdA ["web", "thing"] [] := FA.bindsN fun _ _ _ _ _ _ us hl => match us, hl with | [_, _], _ => rfl
  have bD : Binds K fdD ["rows", "start", "moves"] [] := FD.bindsN fun _ _ _ _ _ _ us hl => match us, hl with | [_, _, _], _ => rfl
  have bR : Binds K fdR ["web"] [] := FR.bindsN fun _ _ _ _ _ _ us hl => match us, hl with | [_], _ => rfl
  refine okX F scNeedTour (fun vs H Q E h => ?_) (fun cdv A outer s H vs Q E0 hr h => ?_)
  · obtain ⟨v, n, ts, e, x, d, rfl, _⟩ := h
    rfl
  · have hr1 : Room 1 _ := hr.mono (by decide)
    obtain ⟨v, n, ts, e, x, d, rfl, hW, hn, hlt, hin, hx, hb, he, q1, q2⟩ := h
    refine ⟨_, (pss_cons (ps_if (PW.pt (pw_or (pt_not (pt_val (pe_call GA hr rfl gA FA.kp bA .nil pass0 (pa_cons (pv 0) (pa_cons (pv 2) pa_nil))))) (pw_or1 (pt_not (pt_val (pe_call GD_ hr1 rfl gD FD.kp bD .nil pass0 (pa_cons (pe_call GR hr1 rfl gR_ FR.kp bR .nil pass0 (pa_cons (pv 0) pa_nil)) (pa_cons (pv 1) (pa_cons (pv 2) pa_nil)))))))))
      (pss_one (ps_raise rfl (takes_of rfl rfl rfl rfl) (pmk_own PySem.F.excBase_ValueError E.ex E.gs E.kp (raises_own E.su E.ty) rfl)))
      pss_nil)
    (pss_one (ps_if (PW.pt (pw_and (pt_truth (pv 2) (by intro _; rfl)) (pw_and1 (pt_cmpR op_ne (pe_ix ix_list (pv 2) (pe_un un_neg pe_int) (fun _ _ => rfl)) (pv 1) (nomark _)))))
      (pss_one (ps_raise rfl (takes_of rfl rfl rfl rfl) (pmk_own PySem.F.excBase_ValueError E.ex E.gs E.kp (raises_own E.su E.ty) rfl)))
      pss_nil))), ?_⟩
    refine ⟨_, rfl, _, rfl, v, n, ts, x, d, rfl, hW, hx, hb, fun H1 S1 => ?_⟩
    refine ⟨_, rfl, ?_⟩
    cases ep : movesD n d with
    | false => exact iteD rfl (iteD rfl (q2 (by unfold tourD; rw [ep]; rfl) H1 S1))
    | true =>
      obtain ⟨ms, rfl, hms⟩ := movesD_is ep
      obtain ⟨pm, rfl, hpm⟩ := moves_atT hx
      have et : tourD n (rowsOf n ts) e (.list (ms.map PyData.int)) = (tiedS (rowsOf n ts) e ms && endsAt e ms) := by
        unfold tourD
        rw [ep, msOf_ints]
        rfl
      rw [et] at q1 q2
      refine iteC rfl ⟨_, rfl, v, n, ts, rfl, hW.same S1, hn, hlt, hin, fun l ps H2 S2 nl nps R => ?_⟩
      have S02 := S1.trans S2
      refine ⟨_, rfl, _, rfl, l, pm, ps, rowsOf n ts, e, ms, rfl, R, S02 _ _ hpm, by rw [rowsOf_len]; exact he, fun b hb => by rw [rowsOf_len]; exact hms b hb, fun H3 S3 => ⟨_, rfl, ?_⟩⟩
      have S03 := S02.trans S3
      cases etd : tiedS (rowsOf n ts) e ms with
      | false => exact iteD rfl (q2 (by rw [etd]; rfl) H3 S03)
      | true =>
        rw [etd] at q1 q2
        refine iteC rfl ⟨_, rfl, _, .inl ⟨_, SqL.of (S03 _ _ hpm), rfl⟩, ?_⟩
        by_cases hne : ms = []
        · subst hne
          exact iteC rfl (iteC rfl (q1 rfl H3 S03))
        · obtain ⟨ms', z, rfl⟩ : ∃ ms' z, ms = ms' ++ [z] := ⟨ms.dropLast, ms.getLast hne, (List.dropLast_concat_getLast hne).symm⟩
          have em : (ms' ++ [z]).map V.int = ms'.map V.int ++ [.int z] := by rw [List.map_append]; rfl
          have e1 : (ms' ++ [z]).isEmpty = false := by cases ms' <;> rfl
          have e2 : endsAt e (ms' ++ [z]) = decide (z = e) := by
            unfold endsAt
            rw [e1, Bool.false_or, List.getLast?_concat]
            exact decide_eq_decide.mpr ⟨fun q => Option.some.inj q, fun q => by rw [q]⟩
          rw [e2] at q1 q2
          refine iteD (by rw [em]; cases ms' <;> rfl) ⟨_, rfl, _, rfl, pm, _, _, .int z, rfl, rfl, SqL.of (S03 _ _ hpm), by rw [em]; exact atI_lastT _ _, _, rfl, rfl, _, rfl, ?_⟩
          by_cases ez : z = e
          · exact iteC (by rw [ez, decide_eq_true rfl]; rfl) (q1 (by rw [ez, decide_eq_true rfl]; rfl) H3 S03)
          · exact iteD (by rw [decide_eq_false fun q => ez (V.int.inj q)]; rfl) (q2 (by rw [decide_eq_false ez]; rfl) H3 S03)
end
end Sb

/-! ## TF42 -/
/-! Tours: what they are, what so many of them make. -/
namespace Sb
open PySem PySem.Spec PyProof.Rows L2
/-- the last bay of moves -/
def lastS (e : Int) : List Int → Int
  | [] => e
  | b :: ms => lastS b ms
theorem tiedS_app {rss : List (List Int)} : ∀ (ms ks : List Int) (e : Int), tiedS rss e (ms ++ ks) = (tiedS rss e ms && tiedS rss (lastS e ms) ks)
  | [], ks, e => by
    show tiedS rss e ks = (true && tiedS rss e ks)
    rw [Bool.true_and]
  | b :: ms, ks, e => by
    show (decide (b ∈ gR rss e) && tiedS rss b (ms ++ ks)) = ((decide (b ∈ gR rss e) && tiedS rss b ms) && _)
    rw [tiedS_app ms ks b, Bool.and_assoc]
    rfl
theorem lastS_app : ∀ (ms ks : List Int) (e : Int), lastS e (ms ++ ks) = lastS (lastS e ms) ks
  | [], _, _ => rfl
  | b :: ms, ks, e => lastS_app ms ks b
theorem lastS_bay {n : Nat} : ∀ (ms : List Int) (e : Int), Bay n e → (∀ b ∈ ms, Bay n b) → Bay n (lastS e ms)
  | [], _, he, _ => he
  | b :: ms, _, _, h => lastS_bay ms b (h b List.mem_cons_self) fun c hc => h c (List.mem_cons_of_mem _ hc)
theorem lastS_get : ∀ (ms : List Int) (e b : Int), lastS b ms = ((b :: ms).getLast?).getD e
  | [], _, _ => rfl
  | c :: ms, e, b => by
    show lastS c ms = _
    rw [lastS_get ms e c, List.getLast?_cons_cons]
theorem endsAt_last : ∀ (ms : List Int) (e : Int), endsAt e ms = decide (lastS e ms = e)
  | [], e => by
    show true = decide (e = e)
    rw [decide_eq_true rfl]
  | b :: ms, e => by
    show (false || decide ((b :: ms).getLast? = some e)) = decide (lastS b ms = e)
    rw [Bool.false_or, lastS_get ms e b]
    refine decide_eq_decide.mpr ?_
    cases h : (b :: ms).getLast? with
    | none => exact absurd (List.getLast?_eq_none_iff.mp h) (by simp)
    | some z => exact ⟨fun q => by rw [Option.some.inj q]; rfl, fun q => congrArg some q⟩
theorem last_nat : ∀ (ms : List Int) (e : Int), (ms.map Int.toNat).getLastD e.toNat = (lastS e ms).toNat
  | [], _ => rfl
  | b :: ms, e => by
    rw [List.map_cons, List.getLastD_cons]
    exact last_nat ms b
/-- moves from e that lead back to e, along ties -/
structure TourP (n : Nat) (rss : List (List Int)) (e : Int) (ms : List Int) : Prop where
  bays : ∀ b ∈ ms, Bay n b
  tied : tiedS rss e ms = true
  back : lastS e ms = e
theorem TourP.d {n : Nat} {rss : List (List Int)} {e : Int} {ms : List Int} (h : TourP n rss e ms) (hm : movesD n (.list (ms.map PyData.int)) = true) : tourD n rss e (.list (ms.map PyData.int)) = true := by
  unfold tourD
  rw [hm, msOf_ints, h.tied, endsAt_last, decide_eq_true h.back]
  rfl
theorem slid_last : ∀ (ms : List Int) (L : List Int) (e : Int), (slidS L e ms).2 = lastS e ms := by
  have key : ∀ (ms : List Int) (st : List Int × Int), (ms.foldl (fun st b => (swp st.1 st.2 b, b)) st).2 = lastS st.2 ms := by
    intro ms
    induction ms with
    | nil => exact fun _ => rfl
    | cons b ms ih =>
      intro st
      rw [List.foldl_cons, ih]
      rfl
  exact fun ms L e => key ms (L, e)
/-- so many times the tour -/
def tmS (ms : List Int) : Nat → List Int → List Int
  | 0, L => L
  | t + 1, L => (slidS (tmS ms t L) (e0 (tmS ms t L)) ms).1
abbrev goT (e : Int) (ms : List Int) : Nat → Nat := goS e.toNat (ms.map Int.toNat)
section
variable {n : Nat} {e : Int} {ms : List Int}
theorem goT_lt (he : Bay n e) (hm : ∀ b ∈ ms, Bay n b) : ∀ x, x < n → goT e ms x < n := fun x hx => goS_lt _ _ _ (by have := he.1; have := he.2; omega) (fun b hb => by
  obtain ⟨c, hc, rfl⟩ := List.mem_map.mp hb
  have := (hm c hc).1
  have := (hm c hc).2
  omega) hx
theorem goT_inj : ∀ x y, x < n → y < n → goT e ms x = goT e ms y → x = y := fun x y _ _ h => goS_inj _ _ _ _ h
theorem tm_go {L : List Int} (hL : LooseP n L) (eL : e0 L = e) (hm : ∀ b ∈ ms, Bay n b) (hb : lastS e ms = e) : ∀ t, LooseP n (tmS ms t L) ∧ e0 (tmS ms t L) = e ∧ (tmS ms t L).Perm L ∧ ∀ v, v < n → (tmS ms t L)[Cy.itr (goT e ms) t v]? = L[v]?
  | 0 => ⟨hL, eL, .refl _, fun v _ => rfl⟩
  | t + 1 => by
    obtain ⟨h1, h2, h3, h4⟩ := tm_go hL eL hm hb t
    obtain ⟨g1, g2, g3⟩ := slid_loose h1 hm
    have hbay : Bay n e := by
      have := (e0_at hL.zero).1
      rw [hL.len, eL] at this
      exact this
    refine ⟨g1, ?_, g3.trans h3, fun v hv => ?_⟩
    · show e0 (slidS _ _ _).1 = e
      rw [g2, slid_last, h2, hb]
    · show (slidS (tmS ms t L) (e0 (tmS ms t L)) ms).1[goT e ms (Cy.itr (goT e ms) t v)]? = _
      rw [h2, slidS_go (by rw [h1.len]; exact hbay) (fun b hb => by rw [h1.len]; exact hm b hb) (by rw [h1.len]; exact Cy.itr_back goT_inj (goT_lt hbay hm) hv), h4 v hv]
/-- what the program makes is what the law makes -/
theorem tm_is {L M : List Int} (hL : LooseP n L) (eL : e0 L = e) (hm : ∀ b ∈ ms, Bay n b) (hb : lastS e ms = e) {t : Nat} (lM : M.length = n) (h : ∀ v, v < n → M[Cy.itr (goT e ms) t v]? = L[v]?) : M = tmS ms t L := by
  obtain ⟨h1, h2, _, h4⟩ := tm_go hL eL hm hb t
  have hbay : Bay n e := by
    have := (e0_at hL.zero).1
    rw [hL.len, eL] at this
    exact this
  exact Cy.eq_of_go goT_inj (goT_lt hbay hm) lM h1.len fun v hv => (h v hv).trans (h4 v hv).symm
theorem tm_mod {L : List Int} (hL : LooseP n L) (eL : e0 L = e) (hm : ∀ b ∈ ms, Bay n b) (hb : lastS e ms = e) {m : Nat} (back : ∀ v, v < n → Cy.itr (goT e ms) m v = v) (t : Nat) : tmS ms t L = tmS ms (t % m) L := by
  obtain ⟨h1, _, _, h4⟩ := tm_go hL eL hm hb t
  exact tm_is hL eL hm hb h1.len fun v hv => by rw [← Cy.least_mod back t hv]; exact h4 v hv
/-- different pieces are all back just if each bay is -/
theorem tm_start {L : List Int} (hL : LooseP n L) (nd : L.Nodup) (eL : e0 L = e) (hm : ∀ b ∈ ms, Bay n b) (hb : lastS e ms = e) (t : Nat) : tmS ms t L = L ↔ ∀ v, v < n → Cy.itr (goT e ms) t v = v := by
  obtain ⟨h1, h2, _, h4⟩ := tm_go hL eL hm hb t
  have hbay : Bay n e := by
    have := (e0_at hL.zero).1
    rw [hL.len, eL] at this
    exact this
  constructor
  · intro q v hv
    have := h4 v hv
    rw [q] at this
    have l1 : Cy.itr (goT e ms) t v < L.length := by rw [hL.len]; exact Cy.itr_back goT_inj (goT_lt hbay hm) hv
    have l2 : v < L.length := by rw [hL.len]; exact hv
    rw [List.getElem?_eq_getElem l1, List.getElem?_eq_getElem l2] at this
    exact (List.getElem_inj (h₀ := l1) (h₁ := l2) nd).mp (Option.some.inj this)
  · intro q
    exact (tm_is hL eL hm hb hL.len fun v hv => by rw [q v hv]).symm
theorem go_empty {L : List Int} (hL : LooseP n L) (eL : e0 L = e) (hm : ∀ b ∈ ms, Bay n b) (hb : lastS e ms = e) : goT e ms e.toNat = e.toNat := by
  obtain ⟨h1, h2, _, h4⟩ := tm_go hL eL hm hb 1
  obtain ⟨b0, z1, z2⟩ := e0_at hL.zero
  rw [hL.len, eL] at b0
  have hv : e.toNat < n := by have := b0.1; have := b0.2; omega
  have := h4 e.toNat hv
  have ei : L.idxOf 0 = e.toNat := by
    rw [← eL]
    unfold e0
    omega
  rw [← ei, z1] at this
  have q := e0_is h1 this
  rw [h2, ei] at q
  have : goT e ms e.toNat = Cy.itr (goT e ms) 1 e.toNat := rfl
  rw [this]
  omega
/-- the law's due -/
theorem go_two (v : Nat) (hb : lastS e ms = e) : goT e (ms ++ ms) v = Cy.itr (goT e ms) 2 v := by
  show goS e.toNat ((ms ++ ms).map Int.toNat) v = goT e ms (goT e ms v)
  rw [List.map_append, goS_app, last_nat, hb]
end
/-- first shortest ways -/
theorem path_tour {n : Nat} {ts : List (Int × Int)} (W : WebP n ts) {a b : Int} (a0 : 0 ≤ a) (a1 : a < (n : Int)) (b0 : 0 ≤ b) (b1 : b < (n : Int)) : tiedS (rowsOf n ts) a (pathOf n ts a b) = true ∧ lastS a (pathOf n ts a b) = b ∧ (pathOf n ts a b).length ≤ n := by
  have F := web_far W b0 b1
  have key : ∀ (k : Nat) (v : Int), 0 ≤ v → v < (n : Int) → gI (stepsOf (rowsOf n ts) b.toNat) v = (k : Int) → tiedS (rowsOf n ts) v (pathP (rowsOf n ts) (stepsOf (rowsOf n ts) b.toNat) k v) = true ∧ lastS v (pathP (rowsOf n ts) (stepsOf (rowsOf n ts) b.toNat) k v) = b := by
    intro k
    induction k with
    | zero =>
      intro v v0 v1 e
      exact ⟨rfl, (F.z v v0 v1).mp (by omega)⟩
    | succ k ih =>
      intro v v0 v1 e
      have ne : v ≠ b := fun q => by
        have := (F.z v v0 v1).mpr q
        omega
      obtain ⟨r, hr, x0, x1, ex, _⟩ := nxt_facts W F v0 v1 ne
      obtain ⟨i1, i2⟩ := ih _ x0 x1 (by omega)
      have hm : nxt (rowsOf n ts) (stepsOf (rowsOf n ts) b.toNat) v ∈ gR (rowsOf n ts) v := (List.mem_filter.mp (show _ ∈ nxtL _ _ v from by rw [hr]; exact List.mem_cons_self)).1
      refine ⟨?_, i2⟩
      show (decide (_ ∈ gR (rowsOf n ts) v) && tiedS _ _ _) = true
      rw [decide_eq_true hm, Bool.true_and]
      exact i1
  have nn := F.nn a a0 a1
  have sm := F.small a a0 a1
  have := key (gI (stepsOf (rowsOf n ts) b.toNat) a).toNat a a0 a1 (by omega)
  refine ⟨this.1, this.2, ?_⟩
  unfold pathOf
  rw [pathP_len]
  omega
end Sb

/-! ## TR42 -/
/-! Tours: turned. -/
namespace Sb
open PySem PySem.Spec PyProof.Rows L2
abbrev sTurned : Stmt := top 37
structure KitT (P : Program) (w : World) (K : PySem.W.Frag) (mg : Str → Option Value) (base : Heap) (CW CB CT : Addr) : Prop where
  need : ∃ f fd, FnP K "need_web" sNeed f fd ∧ mg "need_web" = some (.ref f) ∧ FnOk P w K mg base (L2.CX P w) 4 f fd ["web"] (spNeedN CW)
  bay : ∃ f fd, FnP K "need_bay" sBay f fd ∧ mg "need_bay" = some (.ref f) ∧ FnOk P w K mg base (L2.CX P w) 3 f fd ["web", "bay"] (spBayN K CB)
  tour : ∃ f fd, FnP K "need_tour" sNeedTour f fd ∧ mg "need_tour" = some (.ref f) ∧ FnOk P w K mg base (L2.CX P w) 4 f fd ["web", "bay", "tour"] (spNeedTour K CT)
  turn : ∃ f fd, FnP K "turn_of" sTurnOf f fd ∧ mg "turn_of" = some (.ref f) ∧ FnOk P w K mg base CX0 2 f fd ["web", "bay", "tour"] (spTurnOf K)
theorem tourD_is {n : Nat} {rss : List (List Int)} {e : Int} {d : PyData} (h : tourD n rss e d = true) : d = .list ((msOf d).map PyData.int) ∧ (∀ b ∈ msOf d, Bay n b) ∧ tiedS rss e (msOf d) = true ∧ endsAt e (msOf d) = true := by
  unfold tourD at h
  rw [Bool.and_eq_true, Bool.and_eq_true] at h
  obtain ⟨h1, h2, h3⟩ := h
  obtain ⟨ms, rfl, hms⟩ := movesD_is h1
  rw [msOf_ints] at h2 h3 ⊢
  exact ⟨rfl, hms, h2, h3⟩
def spTurned (CW CB CT : Addr) : Sp := fun vs H Q E => ∃ v dw b db m e, vs = [v, b, m] ∧ Th H v dw ∧ tiesOf dw ≤ 100000 ∧ Th H b db ∧ Th H m e ∧ e.bulk ≤ 100000 ∧ (webD dw = false → ∀ H', Same H H' → E (.ref CW) none H') ∧
  ∀ (n : Nat) ts, shapeD dw = some ((n : Int), ts) → WebP n ts → (bayD n db = false → ∀ H', Same H H' → E (.ref CB) none H') ∧
    (∀ z : Int, db = .int z → Bay n z → (tourD n (rowsOf n ts) z e = false → ∀ H', Same H H' → E (.ref CT) none H') ∧
      (tourD n (rowsOf n ts) z e = true → ∀ p H', Same H H' → H p = none → H' p = some (.tup (natI ((List.range n).map (goS z.toNat ((msOf e).map Int.toNat))))) → Q (.ref p) H'))
section
variable {P : Program} {w : World} {K : PySem.W.Frag} {mg : Str → Option Value} {base : Heap} {CW CB CT : Addr}
theorem scTurned : FnScope ["web", "bay", "tour"] ["web", "bay", "tour"] (defScope sTurned) := ⟨rfl, rfl, rfl, by decide +kernel, rfl, by decide +kernel, by decide +kernel⟩
theorem ok_turned {f : Addr} {fd : FuncData} (F : FnP K "turned" sTurned f fd) (T : KitT P w K mg base CW CB CT) : FnOk P w K mg base (L2.CX P w) 5 f fd ["web", "bay", "tour"] (spTurned CW CB CT) := by
  obtain ⟨fN, fdN, FN, gN, GN⟩ := T.need
  obtain ⟨fB, fdB, FB, gB, GB⟩ := T.bay
  obtain ⟨fT, fdT, FT, gT, GT⟩ := T.tour
  obtain ⟨fO, fdO, FO, gO, GO⟩ := T.turn
  have bN : Binds K fdN ["web"] [] := FN.bindsN fun _ _ _ _ _ _ us hl => match us, hl with | [_], _ => rfl
  have bB : Binds K fdB ["web", "bay"] [] := FB.bindsN fun _ _ _ _ _ _ us hl => match us, hl with | [_, _], _ => rfl
  have bT : Binds K fdT ["web", "bay", "tour"] [] := FT.bindsN fun _ _ _ _ _ _ us hl => match us, hl with | [_, _, _], _ => rfl
  have bO : Binds K fdO ["web", "bay", "tour"] [] := FO.bindsN fun _ _ _ _ _ _ us hl => match us, hl with | [_, _, _], _ => rfl
  refine okX F scTurned (fun vs H Q E h => ?_) (fun cdv A outer s H vs Q E0 hr h => ?_)
  · obtain ⟨v, dw, b, db, m, e, rfl, _⟩ := h
    rfl
  · have hr2 : Room 2 _ := hr.mono (by decide)
    have hr3 : Room 3 _ := hr.mono (by decide)
    refine ⟨_, (pss_cons (ps_expr (pe_call GN hr rfl gN FN.kp bN .nil (passes_call (takes_of rfl rfl rfl rfl) (fun _ _ _ _ h => h)) (pa_cons (pv 0) pa_nil)))
    (pss_cons (ps_expr (pe_call GB hr3 rfl gB FB.kp bB .nil (passes_call (takes_of rfl rfl rfl rfl) (fun _ _ _ _ h => h)) (pa_cons (pv 0) (pa_cons (pv 1) pa_nil))))
    (pss_cons (ps_expr (pe_call GT hr rfl gT FT.kp bT .nil (passes_call (takes_of rfl rfl rfl rfl) (fun _ _ _ _ h => h)) (pa_cons (pv 0) (pa_cons (pv 1) (pa_cons (pv 2) pa_nil)))))
    (pss_one (ps_ret (pe_call GO hr2 rfl gO FO.kp bO .nil pass0 (pa_cons (pv 0) (pa_cons (pv 1) (pa_cons (pv 2) pa_nil))))))))), ?_⟩
    obtain ⟨v, dw, b, db, m, e, rfl, hv, hm, hb, hx, hbk, q1, q2⟩ := h
    refine ⟨_, rfl, v, dw, rfl, hv, hm, fun ew H1 S1 => ?_, fun ew H1 S1 => q1 ew H1 S1⟩
    obtain ⟨n, ts, es, W⟩ := webD_is ew
    obtain ⟨q3, q4⟩ := q2 n ts es W
    have n40 := W.n40
    have hl : ts.length ≤ 100000 := by rw [shape_len es]; exact hm
    refine ⟨_, rfl, _, rfl, v, n, ts, b, db, rfl, (th_web hv es).same S1, hb.mono S1, fun eb => ?_, fun eb => q3 eb H1 S1⟩
    obtain ⟨z, rfl, z0, z1⟩ := bayD_is eb
    obtain rfl := th_int hb
    obtain ⟨q5, q6⟩ := q4 z rfl ⟨z0, z1⟩
    refine ⟨_, rfl, _, rfl, _, rfl, v, n, ts, z, m, e, rfl, (th_web hv es).same S1, by omega, hl, fun t ht => (W.ti t ht).1, hx.mono S1, hbk, ⟨z0, z1⟩, fun et H2 S2 => ?_, fun et H2 S2 => q5 et H2 (S1.trans S2)⟩
    have S02 := S1.trans S2
    obtain ⟨ee, hms, _, _⟩ := tourD_is et
    rw [ee] at hx
    obtain ⟨pm, rfl, hpm⟩ := moves_atT hx
    exact ⟨_, rfl, _, rfl, _, rfl, v, pm, n, ts, z, msOf e, rfl, (th_web hv es).same S02, by omega, SqL.of (S02 _ _ hpm), ⟨z0, z1⟩, hms, fun p H3 S3 n3 h3 => q6 et p H3 (S02.trans S3) (S02.free n3) h3⟩
end
end Sb

/-! ## TQ42 -/
/-! Tours: order_of. -/
namespace Sb
open PySem PySem.Spec PyProof.Rows L2
abbrev sOrderOf : Stmt := top 38
def rLcm : List V → Hp → VK → Prop := fun vs H Q => ∃ a b : Nat, vs = [.int (a : Nat), .int (b : Nat)] ∧ a < 2 ^ 64 ∧ b < 2 ^ 64 ∧ Q (.int ((Nat.lcm a b : Nat) : Int)) H
theorem cr_lcm {X : Cx} : CallR X (.builtin "math.lcm") rLcm := by
  intro pins s σ H vs us Q I r h
  obtain ⟨a, b, rfl, ha, hb, q⟩ := h
  obtain ⟨t, u, rfl⟩ := Vals.int2 r
  exact PySem.W.mc_lcm (by rw [Int.natAbs_natCast]; exact ha) (by rw [Int.natAbs_natCast]; exact hb) fun _ => ⟨.int _, H, I.tok _, ⟨_, rfl⟩, by rw [Int.natAbs_natCast, Int.natAbs_natCast]; exact q⟩
theorem sum_less : ∀ cs : List (List Nat), (cs.map fun c => c.length - 1).sum ≤ cs.flatten.length
  | [] => Nat.le_refl _
  | c :: cs => by
    have := sum_less cs
    rw [List.map_cons, List.sum_cons, List.flatten_cons, List.length_append]
    omega
theorem flat_few {n : Nat} {cs : List (List Nat)} (nd : cs.flatten.Nodup) (inn : ∀ c ∈ cs, ∀ v ∈ c, v < n) : cs.flatten.length ≤ n := by
  have key : ∀ {A B : List Nat}, A.Nodup → (∀ x ∈ A, x ∈ B) → A.length ≤ B.length := fun {A B} nd sub => by
    induction A generalizing B with
    | nil => exact Nat.zero_le _
    | cons a A ih =>
      obtain ⟨n1, n2⟩ := List.nodup_cons.mp nd
      have ha := sub a List.mem_cons_self
      have := ih (B := B.erase a) n2 fun x hx => (List.mem_erase_of_ne (fun e => n1 (by rw [← e]; exact hx))).mpr (sub x (List.mem_cons_of_mem _ hx))
      rw [List.length_erase_of_mem ha] at this
      have := List.length_pos_of_mem ha
      rw [List.length_cons]
      omega
  have := key (B := List.range n) nd fun x hx => by
    obtain ⟨c, hc, hm⟩ := List.mem_flatten.mp hx
    exact List.mem_range.mpr (inn c hc x hm)
  rw [List.length_range] at this
  exact this
theorem lcms_small {n : Nat} {cs : List (List Nat)} (n40 : n ≤ 40) (hp : ∀ c ∈ cs, 0 < c.length) (nd : cs.flatten.Nodup) (inn : ∀ c ∈ cs, ∀ v ∈ c, v < n) : Cy.lcms cs < 2 ^ 64 := by
  have h1 := Cy.lcms_le cs 1 Nat.one_pos hp
  have h2 := sum_less cs
  have h3 := flat_few nd inn
  have h4 : 2 ^ ((cs.map fun c => c.length - 1).sum) ≤ 2 ^ 40 := Nat.pow_le_pow_right (by decide) (by omega)
  have e : (2 : Nat) ^ 40 < 2 ^ 64 := by decide
  rw [Nat.one_mul] at h1
  unfold Cy.lcms
  omega
def spOrderOf (CW CB CT : Addr) : Sp := fun vs H Q E => ∃ v dw b db m e, vs = [v, b, m] ∧ Th H v dw ∧ tiesOf dw ≤ 100000 ∧ Th H b db ∧ Th H m e ∧ e.bulk ≤ 100000 ∧ (webD dw = false → ∀ H', Same H H' → E (.ref CW) none H') ∧
  ∀ (n : Nat) ts, shapeD dw = some ((n : Int), ts) → WebP n ts → (bayD n db = false → ∀ H', Same H H' → E (.ref CB) none H') ∧
    (∀ z : Int, db = .int z → Bay n z → (tourD n (rowsOf n ts) z e = false → ∀ H', Same H H' → E (.ref CT) none H') ∧
      (tourD n (rowsOf n ts) z e = true → ∀ cs H', Same H H' → Cy.Rounds n (goS z.toNat ((msOf e).map Int.toNat)) cs → cs.flatten.Nodup → Q (.int ((Cy.lcms cs : Nat) : Int)) H'))
section
variable {P : Program} {w : World} {K : PySem.W.Frag} {mg : Str → Option Value} {base : Heap} {CW CB CT : Addr}
abbrev scOrderOfN : List Str := ["web", "bay", "tour", "times", "bays"]
theorem scOrderOf : FnScope ["web", "bay", "tour", "times", "bays"] ["web", "bay", "tour"] (defScope sOrderOf) := ⟨rfl, rfl, rfl, by decide +kernel, rfl, by decide +kernel, by decide +kernel⟩
theorem ok_orderOf {f fC : Addr} {fd fdC : FuncData} (F : FnP K "order_of" sOrderOf f fd) (T : KitT P w K mg base CW CB CT) (tl : mg "len" = none) (tm : mg "lcm" = some (.builtin "math.lcm")) (FC : FnP K "cycles_of" sCycles fC fdC) (gC : mg "cycles_of" = some (.ref fC)) (GC : FnOk P w K mg base CX0 1 fC fdC ["turn"] (spCycles K)) : FnOk P w K mg base (L2.CX P w) 5 f fd ["web", "bay", "tour"] (spOrderOf CW CB CT) := by
  obtain ⟨fN, fdN, FN, gN, GN⟩ := T.need
  obtain ⟨fB, fdB, FB, gB, GB⟩ := T.bay
  obtain ⟨fT, fdT, FT, gT, GT⟩ := T.tour
  obtain ⟨fO, fdO, FO, gO, GO⟩ := T.turn
  have bN : Binds K fdN ["web"] [] := FN.bindsN fun _ _ _ _ _ _ us hl => match us, hl with | [_], _ => rfl
  have bB : Binds K fdB ["web", "bay"] [] := FB.bindsN fun _ _ _ _ _ _ us hl => match us, hl with | [_, _], _ => rfl
  have bT : Binds K fdT ["web", "bay", "tour"] [] := FT.bindsN fun _ _ _ _ _ _ us hl => match us, hl with | [_, _, _], _ => rfl
  have bO : Binds K fdO ["web", "bay", "tour"] [] := FO.bindsN fun _ _ _ _ _ _ us hl => match us, hl with | [_, _, _], _ => rfl
  have bC : Binds K fdC ["turn"] [] := FC.bindsN fun _ _ _ _ _ _ us hl => match us, hl with | [_], _ => rfl
  refine okX F scOrderOf (fun vs H Q E h => ?_) (fun cdv A outer s H vs Q E0 hr h => ?_)
  · obtain ⟨v, dw, b, db, m, e, rfl, _⟩ := h
    rfl
  · have hr1 : Room 1 _ := hr.mono (by decide)
    have hr2 : Room 2 _ := hr.mono (by decide)
    have hr3 : Room 3 _ := hr.mono (by decide)
    refine ⟨_, (pss_cons (ps_expr (pe_call GN hr rfl gN FN.kp bN .nil (passes_call (takes_of rfl rfl rfl rfl) (fun _ _ _ _ h => h)) (pa_cons (pv 0) pa_nil)))
    (pss_cons (ps_expr (pe_call GB hr3 rfl gB FB.kp bB .nil (passes_call (takes_of rfl rfl rfl rfl) (fun _ _ _ _ h => h)) (pa_cons (pv 0) (pa_cons (pv 1) pa_nil))))
    (pss_cons (ps_expr (pe_call GT hr rfl gT FT.kp bT .nil (passes_call (takes_of rfl rfl rfl rfl) (fun _ _ _ _ h => h)) (pa_cons (pv 0) (pa_cons (pv 1) (pa_cons (pv 2) pa_nil)))))
    (PSs.nox (pss_cons (ps_set (i := 3) scOrderOf.nd rfl (Or.inl rfl) pe_int)
    (pss_cons (ps_for PassesOwn.never rfl (pi_list (pe_call GC hr1 rfl gC FC.kp bC .nil pass0 (pa_cons (pe_call GO hr2 rfl gO FO.kp bO .nil pass0 (pa_cons (pv 0) (pa_cons (pv 1) (pa_cons (pv 2) pa_nil)))) pa_nil))) (pg_name (i := 4) scOrderOf.nd rfl (Or.inl rfl))
      (pss_one (ps_set (i := 3) scOrderOf.nd rfl (Or.inl rfl) (pe_callBfun cr_lcm rfl tm (pa_cons (pv 3) (pa_cons (pe_callB (id := "len") call_len_seq (by rfl) tl (by decide +kernel) (pa_cons (pv 4) pa_nil)) pa_nil))))))
    (pss_one (ps_ret (pv 3))))))))), ?_⟩
    obtain ⟨v, dw, b, db, m, e, rfl, hv, hm, hb, hx, hbk, q1, q2⟩ := h
    refine ⟨_, rfl, v, dw, rfl, hv, hm, fun ew H1 S1 => ?_, fun ew H1 S1 => q1 ew H1 S1⟩
    obtain ⟨n, ts, es, W⟩ := webD_is ew
    obtain ⟨q3, q4⟩ := q2 n ts es W
    have n40 := W.n40
    have hl : ts.length ≤ 100000 := by rw [shape_len es]; exact hm
    refine ⟨_, rfl, _, rfl, v, n, ts, b, db, rfl, (th_web hv es).same S1, hb.mono S1, fun eb => ?_, fun eb => q3 eb H1 S1⟩
    obtain ⟨z, rfl, z0, z1⟩ := bayD_is eb
    obtain rfl := th_int hb
    obtain ⟨q5, q6⟩ := q4 z rfl ⟨z0, z1⟩
    refine ⟨_, rfl, _, rfl, _, rfl, v, n, ts, z, m, e, rfl, (th_web hv es).same S1, by omega, hl, fun t ht => (W.ti t ht).1, hx.mono S1, hbk, ⟨z0, z1⟩, fun et H2 S2 => ?_, fun et H2 S2 => q5 et H2 (S1.trans S2)⟩
    have S02 := S1.trans S2
    have q6 := q6 et
    obtain ⟨ee, hms, _, _⟩ := tourD_is et
    rw [ee] at hx
    obtain ⟨pm, rfl, hpm⟩ := moves_atT hx
    have hmn : ∀ b ∈ (msOf e).map Int.toNat, b < n := fun b hb => by
      obtain ⟨c, hc, rfl⟩ := List.mem_map.mp hb
      have := hms c hc
      have := this.1
      have := (hms c hc).2
      omega
    refine ⟨_, rfl, _, rfl, _, rfl, v, pm, n, ts, z, msOf e, rfl, (th_web hv es).same S02, by omega, SqL.of (S02 _ _ hpm), ⟨z0, z1⟩, hms, fun p H3 S3 n3 h3 => ?_⟩
    refine ⟨p, n, goS z.toNat ((msOf e).map Int.toNat), rfl, SqT.of h3, by omega, fun x hx => goS_lt _ _ _ (by omega) hmn hx, fun x y _ _ h => goS_inj _ _ _ _ h, fun D zs H4 S4 nD hD hzs rd nd => ?_⟩
    have hpos : ∀ c ∈ zs.map Prod.snd, 0 < c.length := fun c hc => let ⟨s, hs⟩ := rd.each c hc; hs.pos
    refine ⟨D, rfl, ⟨_, SqL.of hD⟩, for_list (K := K) (a := D) (xs := zs.map fun z => V.ref z.1) (fun i σ H' => (∃ u, σ = [some v, some (.int z), some (.ref pm), some (.int ((Cy.lcms ((zs.map Prod.snd).take i) : Nat) : Int)), u]) ∧ H' = H4) ⟨⟨_, rfl⟩, rfl⟩ (fun i σ H' _ ⟨_, e⟩ => by rw [e]; exact SqL.of hD) ?_ ?_⟩
    · rintro i y σ H5 hi ⟨⟨u, rfl⟩, rfl⟩
      rw [List.getElem?_map] at hi
      obtain ⟨zz, hz, rfl⟩ := Option.map_eq_some_iff.mp hi
      have hc : (zs.map Prod.snd)[i]? = some zz.2 := by rw [List.getElem?_map, hz]; rfl
      have lz : (natI zz.2).length = zz.2.length := by unfold natI; rw [List.length_map, List.length_map]
      have tk := take_more hc
      have sub : ((zs.map Prod.snd).take i).flatten.Sublist (zs.map Prod.snd).flatten := by
        have := List.take_append_drop i (zs.map Prod.snd)
        conv => rhs; rw [← this, List.flatten_append]
        exact List.sublist_append_left _ _
      have sm := lcms_small (n := n) (cs := (zs.map Prod.snd).take i) n40 (fun c hc => hpos c (List.mem_of_mem_take hc)) (nd.sublist sub) fun c hc => rd.inn c (List.mem_of_mem_take hc)
      have ln : zz.2.length ≤ n := by
        have h1 := flat_few nd rd.inn
        have h2 := List.mem_of_getElem? hc
        have h3 : zz.2.length ≤ (zs.map Prod.snd).flatten.length := (List.sublist_flatten_of_mem h2).length_le
        omega
      refine ⟨_, rfl, _, rfl, zz.1, _, rfl, .inl (SqL.of (hzs zz (List.mem_of_getElem? hz)).1), _, _, rfl, sm, by rw [lz]; exact Nat.lt_of_le_of_lt ln (Nat.lt_of_le_of_lt n40 (by decide)), ⟨some (.ref zz.1), ?_⟩, rfl⟩
      rw [lz, tk]
      unfold Cy.lcms
      rw [List.foldl_append]
      rfl
    · rintro σ H5 ⟨⟨u, rfl⟩, rfl⟩
      rw [List.length_map, ← List.length_map (f := Prod.snd), List.take_length]
      exact ⟨_, rfl, q6 _ H5 ((S02.trans S3).trans S4) rd nd⟩
end
end Sb

/-! ## DNt42 -/
/-! is_standing, is_loose, done, led. -/
namespace Sb
open PySem PySem.Spec PyProof.Rows L2
abbrev sDone : Stmt := top 27
theorem thAll_ints {H : Hp} : ∀ {L : List Int} {xs : List V}, ThAll H xs (L.map PyData.int) → xs = L.map V.int
  | [], _, .nil => rfl
  | z :: L, _, .cons h g => by rw [List.map_cons, ← thAll_ints g, th_int h]
theorem loose_at {H : Hp} {x : V} {L : List Int} (h : Th H x (.tuple (L.map PyData.int))) (e : ExV H x) : ∃ p, x = .ref p ∧ TupZ H p (L.map V.int) := by
  cases h with
  | @tupR p xs _ hp hs =>
    have := thAll_ints hs
    subst this
    exact ⟨p, rfl, e p _ rfl hp⟩
theorem moves_at {H : Hp} {x : V} {L : List Int} (h : Th H x (.list (L.map PyData.int))) : ∃ p, x = .ref p ∧ H p = some (.lst (L.map V.int)) := by
  cases h with
  | @lst p xs _ hp hs =>
    have := thAll_ints hs
    subst this
    exact ⟨p, rfl, hp⟩
theorem ExV.same {H H' : Hp} {v : V} {d : PyData} (h : Th H v d) (e : ExV H v) (S : Same H H') : ExV H' v := ExV.same0 h e S
def standD : PyData → Bool
  | .tuple ds => decide (ds.map intD).Nodup
  | _ => false
/-- the program's promise of is_standing, is_loose -/
def spIsS (C : Addr) (g : Int → PyData → Bool) : Sp := fun vs H Q E => ∃ v dw x d, vs = [v, x] ∧ Th H v dw ∧ tiesOf dw ≤ 100000 ∧ Th H x d ∧ ExV H x ∧ (webD dw = false → ∀ H', Same H H' → E (.ref C) none H') ∧
  ∀ (n : Nat) ts, shapeD dw = some ((n : Int), ts) → WebP n ts → ∀ H', Same H H' → Q (.bl (g (n : Int) d)) H'
def standN (n : Int) (d : PyData) : Bool := looseD n d && standD d
/-- need_web, need_loose and what they rest on -/
structure KitS (P : Program) (w : World) (K : PySem.W.Frag) (mg : Str → Option Value) (base : Heap) (CW CS : Addr) : Prop where
  need : ∃ f fd, FnP K "need_web" sNeed f fd ∧ mg "need_web" = some (.ref f) ∧ FnOk P w K mg base (L2.CX P w) 4 f fd ["web"] (spNeedN CW)
  loose : ∃ f fd, FnP K "need_loose" sNeedL f fd ∧ mg "need_loose" = some (.ref f) ∧ FnOk P w K mg base (L2.CX P w) 5 f fd ["web", "loose"] (spNeedL K CS)
  fits : ∃ f fd, FnP K "fits_loosely" sFits f fd ∧ mg "fits_loosely" = some (.ref f) ∧ FnOk P w K mg base CX0 4 f fd ["web", "thing"] (spFits K)
  rows : ∃ f fd, FnP K "rows_of" sRows f fd ∧ mg "rows_of" = some (.ref f) ∧ FnOk P w K mg base CX0 1 f fd ["web"] (spRows K)
section
variable {P : Program} {w : World} {K : PySem.W.Frag} {mg : Str → Option Value} {base : Heap} {CW CS CM CB CY : Addr}
/-- done of anything -/
def spDone (CW CS CM CB : Addr) : Sp := fun vs H Q E => ∃ v dw x d m e, vs = [v, x, m] ∧ Th H v dw ∧ tiesOf dw ≤ 100000 ∧ Th H x d ∧ ExV H x ∧ Th H m e ∧ e.bulk ≤ 100000 ∧ (webD dw = false → ∀ H', Same H H' → E (.ref CW) none H') ∧
  ∀ (n : Nat) ts, shapeD dw = some ((n : Int), ts) → WebP n ts → (looseD n d = false → ∀ H', Same H H' → E (.ref CS) none H') ∧ (looseD n d = true → movesD n e = false → ∀ H', Same H H' → E (.ref CM) none H') ∧
    (∀ L ms : List Int, d = .tuple (L.map PyData.int) → LooseP n L → e = .list (ms.map PyData.int) → (∀ b ∈ ms, Bay n b) → (tiedS (rowsOf n ts) (e0 L) ms = false → ∀ H', Same H H' → E (.ref CB) none H') ∧
      (tiedS (rowsOf n ts) (e0 L) ms = true → ∀ t H', Same H H' → TupZ H' t ((slidS L (e0 L) ms).1.map V.int) → Q (.ref t) H'))
abbrev scDoneN : List Str := ["web", "loose", "moves"]
theorem scDone : FnScope ["web", "loose", "moves"] ["web", "loose", "moves"] (defScope sDone) := ⟨rfl, rfl, rfl, by decide +kernel, rfl, by decide +kernel, by decide +kernel⟩
theorem ok_done {f fM fD fL : Addr} {fd fdM fdD fdL : FuncData} (F : FnP K "done" sDone f fd) (T : KitS P w K mg base CW CS) (TT : mg "tuple" = none) (FM : FnP K "need_moves" sNeedM fM fdM) (gM : mg "need_moves" = some (.ref fM)) (GM : FnOk P w K mg base (L2.CX P w) 4 fM fdM ["web", "moves"] (spNeedM K CM))
    (FD : FnP K "need_tied" sNeedTied fD fdD) (gD : mg "need_tied" = some (.ref fD)) (GD_ : FnOk P w K mg base (L2.CX P w) 2 fD fdD ["rows", "loose", "moves"] (spNeedTied K CB)) (FL : FnP K "slid" sSlid fL fdL) (gL : mg "slid" = some (.ref fL)) (GL : FnOk P w K mg base CX0 1 fL fdL ["pieces", "empty", "moves"] (spSlid K)) :
    FnOk P w K mg base (L2.CX P w) 6 f fd ["web", "loose", "moves"] (spDone CW CS CM CB) := by
  obtain ⟨fN, fdN, FN, gN, GN⟩ := T.need
  obtain ⟨fS, fdS, FS, gS, GS⟩ := T.loose
  obtain ⟨fR, fdR, FR, gR_, GR⟩ := T.rows
  have bN : Binds K fdN ["web"] [] := FN.bindsN fun _ _ _ _ _ _ us hl => match us, hl with | [_], _ => rfl
  have bS : Binds K fdS ["web", "loose"] [] := FS.bindsN fun _ _ _ _ _ _ us hl => match us, hl with | [_, _], _ => rfl
  have bM : Binds K fdM ["web", "moves"] [] := FM.bindsN fun _ _ _ _ _ _ us hl => match us, hl with | [_, _], _ => rfl
  have bR : Binds K fdR ["web"] [] := FR.bindsN fun _ _ _ _ _ _ us hl => match us, hl with | [_], _ => rfl
  have bD : Binds K fdD ["rows", "loose", "moves"] [] := FD.bindsN fun _ _ _ _ _ _ us hl => match us, hl with | [_, _, _], _ => rfl
  have bL : Binds K fdL ["pieces", "empty", "moves"] [] := FL.bindsN fun _ _ _ _ _ _ us hl => match us, hl with | [_, _, _], _ => rfl
  refine okX F scDone (fun vs H Q E h => ?_) (fun cdv A outer s H vs Q E0 hr h => ?_)
  · obtain ⟨v, dw, x, d, m, e, rfl, _⟩ := h
    rfl
  · have hr1 : Room 1 _ := hr.mono (by decide)
    have hr2 : Room 2 _ := hr.mono (by decide)
    have hr4 : Room 4 _ := hr.mono (by decide)
    have hr3 : Room 3 _ := hr.mono (by decide)
    refine ⟨_, (pss_cons (ps_expr (pe_call GN hr4 rfl gN FN.kp bN .nil (passes_call (takes_of rfl rfl rfl rfl) (fun _ _ _ _ h => h)) (pa_cons (pv 0) pa_nil)))
    (pss_cons (ps_expr (pe_call GS hr rfl gS FS.kp bS .nil (passes_call (takes_of rfl rfl rfl rfl) (fun _ _ _ _ h => h)) (pa_cons (pv 0) (pa_cons (pv 1) pa_nil))))
    (pss_cons (ps_expr (pe_call GM hr4 rfl gM FM.kp bM .nil (passes_call (takes_of rfl rfl rfl rfl) (fun _ _ _ _ h => h)) (pa_cons (pv 0) (pa_cons (pv 2) pa_nil))))
    (pss_cons (ps_expr (pe_call GD_ hr2 rfl gD FD.kp bD .nil (passes_call (takes_of rfl rfl rfl rfl) (fun _ _ _ _ h => h)) (pa_cons (pe_call GR hr1 rfl gR_ FR.kp bR .nil pass0 (pa_cons (pv 0) pa_nil)) (pa_cons (pv 1) (pa_cons (pv 2) pa_nil)))))
    (pss_one (ps_ret (pe_callTy (T := "tuple") call_tuple_ofZ (by rfl) TT (by decide +kernel) (pa_cons (pe_call GL hr1 rfl gL FL.kp bL .nil pass0 (pa_cons (pv 1) (pa_cons (pe_tm PySem.F.plainAttrs_tuple PySem.F.slot_tuple_index PySem.F.type_tuple_index mt_tindex (pv 1) (pa_cons pe_int pa_nil)) (pa_cons (pv 2) pa_nil)))) pa_nil)))))))), ?_⟩
    obtain ⟨v, dw, x, d, m, e, rfl, hv, hm, hx, ex, he, hb, q1, q2⟩ := h
    refine ⟨_, rfl, v, dw, rfl, hv, hm, fun ew H1 S1 => ?_, fun ew H1 S1 => q1 ew H1 S1⟩
    obtain ⟨n, ts, es, W⟩ := webD_is ew
    obtain ⟨q3, q4, q5⟩ := q2 n ts es W
    have n40 := W.n40
    refine ⟨_, rfl, _, rfl, v, n, ts, x, d, rfl, (th_web hv es).same S1, by omega, hx.mono S1, ex.same hx S1, fun el H2 S2 => ?_, fun el H2 S2 => q3 el H2 (S1.trans S2)⟩
    have S02 := S1.trans S2
    refine ⟨_, rfl, _, rfl, v, n, ts, m, e, rfl, (th_web hv es).same S02, he.mono S02, hb, fun em H3 S3 => ?_, fun em H3 S3 => q4 el em H3 (S02.trans S3)⟩
    have S03 := S02.trans S3
    obtain ⟨L, rfl, hL⟩ := looseD_is el
    obtain ⟨ms, rfl, hms⟩ := movesD_is em
    obtain ⟨q6, q7⟩ := q5 L ms rfl hL rfl hms
    obtain ⟨p, rfl, hp⟩ := loose_at (hx.mono S03) (ex.same hx S03)
    obtain ⟨pm, rfl, hpm⟩ := moves_at (he.mono S03)
    obtain ⟨b0, e1, e2⟩ := e0_at hL.zero
    rw [hL.len] at b0
    refine ⟨_, rfl, v, n, ts, rfl, (th_web hv es).same S03, by omega, by rw [shape_len es]; exact hm, fun t ht => (W.ti t ht).1, fun l ps H4 S4 nl nps R4 => ?_⟩
    have S04 := S03.trans S4
    refine ⟨_, rfl, _, rfl, l, p, pm, ps, rowsOf n ts, L, ms, rfl, R4, hp.same S4, hL.zero, by rw [rowsOf_len]; exact hL.len, S4 _ _ hpm, by rw [rowsOf_len]; exact hms, fun et H5 S5 => ?_, fun et H5 S5 => q6 et H5 (S04.trans S5)⟩
    have S05 := S04.trans S5
    have S35 := S4.trans S5
    refine ⟨_, rfl, _, rfl, ⟨p, _, rfl, hp.same S35⟩, p, L, 0, L.idxOf 0, rfl, rfl, (hp.same S35).sq, e1, e2, _, rfl, p, pm, L, ms, e0 L, rfl, .inr (hp.same S35).sq, SqL.of (S35 _ _ hpm), by rw [hL.len]; exact b0, by rw [hL.len]; exact hms, by rw [hL.len]; omega, fun a H6 S6 na ha => ?_⟩
    exact ⟨a, _, rfl, .inl ⟨SqL.of ha, fun t H7 nt S7 ht => q7 et t H7 ((S05.trans S6).trans S7) ht⟩⟩
end
end Sb

/-! ## TD42 -/
/-! Tours: done_many. -/
namespace Sb
open PySem PySem.Spec PyProof.Rows L2
abbrev sDoneMany : Stmt := top 39
theorem mt_tindexK {X : Cx} {K : PySem.W.Frag} (hK : X.K = K := by rfl) : MtR X "tuple.index" (rIxTI K) := hK ▸ mt_tindex
theorem cutV_hiT {xs : List V} {k : Nat} (h : k ≤ xs.length) : cutV xs none (some (k : Int)) = xs.take k := by
  unfold cutV
  rw [HT.sIx_none, HT.sIx_nat, List.drop_zero, Nat.sub_zero, Nat.min_eq_left h]
theorem cutV_loT {xs : List V} {k : Nat} (h : k ≤ xs.length) : cutV xs (some (k : Int)) none = xs.drop k := by
  unfold cutV
  rw [HT.sIx_none, HT.sIx_nat, Nat.min_eq_left h]
  exact List.take_of_length_le (by rw [List.length_drop]; omega)
def countD : PyData → Bool
  | .int z => decide (0 ≤ z) && decide (z ≤ 10 ^ 30)
  | _ => false
structure KitM (P : Program) (w : World) (K : PySem.W.Frag) (mg : Str → Option Value) (base : Heap) (CW CS CT : Addr) : Prop where
  need : ∃ f fd, FnP K "need_web" sNeed f fd ∧ mg "need_web" = some (.ref f) ∧ FnOk P w K mg base (L2.CX P w) 4 f fd ["web"] (spNeedN CW)
  loose : ∃ f fd, FnP K "need_loose" sNeedL f fd ∧ mg "need_loose" = some (.ref f) ∧ FnOk P w K mg base (L2.CX P w) 5 f fd ["web", "loose"] (spNeedL K CS)
  tour : ∃ f fd, FnP K "need_tour" sNeedTour f fd ∧ mg "need_tour" = some (.ref f) ∧ FnOk P w K mg base (L2.CX P w) 4 f fd ["web", "bay", "tour"] (spNeedTour K CT)
  turn : ∃ f fd, FnP K "turn_of" sTurnOf f fd ∧ mg "turn_of" = some (.ref f) ∧ FnOk P w K mg base CX0 2 f fd ["web", "bay", "tour"] (spTurnOf K)
  cyc : ∃ f fd, FnP K "cycles_of" sCycles f fd ∧ mg "cycles_of" = some (.ref f) ∧ FnOk P w K mg base CX0 1 f fd ["turn"] (spCycles K)
  whole : ∃ f fd, FnP K "is_whole" sWhole f fd ∧ mg "is_whole" = some (.ref f)
structure DmTxt (mg : Str → Option Value) : Prop extends WebTxt mg where
  list : mg "list" = none
  zip : mg "zip" = none
  most : ∃ t, mg "MOST_TIMES" = some (.int (10 ^ 30) t)
def spDoneMany (CW CS CT CN : Addr) : Sp := fun vs H Q E => ∃ v dw x d m e k dk, vs = [v, x, m, k] ∧ Th H v dw ∧ tiesOf dw ≤ 100000 ∧ Th H x d ∧ ExV H x ∧ Th H m e ∧ e.bulk ≤ 100000 ∧ Th H k dk ∧ (webD dw = false → ∀ H', Same H H' → E (.ref CW) none H') ∧
  ∀ (n : Nat) ts, shapeD dw = some ((n : Int), ts) → WebP n ts → (looseD n d = false → ∀ H', Same H H' → E (.ref CS) none H') ∧
    (∀ L : List Int, d = .tuple (L.map PyData.int) → LooseP n L → (tourD n (rowsOf n ts) (e0 L) e = false → ∀ H', Same H H' → E (.ref CT) none H') ∧
      (tourD n (rowsOf n ts) (e0 L) e = true → (countD dk = false → ∀ H', Same H H' → E (.ref CN) none H') ∧
        ∀ z : Int, dk = .int z → 0 ≤ z → z ≤ 10 ^ 30 → ∀ p (M : List Int) H', Same H H' → M.length = n → (∀ v, v < n → M[Cy.itr (goS (e0 L).toNat ((msOf e).map Int.toNat)) z.toNat v]? = L[v]?) → TupZ H' p (M.map V.int) → Q (.ref p) H'))
section
variable {P : Program} {w : World} {K : PySem.W.Frag} {mg : Str → Option Value} {base : Heap} {CW CS CT CN : Addr}
abbrev scDoneManyN : List Str := ["web", "loose", "tour", "times", "empty", "after", "bays", "rest", "bay", "end"]
theorem scDoneMany : FnScope ["web", "loose", "tour", "times", "empty", "after", "bays", "rest", "bay", "end"] ["web", "loose", "tour", "times"] (defScope sDoneMany) := ⟨rfl, rfl, rfl, by decide +kernel, rfl, by decide +kernel, by decide +kernel⟩
theorem ok_doneMany {f : Addr} {fd : FuncData} (F : FnP K "done_many" sDoneMany f fd) (T : DmTxt mg) (EN : ErrN K mg "NoCount" CN) (TK : KitM P w K mg base CW CS CT) : FnOk P w K mg base (L2.CX P w) 6 f fd ["web", "loose", "tour", "times"] (spDoneMany CW CS CT CN) := by
  obtain ⟨fN, fdN, FN, gN, GN⟩ := TK.need
  obtain ⟨fL, fdL, FL, gL, GL⟩ := TK.loose
  obtain ⟨fT, fdT, FT, gT, GT⟩ := TK.tour
  obtain ⟨fO, fdO, FO, gO, GO⟩ := TK.turn
  obtain ⟨fC, fdC, FC, gC, GC⟩ := TK.cyc
  obtain ⟨fW, fdW, FW, gW⟩ := TK.whole
  obtain ⟨tg, hmost⟩ := T.most
  have GW : FnOk P w K mg base CX0 1 fW fdW ["thing"] spWholeT := ok_wholeT FW T.toWebTxt
  have bN : Binds K fdN ["web"] [] := FN.bindsN fun _ _ _ _ _ _ us hl => match us, hl with | [_], _ => rfl
  have bL : Binds K fdL ["web", "loose"] [] := FL.bindsN fun _ _ _ _ _ _ us hl => match us, hl with | [_, _], _ => rfl
  have bT : Binds K fdT ["web", "bay", "tour"] [] := FT.bindsN fun _ _ _ _ _ _ us hl => match us, hl with | [_, _, _], _ => rfl
  have bO : Binds K fdO ["web", "bay", "tour"] [] := FO.bindsN fun _ _ _ _ _ _ us hl => match us, hl with | [_, _, _], _ => rfl
  have bC : Binds K fdC ["turn"] [] := FC.bindsN fun _ _ _ _ _ _ us hl => match us, hl with | [_], _ => rfl
  have bW : Binds K fdW ["thing"] [] := FW.bindsN fun _ _ _ _ _ _ us hl => match us, hl with | [_], _ => rfl
  refine okX F scDoneMany (fun vs H Q E h => ?_) (fun cdv A outer s H vs Q E0 hr h => ?_)
  · obtain ⟨v, dw, x, d, m, e, k, dk, rfl, _⟩ := h
    rfl
  · have hr1 : Room 1 _ := hr.mono (by decide)
    have hr2 : Room 2 _ := hr.mono (by decide)
    have hr4 : Room 4 _ := hr.mono (by decide)
    refine ⟨_, (pss_cons (ps_expr (pe_call GN hr4 rfl gN FN.kp bN .nil (passes_call (takes_of rfl rfl rfl rfl) (fun _ _ _ _ h => h)) (pa_cons (pv 0) pa_nil)))
    (pss_cons (ps_expr (pe_call GL hr rfl gL FL.kp bL .nil (passes_call (takes_of rfl rfl rfl rfl) (fun _ _ _ _ h => h)) (pa_cons (pv 0) (pa_cons (pv 1) pa_nil))))
    (pss_cons (ps_set (i := 4) scDoneMany.nd rfl (Or.inl rfl) (pe_tm PySem.F.plainAttrs_tuple PySem.F.slot_tuple_index PySem.F.type_tuple_index mt_tindex (pv 1) (pa_cons pe_int pa_nil)))
    (pss_cons (ps_expr (pe_call GT hr4 rfl gT FT.kp bT .nil (passes_call (takes_of rfl rfl rfl rfl) (fun _ _ _ _ h => h)) (pa_cons (pv 0) (pa_cons (pv 4) (pa_cons (pv 2) pa_nil)))))
    (pss_cons (ps_if (PW.pt (pw_or (pt_not (pt_val (pe_call GW hr1 rfl gW FW.kp bW .nil pass0 (pa_cons (pv 3) pa_nil)))) (pw_or1 (pt_not (pt_chain op_le op_le pe_int (pv 3) (pe_glob (v := .int (10 ^ 30)) rfl hmost ⟨_, rfl⟩))))))
      (pss_one (ps_raise rfl (takes_of rfl rfl rfl rfl) (pmk_own PySem.F.excBase_ValueError EN.ex EN.gs EN.kp (raises_own EN.su EN.ty) rfl)))
      pss_nil)
    (PSs.nox (pss_cons (ps_set (i := 5) scDoneMany.nd rfl (Or.inl rfl) (pe_callTy (T := "list") call_list_ofL (by rfl) T.list (by decide +kernel) (pa_cons (pv 1) pa_nil)))
    (pss_cons (ps_for PassesOwn.never rfl (pi_list (pe_call GC hr1 rfl gC FC.kp bC .nil pass0 (pa_cons (pe_call GO hr2 rfl gO FO.kp bO .nil pass0 (pa_cons (pv 0) (pa_cons (pv 4) (pa_cons (pv 2) pa_nil)))) pa_nil))) (pg_name (i := 6) scDoneMany.nd rfl (Or.inl rfl))
      (pss_cons (ps_set (i := 7) scDoneMany.nd rfl (Or.inl rfl) (pe_op op_mod (pv 3) (pe_callB (id := "len") call_len_seq (by rfl) T.len (by decide +kernel) (pa_cons (pv 6) pa_nil))))
    (pss_one (ps_for PassesOwn.never rfl (pi_zip (by rfl) T.zip (pa_cons (pv 6) (pa_cons (pe_op op_catL (pe_slice sl_listL (pv 6) (po_some (pv 7)) po_none) (pe_slice sl_listL (pv 6) po_none (po_some (pv 7)))) pa_nil))) (pg_tup (by rfl) (pgs_cons (pg_name (i := 8) scDoneMany.nd rfl (Or.inl rfl)) (pgs_cons (pg_name (i := 9) scDoneMany.nd rfl (Or.inl rfl)) pgs_nil)))
      (pss_one (ps_asg (pe_ix ix_tup (pv 1) (pv 8) (fun _ _ => rfl)) (pg_sub (pv 5) (pv 9) set_listL)))))))
    (pss_one (ps_ret (pe_callTy (T := "tuple") call_tuple_ofZ (by rfl) T.tuple (by decide +kernel) (pa_cons (pv 5) pa_nil)))))))))))), ?_⟩
    obtain ⟨v, dw, x, d, m, e, k, dk, rfl, hv, hm, hx, ex, he, hb, hk, q1, q2⟩ := h
    refine ⟨_, rfl, v, dw, rfl, hv, hm, fun ew H1 S1 => ?_, fun ew H1 S1 => q1 ew H1 S1⟩
    obtain ⟨n, ts, es, W⟩ := webD_is ew
    obtain ⟨q3, q4⟩ := q2 n ts es W
    have n40 := W.n40
    have hl : ts.length ≤ 100000 := by rw [shape_len es]; exact hm
    refine ⟨_, rfl, _, rfl, v, n, ts, x, d, rfl, (th_web hv es).same S1, by omega, hx.mono S1, ex.same hx S1, fun el H2 S2 => ?_, fun el H2 S2 => q3 el H2 (S1.trans S2)⟩
    have S02 := S1.trans S2
    obtain ⟨L, rfl, hL⟩ := looseD_is el
    obtain ⟨q5, q6⟩ := q4 L rfl hL
    obtain ⟨p, rfl, hp⟩ := loose_at (hx.mono S02) (ex.same hx S02)
    obtain ⟨b0, e1, e2⟩ := e0_at hL.zero
    rw [hL.len] at b0
    refine ⟨_, rfl, ⟨p, _, rfl, hp⟩, p, L, 0, L.idxOf 0, rfl, rfl, hp.sq, e1, e2, ?_⟩
    refine ⟨_, rfl, _, rfl, _, rfl, v, n, ts, e0 L, m, e, rfl, (th_web hv es).same S02, by omega, hl, fun t ht => (W.ti t ht).1, he.mono S02, hb, b0, fun et H3 S3 => ?_, fun et H3 S3 => q5 et H3 (S02.trans S3)⟩
    have S03 := S02.trans S3
    obtain ⟨q7, q8⟩ := q6 et
    obtain ⟨ee, hms, _, _⟩ := tourD_is et
    rw [ee] at he
    obtain ⟨pm, rfl, hpm⟩ := moves_atT he
    generalize hmse : msOf e = ms at hpm hms q8
    have hmn : ∀ b ∈ ms.map Int.toNat, b < n := fun b hb => by
      obtain ⟨c, hc, rfl⟩ := List.mem_map.mp hb
      have := hms c hc
      have := this.1
      have := (hms c hc).2
      omega
    refine ⟨_, rfl, k, dk, rfl, hk.mono S03, _, rfl, ?_⟩
    cases ew : wholeD dk with
    | false => exact iteD rfl (iteD rfl (q7 (by cases dk <;> first | rfl | cases ew) H3 S03))
    | true =>
      obtain ⟨z, rfl⟩ : ∃ z : Int, dk = .int z := by cases dk <;> first | exact ⟨_, rfl⟩ | cases ew
      obtain rfl := th_int hk
      refine iteC rfl ⟨_, rfl, _, _, rfl, rfl, _, rfl, ?_⟩
      have ec : countD (.int z) = (decide (0 ≤ z) && decide (z ≤ 10 ^ 30)) := rfl
      rw [ec] at q7
      by_cases h0 : 0 ≤ z
      · rw [decide_eq_true h0, Bool.true_and] at q7
        refine iteD (decide_eq_true h0) ⟨_, _, rfl, rfl, _, rfl, ?_⟩
        by_cases h1 : z ≤ 10 ^ 30
        · rw [decide_eq_true h1]
          refine iteC rfl ?_
          have q8 := q8 z rfl h0 h1
          clear q7
          refine ⟨_, rfl, p, _, rfl, .inr (hp.same S3).sq, fun a H4 n4 S4 h4 => ?_⟩
          have S04 := S03.trans S4
          refine ⟨_, rfl, _, rfl, _, rfl, v, pm, n, ts, e0 L, ms, rfl, (th_web hv es).same S04, by omega, SqL.of (S04 _ _ hpm), b0, hms, fun p3 H5 S5 n5 h5 => ?_⟩
          have b0' := b0.1
          have b0'' := b0.2
          have flt : ∀ x, x < n → goS (e0 L).toNat (ms.map Int.toNat) x < n := fun x hx => goS_lt _ _ _ (by omega) hmn hx
          have finj : ∀ x y, x < n → y < n → goS (e0 L).toNat (ms.map Int.toNat) x = goS (e0 L).toNat (ms.map Int.toNat) y → x = y := fun x y _ _ h => goS_inj _ _ _ _ h
          generalize goS (e0 L).toNat (ms.map Int.toNat) = g at flt finj h5 q8
          refine ⟨p3, n, g, rfl, SqT.of h5, by omega, flt, finj, fun D zs H6 S6 nD hD hzs rd nd => ?_⟩
          have S46 := S5.trans S6
          have S06 := S04.trans S46
          have h6 := S46 _ _ h4
          have naD : a ≠ D := fun q => by
            rw [q] at h4
            rw [S5 _ _ h4] at nD
            cases nD
          have naz : ∀ z ∈ zs, z.1 ≠ a := fun z hz q => by
            have := (hzs z hz).2
            rw [q, S5 _ _ h4] at this
            cases this
          have nda : ∀ z ∈ zs, ∀ v ∈ z.2, v < n := fun z hz v hv => rd.inn z.2 (List.mem_map.mpr ⟨z, hz, rfl⟩) v hv
          have hLl := hL.len
          refine ⟨D, rfl, ⟨_, SqL.of hD⟩, for_list (K := K) (a := D) (xs := zs.map fun z => V.ref z.1) (fun i σ H' => (∃ u1 u2 u3 u4, σ = [some v, some (.ref p), some (.ref pm), some (.int z), some (.int ((List.idxOf 0 L : Nat) : Int)), some (.ref a), u1, u2, u3, u4]) ∧ But a H6 H' ∧ ∃ A : List Int, A.length = n ∧ H' a = some (.lst (A.map V.int)) ∧ ∀ v ∈ ((zs.map Prod.snd).take i).flatten, v < n ∧ A[Cy.itr g z.toNat v]? = L[v]?) ⟨⟨_, _, _, _, rfl⟩, sameBut (Same.refl _), L, hL.len, h6, fun v hv => by rw [List.take_zero] at hv; cases hv⟩ (fun i σ H' _ ⟨_, B, _⟩ => SqL.of (B _ _ naD.symm hD)) ?_ ?_⟩
          · rintro i y σ H7 hi ⟨⟨u1, u2, u3, u4, rfl⟩, B7, A, lA, h7, hA⟩
            rw [List.getElem?_map] at hi
            obtain ⟨zz, hz, rfl⟩ := Option.map_eq_some_iff.mp hi
            have hzm := List.mem_of_getElem? hz
            have hc : (zs.map Prod.snd)[i]? = some zz.2 := by rw [List.getElem?_map, hz]; rfl
            obtain ⟨s0, cyc⟩ := rd.each zz.2 (List.mem_of_getElem? hc)
            have lz : (natI zz.2).length = zz.2.length := by unfold natI; rw [List.length_map, List.length_map]
            have tk := take_more hc
            have hzz := B7 _ _ (naz zz hzm) (hzs zz hzm).1
            have hcp := cyc.pos
            have ln : zz.2.length ≤ n := by
              have h1 := flat_few nd rd.inn
              have h2 := List.mem_of_getElem? hc
              have h3 : zz.2.length ≤ (zs.map Prod.snd).flatten.length := (List.sublist_flatten_of_mem h2).length_le
              omega
            refine ⟨_, rfl, _, rfl, zz.1, _, rfl, .inl (SqL.of hzz), _, _, rfl, rfl, by rw [lz]; omega, ?_⟩
            have er : z % ((natI zz.2).length : Int) = ((z.toNat % zz.2.length : Nat) : Int) := by rw [lz, Int.natCast_emod, Int.toNat_of_nonneg h0]
            have gcv : ∀ {i : Nat} {x x' : V} {σ : L2.St} {H : Hp} {R : L2.St → Hp → Prop}, x = x' → gName i x' σ H R → gName i x σ H R := fun e h => by rw [e]; exact h
            refine gcv (congrArg V.int er) ?_
            clear er gcv
            have rlt := Nat.mod_lt z.toNat hcp
            refine ⟨_, rfl, _, rfl, _, rfl, _, rfl, zz.1, _, rfl, SqL.of hzz, fun d1 H8 n8 S8 h8 => ⟨_, rfl, _, rfl, _, rfl, zz.1, _, rfl, SqL.of (S8 _ _ hzz), fun d2 H9 n9 S9 h9 => ?_⟩⟩
            have ln2 : zz.2.length ≤ 1000 := by omega
            rw [cutV_loT (by rw [lz]; omega)] at h8
            rw [cutV_hiT (by rw [lz]; omega)] at h9
            refine ⟨d1, d2, _, _, rfl, rfl, S9 _ _ h8, h9, by rw [List.length_drop, List.length_take, lz, sizeLine_eq]; omega, fun d3 H10 n10 S10 h10 => ?_⟩
            have h10 : H10 d3 = some (.lst (natI (zz.2.drop (z.toNat % zz.2.length) ++ zz.2.take (z.toNat % zz.2.length)))) := by
              rw [h10]
              unfold natI
              rw [List.map_append, List.map_append, List.map_drop, List.map_drop, List.map_take, List.map_take]
            have S710 := (S8.trans S9).trans S10
            have hrot : ∀ j b, zz.2[j]? = some b → (zz.2.drop (z.toNat % zz.2.length) ++ zz.2.take (z.toNat % zz.2.length))[j]? = some (Cy.itr g z.toNat b) := fun j b hb => cyc.rot z.toNat hb
            have lrot : (zz.2.drop (z.toNat % zz.2.length) ++ zz.2.take (z.toNat % zz.2.length)).length = zz.2.length := by rw [List.length_append, List.length_drop, List.length_take]; omega
            generalize zz.2.drop (z.toNat % zz.2.length) ++ zz.2.take (z.toNat % zz.2.length) = rot at h10 hrot lrot
            have nd3 : d3 ≠ a := (ne_of_none ((S8.trans S9) _ _ h7) n10).symm
            have B10 : But a H6 H10 := fun b o nb hb => S710 _ _ (B7 _ _ nb hb)
            have lr : (natI rot).length = rot.length := by unfold natI; rw [List.length_map, List.length_map]
            refine ⟨zz.1, d3, _, _, rfl, SqL.of (S710 _ _ hzz), SqL.of h10, RZ.for_zipL (K := K) (a := zz.1) (b := d3) (xs := natI zz.2) (ys := natI rot) (by rw [lz, lr, lrot]) (fun j σ H' => (∃ u8 u9, σ = [some v, some (.ref p), some (.ref pm), some (.int z), some (.int ((List.idxOf 0 L : Nat) : Int)), some (.ref a), some (.ref zz.1), some (.int ((z.toNat % zz.2.length : Nat) : Int)), u8, u9]) ∧ But a H6 H' ∧ H' d3 = some (.lst (natI rot)) ∧ ∃ A : List Int, A.length = n ∧ H' a = some (.lst (A.map V.int)) ∧ ∀ v ∈ ((zs.map Prod.snd).take i).flatten ++ zz.2.take j, v < n ∧ A[Cy.itr g z.toNat v]? = L[v]?) ⟨⟨_, _, rfl⟩, B10, h10, A, lA, S710 _ _ h7, fun v hv => hA v (by rw [List.take_zero, List.append_nil] at hv; exact hv)⟩ (fun j σ H' ⟨_, B, hd, _⟩ => ⟨SqL.of (B _ _ (naz zz hzm) (hzs zz hzm).1), SqL.of hd⟩) ?_ ?_⟩
            · rintro j x y T σ H' hx hy ⟨⟨u8, u9, rfl⟩, B', hd3, A', lA', ha', hA'⟩ nT
              obtain ⟨xb, hb0, rfl⟩ := getMap hx
              rw [List.getElem?_map] at hb0
              obtain ⟨b, hb, rfl⟩ := Option.map_eq_some_iff.mp hb0
              clear hb0
              obtain ⟨yb, hyb, rfl⟩ := getMap hy
              rw [List.getElem?_map, hrot j b hb] at hyb
              cases Option.some.inj hyb
              have hbn := nda zz hzm b (List.mem_of_getElem? hb)
              have hLb : L[b]? = some (L.getD b 0) := by rw [List.getD_eq_getElem?_getD, List.getElem?_eq_getElem (by omega)]; rfl
              have St : Same H' (upd H' T (.tup [V.int ((b : Nat) : Int), V.int ((Cy.itr g z.toNat b : Nat) : Int)])) := same_upd nT
              refine ⟨T, _, rfl, .inl (.inl upd_same), rfl, _, _, rfl, _, _, rfl, rfl, ?_⟩
              generalize upd H' T (.tup [V.int ((b : Nat) : Int), V.int ((Cy.itr g z.toNat b : Nat) : Int)]) = H11 at St
              have hp11 : TupZ H11 p (L.map V.int) := by
                obtain ⟨o, dd, ho⟩ := hp.same S3
                exact ⟨o, dd, St _ _ (B' _ _ (fun q => by rw [q, n4] at ho; cases ho) (S46 _ _ (S4 _ _ ho)))⟩
              have ha11 := St _ _ ha'
              have hd11 := St _ _ hd3
              refine ⟨_, rfl, _, rfl, p, _, _, .int (L.getD b 0), rfl, rfl, hp11.sq, at_of (j := b) rfl (by rw [List.getElem?_map, hLb]; rfl), _, rfl, _, rfl, a, _, ((Cy.itr g z.toNat b : Nat) : Int), Cy.itr g z.toNat b, rfl, rfl, ha11, ixN_nat (by rw [List.length_map, lA']; exact Cy.itr_back finj flt hbn), fun H12 B12 h12 => ?_⟩
              refine ⟨⟨_, _, rfl⟩, fun b' o nb hb' => B12 _ _ nb (St _ _ (B' _ _ nb hb')), B12 _ _ nd3 hd11, A'.set (Cy.itr g z.toNat b) (L.getD b 0), by rw [List.length_set, lA'], by rw [h12, List.map_set], ?_⟩
              rw [take_more hb, ← List.append_assoc]
              exact Cy.put_on flt finj lA' hA' hbn hLb
            · rintro σ H' ⟨⟨u8, u9, rfl⟩, B', hd3, A', lA', ha', hA'⟩
              refine ⟨⟨_, _, _, _, rfl⟩, B', A', lA', ha', fun v hv => hA' v ?_⟩
              rw [lz, List.take_length]
              rw [tk, List.flatten_append] at hv
              simpa using hv
          · rintro σ H7 ⟨⟨u1, u2, u3, u4, rfl⟩, B7, A, lA, h7, hA⟩
            rw [List.length_map, ← List.length_map (f := Prod.snd), List.take_length] at hA
            have Sbut : Same H H7 := same_but S03 (S03.free n4) (fun b o nb hb => B7 _ _ nb (S46 _ _ (S4 _ _ hb)))
            refine ⟨_, rfl, a, _, rfl, .inl ⟨SqL.of h7, fun t H8 nt S8 ht => ?_⟩⟩
            refine q8 t A H8 (Sbut.trans S8) lA (fun v hv => ?_) ht
            obtain ⟨c, hc, hm⟩ := rd.all v hv
            exact (hA v (List.mem_flatten.mpr ⟨c, hc, hm⟩)).2
        · rw [decide_eq_false h1] at q7 ⊢
          exact iteD rfl (q7 rfl H3 S03)
      · rw [decide_eq_false h0, Bool.false_and] at q7
        exact iteC (decide_eq_false h0) ⟨_, rfl, iteD rfl (q7 rfl H3 S03)⟩
end
end Sb

/-! ## TW42 -/
/-! The law's tours. -/
namespace Sb
open PySem PySem.Spec PyProof.Rows L2
abbrev sAnyTour : Stmt := top 63
theorem but_free {p a : Addr} {H H' : Hp} (B : But p H H') (hp : ∃ xs, H' p = some (.lst xs)) (n : H' a = none) : H a = none := by
  cases e : H a with
  | none => rfl
  | some o =>
    by_cases q : a = p
    · obtain ⟨xs, h⟩ := hp
      rw [q, h] at n
      cases n
    · rw [B _ _ q e] at n
      cases n
def spAnyTour : Sp := fun vs H Q _ => ∃ (p c r : Addr) (k n : Nat) (ts : List (Int × Int)) (b : Int), vs = [.ref p, .ref r, .int b] ∧ Pen H p c k ∧ k < 700000 ∧ WebH H r n ts ∧ WebP n ts ∧ ts.length ≤ 1000 ∧ Bay n b ∧
  ∀ (q : Addr) H' (ms : List Int) k', But p H H' → H q = none → q ≠ p → H' q = some (.lst (ms.map V.int)) → TourP n (rowsOf n ts) b ms → ms.length ≤ 100 → k' ≤ k + 20 → Pen H' p c k' → Q (.ref q) H'
section
variable {P : Program} {w : World} {K : PySem.W.Frag} {mg : Str → Option Value} {base : Heap}
abbrev scAnyTourN : List Str := ["pen", "web", "bay", "found", "here", "turn"]
theorem scAnyTour : FnScope ["pen", "web", "bay", "found", "here", "turn"] ["pen", "web", "bay"] (defScope sAnyTour) := ⟨rfl, rfl, rfl, by decide +kernel, rfl, by decide +kernel, by decide +kernel⟩
theorem ok_anyTour {f fT fO fN fL : Addr} {fd fdT fdO fdN fdL : FuncData} (F : FnP K "_law_any_tour" sAnyTour f fd) (T : MvTxt mg) (FT : FnP K "_law_take" sTake fT fdT) (gT : mg "_law_take" = some (.ref fT)) (GT : FnOk P w K mg base CX0 2 fT fdT ["pen", "many"] spTake)
    (FO : FnP K "_law_one_of" sOneOf fO fdO) (gO : mg "_law_one_of" = some (.ref fO)) (GO : FnOk P w K mg base CX0 3 fO fdO ["pen", "some"] (spOneOf K))
    (FN : FnP K "_law_near" sNear fN fdN) (gN : mg "_law_near" = some (.ref fN)) (GN : FnOk P w K mg base CX0 1 fN fdN ["ties", "bay"] (spNear K)) (FL : FnP K "_law_path" sLPath fL fdL) (gL : mg "_law_path" = some (.ref fL)) (GL : FnOk P w K mg base CX0 3 fL fdL ["web", "a", "b"] (spLPath K)) : FnOk P w K mg base CX0 4 f fd ["pen", "web", "bay"] spAnyTour := by
  have bT : Binds K fdT ["pen", "many"] [] := FT.bindsN fun _ _ _ _ _ _ us hl => match us, hl with | [_, _], _ => rfl
  have bO : Binds K fdO ["pen", "some"] [] := FO.bindsN fun _ _ _ _ _ _ us hl => match us, hl with | [_, _], _ => rfl
  have bN : Binds K fdN ["ties", "bay"] [] := FN.bindsN fun _ _ _ _ _ _ us hl => match us, hl with | [_, _], _ => rfl
  have bL : Binds K fdL ["web", "a", "b"] [] := FL.bindsN fun _ _ _ _ _ _ us hl => match us, hl with | [_, _, _], _ => rfl
  refine ok0 F scAnyTour (fun vs H Q E h => ?_) (fun cdv A outer s H vs Q E hr h => ?_)
  · obtain ⟨p, c, r, k, n, ts, b, rfl, _⟩ := h
    rfl
  · obtain ⟨p, c, r, k, n, ts, b, rfl, hp, hk, hW, W, hts, hb, q⟩ := h
    have hr1 : Room 1 _ := hr.mono (by decide)
    have hr2 : Room 2 _ := hr.mono (by decide)
    have hr3 : Room 3 _ := hr.mono (by decide)
    refine ⟨_, (pss_cons (ps_par (i := 3) (j := 4) (by rfl) scAnyTour.nd rfl rfl (by decide) rfl rfl (pa_cons (pe_lstL pa_nil) (pa_cons (pv 2) pa_nil)) (by rfl))
    (pss_cons (ps_for PassesOwn.never rfl (pi_range1 (by rfl) T.range (pa_cons (pe_call GT hr2 rfl gT FT.kp bT .nil pass0 (pa_cons (pv 0) (pa_cons pe_int pa_nil))) pa_nil)) (pg_name (i := 5) scAnyTour.nd rfl (Or.inl rfl))
      (pss_cons (ps_set (i := 4) scAnyTour.nd rfl (Or.inl rfl) (pe_call GO hr3 rfl gO FO.kp bO .nil pass0 (pa_cons (pv 0) (pa_cons (pe_call GN hr1 rfl gN FN.kp bN .nil pass0 (pa_cons (pe_ix ix_tup (pv 1) pe_int (fun _ _ => rfl)) (pa_cons (pv 4) pa_nil))) pa_nil))))
    (pss_one (ps_expr (pe_bm PySem.F.plainAttrs_list PySem.F.slot_list_append PySem.F.type_list_append mt_appendL (pv 3) (pa_cons (pv 4) pa_nil))))))
    (pss_one (ps_ret (pe_op op_catL (pv 3) (pe_call GL hr3 rfl gL FL.kp bL .nil pass0 (pa_cons (pv 1) (pa_cons (pv 4) (pa_cons (pv 2) pa_nil))))))))), ?_⟩
    obtain ⟨ys, hpy⟩ := pen_lst hp
    refine ⟨by show 0 ≤ sizeLine; decide, fun fa H1 n1 S1 h1 => ?_⟩
    have nfp : fa ≠ p := (ne_of_none hpy n1).symm
    refine ⟨_, rfl, _, _, rfl, ?_⟩
    refine ⟨_, rfl, p, c, k, _, rfl, hp.same S1, by decide, by decide, by omega, fun m H2 k2 m0 m1 B2 hk2 hp2 => ?_⟩
    have h2 := B2 _ _ nfp h1
    have B02 : But p H H2 := fun b o nb hb => B2 _ _ nb (S1 _ _ hb)
    refine ⟨m, rfl, by omega, by omega, for_range (lo := 0) (n := m.toNat) (fun i σ H' => ∃ (ms : List Int) (k' : Nat), (∃ u, σ = [some (.ref p), some (.ref r), some (.int b), some (.ref fa), some (.int (lastS b ms)), u]) ∧ But p H H' ∧ H' fa = some (.lst (ms.map V.int)) ∧ (∀ z ∈ ms, Bay n z) ∧ tiedS (rowsOf n ts) b ms = true ∧ ms.length = i ∧ k' ≤ k2 + i ∧ Pen H' p c k') ⟨[], k2, ⟨_, rfl⟩, B02, h2, (fun z hz => by cases hz), rfl, rfl, Nat.le_refl _, hp2⟩ ?_ ?_⟩
    · rintro i σ H' hi ⟨ms, k', ⟨u, rfl⟩, B, hf, hms, ht, hlen, hk', hpn⟩
      have hbay := lastS_bay ms b hb hms
      have hW' := hW.mono fun b xs hb => B b _ (fun z => by rw [z, hpy] at hb; cases hb) hb
      obtain ⟨wa, wt2, ewa, hwa, hT2⟩ := hW'.at (K := K)
      cases ewa
      refine ⟨_, rfl, _, rfl, r, _, _, _, rfl, rfl, hwa, at_of (j := 1) rfl rfl, _, rfl, wt2, ts, _, rfl, hT2, by omega, fun out nl H3 hpm hst S3 nn hn => ?_⟩
      have eo : out = gR (rowsOf n ts) (lastS b ms) := near_row (n := n) hbay.1 W.asc W.inn hpm hst
      subst eo
      have hne := has_near W (v := lastS b ms) hbay.1 hbay.2
      have hlr : (gR (rowsOf n ts) (lastS b ms)).length ≤ 2 * ts.length := by
        have q := rowsOf_small n ts ts.length (lastS b ms).toNat
        rw [List.take_length] at q
        exact q
      obtain ⟨ys', hpy'⟩ := pen_lst hpn
      have ncf : c ≠ fa := (hp.new n1).2
      refine ⟨p, c, nl, k', _, rfl, hpn.same S3, SqL.of hn, (ne_of_none hpy' nn).symm, ?_, by rw [List.length_map]; omega, by omega, fun j v2 H4 k4 hv B4 hk4 hp4 => ?_⟩
      · rw [List.length_map]
        exact List.length_pos_iff.mpr hne
      obtain ⟨b', hb', rfl⟩ := getMap hv
      have hbm := List.mem_of_getElem? hb'
      have hbb : Bay n b' := W.rin _ b' hbm
      have hf4 := B4 _ _ nfp (S3 _ _ hf)
      refine ⟨_, rfl, .inl ⟨rfl, _, SqL.of hf4⟩, _, rfl, fa, _, _, rfl, rfl, hf4, by rw [List.length_map]; exact small1000 (by omega), fun H5 B5 h5 => ?_⟩
      have el : lastS b (ms ++ [b']) = b' := by
        rw [lastS_app]
        rfl
      rw [← el] at hbm hbb
      refine ⟨ms ++ [b'], k4, ⟨some (.int (0 + (i : Nat))), by rw [el]; rfl⟩, fun a o na ha => B5 _ _ (ne_of_none ha n1) (B4 _ _ na (S3 _ _ (B _ _ na ha))), by rw [h5, List.map_append]; rfl, fun d hd => ?_, ?_, by rw [List.length_append, hlen]; rfl, by omega, hp4.at (fun o e => B5 _ _ nfp.symm e) (fun o e => B5 _ _ ncf e)⟩
      · rcases List.mem_append.mp hd with z | z
        · exact hms d z
        · rw [List.mem_singleton.mp z, ← el]
          exact hbb
      · rw [tiedS_app, ht, Bool.true_and]
        show (decide (b' ∈ gR (rowsOf n ts) (lastS b ms)) && true) = true
        rw [el] at hbm
        rw [decide_eq_true hbm]
        rfl
    · rintro σ H' ⟨ms, k', ⟨u, rfl⟩, B, hf, hms, ht, hlen, hk', hpn⟩
      have hbay := lastS_bay ms b hb hms
      have hW' := hW.mono fun b xs hb => B b _ (fun z => by rw [z, hpy] at hb; cases hb) hb
      obtain ⟨p1, p2, p3⟩ := path_tour W hbay.1 hbay.2 hb.1 hb.2
      have pb := path_bays W hbay.1 hbay.2 hb.1 hb.2
      have n40 := W.n40
      refine ⟨_, rfl, _, rfl, _, rfl, _, rfl, .ref r, n, ts, _, _, rfl, hW'.at, W, by omega, hbay.1, hbay.2, hb.1, hb.2, fun l H3 S3 nl hl => ?_⟩
      refine ⟨fa, l, _, _, rfl, rfl, S3 _ _ hf, hl, by rw [List.length_map, List.length_map, sizeLine_eq]; omega, fun l2 H4 n4 S4 h4 => ?_⟩
      have S34 := S3.trans S4
      refine q l2 H4 (ms ++ pathOf n ts (lastS b ms) b) k' (fun b o nb hb => S34 _ _ (B _ _ nb hb)) ?_ ?_ (by rw [h4, List.map_append]) ⟨fun z hz => ?_, ?_, ?_⟩ ?_ (by omega) (hpn.same S34)
      · exact but_free B (pen_lst hpn) (S3.free n4)
      · exact (ne_of_none (S3 _ _ (pen_lst hpn).choose_spec) n4).symm
      · rcases List.mem_append.mp hz with h | h
        · exact hms z h
        · exact pb z h
      · rw [tiedS_app, ht, p1]
        rfl
      · rw [lastS_app, p2]
      · rw [List.length_append]
        omega
/-! ### so many times -/
abbrev sTimes : Stmt := top 64
abbrev sOrder : Stmt := top 65
def spTimes (K : PySem.W.Frag) : Sp := fun vs H Q _ => ∃ (wv : V) (sa tl : Addr) (n : Nat) (L ms : List Int) (t : Nat), vs = [wv, .ref sa, .ref tl, .int (t : Int)] ∧ TupZ H sa (L.map V.int) ∧ SqL K H tl (ms.map V.int) ∧ LooseP n L ∧ (∀ b ∈ ms, Bay n b) ∧ t ≤ 1000 ∧
  ∀ (sb : Addr) H', Same H H' → TupZ H' sb ((tmS ms t L).map V.int) → Q (.ref sb) H'
abbrev scTimesN : List Str := ["web", "standing", "tour", "times", "turn", "bay"]
theorem scTimes : FnScope ["web", "standing", "tour", "times", "turn", "bay"] ["web", "standing", "tour", "times"] (defScope sTimes) := ⟨rfl, rfl, rfl, by decide +kernel, rfl, by decide +kernel, by decide +kernel⟩
theorem ok_times {f fM : Addr} {fd fdM : FuncData} (F : FnP K "_law_times" sTimes f fd) (T : MvTxt mg) (FM : FnP K "_law_moved" sMoved fM fdM) (gM : mg "_law_moved" = some (.ref fM)) (GM : FnOk P w K mg base CX0 1 fM fdM ["standing", "bay"] spMoved) : FnOk P w K mg base CX0 2 f fd ["web", "standing", "tour", "times"] (spTimes K) := by
  have bM : Binds K fdM ["standing", "bay"] [] := FM.bindsN fun _ _ _ _ _ _ us hl => match us, hl with | [_, _], _ => rfl
  refine ok0 F scTimes (fun vs H Q E h => ?_) (fun cdv A outer s H vs Q E hr h => ?_)
  · obtain ⟨wv, sa, tl, n, L, ms, t, rfl, _⟩ := h
    rfl
  · obtain ⟨wv, sa, tl, n, L, ms, t, rfl, hs, htl, hL, hms, ht, q⟩ := h
    refine ⟨_, (pss_cons (ps_for PassesOwn.never rfl (pi_range1 (by rfl) T.range (pa_cons (pv 3) pa_nil)) (pg_name (i := 4) scTimes.nd rfl (Or.inl rfl))
      (pss_one (ps_for PassesOwn.never rfl (pi_list (pv 2)) (pg_name (i := 5) scTimes.nd rfl (Or.inl rfl))
      (pss_one (ps_set (i := 1) scTimes.nd rfl (Or.inl rfl) (pe_call GM hr rfl gM FM.kp bM .nil pass0 (pa_cons (pv 1) (pa_cons (pv 5) pa_nil))))))))
    (pss_one (ps_ret (pv 1)))), ?_⟩
    refine ⟨_, rfl, t, rfl, by omega, by omega, for_range (lo := 0) (n := (t : Int).toNat) (fun i σ H' => ∃ (sb : Addr), (∃ u v, σ = [some wv, some (.ref sb), some (.ref tl), some (.int (t : Int)), u, v]) ∧ Same H H' ∧ TupZ H' sb ((tmS ms i L).map V.int)) ⟨sa, ⟨_, _, rfl⟩, Same.refl _, hs⟩ ?_ ?_⟩
    · rintro i σ H1 hi ⟨sb, ⟨u, v, rfl⟩, S1, hsb⟩
      have LPi : ∀ i, LooseP n (tmS ms i L) := fun i => by
        induction i with
        | zero => exact hL
        | succ i ih => exact (slid_loose ih hms).1
      have htl1 := S1.seq htl
      refine ⟨_, rfl, tl, rfl, ⟨_, htl1⟩, for_list (K := K) (a := tl) (xs := ms.map V.int) (fun j σ H' => ∃ (sb : Addr), (∃ u v, σ = [some wv, some (.ref sb), some (.ref tl), some (.int (t : Int)), u, v]) ∧ Same H H' ∧ TupZ H' sb ((slidS (tmS ms i L) (e0 (tmS ms i L)) (ms.take j)).1.map V.int)) ⟨sb, ⟨_, _, rfl⟩, S1, by rw [List.take_zero]; exact hsb⟩ (fun j σ H' _ ⟨_, _, S, _⟩ => S.seq htl) ?_ ?_⟩
      · rintro j y σ H2 hj ⟨sc, ⟨u2, v2, rfl⟩, S2, hsc⟩
        obtain ⟨b, hb, rfl⟩ := getMap hj
        have hmt : ∀ b ∈ ms.take j, Bay n b := fun b hb => hms b (List.mem_of_mem_take hb)
        obtain ⟨LP, e0e, _⟩ := slid_loose (LPi i) hmt
        refine ⟨_, rfl, _, rfl, sc, _, b, rfl, hsc, LP.zero, by rw [LP.len]; exact hms b (List.mem_of_getElem? hb), fun td H3 S3 nt ht3 => ⟨td, ⟨_, _, rfl⟩, S2.trans S3, ?_⟩⟩
        rw [take_more hb, slidS_snoc, ← e0e]
        exact ht3
      · rintro σ H2 ⟨sc, ⟨u2, v2, rfl⟩, S2, hsc⟩
        rw [List.length_map, List.take_length] at hsc
        exact ⟨sc, ⟨_, _, rfl⟩, S2, hsc⟩
    · rintro σ H1 ⟨sb, ⟨u, v, rfl⟩, S1, hsb⟩
      rw [Int.toNat_natCast] at hsb
      exact ⟨_, rfl, q sb H1 S1 hsb⟩
end
end Sb

/-! ## TX42 -/
/-! The law's least number of times. -/
namespace Sb
open PySem PySem.Spec PyProof.Rows L2
theorem eqv_intsT : ∀ {xs ys : List Int}, PyData.eqvAll (xs.map PyData.int) (ys.map PyData.int) = decide (xs = ys)
  | [], [] => by simp only [List.map_nil, PyData.eqvAll]; rfl
  | [], y :: ys => by simp only [List.map_nil, List.map_cons, PyData.eqvAll]; simp
  | x :: xs, [] => by simp only [List.map_nil, List.map_cons, PyData.eqvAll]; simp
  | x :: xs, y :: ys => by
    simp only [List.map_cons, PyData.eqvAll, PyData.eqv]
    rw [eqv_intsT]
    by_cases h : x = y <;> by_cases g : xs = ys <;> simp [h, g]
theorem shaped_intsT (l : List Int) : SeqAt.shaped (.tuple (l.map PyData.int)) = true := by
  obtain ⟨h1, h2⟩ := lay_ints l
  unfold SeqAt.shaped
  rw [Bool.and_eq_true]
  refine ⟨by simpa [PyData.canLay0] using h1, decide_eq_true ?_⟩
  simp only [PyData.depth]
  omega
def rNeT (K : PySem.W.Frag) : R2 := fun x y H Q => ∃ (l e : Addr) (xs ys : List Int), x = .ref l ∧ y = .ref e ∧ SqT K H l (xs.map V.int) ∧ SqT K H e (ys.map V.int) ∧ Q (.bl (!decide (xs = ys))) H
theorem op_neTu {X : Cx} (hu : X.A.units + 64 < cLine) : OpR X (compareOp .NotEq) (rNeT X.K) := OpR.weak (op_neD hu) fun _ _ _ _ ⟨l, e, xs, ys, a, b, hl, he, q⟩ => ⟨.tuple (xs.map PyData.int), .tuple (ys.map PyData.int), by rw [a]; exact .tup hl (dp_ints xs), by rw [b]; exact .tup he (dp_ints ys), shaped_intsT xs, shaped_intsT ys, by rw [show PyData.eqv (.tuple (xs.map PyData.int)) (.tuple (ys.map PyData.int)) = decide (xs = ys) by rw [PyData.eqv]; exact eqv_intsT]; exact q⟩
/-- the law's start: each bay's piece is its number and one -/
def startL (n : Nat) (e : Int) : List Int := (List.range n).map fun i : Nat => if (i : Int) ≠ e then (i : Int) + 1 else 0
section
variable {n : Nat} {e : Int}
theorem startL_at {i : Nat} (hi : i < n) : (startL n e)[i]? = some (if (i : Int) ≠ e then (i : Int) + 1 else 0) := by
  unfold startL
  rw [List.getElem?_map, List.getElem?_range hi]
  rfl
theorem startL_len : (startL n e).length = n := by
  unfold startL
  rw [List.length_map, List.length_range]
theorem startL_nd : (startL n e).Nodup := by
  unfold startL
  refine List.pairwise_map.mpr (List.nodup_range.imp fun {a b} h q => h ?_)
  split at q <;> split at q <;> omega
theorem startL_loose (n999 : n ≤ 999) (he : Bay n e) : LooseP n (startL n e) := by
  have h0 := he.1
  have h1 := he.2
  refine ⟨startL_len, fun z hz => ?_, ?_⟩
  · unfold startL at hz
    obtain ⟨i, hi, rfl⟩ := List.mem_map.mp hz
    have := List.mem_range.mp hi
    split <;> omega
  · have hm : (0 : Int) ∈ startL n e := by
      refine List.mem_of_getElem? (i := e.toNat) ?_
      rw [startL_at (by omega), if_neg (by omega)]
    rw [List.Nodup.count startL_nd, if_pos hm]
theorem startL_e0 (n999 : n ≤ 999) (he : Bay n e) : e0 (startL n e) = e := by
  have h0 := he.1
  have h1 := he.2
  have := e0_is (startL_loose n999 he) (b := e.toNat) (by rw [startL_at (by omega), if_neg (by omega)])
  omega
end
def spOrder (K : PySem.W.Frag) : Sp := fun vs H Q _ => ∃ (v : V) (tl : Addr) (n : Nat) (us : List (Int × Int)) (e : Int) (ms : List Int), vs = [v, .int e, .ref tl] ∧ WebAt K H v n us ∧ 1 ≤ n ∧ n ≤ 10 ∧ Bay n e ∧ SqL K H tl (ms.map V.int) ∧ (∀ b ∈ ms, Bay n b) ∧ lastS e ms = e ∧
  ∀ (m : Nat) H', Same H H' → Cy.Least n (goT e ms) m → m ≤ 512 → Q (.int (m : Int)) H'
abbrev scOrderN : List Str := ["web", "bay", "tour", "start", "standing", "many", "place"]
abbrev scOrderS : Scope := defScope sOrder
section
variable {P : Program} {w : World} {K : PySem.W.Frag} {mg : Str → Option Value} {base : Heap}
theorem scOrder : FnScope ["web", "bay", "tour", "start", "standing", "many", "place"] ["web", "bay", "tour"] (defScope sOrder) := ⟨rfl, rfl, rfl, by decide +kernel, rfl, by decide +kernel, by decide +kernel⟩
theorem ok_order {f fM : Addr} {fd fdM : FuncData} (F : FnP K "_law_order" sOrder f fd) (T : MvTxt mg) (FM : FnP K "_law_times" sTimes fM fdM) (gM : mg "_law_times" = some (.ref fM)) (GM : FnOk P w K mg base CX0 2 fM fdM ["web", "standing", "tour", "times"] (spTimes K)) : FnOk P w K mg base CX0 3 f fd ["web", "bay", "tour"] (spOrder K) := by
  have bM : Binds K fdM ["web", "standing", "tour", "times"] [] := FM.bindsN fun _ _ _ _ _ _ us hl => match us, hl with | [_, _, _, _], _ => rfl
  refine ok0 F scOrder (fun vs H Q E h => ?_) (fun cdv A outer s H vs Q E hr h => ?_)
  · obtain ⟨v, tl, n, us, e, ms, rfl, _⟩ := h
    rfl
  · obtain ⟨v, tl, n, us, e, ms, rfl, hW, n1, n10, he, htl, hms, hl, q⟩ := h
    have hu := hu_of hr
    refine ⟨_, (pss_cons (ps_set (i := 3) scOrder.nd rfl (Or.inl rfl) (pe_callTy (T := "tuple") call_tuple_ofZ (by rfl) T.tuple (by decide +kernel) (pa_cons (pe_lc (own := [("place", 6)]) (g := gName 6) (by rfl) scOrder.nd (pi_range1 (by rfl) T.range (pa_cons (pe_ix ix_tup (pv 0) pe_int (fun _ _ => rfl)) pa_nil)) (blkOk_by (own := [("place", 6)]) (N := scOrderN) (sc := scOrderS) (by decide +kernel)) (fun _ _ _ _ _ => pg_name (i := 6) scOrder.nd rfl (Or.inl rfl)) (fun _ _ _ _ _ => pts_nil) (fun _ _ _ _ _ => (pe_ifExp (pt_cmpR op_ne (pv 6) (pv 1) (nomark _)) (pe_op op_add (pv 6) pe_int) pe_int))) pa_nil)))
    (pss_cons (ps_par (i := 4) (j := 5) (by rfl) scOrder.nd rfl rfl (by decide) rfl rfl (pa_cons (pe_call GM hr rfl gM FM.kp bM .nil pass0 (pa_cons (pv 0) (pa_cons (pv 3) (pa_cons (pv 2) (pa_cons pe_int pa_nil))))) (pa_cons pe_int pa_nil)) (by rfl))
    (pss_cons (ps_while PassesOwn.never (PW.pt (pw_and (pt_cmpR (op_neTu hr.units) (pv 4) (pv 3) (nomark _)) (pw_and1 (pt_cmpR op_lt (pv 5) pe_int (nomark _)))))
      (pss_one (ps_par (i := 4) (j := 5) (by rfl) scOrder.nd rfl rfl (by decide) rfl rfl (pa_cons (pe_call GM hr rfl gM FM.kp bM .nil pass0 (pa_cons (pv 0) (pa_cons (pv 4) (pa_cons (pv 2) (pa_cons pe_int pa_nil))))) (pa_cons (pe_op op_add (pv 5) pe_int) pa_nil)) (by rfl))))
    (pss_one (ps_ret (pv 5)))))), ?_⟩
    obtain ⟨r, t, rfl, hw, hT⟩ := hW
    have tk : ∀ i, i < n → (startL n e).take (i + 1) = (startL n e).take i ++ [if (i : Int) ≠ e then (i : Int) + 1 else 0] := fun i hi => take_more (startL_at hi)
    refine ⟨_, rfl, r, _, _, .int (n : Int), rfl, rfl, hw, at_of (j := 0) rfl rfl, (n : Int), rfl, by omega, by omega, fun D hD => lc_range (lo := 0) (n := ((n : Int)).toNat) (fun i H' => Same H H' ∧ H' D = some (.lst (((startL n e).take i).map V.int))) ⟨same_upd hD, by rw [upd_same, List.take_zero]; rfl⟩ (fun i H3 hi ⟨S3, h3⟩ => ?_) (fun H3 ⟨S3, h3⟩ => ?_)⟩
    · rw [Int.toNat_natCast] at hi
      have key : ∀ y : V, y = V.int (if (i : Int) ≠ e then (i : Int) + 1 else 0) → ∃ acc, H3 D = some (.lst acc) ∧ acc.length < sizeLine ∧ (Same H (upd H3 D (.lst (acc ++ [y]))) ∧ (upd H3 D (.lst (acc ++ [y]))) D = some (.lst (((startL n e).take (i + 1)).map V.int))) := fun y ey =>
        ⟨_, h3, by rw [List.length_map, List.length_take, startL_len, sizeLine_eq]; omega, fun u o hu => by rw [upd_ne (ne_of_none hu hD)]; exact S3 _ _ hu, by rw [upd_same, ey, tk i hi, List.map_append]; rfl⟩
      refine ⟨rfl, _, rfl, _, rfl, rfl, _, rfl, ?_⟩
      by_cases c : (i : Int) = e
      · refine iteC (by rw [decide_eq_true (show V.int (0 + (i : Int)) = V.int e by rw [c, Int.zero_add])]; rfl) ?_
        exact key _ (by rw [if_neg (fun z => z c)])
      · refine iteD (by rw [decide_eq_false (fun z => c (by have z := V.int.inj z; omega))]; rfl) ⟨_, rfl, _, _, rfl, rfl, ?_⟩
        exact key _ (by rw [if_pos c, Int.zero_add])
    rw [Int.toNat_natCast, List.take_of_length_le (by rw [startL_len]; exact Nat.le_refl _)] at h3
    have hst := startL_loose (e := e) (n := n) (by omega) he
    have est := startL_e0 (e := e) (n := n) (by omega) he
    refine ⟨D, _, rfl, .inl ⟨SqL.of h3, fun sa H4 n4 S4 hsa => ?_⟩⟩
    have S04 := S3.trans S4
    refine ⟨_, rfl, _, rfl, _, rfl, .ref r, sa, tl, n, startL n e, ms, 1, rfl, hsa, S04.seq htl, hst, hms, by decide, fun sb H5 S5 hsb => ?_⟩
    have S05 := S04.trans S5
    refine ⟨_, _, rfl, ?_⟩
    obtain ⟨m0, m0p, m0l, m0i⟩ := Cy.order_few (n := n) (f := goT e ms) n1 n10 goT_inj (goT_lt he hms)
    refine ⟨fun k σ H' => ∃ (sb : Addr) (m : Nat), k = 999 - m ∧ 0 < m ∧ m ≤ 999 ∧ σ = [some (.ref r), some (.int e), some (.ref tl), some (.ref sa), some (.ref sb), some (.int (m : Int)), none] ∧ Same H H' ∧ TupZ H' sa ((startL n e).map V.int) ∧ TupZ H' sb ((tmS ms m (startL n e)).map V.int) ∧ ∀ j, 0 < j → j < m → ¬ ∀ v, v < n → Cy.itr (goT e ms) j v = v, ⟨998, sb, 1, rfl, by decide, by decide, rfl, S05, hsa.same S5, hsb, fun j a b => by omega⟩, ?_⟩
    rintro k σ H6 ⟨sb, m, rfl, mp, ml, rfl, S6, hs6, hb6, hno⟩
    obtain ⟨g1, g2, g3, g4⟩ := tm_go hst est hms hl m
    have stq := tm_start hst startL_nd est hms hl m
    refine ⟨_, rfl, _, rfl, sb, sa, _, _, rfl, rfl, hb6.sq, hs6.sq, _, rfl, ?_⟩
    by_cases eq : tmS ms m (startL n e) = startL n e
    · refine iteC (by rw [decide_eq_true eq]; rfl) (iteC rfl ⟨_, rfl, q m H6 S6 ⟨mp, stq.mp eq, hno⟩ ?_⟩)
      rcases Nat.lt_or_ge m0 m with z | z
      · exact absurd ((m0i m0).mpr (Nat.dvd_refl _)) (hno m0 m0p z)
      · omega
    · have m9 : m < 999 := by
        rcases Nat.lt_or_ge m0 m with z | z
        · exact absurd ((m0i m0).mpr (Nat.dvd_refl _)) (hno m0 m0p z)
        · omega
      refine iteD (by rw [decide_eq_false eq]; rfl) ⟨_, rfl, _, _, rfl, rfl, _, rfl, ?_⟩
      refine iteD (decide_eq_true (by omega)) ⟨fun σ' H' => ∃ (sb : Addr), σ' = [some (.ref r), some (.int e), some (.ref tl), some (.ref sa), some (.ref sb), some (.int ((m + 1 : Nat) : Int)), none] ∧ Same H H' ∧ TupZ H' sa ((startL n e).map V.int) ∧ TupZ H' sb ((tmS ms (m + 1) (startL n e)).map V.int), ?_, ?_⟩
      · rintro σ' H' ⟨sc, rfl, S, h1, h2⟩
        refine ⟨999 - (m + 1), by omega, sc, m + 1, rfl, by omega, by omega, rfl, S, h1, h2, fun j a b => ?_⟩
        rcases Nat.lt_or_ge j m with z | z
        · exact hno j a z
        · rw [show j = m by omega]
          exact fun z => eq (stq.mpr z)
      · refine ⟨_, rfl, _, rfl, _, rfl, .ref r, sb, tl, n, tmS ms m (startL n e), ms, 1, rfl, hb6, S6.seq htl, g1, hms, by decide, fun sc H7 S7 hsc => ?_⟩
        exact ⟨_, rfl, _, _, rfl, rfl, _, _, rfl, sc, rfl, S6.trans S7, hs6.same S7, hsc⟩
end
end Sb

/-! ## WDt42 -/
/-! The law's word of a call; the law's own is_loose, is_standing; what is refused. -/
namespace Sb
open PySem PySem.Spec PyProof.Rows L2
open LamX (ExtN Tabs TabS)
abbrev sWord : Stmt := top 62
abbrev sRefS : Stmt := top 66
def qOf (x : Str) : Str := (x ++ ".<locals>." : Str) ++ ("<lambda>" : Str)
def nm6 (i : Nat) : Str := (["NoWeb", "NoBay", "NoStanding", "NoTour", "NoCount", "BayError"] : List Str).getD i ""
def wd6 (i : Nat) : Str := (["web", "bay", "standing", "tour", "count"] : List Str).getD i ""
/-- the classes of errors, as the head tells them -/
structure Err6 (K : PySem.W.Frag) (mg : Str → Option Value) (C : Nat → Addr) : Prop where
  gs : ∀ i, i < 6 → mg (nm6 i) = some (.ref (C i))
  kp : ∀ i, i < 5 → PySem.W.keepIn K (.ref (C i)) = true
  ex : ∀ i, i < 5 → PySem.W.excIn K (C i) He.veBase "ValueError.__new__" = true
  su : ∀ i, i < 5 → PySem.W.subIn K (.ref (C i)) (.type "BaseException") = some true
  ty : ∀ i, i < 5 → PySem.W.typeIn K (.ref (C i)) = some (.type "type")
  exm : ∀ i j, i < 5 → j < 5 → PySem.W.exmOne K (.ref (C i)) (.ref (C j)) = some (decide (i = j))
theorem Err6.n {K : PySem.W.Frag} {mg : Str → Option Value} {C : Nat → Addr} (E : Err6 K mg C) (i : Nat) (hi : i < 5) : ErrN K mg (nm6 i) (C i) := ⟨E.gs i (by omega), E.kp i hi, E.ex i hi, E.su i hi, E.ty i hi⟩
/-- what _law_word makes of a call -/
def TWord (C : Nat → Addr) : (XK → Hp → VK → Prop) → Hp → VK → Prop := fun tl H Q => tl (fun cls d H' => ∃ i, i < 5 ∧ cls = .ref (C i) ∧ Q (.str (wd6 i)) H') H (fun _ H' => Q (.str "none") H')
theorem scWord : FnScope ["call", "e"] ["call"] (defScope sWord) := ⟨rfl, rfl, rfl, by decide +kernel, rfl, by decide +kernel, by decide +kernel⟩
theorem word_gives {X : Cx} {C : Nat → Addr} {g : Addr} {cdg : Value} {q : Str} (E : Err6 X.K X.mg C) : LamX.GivesTo X ["call", "e"] "_law_word" (defScope sWord) g cdg (defBody sWord) "call" q (TWord C) := by
  intro f c' s H Q tl act hc h
  have g0 : X.mg "NoWeb" = some (.ref (C 0)) := E.gs 0 (by decide)
  have g1 : X.mg "NoBay" = some (.ref (C 1)) := E.gs 1 (by decide)
  have g2 : X.mg "NoStanding" = some (.ref (C 2)) := E.gs 2 (by decide)
  have g3 : X.mg "NoTour" = some (.ref (C 3)) := E.gs 3 (by decide)
  have g4 : X.mg "NoCount" = some (.ref (C 4)) := E.gs 4 (by decide)
  have g5 : X.mg "BayError" = some (.ref (C 5)) := E.gs 5 (by decide)
  refine ⟨_, pss_cons (ps_try_row (n := "e") (i := 1) (Wo := fun _ _ _ _ => False) (tb := fun W D σ H => ∃ Ech : XK, (∀ cls d σ' H', Ech cls d H' → W cls d σ' H') ∧ σ[0]? = some (some (.ref f)) ∧ H c' = some (LamX.CodeO c' q) ∧ tl Ech H (fun _ H' => D.nx σ H'))
      rfl rfl (show (["call", "e"] : List Str).Nodup by decide +kernel) rfl rfl takes0 (fun W pn xe tk _ => ?_)
      (.cons (c := .ref (C 0)) ⟨rfl, by decide, .inl g0⟩ (fun a oe cls d pn hz hf => pss_one (ps_ret pe_str)) (.cons (c := .ref (C 1)) ⟨rfl, by decide, .inl g1⟩ (fun a oe cls d pn hz hf => pss_one (ps_ret pe_str))
      (.cons (c := .ref (C 2)) ⟨rfl, by decide, .inl g2⟩ (fun a oe cls d pn hz hf => pss_one (ps_ret pe_str)) (.cons (c := .ref (C 3)) ⟨rfl, by decide, .inl g3⟩ (fun a oe cls d pn hz hf => pss_one (ps_ret pe_str))
      (.cons (c := .ref (C 4)) ⟨rfl, by decide, .inl g4⟩ (fun a oe cls d pn hz hf => pss_one (ps_ret pe_str)) (.cons (c := .ref (C 5)) ⟨rfl, by decide, .inl g5⟩ (fun a oe cls d pn hz hf => pss_one (ps_ret pe_str)) .nil))))))) (pss_one (ps_ret pe_str)), ?_⟩
  · refine ⟨fun pins s' σ H' D I h' => ?_⟩
    obtain ⟨Ech, hW, h1, h2, h3⟩ := h'
    exact (pss_one (ps_expr (act W pn xe Ech _ _ tk hW))).run pins s' σ H' D I ⟨h1, h2, h3⟩
  · refine ⟨_, fun cls d σ' H' hw => ?_, rfl, hc, h⟩
    obtain ⟨i, hi, rfl, q⟩ := hw
    have no : ∀ {b : Bool} {p : Prop}, b = false → (b = true → p) := fun e z => by rw [e] at z; cases z
    obtain rfl | rfl | rfl | rfl | rfl : i = 0 ∨ i = 1 ∨ i = 2 ∨ i = 3 ∨ i = 4 := by omega
    · exact ⟨true, E.exm 0 0 (by decide) (by decide), fun _ a na => q, fun z => Bool.noConfusion z⟩
    · exact ⟨false, E.exm 1 0 (by decide) (by decide), fun z => Bool.noConfusion z, fun _ => ⟨true, E.exm 1 1 (by decide) (by decide), fun _ a na => q, fun z => Bool.noConfusion z⟩⟩
    · exact ⟨false, E.exm 2 0 (by decide) (by decide), fun z => Bool.noConfusion z, fun _ => ⟨false, E.exm 2 1 (by decide) (by decide), fun z => Bool.noConfusion z, fun _ => ⟨true, E.exm 2 2 (by decide) (by decide), fun _ a na => q, fun z => Bool.noConfusion z⟩⟩⟩
    · exact ⟨false, E.exm 3 0 (by decide) (by decide), fun z => Bool.noConfusion z, fun _ => ⟨false, E.exm 3 1 (by decide) (by decide), fun z => Bool.noConfusion z, fun _ => ⟨false, E.exm 3 2 (by decide) (by decide), fun z => Bool.noConfusion z, fun _ => ⟨true, E.exm 3 3 (by decide) (by decide), fun _ a na => q, fun z => Bool.noConfusion z⟩⟩⟩⟩
    · exact ⟨false, E.exm 4 0 (by decide) (by decide), fun z => Bool.noConfusion z, fun _ => ⟨false, E.exm 4 1 (by decide) (by decide), fun z => Bool.noConfusion z, fun _ => ⟨false, E.exm 4 2 (by decide) (by decide), fun z => Bool.noConfusion z, fun _ => ⟨false, E.exm 4 3 (by decide) (by decide), fun z => Bool.noConfusion z, fun _ => ⟨true, E.exm 4 4 (by decide) (by decide), fun _ a na => q, fun z => Bool.noConfusion z⟩⟩⟩⟩⟩
/-! ### a web -/
theorem lt2_dec (s t : Int × Int) : lt2 s t = decide (s.1 < t.1 ∨ (s.1 = t.1 ∧ s.2 < t.2)) := by
  rw [Bool.eq_iff_iff, decide_eq_true_eq]
  refine ⟨lt2_iff, fun h => ?_⟩
  unfold lt2
  rcases h with h | ⟨h, g⟩
  · simp [HT.lexLt, h]
    omega
  · simp [HT.lexLt, h, g]
    omega
theorem webP_ok {n : Nat} {ts : List (Int × Int)} (W : WebP n ts) : webOK (n : Int) ts = true := by
  have n2 := W.n2
  have n40 := W.n40
  unfold webOK
  rw [Bool.and_eq_true, Bool.and_eq_true, Bool.and_eq_true, Bool.and_eq_true]
  refine ⟨⟨decide_eq_true (by omega), decide_eq_true (by omega)⟩, List.all_eq_true.mpr fun t ht => ?_, ?_, by rw [show ((n : Int)).toNat = n by omega]; exact con_reach (by omega) (fun t ht => (W.ti t ht).1) W.con⟩
  · obtain ⟨a, b, c⟩ := W.inn t ht
    unfold tieOK
    rw [Bool.and_eq_true, Bool.and_eq_true]
    exact ⟨decide_eq_true a, decide_eq_true b, decide_eq_true c⟩
  · unfold asc
    refine List.all_eq_true.mpr fun k hk => ?_
    have hk := List.mem_range.mp hk
    have h1 : k < ts.length := by omega
    have h2 : k + 1 < ts.length := by omega
    rw [List.getD_eq_getElem?_getD, List.getD_eq_getElem?_getD, List.getElem?_eq_getElem h1, List.getElem?_eq_getElem h2, lt2_dec]
    exact decide_eq_true (List.pairwise_iff_getElem.mp W.asc k (k + 1) h1 h2 (by omega))
/-! ### things behind a call that lays tables -/
theorem TupZ.butp {H H' : Hp} {p a : Addr} {xs : List V} (h : TupZ H a xs) (B : But p H H') (n : a ≠ p) : TupZ H' a xs := let ⟨o, d, e⟩ := h; ⟨o, d, B _ _ n e⟩
theorem ex_of {H : Hp} {a : Addr} {xs : List V} (h : TupZ H a xs) : ExV H (.ref a) := fun b ys e r => by
  cases e
  obtain ⟨o, hd, ho⟩ := id h
  rcases r with r | ⟨o', r⟩
  · rw [ho] at r; cases r
  · rw [ho] at r
    injection r with r
    injection r with _ r
    injection r with r
    rw [← r]
    exact h
theorem ex_lst {H : Hp} {a : Addr} {xs : List V} (h : H a = some (.lst xs)) : ExV H (.ref a) := fun b ys e r => by
  cases e
  rcases r with r | ⟨o', r⟩ <;> (rw [h] at r; cases r)
theorem ex_dct {H : Hp} {a : Addr} {xs : List (Key × V)} (h : H a = some (.dK xs)) : ExV H (.ref a) := fun b ys e r => by
  cases e
  rcases r with r | ⟨o', r⟩ <;> (rw [h] at r; cases r)
theorem ex_nr {H : Hp} {v : V} (h : ∀ a, v ≠ .ref a) : ExV H v := fun a _ e _ => absurd e (h a)
mutual
theorem Th.ext {H H2 : Hp} (k : ExtN H H2) : ∀ {v : V} {d : PyData}, Th H v d → Th H2 v d
  | _, _, .non => .non
  | _, _, .bl b => .bl b
  | _, _, .int i => .int i
  | _, _, .str x => .str x
  | _, _, .lst e h => .lst (k _ _ e (by intro ps z; cases z)) (ThAll.ext k h)
  | _, _, .tupR e h => .tupR (e.elim (fun e => .inl (k _ _ e (by intro ps z; cases z))) fun ⟨o, e⟩ => .inr ⟨o, k _ _ e (by intro ps z; cases z)⟩) (ThAll.ext k h)
  | _, _, .dct e => .dct (k _ _ e (by intro ps z; cases z))
theorem ThAll.ext {H H2 : Hp} (k : ExtN H H2) : ∀ {vs : List V} {ds : List PyData}, ThAll H vs ds → ThAll H2 vs ds
  | _, _, .nil => .nil
  | _, _, .cons h g => .cons (Th.ext k h) (ThAll.ext k g)
end
theorem TupZ.ext {H H' : Hp} {a : Addr} {xs : List V} (h : TupZ H a xs) (k : ExtN H H') : TupZ H' a xs := let ⟨o, d, e⟩ := h; ⟨o, d, k _ _ e (by intro ps z; cases z)⟩
theorem ExV.ext {H H' : Hp} {v : V} {d : PyData} (h : Th H v d) (e : ExV H v) (k : ExtN H H') : ExV H' v := by
  cases h with
  | non => exact ex_nr fun a e => by cases e
  | bl _ => exact ex_nr fun a e => by cases e
  | int _ => exact ex_nr fun a e => by cases e
  | str _ => exact ex_nr fun a e => by cases e
  | lst hp _ => exact ex_lst (k _ _ hp (by intro ps z; cases z))
  | dct hp => exact ex_dct (k _ _ hp (by intro ps z; cases z))
  | @tupR a ys _ hp _ => exact ex_of ((e a ys rfl hp).ext k)
theorem lst_ext {H H' : Hp} (e : ExtN H H') {a : Addr} {xs : List V} (h : H a = some (.lst xs)) : H' a = some (.lst xs) := e _ _ h (by intro ps z; cases z)
theorem extS {H H' : Hp} (s : Same H H') : ExtN H H' := fun b o h _ => s b o h
theorem ext_but {H0 H H' : Hp} {p : Addr} (s : ExtN H0 H) (n : H0 p = none) (b : But p H H') : ExtN H0 H' := fun c o h t => b c o (ne_of_none h n) (s c o h t)
theorem tabs_but {T : List (Addr × Str)} {H H' : Hp} {b : Addr} {xs : List V} (t : Tabs T H) (h : But b H H') (e : H b = some (.lst xs)) : Tabs T H' := fun z hz => by
  obtain ⟨ps, g1, g2, g3⟩ := t z hz
  have n : z.1 ≠ b := fun k => by
    rw [k, e] at g1
    cases g1
  refine ⟨ps, h _ _ n g1, g2, fun pos cv hc => ?_⟩
  obtain ⟨c, k1, k2⟩ := g3 pos cv hc
  refine ⟨c, k1, h _ _ (fun k => ?_) k2⟩
  rw [k, e] at k2
  cases k2
end Sb

/-! ## GLt42 -/
/-! Webs as things; what a call that lays tables and turns the pen leaves alone. -/
namespace Sb
open PySem PySem.Spec PyProof.Rows L2
open LamX (ExtN Tabs TabS)
def tieT (t : Int × Int) : PyData := .tuple [.int t.1, .int t.2]
def webT (n : Int) (us : List (Int × Int)) : PyData := .tuple [.int n, .tuple (us.map tieT)]
theorem th_tup {H : Hp} {a : Addr} {vs : List V} {ds : List PyData} (h : H a = some (.tup vs)) (g : ThAll H vs ds) : Th H (.ref a) (.tuple ds) := .tup h g
theorem prs_all {H : Hp} : ∀ {qs : List Addr} {us : List (Int × Int)}, PrsAt H qs us → ThAll H (qs.map V.ref) (us.map tieT)
  | [], [], _ => .nil
  | [], _ :: _, h => by cases h.1
  | _ :: _, [], h => by cases h.1
  | q :: qs, (a, b) :: us, h => by
    have h0 := h.2 0 q a b rfl rfl
    have hr : PrsAt H qs us := ⟨Nat.succ.inj h.1, fun i r c d e1 e2 => h.2 (i + 1) r c d e1 e2⟩
    exact .cons (th_tup h0 (.cons (.int a) (.cons (.int b) .nil))) (prs_all hr)
theorem webH_th {r : Addr} {H : Hp} {n : Nat} {us : List (Int × Int)} (h : WebH H r n us) : Th H (.ref r) (webT n us) := by
  obtain ⟨t, h1, qs, h2, h3⟩ := h
  exact th_tup h1 (.cons (.int _) (.cons (th_tup h2 (prs_all h3)) .nil))
theorem shape_webT (n : Int) : ∀ us : List (Int × Int), shapeD (webT n us) = some (n, us) := fun us => by
  have h1 : (us.map tieT).all isPairD = true := List.all_eq_true.mpr fun d hd => by
    obtain ⟨t, _, rfl⟩ := List.mem_map.mp hd
    rfl
  have h2 : (us.map tieT).map pairD = us := by
    rw [List.map_map]
    exact (List.map_congr_left fun t _ => rfl).trans (List.map_id _)
  show (if (us.map tieT).all isPairD = true then some (n, (us.map tieT).map pairD) else none) = _
  rw [if_pos h1, h2]
theorem pure_ties {m : Int} (hm : m ≤ 100) : ∀ {us : List (Int × Int)}, (∀ t ∈ us, 0 ≤ t.1 ∧ t.1 ≤ m ∧ 0 ≤ t.2 ∧ t.2 ≤ m) → pureAll (us.map tieT) = true
  | [], _ => rfl
  | t :: us, h => by
    obtain ⟨a, b, c, d⟩ := h t List.mem_cons_self
    have h1 := pure_ties hm (us := us) fun u hu => h u (List.mem_cons_of_mem _ hu)
    show (((decide (0 ≤ t.1) && decide (t.1 ≤ 1000)) && ((decide (0 ≤ t.2) && decide (t.2 ≤ 1000)) && true)) && pureAll (us.map tieT)) = true
    rw [h1, decide_eq_true a, decide_eq_true c, decide_eq_true (show t.1 ≤ 1000 by omega), decide_eq_true (show t.2 ≤ 1000 by omega)]
    rfl
theorem bulk_ties : ∀ us : List (Int × Int), PyData.bulkAll (us.map tieT) = 3 * us.length
  | [] => rfl
  | t :: us => by
    rw [List.map_cons, PyData.bulkAll, bulk_ties us, tieT, PyData.bulk, PyData.bulkAll, PyData.bulkAll, PyData.bulkAll, PyData.bulk, PyData.bulk, List.length_cons]
    omega
theorem depth_ties : ∀ us : List (Int × Int), PyData.depthAll (us.map tieT) ≤ 1
  | [] => Nat.zero_le _
  | t :: us => by
    rw [List.map_cons, PyData.depthAll, tieT, PyData.depth, PyData.depthAll, PyData.depthAll, PyData.depthAll, PyData.depth, PyData.depth]
    have := depth_ties us
    omega
theorem webD_of {d : PyData} {n : Nat} {ts : List (Int × Int)} (e : shapeD d = some ((n : Int), ts)) (W : WebP n ts) : webD d = true := by
  unfold webD
  rw [e]
  exact webP_ok W
theorem webT_ties {n : Int} {us : List (Int × Int)} : tiesOf (webT n us) = us.length := List.length_map _
theorem webT_is {n : Nat} {us : List (Int × Int)} (W : WebP n us) : webD (webT n us) = true := webD_of (shape_webT _ _) W
theorem webT_eq {n m : Nat} {us ts : List (Int × Int)} (e : shapeD (webT n us) = some ((m : Int), ts)) : m = n ∧ ts = us := by
  rw [shape_webT] at e
  have z := Prod.mk.inj (Option.some.inj e)
  exact ⟨by omega, z.2.symm⟩
theorem ties_bulk (d : PyData) : tiesOf d ≤ d.bulk := by
  unfold tiesOf
  split
  · rename_i x ts
    have := bulk_len ts
    rw [PyData.bulk, PyData.bulkAll, PyData.bulkAll, PyData.bulkAll, PyData.bulk]
    omega
  · exact Nat.zero_le _
theorem OKD.ties {d : PyData} (h : OKD d) : tiesOf d ≤ 100000 := Nat.le_trans (ties_bulk d) h.bk
theorem pure_webT {n : Nat} {us : List (Int × Int)} (W : WebP n us) : pureD (webT n us) = true := by
  have n40 := W.n40
  have h := pure_ties (m := 100) (Int.le_refl _) (us := us) fun t ht => by
    obtain ⟨a, b, c⟩ := W.inn t ht
    refine ⟨a, by omega, by omega, by omega⟩
  show ((decide (0 ≤ (n : Int)) && decide ((n : Int) ≤ 1000)) && (pureAll (us.map tieT) && true)) = true
  rw [h, decide_eq_true (by omega), decide_eq_true (by omega)]
  rfl
theorem bulk_webT (n : Int) (us : List (Int × Int)) : (webT n us).bulk = 3 * us.length + 2 := by
  unfold webT
  rw [PyData.bulk, PyData.bulkAll, PyData.bulkAll, PyData.bulkAll, PyData.bulk, PyData.bulk, bulk_ties]
  omega
theorem depth_webT (n : Int) (us : List (Int × Int)) : (webT n us).depth ≤ 3 := by
  have := depth_ties us
  unfold webT
  rw [PyData.depth, PyData.depthAll, PyData.depthAll, PyData.depthAll, PyData.depth, PyData.depth]
  omega
theorem ok_webT_ {n : Nat} {us : List (Int × Int)} (W : WebP n us) (hl : us.length ≤ 1000) : OKD (webT n us) := by
  obtain ⟨a, b, c⟩ := pure_small _ (pure_webT W)
  exact ⟨a, fun z => (by rw [b] at z; cases z), Nat.le_trans (depth_webT _ _) (by decide), by rw [bulk_webT]; omega⟩
theorem webH_but {p r : Addr} {H H' : Hp} {n : Nat} {us : List (Int × Int)} (h : WebH H r n us) (B : But p H H') (hp : ∃ xs, H p = some (.lst xs)) : WebH H' r n us := h.mono fun b xs hb => B b _ (fun z => by
  obtain ⟨ys, e⟩ := hp
  rw [z, e] at hb
  cases hb) hb
theorem webH_ext {r : Addr} {H H' : Hp} {n : Nat} {us : List (Int × Int)} (h : WebH H r n us) (e : ExtN H H') : WebH H' r n us := h.mono fun b xs hb => e _ _ hb (by intro ps z; cases z)
theorem pen_ext {p c : Addr} {k : Nat} {H H' : Hp} (h : Pen H p c k) (e : ExtN H H') : Pen H' p c k := by
  obtain ⟨cells, x, h1, h2, h3, h4⟩ := h
  exact ⟨cells, x, lst_ext e h1, lst_ext e h2, h3, h4⟩
/-- all but the pen and tables stand -/
def ExtP (p : Addr) (H H' : Hp) : Prop := ∀ b o, b ≠ p → H b = some o → (∀ ps, o ≠ HO.tbl ps) → H' b = some o
theorem ExtP.refl {p : Addr} {H : Hp} : ExtP p H H := fun _ _ _ h _ => h
theorem ExtP.trans {p : Addr} {A B C : Hp} (h : ExtP p A B) (g : ExtP p B C) : ExtP p A C := fun b o n e t => g b o n (h b o n e t) t
theorem ExtP.of {p : Addr} {H H' : Hp} (h : ExtN H H') : ExtP p H H' := fun b o _ e t => h b o e t
theorem ExtP.same {p : Addr} {H H' : Hp} (h : Same H H') : ExtP p H H' := fun b o _ e _ => h b o e
theorem ExtP.but {p : Addr} {H H' : Hp} (h : But p H H') : ExtP p H H' := fun b o n e _ => h b o n e
/-- an object that was not there may be changed -/
theorem ExtP.new {p q : Addr} {A H H' : Hp} (h : ExtP p A H) (n : A q = none) (g : ExtP q H H') : ExtP p A H' := fun b o nb e t => g b o (ne_of_none e n) (h b o nb e t) t
theorem ExtP.lst {p a : Addr} {H H' : Hp} {xs : List V} (h : ExtP p H H') (n : a ≠ p) (e : H a = some (.lst xs)) : H' a = some (.lst xs) := h _ _ n e (by intro ps z; cases z)
theorem ExtP.tup {p a : Addr} {H H' : Hp} {xs : List V} (h : ExtP p H H') (n : a ≠ p) (e : H a = some (.tup xs)) : H' a = some (.tup xs) := h _ _ n e (by intro ps z; cases z)
theorem TupZ.extP {p a : Addr} {H H' : Hp} {xs : List V} (h : TupZ H a xs) (n : a ≠ p) (k : ExtP p H H') : TupZ H' a xs := let ⟨o, d, e⟩ := h; ⟨o, d, k _ _ n e (by intro ps z; cases z)⟩
theorem TupZ.nep {p a c : Addr} {k : Nat} {H : Hp} {xs : List V} (h : TupZ H a xs) (hp : Pen H p c k) : a ≠ p := fun z => by
  obtain ⟨o, d, e⟩ := h
  obtain ⟨ys, f⟩ := pen_lst hp
  rw [z, f] at e
  cases e
theorem webH_extP {p c r : Addr} {k : Nat} {H H' : Hp} {n : Nat} {us : List (Int × Int)} (h : WebH H r n us) (e : ExtP p H H') (hp : Pen H p c k) : WebH H' r n us := h.mono fun b xs hb => e _ _ (fun z => by
  obtain ⟨ys, f⟩ := pen_lst hp
  rw [z, f] at hb
  cases hb) hb (by intro ps z; cases z)
theorem tabs_butp {T : List (Addr × Str)} {H H' : Hp} {p c : Addr} {k : Nat} (t : Tabs T H) (h : But p H H') (hp : Pen H p c k) : Tabs T H' := by
  obtain ⟨ys, f⟩ := pen_lst hp
  exact tabs_but t h f
end Sb

/-! ## KT42 -/
/-! What the program tells of tours that are good, of what is none. -/
namespace Sb
open PySem PySem.Spec PyProof.Rows L2
open LamX (ExtN Tabs TabS)
section
variable {r lo : Addr} {n : Nat} {us : List (Int × Int)} {H : Hp} {Q : VK} {E : XK} {CW CB CS CT CN : Addr} {e : Int} {v m k : V} {d dm dk : PyData} {L ms : List Int}
theorem turned_bad (hW : WebH H r n us) (W : WebP n us) (hts : us.length ≤ 1000) (he : Bay n e) (hv : Th H v d) (hb : d.bulk ≤ 100000) (bad : tourD n (rowsOf n us) e d = false) (q : ∀ H', Same H H' → E (.ref CT) none H') : spTurned CW CB CT [.ref r, .int e, v] H Q E := by
  refine ⟨.ref r, webT n us, .int e, .int e, v, d, rfl, webH_th hW, by rw [webT_ties]; omega, .int e, hv, hb, fun z => (by rw [webT_is W] at z; cases z), fun k ts em Wm => ?_⟩
  obtain ⟨rfl, rfl⟩ := webT_eq em
  refine ⟨fun z => ?_, fun z ez bz => ?_⟩
  · have h0 := he.1
    have h1 := he.2
    rw [bayD_int, decide_eq_true h0, decide_eq_true h1] at z
    cases z
  · injection ez with ez
    subst ez
    exact ⟨fun _ => q, fun z => (by rw [bad] at z; cases z)⟩
theorem order_bad (hW : WebH H r n us) (W : WebP n us) (hts : us.length ≤ 1000) (he : Bay n e) (hv : Th H v d) (hb : d.bulk ≤ 100000) (bad : tourD n (rowsOf n us) e d = false) (q : ∀ H', Same H H' → E (.ref CT) none H') : spOrderOf CW CB CT [.ref r, .int e, v] H Q E := by
  refine ⟨.ref r, webT n us, .int e, .int e, v, d, rfl, webH_th hW, by rw [webT_ties]; omega, .int e, hv, hb, fun z => (by rw [webT_is W] at z; cases z), fun k ts em Wm => ?_⟩
  obtain ⟨rfl, rfl⟩ := webT_eq em
  refine ⟨fun z => ?_, fun z ez bz => ?_⟩
  · have h0 := he.1
    have h1 := he.2
    rw [bayD_int, decide_eq_true h0, decide_eq_true h1] at z
    cases z
  · injection ez with ez
    subst ez
    exact ⟨fun _ => q, fun z => (by rw [bad] at z; cases z)⟩
theorem turned_bay (hW : WebH H r n us) (W : WebP n us) (hts : us.length ≤ 1000) (hv : Th H v d) (bad : bayD n d = false) (q : ∀ H', Same H H' → E (.ref CB) none H') : spTurned CW CB CT [.ref r, v, .non] H Q E := by
  refine ⟨.ref r, webT n us, v, d, .non, .none, rfl, webH_th hW, by rw [webT_ties]; omega, hv, .non, by decide, fun z => (by rw [webT_is W] at z; cases z), fun k ts em Wm => ?_⟩
  obtain ⟨rfl, rfl⟩ := webT_eq em
  refine ⟨fun _ => q, fun z ez bz => ?_⟩
  subst ez
  have h0 := bz.1
  have h1 := bz.2
  rw [bayD_int, decide_eq_true h0, decide_eq_true h1] at bad
  cases bad
theorem order_bay (hW : WebH H r n us) (W : WebP n us) (hts : us.length ≤ 1000) (hv : Th H v d) (bad : bayD n d = false) (q : ∀ H', Same H H' → E (.ref CB) none H') : spOrderOf CW CB CT [.ref r, v, .non] H Q E := by
  refine ⟨.ref r, webT n us, v, d, .non, .none, rfl, webH_th hW, by rw [webT_ties]; omega, hv, .non, by decide, fun z => (by rw [webT_is W] at z; cases z), fun k ts em Wm => ?_⟩
  obtain ⟨rfl, rfl⟩ := webT_eq em
  refine ⟨fun _ => q, fun z ez bz => ?_⟩
  subst ez
  have h0 := bz.1
  have h1 := bz.2
  rw [bayD_int, decide_eq_true h0, decide_eq_true h1] at bad
  cases bad
theorem turned_badw (hv : Th H v d) (hm : tiesOf d ≤ 100000) (hw : webD d = false) (q : ∀ H', Same H H' → E (.ref CW) none H') : spTurned CW CB CT [v, .non, .non] H Q E :=
  ⟨v, d, .non, .none, .non, .none, rfl, hv, hm, .non, .non, by decide, fun _ => q, fun _ _ es W => absurd (webD_of es W) (by rw [hw]; exact Bool.false_ne_true)⟩
theorem order_badw (hv : Th H v d) (hm : tiesOf d ≤ 100000) (hw : webD d = false) (q : ∀ H', Same H H' → E (.ref CW) none H') : spOrderOf CW CB CT [v, .non, .non] H Q E :=
  ⟨v, d, .non, .none, .non, .none, rfl, hv, hm, .non, .non, by decide, fun _ => q, fun _ _ es W => absurd (webD_of es W) (by rw [hw]; exact Bool.false_ne_true)⟩
theorem many_badw {x : V} {dx : PyData} (hv : Th H v d) (hm : tiesOf d ≤ 100000) (hw : webD d = false) (hx : Th H x dx) (ex : ExV H x) (ht : Th H m dm) (hb : dm.bulk ≤ 100000) (hk : Th H k dk) (q : ∀ H', Same H H' → E (.ref CW) none H') : spDoneMany CW CS CT CN [v, x, m, k] H Q E :=
  ⟨v, d, x, dx, m, dm, k, dk, rfl, hv, hm, hx, ex, ht, hb, hk, fun _ => q, fun _ _ es W => absurd (webD_of es W) (by rw [hw]; exact Bool.false_ne_true)⟩
theorem loose_eq {n : Nat} {L M : List Int} (e : PyData.tuple (L.map PyData.int) = PyData.tuple (M.map PyData.int)) : M = L := by
  injection e with e
  have := congrArg (List.map intD) e
  rw [map_intD, map_intD] at this
  exact this.symm
theorem many_bad (hW : WebH H r n us) (W : WebP n us) (hts : us.length ≤ 1000) (hs : TupZ H lo (L.map V.int)) (hL : LooseP n L) (he : e0 L = e) (hv : Th H v d) (hb : d.bulk ≤ 100000) (hk : Th H k dk) (bad : tourD n (rowsOf n us) e d = false) (q : ∀ H', Same H H' → E (.ref CT) none H') : spDoneMany CW CS CT CN [.ref r, .ref lo, v, k] H Q E := by
  refine ⟨.ref r, webT n us, .ref lo, .tuple (L.map PyData.int), v, d, k, dk, rfl, webH_th hW, by rw [webT_ties]; omega, .tupR hs.rd (all_ints L), ex_of hs, hv, hb, hk, fun z => (by rw [webT_is W] at z; cases z), fun j ts em Wm => ?_⟩
  obtain ⟨rfl, rfl⟩ := webT_eq em
  refine ⟨fun z => (by rw [looseD_of hL] at z; cases z), fun M eM hM => ?_⟩
  have eM := loose_eq (n := j) eM
  subst eM
  rw [he]
  exact ⟨fun _ => q, fun z => (by rw [bad] at z; cases z)⟩
theorem many_stand {x : V} {dx : PyData} (hW : WebH H r n us) (W : WebP n us) (hts : us.length ≤ 1000) (hx : Th H x dx) (ex : ExV H x) (bad : looseD n dx = false) (hv : Th H v d) (hb : d.bulk ≤ 100000) (hk : Th H k dk) (q : ∀ H', Same H H' → E (.ref CS) none H') : spDoneMany CW CS CT CN [.ref r, x, v, k] H Q E := by
  refine ⟨.ref r, webT n us, x, dx, v, d, k, dk, rfl, webH_th hW, by rw [webT_ties]; omega, hx, ex, hv, hb, hk, fun z => (by rw [webT_is W] at z; cases z), fun j ts em Wm => ?_⟩
  obtain ⟨rfl, rfl⟩ := webT_eq em
  refine ⟨fun _ => q, fun M eM hM => ?_⟩
  subst eM
  rw [looseD_of hM] at bad
  cases bad
theorem many_count (hW : WebH H r n us) (W : WebP n us) (hts : us.length ≤ 1000) (hs : TupZ H lo (L.map V.int)) (hL : LooseP n L) (he : e0 L = e) (hv : Th H v d) (hb : d.bulk ≤ 100000) (good : tourD n (rowsOf n us) e d = true) (hk : Th H k dk) (bad : countD dk = false) (q : ∀ H', Same H H' → E (.ref CN) none H') : spDoneMany CW CS CT CN [.ref r, .ref lo, v, k] H Q E := by
  refine ⟨.ref r, webT n us, .ref lo, .tuple (L.map PyData.int), v, d, k, dk, rfl, webH_th hW, by rw [webT_ties]; omega, .tupR hs.rd (all_ints L), ex_of hs, hv, hb, hk, fun z => (by rw [webT_is W] at z; cases z), fun j ts em Wm => ?_⟩
  obtain ⟨rfl, rfl⟩ := webT_eq em
  refine ⟨fun z => (by rw [looseD_of hL] at z; cases z), fun M eM hM => ?_⟩
  have eM := loose_eq (n := j) eM
  subst eM
  rw [he]
  refine ⟨fun z => (by rw [good] at z; cases z), fun _ => ⟨fun _ => q, fun z ez h0 h1 => ?_⟩⟩
  subst ez
  have ec : countD (.int z) = (decide (0 ≤ z) && decide (z ≤ 10 ^ 30)) := rfl
  rw [ec, decide_eq_true h0, decide_eq_true h1] at bad
  cases bad
/-- ints as a thing -/
theorem bulk_ints : ∀ L : List Int, (PyData.list (L.map PyData.int)).bulk = L.length
  | [] => by rw [List.map_nil, PyData.bulk, PyData.bulkAll]; rfl
  | z :: L => by
    have := bulk_ints L
    rw [PyData.bulk] at this
    rw [List.map_cons, PyData.bulk, PyData.bulkAll, this, PyData.bulk, List.length_cons]
    omega
theorem tour_d {rss : List (List Int)} (h : TourP n rss e ms) : tourD n rss e (.list (ms.map PyData.int)) = true := h.d (List.all_eq_true.mpr fun d hd => by
  obtain ⟨z, hz, rfl⟩ := List.mem_map.mp hd
  have := h.bays z hz
  rw [bayD_int, decide_eq_true this.1, decide_eq_true this.2]
  rfl)
theorem turned_good {tl : Addr} (hW : WebH H r n us) (W : WebP n us) (hts : us.length ≤ 1000) (he : Bay n e) (ht : H tl = some (.lst (ms.map V.int))) (hm : TourP n (rowsOf n us) e ms) (hl : ms.length ≤ 1000) (q : ∀ p H', Same H H' → H p = none → H' p = some (.tup (natI ((List.range n).map (goT e ms)))) → Q (.ref p) H') : spTurned CW CB CT [.ref r, .int e, .ref tl] H Q E := by
  refine ⟨.ref r, webT n us, .int e, .int e, .ref tl, .list (ms.map PyData.int), rfl, webH_th hW, by rw [webT_ties]; omega, .int e, .lst ht (all_ints ms), by rw [bulk_ints]; omega, fun z => (by rw [webT_is W] at z; cases z), fun k ts em Wm => ?_⟩
  obtain ⟨rfl, rfl⟩ := webT_eq em
  refine ⟨fun z => ?_, fun z ez bz => ?_⟩
  · have h0 := he.1
    have h1 := he.2
    rw [bayD_int, decide_eq_true h0, decide_eq_true h1] at z
    cases z
  · injection ez with ez
    subst ez
    rw [msOf_ints]
    exact ⟨fun z => (by rw [tour_d hm] at z; cases z), fun _ => q⟩
theorem order_good {tl : Addr} (hW : WebH H r n us) (W : WebP n us) (hts : us.length ≤ 1000) (he : Bay n e) (ht : H tl = some (.lst (ms.map V.int))) (hm : TourP n (rowsOf n us) e ms) (hl : ms.length ≤ 1000) (q : ∀ cs H', Same H H' → Cy.Rounds n (goT e ms) cs → Q (.int ((Cy.lcms cs : Nat) : Int)) H') : spOrderOf CW CB CT [.ref r, .int e, .ref tl] H Q E := by
  refine ⟨.ref r, webT n us, .int e, .int e, .ref tl, .list (ms.map PyData.int), rfl, webH_th hW, by rw [webT_ties]; omega, .int e, .lst ht (all_ints ms), by rw [bulk_ints]; omega, fun z => (by rw [webT_is W] at z; cases z), fun k ts em Wm => ?_⟩
  obtain ⟨rfl, rfl⟩ := webT_eq em
  refine ⟨fun z => ?_, fun z ez bz => ?_⟩
  · have h0 := he.1
    have h1 := he.2
    rw [bayD_int, decide_eq_true h0, decide_eq_true h1] at z
    cases z
  · injection ez with ez
    subst ez
    rw [msOf_ints]
    exact ⟨fun z => (by rw [tour_d hm] at z; cases z), fun _ cs H' S r _ => q cs H' S r⟩
theorem many_good {tl : Addr} {z : Int} (hW : WebH H r n us) (W : WebP n us) (hts : us.length ≤ 1000) (hs : TupZ H lo (L.map V.int)) (hL : LooseP n L) (he : e0 L = e) (ht : H tl = some (.lst (ms.map V.int))) (hm : TourP n (rowsOf n us) e ms) (hl : ms.length ≤ 1000) (z0 : 0 ≤ z) (z1 : z ≤ 10 ^ 30) (q : ∀ p H', Same H H' → TupZ H' p ((tmS ms z.toNat L).map V.int) → Q (.ref p) H') : spDoneMany CW CS CT CN [.ref r, .ref lo, .ref tl, .int z] H Q E := by
  refine ⟨.ref r, webT n us, .ref lo, .tuple (L.map PyData.int), .ref tl, .list (ms.map PyData.int), .int z, .int z, rfl, webH_th hW, by rw [webT_ties]; omega, .tupR hs.rd (all_ints L), ex_of hs, .lst ht (all_ints ms), by rw [bulk_ints]; omega, .int z, fun z => (by rw [webT_is W] at z; cases z), fun j ts em Wm => ?_⟩
  obtain ⟨rfl, rfl⟩ := webT_eq em
  refine ⟨fun z => (by rw [looseD_of hL] at z; cases z), fun M eM hM => ?_⟩
  have eM := loose_eq (n := j) eM
  subst eM
  rw [he, msOf_ints]
  refine ⟨fun z => (by rw [tour_d hm] at z; cases z), fun _ => ⟨fun zz => ?_, fun y ey h0 h1 p M H' S lM hM2 hp => ?_⟩⟩
  · have ec : countD (.int z) = (decide (0 ≤ z) && decide (z ≤ 10 ^ 30)) := rfl
    rw [ec, decide_eq_true z0, decide_eq_true z1] at zz
    cases zz
  · injection ey with ey
    subst ey
    have := tm_is hL he hm.bays hm.back lM hM2
    subst this
    exact q p H' S hp
end
/-- done of good moves -/
theorem done_goodT {r lo m : Addr} {n : Nat} {us : List (Int × Int)} {H : Hp} {Q : VK} {E : XK} {CW CS CM CB : Addr} {L ks : List Int} (hW : WebH H r n us) (W : WebP n us) (hts : us.length ≤ 1000) (hs : TupZ H lo (L.map V.int)) (hL : LooseP n L) (hm : H m = some (.lst (ks.map V.int))) (hl : ks.length ≤ 1000) (hb : ∀ b ∈ ks, Bay n b) (ht : tiedS (rowsOf n us) (e0 L) ks = true)
    (q : ∀ t H', Same H H' → TupZ H' t ((slidS L (e0 L) ks).1.map V.int) → Q (.ref t) H') : spDone CW CS CM CB [.ref r, .ref lo, .ref m] H Q E := by
  refine ⟨.ref r, webT n us, .ref lo, .tuple (L.map PyData.int), .ref m, .list (ks.map PyData.int), rfl, webH_th hW, by rw [webT_ties]; omega, .tupR hs.rd (all_ints L), ex_of hs, .lst hm (all_ints ks), by rw [bulk_ints]; omega, fun z => (by rw [webT_is W] at z; cases z), fun j ts em Wm => ?_⟩
  obtain ⟨rfl, rfl⟩ := webT_eq em
  refine ⟨fun z => (by rw [looseD_of hL] at z; cases z), fun _ z => ?_, fun M ms eM hM em2 hms => ?_⟩
  · have : movesD j (.list (ks.map PyData.int)) = true := List.all_eq_true.mpr fun d hd => by
      obtain ⟨y, hy, rfl⟩ := List.mem_map.mp hd
      have := hb y hy
      rw [bayD_int, decide_eq_true this.1, decide_eq_true this.2]
      rfl
    rw [this] at z
    cases z
  · have eM := loose_eq (n := j) eM
    subst eM
    have e2 : ms = ks := by
      injection em2 with em2
      have := congrArg (List.map intD) em2
      rw [map_intD, map_intD] at this
      exact this.symm
    subst e2
    exact ⟨fun z => (by rw [ht] at z; cases z), fun _ => q⟩
/-! ### tours that are none -/
section
variable {n : Nat} {us : List (Int × Int)} {e : Int}
theorem tour_moves {rss : List (List Int)} {d : PyData} (h : movesD n d = false) : tourD n rss e d = false := by
  unfold tourD
  rw [h]
  rfl
theorem tour_tied {rss : List (List Int)} {ms : List Int} (h : tiedS rss e ms = false) : tourD n rss e (.list (ms.map PyData.int)) = false := by
  unfold tourD
  rw [msOf_ints, h, Bool.false_and, Bool.and_false]
theorem tour_last {rss : List (List Int)} {ms : List Int} (h : lastS e ms ≠ e) : tourD n rss e (.list (ms.map PyData.int)) = false := by
  unfold tourD
  rw [msOf_ints, endsAt_last, decide_eq_false h, Bool.and_false, Bool.and_false]
theorem not_near (W : WebP n us) {v : Int} (v0 : 0 ≤ v) : v ∉ gR (rowsOf n us) v := fun h => by
  rcases (rows_iff W.ti v0).mp h with h | h
  · have := W.inn _ h
    have a := this.2.1
    dsimp only at a
    omega
  · have := W.inn _ h
    have a := this.2.1
    dsimp only at a
    omega
/-- along a way to a, then to what is not tied to a -/
theorem path_bad {a b : Int} {A B : List Int} (hl : lastS e A = a) (hb : b ∉ gR (rowsOf n us) a) : tiedS (rowsOf n us) e (A ++ [b] ++ B) = false := by
  rw [List.append_assoc, tiedS_app, hl]
  show (_ && (decide (b ∈ gR (rowsOf n us) a) && _)) = false
  rw [decide_eq_false hb, Bool.false_and, Bool.and_false]
end
end Sb

/-! ## RT42 -/
/-! The law: what is none is refused. -/
namespace Sb
open PySem PySem.Spec PyProof.Rows L2
open LamX (ExtN Tabs TabS)
abbrev sRefT : Stmt := top 66
theorem op_notInK {X : Cx} {K : PySem.W.Frag} (hK : X.K = K := by rfl) : OpR X (compareOp .NotIn) (rIn K true) := hK ▸ op_notIn_seq
theorem sl_tupZK {X : Cx} {K : PySem.W.Frag} (hK : X.K = K := by rfl) : SlR X rSlZ := sl_tupZ
theorem call_list_ofLK {X : Cx} {K : PySem.W.Frag} (hK : X.K = K := by rfl) : CallR X (.type "list") (fun xs H Q => ∃ p ys, xs = [.ref p] ∧ (SqL K H p ys ∨ SqT K H p ys) ∧ New H (.lst ys) Q) := hK ▸ call_list_ofL
theorem shaped_t3 : SeqAt.shaped (.list [.str "tour", .str "tour", .str "tour"]) = true := by decide +kernel
theorem shaped_b2 : SeqAt.shaped (.list [.str "bay", .str "bay"]) = true := by decide +kernel
theorem shaped_s2w3 : SeqAt.shaped (.list [.str "standing", .str "standing", .str "web", .str "web", .str "web"]) = true := by decide +kernel
theorem filt_more {α : Type} {p : α → Bool} {l : List α} {i : Nat} {x : α} (h : l[i]? = some x) : (l.take (i + 1)).filter p = (l.take i).filter p ++ if p x = true then [x] else [] := by
  rw [take_more h, List.filter_append]
  congr 1
  by_cases hp : p x = true
  · rw [if_pos hp]
    exact List.filter_cons_of_pos hp
  · rw [if_neg hp]
    exact List.filter_cons_of_neg hp
/-- the bays but one -/
def farL (n : Nat) (e : Int) : List Int := ((List.range n).map fun i : Nat => (i : Int)).filter fun z => decide (z ≠ e)
theorem farL_more {i : Nat} {e : Int} : farL (i + 1) e = farL i e ++ if (i : Int) ≠ e then [(i : Int)] else [] := by
  unfold farL
  rw [List.range_succ, List.map_append, List.filter_append]
  congr 1
  by_cases c : (i : Int) = e
  · rw [if_neg (fun z => z c)]
    simp [c]
  · rw [if_pos c]
    simp [c]
theorem farL_len (i : Nat) (e : Int) : (farL i e).length ≤ i := by
  unfold farL
  refine Nat.le_trans (List.length_filter_le _ _) ?_
  rw [List.length_map, List.length_range]
  exact Nat.le_refl _
theorem farL_mem {n : Nat} {e z : Int} : z ∈ farL n e ↔ Bay n z ∧ z ≠ e := by
  unfold farL
  rw [List.mem_filter, decide_eq_true_eq]
  refine and_congr_left fun _ => ⟨fun h => ?_, fun h => ?_⟩
  · obtain ⟨i, hi, rfl⟩ := List.mem_map.mp h
    have := List.mem_range.mp hi
    exact ⟨by omega, by omega⟩
  · exact List.mem_map.mpr ⟨z.toNat, List.mem_range.mpr (by have := h.1; have := h.2; omega), by have := h.1; omega⟩
/-- what is no tour -/
def Bd (n : Nat) (rss : List (List Int)) (e : Int) (H : Hp) (v : V) : Prop := ∃ d, Th H v d ∧ d.bulk ≤ 100000 ∧ tourD n rss e d = false
theorem Bd.ext {n : Nat} {rss : List (List Int)} {e : Int} {H H' : Hp} {v : V} (h : Bd n rss e H v) (k : ExtN H H') : Bd n rss e H' v := let ⟨d, a, b⟩ := h; ⟨d, a.ext k, b⟩
theorem Bd.lst {n : Nat} {rss : List (List Int)} {e : Int} {H : Hp} {a : Addr} {M : List Int} (h : H a = some (.lst (M.map V.int))) (hl : M.length ≤ 1000) (b : tiedS rss e M = false ∨ lastS e M ≠ e ∨ movesD n (.list (M.map PyData.int)) = false) : Bd n rss e H (.ref a) :=
  ⟨_, .lst h (all_ints M), by rw [bulk_ints]; omega, by
    rcases b with b | b | b
    · exact tour_tied b
    · exact tour_last b
    · exact tour_moves b⟩
theorem bulk_intsT : ∀ L : List Int, (PyData.tuple (L.map PyData.int)).bulk = L.length := fun L => by
  have := bulk_ints L
  rw [PyData.bulk] at this
  rw [PyData.bulk]
  exact this
def Pb (rss : List (List Int)) (e : Int) (D : Addr) (H : Hp) (v : V) : Prop := ∃ a M, v = .ref a ∧ a ≠ D ∧ H a = some (.lst (M.map V.int)) ∧ M.length ≤ 200 ∧ tiedS rss e M = false
theorem Pb.but {rss : List (List Int)} {e : Int} {D : Addr} {H H' : Hp} {v : V} (h : Pb rss e D H v) (B : But D H H') : Pb rss e D H' v := let ⟨a, M, h1, h2, h3, h4⟩ := h; ⟨a, M, h1, h2, B _ _ h2 h3, h4⟩
def OddL (rss : List (List Int)) (e : Int) (D : Addr) (xs0 : List V) (k : Nat) (H : Hp) : Prop := ∃ xs, H D = some (.lst xs) ∧ xs.length ≤ k ∧ ∀ v ∈ xs, v ∈ xs0 ∨ Pb rss e D H v
theorem cutV_three (xs : List V) : cutV xs none (some 3) = xs.take 3 := by
  unfold cutV
  rw [HT.sIx_none, show ((3 : Int)) = ((3 : Nat) : Int) from rfl, HT.sIx_nat, List.drop_zero, Nat.sub_zero]
  rcases Nat.le_total 3 xs.length with h | h
  · rw [Nat.min_eq_left h]
  · rw [Nat.min_eq_right h, List.take_of_length_le (Nat.le_refl _), List.take_of_length_le h]
/-- no bay: None, a truth -/
def NB (v : V) : Prop := v = .non ∨ ∃ b, v = .bl b
def tBad (i : Nat) : TE := fun σ H Q => ∃ z : Int, σ[i]? = some (some (.int z)) ∧ ∀ v, NB v → Q v H
theorem two_ways (i : Nat) : ∀ (σ : L2.St) (H : Hp) (Q : VK), tBad i σ H Q → tIf (tTest (tOp (rI0 fun i j => V.bl (decide (i < j))) (tVar i) (tC (V.int 2)))) (tOp rEq (tVar i) (tC (V.int 1))) (tC V.non) σ H Q := by
  rintro σ H Q ⟨z, hz, q⟩
  refine ⟨_, hz, _, _, rfl, rfl, _, rfl, ?_⟩
  by_cases c : z < 2
  · exact iteD (decide_eq_true c) ⟨_, hz, rfl, q _ (.inr ⟨_, rfl⟩)⟩
  · exact iteC (decide_eq_false c) (q _ (.inl rfl))
theorem NB.th {v : V} (h : NB v) (H : Hp) : ∃ d, Th H v d ∧ d.bulk = 0 ∧ ∀ n, bayD n d = false := by
  rcases h with rfl | ⟨b, rfl⟩
  · exact ⟨.none, .non, rfl, fun _ => rfl⟩
  · exact ⟨.bool b, .bl b, rfl, fun _ => rfl⟩
def spRefT (TT : List (Addr × Str)) : Sp := fun vs H Q _ => ∃ (r lo tl : Addr) (n : Nat) (us : List (Int × Int)) (e : Int) (L ms : List Int), vs = [.ref r, .int e, .ref lo, .ref tl] ∧ WebH H r n us ∧ WebP n us ∧ us.length ≤ 1000 ∧ TupZ H lo (L.map V.int) ∧ LooseP n L ∧ e0 L = e ∧ H tl = some (.lst (ms.map V.int)) ∧ TourP n (rowsOf n us) e ms ∧ ms.length ≤ 100 ∧ Tabs TT H ∧ ∀ H', ExtN H H' → Tabs TT H' → Q (.bl true) H'
section
variable {P : Program} {w : World} {K : PySem.W.Frag} {mg : Str → Option Value} {base : Heap} {C : Nat → Addr}
abbrev scRefTN : List Str := ["web", "bay", "loose", "tour", "far", "odds", "a", "near", "b", "found", "odd", "other"]
abbrev scRefTS : Scope := defScope sRefT
theorem scRefT : FnScope ["web", "bay", "loose", "tour", "far", "odds", "a", "near", "b", "found", "odd", "other"] ["web", "bay", "loose", "tour"] (defScope sRefT) := ⟨rfl, rfl, rfl, by decide +kernel, rfl, by decide +kernel, by decide +kernel⟩
structure RfTxt (mg : Str → Option Value) : Prop where
  range : mg "range" = none
  tuple : mg "tuple" = none
  list : mg "list" = none
theorem ok_refT {f fW fN fL fT fO fM Pl cl : Addr} {fdW fdN fdL fdT fdO fdM : FuncData} {oc : Value} {od : Option Addr} {dV kV doc pm ct : Value} {an : Option Addr} {osl : Array (Option Value)} {TT : List (Addr × Str)}
    (lk : K.lookup f = some ⟨oc, od, .func (PySem.W.fnOf "_law_refused_right" "_law_refused_right" (defArgs sRefT) (defBody sRefT) (defScope sRefT) dV kV doc pm an (.ref cl) ct), osl⟩) (hcd : PySem.W.codeIn K (.ref cl) "_law_refused_right" = true) (T : RfTxt mg) (E : Err6 K mg C)
    (FW : FnP K "_law_word" sWord fW fdW) (gW : mg "_law_word" = some (.ref fW))
    (FN : FnP K "_law_near" sNear fN fdN) (gN : mg "_law_near" = some (.ref fN)) (GN : FnOk P w K mg base CX0 1 fN fdN ["ties", "bay"] (spNear K)) (FL : FnP K "_law_path" sLPath fL fdL) (gL : mg "_law_path" = some (.ref fL)) (GL : FnOk P w K mg base CX0 3 fL fdL ["web", "a", "b"] (spLPath K))
    (FT : FnP K "turned" sTurned fT fdT) (gT : mg "turned" = some (.ref fT)) (GT : FnOk P w K mg base (L2.CX P w) 5 fT fdT ["web", "bay", "tour"] (spTurned (C 0) (C 1) (C 3)))
    (FO : FnP K "order_of" sOrderOf fO fdO) (gO : mg "order_of" = some (.ref fO)) (GO : FnOk P w K mg base (L2.CX P w) 5 fO fdO ["web", "bay", "tour"] (spOrderOf (C 0) (C 1) (C 3)))
    (FM : FnP K "done_many" sDoneMany fM fdM) (gM : mg "done_many" = some (.ref fM)) (GM : FnOk P w K mg base (L2.CX P w) 6 fM fdM ["web", "loose", "tour", "times"] (spDoneMany (C 0) (C 2) (C 3) (C 4)))
    (TB : LamX.TabB base mg cl Pl) (hmT : (Pl, qOf "_law_refused_right") ∈ TT) (hu : ∀ p ∈ TT, p.1 = Pl → p.2 = qOf "_law_refused_right") : FnOk P w K mg base CX0 9 f (PySem.W.fnOf "_law_refused_right" "_law_refused_right" (defArgs sRefT) (defBody sRefT) (defScope sRefT) dV kV doc pm an (.ref cl) ct) ["web", "bay", "loose", "tour"] (spRefT TT) := by
  have bW : Binds K fdW ["call"] [] := FW.bindsN fun _ _ _ _ _ _ us hl => match us, hl with | [_], _ => rfl
  have bN : Binds K fdN ["ties", "bay"] [] := FN.bindsN fun _ _ _ _ _ _ us hl => match us, hl with | [_, _], _ => rfl
  have bL : Binds K fdL ["web", "a", "b"] [] := FL.bindsN fun _ _ _ _ _ _ us hl => match us, hl with | [_, _, _], _ => rfl
  have bT : Binds K fdT ["web", "bay", "tour"] [] := FT.bindsN fun _ _ _ _ _ _ us hl => match us, hl with | [_, _, _], _ => rfl
  have bO : Binds K fdO ["web", "bay", "tour"] [] := FO.bindsN fun _ _ _ _ _ _ us hl => match us, hl with | [_, _, _], _ => rfl
  have bM : Binds K fdM ["web", "loose", "tour", "times"] [] := FM.bindsN fun _ _ _ _ _ _ us hl => match us, hl with | [_, _, _, _], _ => rfl
  obtain ⟨sT, eT⟩ : ∃ s : Sp, s = spTurned (C 0) (C 1) (C 3) := ⟨_, rfl⟩
  obtain ⟨sO, eO⟩ : ∃ s : Sp, s = spOrderOf (C 0) (C 1) (C 3) := ⟨_, rfl⟩
  obtain ⟨sM, eM⟩ : ∃ s : Sp, s = spDoneMany (C 0) (C 2) (C 3) (C 4) := ⟨_, rfl⟩
  rw [← eT] at GT
  rw [← eO] at GO
  rw [← eM] at GM
  obtain ⟨ocC, odC, dVC, kVC, docC, pmC, anC, cdC, ctC, oslC, rfl, lkC, hcC, _, _⟩ := FW.ex
  refine fn_of (k := 8) lk hcd scRefT (fun vs H Q E h => ?_) (fun A outer s H vs Q E0 hr h => ?_)
  · obtain ⟨r, lo, tl, n, us, e, L, ms, rfl, _⟩ := h
    rfl
  · have hrL : Room (6 + 2) _ := hr
    have hr1 : Room 1 _ := hr.mono (by decide)
    have hr3 : Room 3 _ := hr.mono (by decide)
    refine ⟨_, PSs.nox (pss_cons (ps_setLc (i := 4) (own := [("other", 11)]) (g := gName 11) (by rfl) scRefT.nd rfl rfl (sw_true rfl rfl rfl (by decide +kernel)) (pi_range1 (by rfl) T.range (pa_cons (pe_ix (ix_tupK (K := K)) (pv 0) pe_int (fun _ _ => rfl)) pa_nil)) (blkOk_by (own := [("other", 11)]) (N := scRefTN) (sc := scRefTS) (by decide +kernel)) (fun _ _ _ _ _ => pg_name (i := 11) scRefT.nd rfl (Or.inl rfl)) (fun _ _ _ _ _ => pts_one (pt_cmpR op_ne (pv 11) (pv 1) (nomark _))) (fun _ _ _ _ _ => (pv 11)))
    (pss_cons (ps_set (i := 5) scRefT.nd rfl (Or.inl rfl) (pe_lstL (pa_cons pe_non (pa_cons (pe_tupL pa_nil) (pa_cons (pe_callTy (T := "tuple") call_tuple_ofZ (by rfl) T.tuple (by decide +kernel) (pa_cons (pv 3) pa_nil)) (pa_cons (pe_lstL (pa_cons (pe_ix ix_list (pv 4) pe_int (fun _ _ => rfl)) pa_nil)) (pa_cons (pe_lstL (pa_cons (pv 1) pa_nil)) (pa_cons (pe_lstL (pa_cons pe_non pa_nil)) (pa_cons (pe_op op_catL (pv 3) (pe_lstL (pa_cons (pe_ix (ix_tupK (K := K)) (pv 0) pe_int (fun _ _ => rfl)) pa_nil))) (pa_cons (pe_lstL (pa_cons pe_bl pa_nil)) (pa_cons pe_str pa_nil)))))))))))
    (pss_cons (ps_for PassesOwn.never rfl (pi_list (pe_slice sl_listL (pv 4) po_none (po_some pe_int))) (pg_name (i := 6) scRefT.nd rfl (Or.inl rfl))
      (pss_cons (ps_set (i := 7) scRefT.nd rfl (Or.inr rfl) (pe_call GN hr1 rfl gN FN.kp bN .nil pass0 (pa_cons (pe_ix (ix_tupK (K := K)) (pv 0) pe_int (fun _ _ => rfl)) (pa_cons (pv 6) pa_nil))))
    (pss_one (ps_for PassesOwn.never rfl (pi_list (pe_lc (own := [("other", 11)]) (g := gName 11) (by rfl) scRefT.nd (pi_list (pv 4)) (blkOk_by (own := [("other", 11)]) (N := scRefTN) (sc := scRefTS) (by decide +kernel)) (fun _ _ _ _ _ => pg_name (i := 11) scRefT.nd rfl (Or.inl rfl)) (fun _ _ _ _ _ => pts_one (pt_cmpR (op_notInK (K := K)) (pv 11) (pv 7) (by rfl))) (fun _ _ _ _ _ => (pv 11)))) (pg_name (i := 8) scRefT.nd rfl (Or.inl rfl))
      (pss_one (ps_expr (pe_bm PySem.F.plainAttrs_list PySem.F.slot_list_append PySem.F.type_list_append mt_appendL (pv 5) (pa_cons (pe_op op_catL (pe_op op_catL (pe_call GL hr3 rfl gL FL.kp bL .nil pass0 (pa_cons (pv 0) (pa_cons (pv 1) (pa_cons (pv 6) pa_nil)))) (pe_lstL (pa_cons (pv 8) pa_nil))) (pe_call GL hr3 rfl gL FL.kp bL .nil pass0 (pa_cons (pv 0) (pa_cons (pv 8) (pa_cons (pv 1) pa_nil))))) pa_nil))))))))
    (pss_cons (ps_set (i := 7) scRefT.nd rfl (Or.inr rfl) (pe_ix ix_list (pe_call GN hr1 rfl gN FN.kp bN .nil pass0 (pa_cons (pe_ix (ix_tupK (K := K)) (pv 0) pe_int (fun _ _ => rfl)) (pa_cons (pv 1) pa_nil))) pe_int (fun _ _ => rfl)))
    (pss_cons (ps_set (i := 5) scRefT.nd rfl (Or.inl rfl) (pe_op op_catL (pv 5) (pe_lstL (pa_cons (pe_lstL (pa_cons (PE.weak (pe_ifExp (pt_cmpR op_lt (pv 7) pe_int (nomark _)) (pe_cmpR op_eq (pv 7) pe_int (nomark _)) pe_non) (two_ways 7)) (pa_cons (pv 1) pa_nil))) (pa_cons (pe_lstL (pa_cons (pv 7) (pa_cons (PE.weak (pe_ifExp (pt_cmpR op_lt (pv 1) pe_int (nomark _)) (pe_cmpR op_eq (pv 1) pe_int (nomark _)) pe_non) (two_ways 1)) pa_nil))) (pa_cons (pe_lstL (pa_cons (pe_lstL (pa_cons pe_int pa_nil)) (pa_cons (pv 1) pa_nil))) (pa_cons (pe_lstL (pa_cons pe_dnewK pa_nil)) pa_nil)))))))
    (pss_cons (ps_for PassesOwn.never rfl (pi_list (pe_op op_catL (pv 5) (pe_lstL (pa_cons (pe_op op_catL (pv 3) (pe_lstL (pa_cons (pv 7) pa_nil))) pa_nil)))) (pg_name (i := 10) scRefT.nd rfl (Or.inr rfl))
      (pss_cons (ps_set (i := 9) scRefT.nd rfl (Or.inl rfl) (pe_lstL (pa_cons (LamX.pe_lamcall (T := TT) (a := "call") (k := 6) (Ng := ["call", "e"]) rfl gW FW.kp lkC hcC bW scWord rfl (.inl rfl) (word_gives E) TB rfl hmT hu hrL (LamX.lamS_by (show LamX.lamSB (defScope sRefT) _ = true from by decide +kernel)) rfl (fun _ _ _ _ _ => rfl) (fun A outer s H E f c' hr' => pe_call GT (hr'.mono (by decide)) rfl gT FT.kp bT .nil (passes_call (takes_of rfl rfl rfl rfl) (fun _ _ _ _ h => h)) (pa_cons (pv 0) (pa_cons (pv 1) (pa_cons (pv 10) pa_nil))))) pa_nil)))
    (pss_cons (ps_expr (pe_bm PySem.F.plainAttrs_list PySem.F.slot_list_append PySem.F.type_list_append mt_appendL (pv 9) (pa_cons (LamX.pe_lamcall (T := TT) (a := "call") (k := 6) (Ng := ["call", "e"]) rfl gW FW.kp lkC hcC bW scWord rfl (.inl rfl) (word_gives E) TB rfl hmT hu hrL (LamX.lamS_by (show LamX.lamSB (defScope sRefT) _ = true from by decide +kernel)) rfl (fun _ _ _ _ _ => rfl) (fun A outer s H E f c' hr' => pe_call GO (hr'.mono (by decide)) rfl gO FO.kp bO .nil (passes_call (takes_of rfl rfl rfl rfl) (fun _ _ _ _ h => h)) (pa_cons (pv 0) (pa_cons (pv 1) (pa_cons (pv 10) pa_nil))))) pa_nil)))
    (pss_cons (ps_expr (pe_bm PySem.F.plainAttrs_list PySem.F.slot_list_append PySem.F.type_list_append mt_appendL (pv 9) (pa_cons (LamX.pe_lamcall (T := TT) (a := "call") (k := 6) (Ng := ["call", "e"]) rfl gW FW.kp lkC hcC bW scWord rfl (.inl rfl) (word_gives E) TB rfl hmT hu hrL (LamX.lamS_by (show LamX.lamSB (defScope sRefT) _ = true from by decide +kernel)) rfl (fun _ _ _ _ _ => rfl) (fun A outer s H E f c' hr' => pe_call GM hr' rfl gM FM.kp bM .nil (passes_call (takes_of rfl rfl rfl rfl) (fun _ _ _ _ h => h)) (pa_cons (pv 0) (pa_cons (pv 2) (pa_cons (pv 10) (pa_cons pe_non pa_nil)))))) pa_nil)))
    (pss_one (ps_if (pt_cmpR (op_neD hr.units) (pv 9) (pe_op op_repL (pe_lstL (pa_cons pe_str pa_nil)) pe_int) (nomark _))
      (pss_one (ps_ret pe_bl))
      pss_nil))))))
    (pss_cons (ps_for PassesOwn.never rfl (pi_list (pe_lstL (pa_cons pe_non (pa_cons (pe_un un_neg pe_int) (pa_cons (pe_ix (ix_tupK (K := K)) (pv 0) pe_int (fun _ _ => rfl)) (pa_cons pe_bl (pa_cons pe_bl (pa_cons pe_str (pa_cons (pe_lstL (pa_cons pe_int pa_nil)) (pa_cons pe_dnewK pa_nil)))))))))) (pg_name (i := 10) scRefT.nd rfl (Or.inr rfl))
      (pss_cons (ps_set (i := 9) scRefT.nd rfl (Or.inl rfl) (pe_lstL (pa_cons (LamX.pe_lamcall (T := TT) (a := "call") (k := 6) (Ng := ["call", "e"]) rfl gW FW.kp lkC hcC bW scWord rfl (.inl rfl) (word_gives E) TB rfl hmT hu hrL (LamX.lamS_by (show LamX.lamSB (defScope sRefT) _ = true from by decide +kernel)) rfl (fun _ _ _ _ _ => rfl) (fun A outer s H E f c' hr' => pe_call GT (hr'.mono (by decide)) rfl gT FT.kp bT .nil (passes_call (takes_of rfl rfl rfl rfl) (fun _ _ _ _ h => h)) (pa_cons (pv 0) (pa_cons (pv 10) (pa_cons pe_non pa_nil))))) pa_nil)))
    (pss_cons (ps_expr (pe_bm PySem.F.plainAttrs_list PySem.F.slot_list_append PySem.F.type_list_append mt_appendL (pv 9) (pa_cons (LamX.pe_lamcall (T := TT) (a := "call") (k := 6) (Ng := ["call", "e"]) rfl gW FW.kp lkC hcC bW scWord rfl (.inl rfl) (word_gives E) TB rfl hmT hu hrL (LamX.lamS_by (show LamX.lamSB (defScope sRefT) _ = true from by decide +kernel)) rfl (fun _ _ _ _ _ => rfl) (fun A outer s H E f c' hr' => pe_call GO (hr'.mono (by decide)) rfl gO FO.kp bO .nil (passes_call (takes_of rfl rfl rfl rfl) (fun _ _ _ _ h => h)) (pa_cons (pv 0) (pa_cons (pv 10) (pa_cons pe_non pa_nil))))) pa_nil)))
    (pss_one (ps_if (pt_cmpR (op_neD hr.units) (pv 9) (pe_op op_repL (pe_lstL (pa_cons pe_str pa_nil)) pe_int) (nomark _))
      (pss_one (ps_ret pe_bl))
      pss_nil)))))
    (pss_cons (ps_for PassesOwn.never rfl (pi_list (pe_lstL (pa_cons pe_non (pa_cons (pe_un un_neg pe_int) (pa_cons pe_bl (pa_cons pe_bl (pa_cons pe_str (pa_cons (pe_lstL (pa_cons pe_int pa_nil)) (pa_cons (pe_op op_add (pe_op op_pow pe_int pe_int) pe_int) pa_nil))))))))) (pg_name (i := 10) scRefT.nd rfl (Or.inr rfl))
      (pss_one (ps_if (pt_cmpR op_ne (LamX.pe_lamcall (T := TT) (a := "call") (k := 6) (Ng := ["call", "e"]) rfl gW FW.kp lkC hcC bW scWord rfl (.inl rfl) (word_gives E) TB rfl hmT hu hrL (LamX.lamS_by (show LamX.lamSB (defScope sRefT) _ = true from by decide +kernel)) rfl (fun _ _ _ _ _ => rfl) (fun A outer s H E f c' hr' => pe_call GM hr' rfl gM FM.kp bM .nil (passes_call (takes_of rfl rfl rfl rfl) (fun _ _ _ _ h => h)) (pa_cons (pv 0) (pa_cons (pv 2) (pa_cons (pv 3) (pa_cons (pv 10) pa_nil)))))) pe_str (nomark _))
      (pss_one (ps_ret pe_bl))
      pss_nil)))
    (pss_cons (ps_set (i := 9) scRefT.nd rfl (Or.inl rfl) (pe_lstL (pa_cons (LamX.pe_lamcall (T := TT) (a := "call") (k := 6) (Ng := ["call", "e"]) rfl gW FW.kp lkC hcC bW scWord rfl (.inl rfl) (word_gives E) TB rfl hmT hu hrL (LamX.lamS_by (show LamX.lamSB (defScope sRefT) _ = true from by decide +kernel)) rfl (fun _ _ _ _ _ => rfl) (fun A outer s H E f c' hr' => pe_call GM hr' rfl gM FM.kp bM .nil (passes_call (takes_of rfl rfl rfl rfl) (fun _ _ _ _ h => h)) (pa_cons (pv 0) (pa_cons (pe_slice (sl_tupZK (K := K)) (pv 2) (po_some pe_int) po_none) (pa_cons pe_non (pa_cons pe_non pa_nil)))))) pa_nil)))
    (pss_cons (ps_expr (pe_bm PySem.F.plainAttrs_list PySem.F.slot_list_append PySem.F.type_list_append mt_appendL (pv 9) (pa_cons (LamX.pe_lamcall (T := TT) (a := "call") (k := 6) (Ng := ["call", "e"]) rfl gW FW.kp lkC hcC bW scWord rfl (.inl rfl) (word_gives E) TB rfl hmT hu hrL (LamX.lamS_by (show LamX.lamSB (defScope sRefT) _ = true from by decide +kernel)) rfl (fun _ _ _ _ _ => rfl) (fun A outer s H E f c' hr' => pe_call GM hr' rfl gM FM.kp bM .nil (passes_call (takes_of rfl rfl rfl rfl) (fun _ _ _ _ h => h)) (pa_cons (pv 0) (pa_cons (pe_callTy (T := "list") (call_list_ofLK (K := K)) (by rfl) T.list (by decide +kernel) (pa_cons (pv 2) pa_nil)) (pa_cons (pv 3) (pa_cons pe_int pa_nil)))))) pa_nil)))
    (pss_cons (ps_expr (pe_bm PySem.F.plainAttrs_list PySem.F.slot_list_append PySem.F.type_list_append mt_appendL (pv 9) (pa_cons (LamX.pe_lamcall (T := TT) (a := "call") (k := 6) (Ng := ["call", "e"]) rfl gW FW.kp lkC hcC bW scWord rfl (.inl rfl) (word_gives E) TB rfl hmT hu hrL (LamX.lamS_by (show LamX.lamSB (defScope sRefT) _ = true from by decide +kernel)) rfl (fun _ _ _ _ _ => rfl) (fun A outer s H E f c' hr' => pe_call GT (hr'.mono (by decide)) rfl gT FT.kp bT .nil (passes_call (takes_of rfl rfl rfl rfl) (fun _ _ _ _ h => h)) (pa_cons pe_non (pa_cons pe_non (pa_cons pe_non pa_nil))))) pa_nil)))
    (pss_cons (ps_expr (pe_bm PySem.F.plainAttrs_list PySem.F.slot_list_append PySem.F.type_list_append mt_appendL (pv 9) (pa_cons (LamX.pe_lamcall (T := TT) (a := "call") (k := 6) (Ng := ["call", "e"]) rfl gW FW.kp lkC hcC bW scWord rfl (.inl rfl) (word_gives E) TB rfl hmT hu hrL (LamX.lamS_by (show LamX.lamSB (defScope sRefT) _ = true from by decide +kernel)) rfl (fun _ _ _ _ _ => rfl) (fun A outer s H E f c' hr' => pe_call GO (hr'.mono (by decide)) rfl gO FO.kp bO .nil (passes_call (takes_of rfl rfl rfl rfl) (fun _ _ _ _ h => h)) (pa_cons (pe_tupL pa_nil) (pa_cons pe_non (pa_cons pe_non pa_nil))))) pa_nil)))
    (pss_cons (ps_expr (pe_bm PySem.F.plainAttrs_list PySem.F.slot_list_append PySem.F.type_list_append mt_appendL (pv 9) (pa_cons (LamX.pe_lamcall (T := TT) (a := "call") (k := 6) (Ng := ["call", "e"]) rfl gW FW.kp lkC hcC bW scWord rfl (.inl rfl) (word_gives E) TB rfl hmT hu hrL (LamX.lamS_by (show LamX.lamSB (defScope sRefT) _ = true from by decide +kernel)) rfl (fun _ _ _ _ _ => rfl) (fun A outer s H E f c' hr' => pe_call GM hr' rfl gM FM.kp bM .nil (passes_call (takes_of rfl rfl rfl rfl) (fun _ _ _ _ h => h)) (pa_cons (pe_tupL (pa_cons pe_int (pa_cons (pe_tupL pa_nil) pa_nil))) (pa_cons (pv 2) (pa_cons (pv 3) (pa_cons pe_int pa_nil)))))) pa_nil)))
    (pss_one (ps_ret (pe_cmpR (op_eqD hr.units) (pv 9) (pe_op op_catL (pe_op op_repL (pe_lstL (pa_cons pe_str pa_nil)) pe_int) (pe_op op_repL (pe_lstL (pa_cons pe_str pa_nil)) pe_int)) (nomark _))))))))))))))))), ?_⟩
    obtain ⟨r, lo, tl, n, us, e, L, ms, rfl, hW, W, hts, hs, hL, he, htl, hm, hml, hT, q⟩ := h
    have n40 := W.n40
    have n2 := W.n2
    have hb : Bay n e := by
      have := (e0_at hL.zero).1
      rw [hL.len, he] at this
      exact this
    have hb0 := hb.1
    have hbe1 := hb.2
    have t_bad : ∀ {H : Hp} {Q : VK} {E : XK} {v : V} {d : PyData}, WebH H r n us → Th H v d → d.bulk ≤ 100000 → tourD n (rowsOf n us) e d = false → (∀ H', Same H H' → E (.ref (C 3)) none H') → sT [.ref r, .int e, v] H Q E := by
      subst eT
      exact fun a b c d f => turned_bad a W hts hb b c d f
    have o_bad : ∀ {H : Hp} {Q : VK} {E : XK} {v : V} {d : PyData}, WebH H r n us → Th H v d → d.bulk ≤ 100000 → tourD n (rowsOf n us) e d = false → (∀ H', Same H H' → E (.ref (C 3)) none H') → sO [.ref r, .int e, v] H Q E := by
      subst eO
      exact fun a b c d f => order_bad a W hts hb b c d f
    have m_bad : ∀ {H : Hp} {Q : VK} {E : XK} {v k : V} {d dk : PyData}, WebH H r n us → TupZ H lo (L.map V.int) → Th H v d → d.bulk ≤ 100000 → Th H k dk → tourD n (rowsOf n us) e d = false → (∀ H', Same H H' → E (.ref (C 3)) none H') → sM [.ref r, .ref lo, v, k] H Q E := by
      subst eM
      exact fun a b c d f g h => many_bad a W hts b hL he c d f g h
    have t_bay : ∀ {H : Hp} {Q : VK} {E : XK} {v : V} {d : PyData}, WebH H r n us → Th H v d → bayD n d = false → (∀ H', Same H H' → E (.ref (C 1)) none H') → sT [.ref r, v, .non] H Q E := by
      subst eT
      exact fun a b c d => turned_bay a W hts b c d
    have o_bay : ∀ {H : Hp} {Q : VK} {E : XK} {v : V} {d : PyData}, WebH H r n us → Th H v d → bayD n d = false → (∀ H', Same H H' → E (.ref (C 1)) none H') → sO [.ref r, v, .non] H Q E := by
      subst eO
      exact fun a b c d => order_bay a W hts b c d
    have t_web : ∀ {H : Hp} {Q : VK} {E : XK} {v : V} {d : PyData}, Th H v d → tiesOf d ≤ 100000 → webD d = false → (∀ H', Same H H' → E (.ref (C 0)) none H') → sT [v, .non, .non] H Q E := by
      subst eT
      exact fun a b c d => turned_badw a b c d
    have o_web : ∀ {H : Hp} {Q : VK} {E : XK} {v : V} {d : PyData}, Th H v d → tiesOf d ≤ 100000 → webD d = false → (∀ H', Same H H' → E (.ref (C 0)) none H') → sO [v, .non, .non] H Q E := by
      subst eO
      exact fun a b c d => order_badw a b c d
    have m_web : ∀ {H : Hp} {Q : VK} {E : XK} {v x m k : V} {d dx dm dk : PyData}, Th H v d → tiesOf d ≤ 100000 → webD d = false → Th H x dx → ExV H x → Th H m dm → dm.bulk ≤ 100000 → Th H k dk → (∀ H', Same H H' → E (.ref (C 0)) none H') → sM [v, x, m, k] H Q E := by
      subst eM
      exact fun a b c d f g h i j => many_badw a b c d f g h i j
    have m_stand : ∀ {H : Hp} {Q : VK} {E : XK} {v x k : V} {d dx dk : PyData}, WebH H r n us → Th H x dx → ExV H x → looseD n dx = false → Th H v d → d.bulk ≤ 100000 → Th H k dk → (∀ H', Same H H' → E (.ref (C 2)) none H') → sM [.ref r, x, v, k] H Q E := by
      subst eM
      exact fun a b c d f g h i => many_stand a W hts b c d f g h i
    have m_count : ∀ {H : Hp} {Q : VK} {E : XK} {v k : V} {d dk : PyData}, WebH H r n us → TupZ H lo (L.map V.int) → Th H v d → d.bulk ≤ 100000 → tourD n (rowsOf n us) e d = true → Th H k dk → countD dk = false → (∀ H', Same H H' → E (.ref (C 4)) none H') → sM [.ref r, .ref lo, v, k] H Q E := by
      subst eM
      exact fun a b c d f g h i => many_count a W hts b hL he c d f g h i
    clear eT eO eM
    -- far
    obtain ⟨wa, wt, ewa, hwa, hT2⟩ := hW.at (K := K)
    cases ewa
    refine ⟨_, rfl, r, _, _, .int (n : Int), rfl, rfl, hwa, at_of (j := 0) rfl rfl, (n : Int), rfl, by omega, by omega, fun F0 hF0 => lc_range (lo := 0) (n := ((n : Int)).toNat) (fun i H' => Same H H' ∧ H' F0 = some (.lst ((farL i e).map V.int))) ⟨same_upd hF0, by rw [upd_same]; rfl⟩ (fun i H3 hi ⟨S3, h3⟩ => ?_) (fun H3 ⟨S3, h3⟩ => ?_)⟩
    · rw [Int.toNat_natCast] at hi
      refine ⟨rfl, _, rfl, _, rfl, rfl, _, rfl, ?_⟩
      by_cases c : (i : Int) = e
      · refine iteC (by rw [decide_eq_true (show V.int (0 + (i : Int)) = V.int e by rw [c, Int.zero_add])]; rfl) ⟨S3, ?_⟩
        rw [farL_more, if_neg (fun z => z c), List.append_nil]
        exact h3
      · refine iteD (by rw [decide_eq_false (fun z => c (by have z := V.int.inj z; omega))]; rfl) ⟨_, rfl, _, h3, ?_, fun u o hu => by rw [upd_ne (ne_of_none hu hF0)]; exact S3 _ _ hu, ?_⟩
        · rw [List.length_map]
          have := farL_len i e
          rw [sizeLine_eq]
          omega
        · rw [upd_same, farL_more, if_pos c, List.map_append, Int.zero_add]
          rfl
    rw [Int.toNat_natCast] at h3
    obtain ⟨z0, F1, eF⟩ : ∃ z0 F1, farL n e = z0 :: F1 := by
      cases q : farL n e with
      | nil =>
        have h1 : (if e = 0 then (1 : Int) else 0) ∈ farL n e := farL_mem.mpr (by split <;> exact ⟨⟨by omega, by omega⟩, by omega⟩)
        rw [q] at h1
        cases h1
      | cons x y => exact ⟨x, y, rfl⟩
    have hz0 := farL_mem.mp (show z0 ∈ farL n e by rw [eF]; exact List.mem_cons_self)
    refine ⟨by show 0 ≤ sizeLine; decide, fun t1 A1 a1 U1 g1 => ?_⟩
    have V1 := S3.trans U1
    refine ⟨_, rfl, tl, _, rfl, .inl ⟨SqL.of (V1 _ _ htl), fun t2 A2 a2 U2 g2 => ?_⟩⟩
    have V2 := V1.trans U2
    refine ⟨_, rfl, F0, _, _, .int z0, rfl, rfl, SqL.of ((U1.trans U2) _ _ h3), at_of (j := 0) rfl (by rw [eF]; rfl), by show 1 ≤ sizeLine; decide, fun l3 A3 a3 U3 g3 => ?_⟩
    refine ⟨_, rfl, by show 1 ≤ sizeLine; decide, fun l4 A4 a4 U4 g4 => ⟨by show 1 ≤ sizeLine; decide, fun l5 A5 a5 U5 g5 => ?_⟩⟩
    have V5 := ((V2.trans U3).trans U4).trans U5
    refine ⟨_, rfl, _, rfl, r, _, _, _, rfl, rfl, sqT_same V5 hwa, at_of (j := 0) rfl rfl, by show 1 ≤ sizeLine; decide, fun l6 A6 a6 U6 g6 => ⟨tl, l6, _, _, rfl, rfl, (V5.trans U6) _ _ htl, g6, by rw [List.length_map, sizeLine_eq]; show ms.length + 1 ≤ _; omega, fun l7 A7 a7 U7 g7 => ⟨by show 1 ≤ sizeLine; decide, fun l8 A8 a8 U8 g8 => ⟨by show 9 ≤ sizeLine; decide, fun D HD aD UD hD => ?_⟩⟩⟩⟩
    have V8 := ((V5.trans U6).trans U7).trans U8
    have U28 := (((((U3.trans U4).trans U5).trans U6).trans U7).trans U8)
    have bd8 : ∀ v ∈ [V.non, V.ref t1, V.ref t2, V.ref l3, V.ref l4, V.ref l5, V.ref l7, V.ref l8, V.str ("0")], Bd n (rowsOf n us) e A8 v := by
      have g2' := TupZ.same g2 U28
      have g1' := U28 _ _ (U2 _ _ g1)
      have g3' := (((((U4.trans U5).trans U6).trans U7).trans U8)) _ _ g3
      have g4' := ((((U5.trans U6).trans U7).trans U8)) _ _ g4
      have g5' := (((U6.trans U7).trans U8)) _ _ g5
      have g7' := U8 _ _ g7
      intro v hv
      simp only [List.mem_cons, List.not_mem_nil, or_false] at hv
      rcases hv with rfl | rfl | rfl | rfl | rfl | rfl | rfl | rfl | rfl
      · exact ⟨.none, .non, by decide, tour_moves rfl⟩
      · exact ⟨.tuple [], th_tup g1' .nil, by decide +kernel, tour_moves rfl⟩
      · exact ⟨.tuple (ms.map PyData.int), .tupR g2'.rd (all_ints ms), by rw [bulk_intsT]; omega, tour_moves rfl⟩
      · exact Bd.lst (M := [z0]) g3' (by show 1 ≤ 1000; decide) (.inr (.inl hz0.2))
      · refine Bd.lst (M := [e]) g4' (by show 1 ≤ 1000; decide) (.inl ?_)
        show (decide (e ∈ gR (rowsOf n us) e) && true) = false
        rw [decide_eq_false (not_near W hb0)]
        rfl
      · exact ⟨.list [.none], .lst g5' (.cons .non .nil), by decide +kernel, tour_moves rfl⟩
      · refine Bd.lst (M := ms ++ [(n : Int)]) (by rw [g7', List.map_append]; rfl) (by rw [List.length_append]; show ms.length + 1 ≤ _; omega) (.inr (.inr ?_))
        show (List.map PyData.int (ms ++ [(n : Int)])).all (bayD n) = false
        rw [List.map_append, List.all_append]
        show (_ && (bayD n (.int (n : Int)) && true)) = false
        rw [bayD_int, decide_eq_false (show ¬ ((n : Int) < (n : Int)) by omega), Bool.and_false, Bool.false_and, Bool.and_false]
      · exact ⟨.list [.bool true], .lst g8 (.cons (.bl true) .nil), by decide +kernel, tour_moves rfl⟩
      · exact ⟨.str "0", .str _, by decide +kernel, tour_moves rfl⟩
    have VD := V8.trans UD
    have hF0D := ((((U1.trans U2).trans U28)).trans UD) _ _ h3
    have nFD : F0 ≠ D := ne_of_none (((U1.trans U2).trans U28) _ _ h3) aD
    clear g1 g2 g3 g4 g5 g6 g7 g8
    obtain ⟨xs0, exs0⟩ : ∃ l : List V, l = [V.non, V.ref t1, V.ref t2, V.ref l3, V.ref l4, V.ref l5, V.ref l7, V.ref l8, V.str ("0")] := ⟨_, rfl⟩
    have lx0 : xs0.length = 9 := by rw [exs0]; rfl
    rw [← exs0] at bd8 hD
    refine ⟨_, rfl, 3, rfl, F0, _, rfl, SqL.of hF0D, fun G0 HG aG UG hG => ?_⟩
    rw [cutV_three, ← List.map_take] at hG
    have hDG := UG _ _ hD
    have nGD : G0 ≠ D := (ne_of_none hD aG).symm
    refine ⟨_, rfl, ⟨_, SqL.of hG⟩, for_list (K := K) (a := G0) (xs := ((farL n e).take 3).map V.int) (fun i σ H' => (∃ x6 x7 x8, σ = [some (.ref r), some (.int e), some (.ref lo), some (.ref tl), some (.ref F0), some (.ref D), x6, x7, x8, none, none, none]) ∧ But D HG H' ∧ OddL (rowsOf n us) e D xs0 (9 + 40 * i) H') ⟨⟨_, _, _, rfl⟩, sameBut (Same.refl _), xs0, hDG, by omega, fun v hv => .inl hv⟩ (fun i σ H' _ ⟨_, B, _⟩ => SqL.of (B _ _ nGD hG)) ?_ ?_⟩
    · rintro i y σ H5 hi ⟨⟨x6, x7, x8, rfl⟩, B5, xs, h5, lx, hx⟩
      obtain ⟨a, ha, rfl⟩ := getMap hi
      have hai := List.mem_of_mem_take (List.mem_of_getElem? ha)
      obtain ⟨⟨a0, a1⟩, ane⟩ := farL_mem.mp hai
      have S5 : Same H H5 := same_but (VD.trans UG) (V8.free aD) B5
      have hW5 := webH_ext hW (extS S5)
      obtain ⟨wa5, wt5, ewa5, hwa5, hT5⟩ := hW5.at (K := K)
      cases ewa5
      refine ⟨_, rfl, r, _, _, _, rfl, rfl, hwa5, at_of (j := 1) rfl rfl, _, rfl, wt5, us, _, rfl, hT5, by omega, fun out nl H6 hpm hst S6 nn hn => ?_⟩
      have eo : out = gR (rowsOf n us) a := near_row (n := n) a0 W.asc W.inn hpm hst
      subst eo
      have hF6 := S6 _ _ (B5 _ _ nFD (UG _ _ hF0D))
      refine ⟨_, rfl, F0, rfl, ⟨_, SqL.of hF6⟩, fun B0 hB0 => lc_list (K := K) (a := F0) (xs := (farL n e).map V.int) (fun j H' => Same H6 H' ∧ H' B0 = some (.lst ((((farL n e).take j).filter fun z => !decide (z ∈ gR (rowsOf n us) a)).map V.int))) ⟨same_upd hB0, by rw [upd_same, List.take_zero]; rfl⟩ (fun j H' _ ⟨S, _⟩ => SqL.of (S _ _ hF6)) (fun j y H' hj ⟨S, hb⟩ => ?_) (fun H7 ⟨S7, h7⟩ => ?_)⟩
      · obtain ⟨z, hz, rfl⟩ := getMap hj
        have fm := filt_more (p := fun z : Int => !decide (z ∈ gR (rowsOf n us) a)) hz
        have lf := List.length_filter_le (fun z : Int => !decide (z ∈ gR (rowsOf n us) a)) ((farL n e).take j)
        rw [List.length_take] at lf
        have := farL_len n e
        refine ⟨rfl, _, rfl, _, rfl, nl, _, rfl, .inl (SqL.of (S _ _ hn)), rfl, flat_ints, _, rfl, ?_⟩
        by_cases hin : z ∈ gR (rowsOf n us) a
        · refine iteC (by rw [inV_ints, decide_eq_true hin]; rfl) ⟨S, ?_⟩
          rw [hb, fm, if_neg (by rw [decide_eq_true hin]; decide), List.append_nil]
        · refine iteD (by rw [inV_ints, decide_eq_false hin]; rfl) ⟨_, rfl, _, hb, ?_, fun c o hc => by rw [upd_ne (ne_of_none hc hB0)]; exact S _ _ hc, ?_⟩
          · rw [List.length_map, sizeLine_eq]
            omega
          · rw [upd_same, fm, if_pos (by rw [decide_eq_false hin]; rfl), List.map_append]
            rfl
      rw [List.length_map, List.take_length] at h7
      have S57 := S6.trans S7
      have h5D := S57 _ _ h5
      have nB0D : B0 ≠ D := (ne_of_none (S6 _ _ h5) hB0).symm
      have lB := List.length_filter_le (fun z : Int => !decide (z ∈ gR (rowsOf n us) a)) (farL n e)
      have lfar := farL_len n e
      refine ⟨B0, rfl, ⟨_, SqL.of h7⟩, for_list (K := K) (a := B0) (xs := ((farL n e).filter fun z => !decide (z ∈ gR (rowsOf n us) a)).map V.int) (fun j σ H' => (∃ x8, σ = [some (.ref r), some (.int e), some (.ref lo), some (.ref tl), some (.ref F0), some (.ref D), some (.int a), some (.ref nl), x8, none, none, none]) ∧ But D H7 H' ∧ OddL (rowsOf n us) e D xs0 (9 + 40 * i + j) H') ⟨⟨_, rfl⟩, sameBut (Same.refl _), xs, h5D, by omega, fun v hv => (hx v hv).imp_right fun h => h.but (sameBut S57)⟩ (fun j σ H' _ ⟨_, B, _⟩ => SqL.of (B _ _ nB0D h7)) ?_ ?_⟩
      · rintro j y σ H8 hj ⟨⟨x8, rfl⟩, B8, ys, h8, ly, hy⟩
        obtain ⟨b, hb, rfl⟩ := getMap hj
        obtain ⟨hb1, hb2⟩ := List.mem_filter.mp (List.mem_of_getElem? hb)
        obtain ⟨⟨b0', b1'⟩, bne⟩ := farL_mem.mp hb1
        have hnear : b ∉ gR (rowsOf n us) a := fun q => by
          rw [decide_eq_true q] at hb2
          cases hb2
        have S8 : Same H H8 := same_but (S5.trans S57) (V8.free aD) B8
        obtain ⟨_, p2, p3⟩ := path_tour W hb0 hbe1 a0 a1
        obtain ⟨_, _, p4⟩ := path_tour W b0' b1' hb0 hbe1
        have hW8 := webH_ext hW (extS S8)
        refine ⟨_, rfl, .inl ⟨rfl, _, SqL.of h8⟩, ?_⟩
        refine ⟨_, rfl, _, rfl, _, rfl, .ref r, n, us, e, a, rfl, hW8.at, W, by omega, hb0, hbe1, a0, a1, fun q1 I1 T1 m1 i1 => ⟨_, rfl, by show 1 ≤ sizeLine; decide, fun q2 I2 m2 T2 i2 => ⟨q1, q2, _, _, rfl, rfl, T2 _ _ i1, i2, by rw [List.length_map, sizeLine_eq]; show _ + 1 ≤ _; omega, fun q3 I3 m3 T3 i3 => ?_⟩⟩⟩
        have T03 := (T1.trans T2).trans T3
        refine ⟨_, rfl, _, rfl, _, rfl, .ref r, n, us, b, e, rfl, (webH_ext hW8 (extS T03)).at, W, by omega, b0', b1', hb0, hbe1, fun q4 I4 T4 m4 i4 => ⟨q3, q4, _, _, rfl, rfl, T4 _ _ i3, i4, by rw [List.length_append, List.length_map, List.length_map, sizeLine_eq]; show _ + 1 + _ ≤ _; omega, fun q5 I5 m5 T5 i5 => ?_⟩⟩
        have T05 := (T03.trans T4).trans T5
        have i5 : I5 q5 = some (.lst ((pathOf n us e a ++ [b] ++ pathOf n us b e).map V.int)) := by
          rw [i5, List.map_append, List.map_append]
          rfl
        have h8' := T05 _ _ h8
        have nq5 : q5 ≠ D := (ne_of_none ((T03.trans T4) _ _ h8) m5).symm
        refine ⟨D, _, _, rfl, rfl, h8', by rw [sizeLine_eq]; have := List.length_take (i := 3) (l := farL n e); have hi3 := (List.getElem?_eq_some_iff.mp ha).1; have hj3 := (List.getElem?_eq_some_iff.mp hj).1; rw [List.length_map] at hj3; omega, fun I6 B6 i6 => ⟨⟨_, rfl⟩, fun u o nu hu => B6 _ _ nu (T05 _ _ (B8 _ _ nu hu)), ys ++ [.ref q5], i6, by rw [List.length_append]; show _ + 1 ≤ _; omega, fun v hv => ?_⟩⟩
        rcases List.mem_append.mp hv with h | h
        · exact (hy v h).imp_right fun g => (g.but (sameBut T05)).but B6
        · rw [List.mem_singleton.mp h]
          exact .inr ⟨q5, _, rfl, nq5, B6 _ _ nq5 i5, by rw [List.length_append, List.length_append]; show _ + 1 + _ ≤ _; omega, path_bad p2 hnear⟩
      · rintro σ H8 ⟨⟨x8, rfl⟩, B8, ys, h8, ly, hy⟩
        refine ⟨⟨_, _, _, rfl⟩, fun u o nu hu => B8 _ _ nu (S57 _ _ (B5 _ _ nu hu)), ys, h8, ?_, hy⟩
        rw [List.length_map] at ly
        omega
    rintro σ H5 ⟨⟨x6, x7, x8, rfl⟩, B5, xs, h5, lx, hx⟩
    have S5 : Same H H5 := same_but (VD.trans UG) (V8.free aD) B5
    have S8D : Same A8 H5 := same_but (UD.trans UG) aD B5
    have lx3 : xs.length ≤ 140 := by
      rw [List.length_map, List.length_take] at lx
      omega
    have bd5 : ∀ v ∈ xs, Bd n (rowsOf n us) e H5 v := fun v hv => by
      rcases hx v hv with h | ⟨a, M, rfl, _, h2, h3, h4⟩
      · exact (bd8 v h).ext (extS S8D)
      · exact Bd.lst h2 (by omega) (.inl h4)
    have hW5 := webH_ext hW (extS S5)
    clear bd8 hx lx VD hDG hD
    -- near
    obtain ⟨wa5, wt5, ewa5, hwa5, hT5⟩ := hW5.at (K := K)
    cases ewa5
    refine ⟨_, rfl, r, _, _, _, rfl, rfl, hwa5, at_of (j := 1) rfl rfl, _, rfl, wt5, us, _, rfl, hT5, by omega, fun out nl H6 hpm hst S6 nn hn => ?_⟩
    have eo : out = gR (rowsOf n us) e := near_row (n := n) hb0 W.asc W.inn hpm hst
    subst eo
    obtain ⟨nb, nr, enr⟩ : ∃ nb nr, gR (rowsOf n us) e = nb :: nr := by
      cases q : gR (rowsOf n us) e with
      | nil => exact absurd q (has_near W hb0 hbe1)
      | cons x y => exact ⟨x, y, rfl⟩
    have hnb : nb ∈ gR (rowsOf n us) e := by rw [enr]; exact List.mem_cons_self
    have nbb : Bay n nb := W.rin _ nb hnb
    have nbe : nb ≠ e := fun q => not_near W hb0 (q ▸ hnb)
    refine ⟨nl, _, _, .int nb, rfl, rfl, SqL.of hn, at_of (j := 0) rfl (by rw [enr]; rfl), ?_⟩
    refine ⟨_, rfl, ⟨nb, rfl, fun v1 hv1 => ⟨_, rfl, by show 2 ≤ sizeLine; decide, fun k1 J1 m1 P1 j1 => ⟨_, rfl, e, rfl, fun v2 hv2 => ⟨by show 2 ≤ sizeLine; decide, fun k2 J2 m2 P2 j2 => ?_⟩⟩⟩⟩⟩
    refine ⟨by show 1 ≤ sizeLine; decide, fun k3 J3 m3 P3 j3 => ⟨_, rfl, by show 2 ≤ sizeLine; decide, fun k4 J4 m4 P4 j4 => fun k5 m5 => ?_⟩⟩
    have P5 : Same J4 (upd J4 k5 (.dK [])) := same_upd m5
    have j5 : (upd J4 k5 (.dK [])) k5 = some (.dK []) := upd_same
    generalize upd J4 k5 (.dK []) = J5 at P5 j5
    refine ⟨by show 1 ≤ sizeLine; decide, fun k6 J6 m6 P6 j6 => ⟨by show 4 ≤ sizeLine; decide, fun k7 J7 m7 P7 j7 => ?_⟩⟩
    have P27 := (((P3.trans P4).trans P5).trans P6).trans P7
    have P57 := (S6.trans P1).trans (P2.trans P27)
    refine ⟨D, k7, _, _, rfl, rfl, P57 _ _ h5, j7, by rw [sizeLine_eq]; show _ + 4 ≤ _; omega, fun D2 J8 m8 P8 j8 => ?_⟩
    have P58 := P57.trans P8
    refine ⟨_, rfl, _, rfl, _, rfl, by show 1 ≤ sizeLine; decide, fun k9 J9 m9 P9 j9 => ⟨tl, k9, _, _, rfl, rfl, ((S5.trans P58).trans P9) _ _ htl, j9, by rw [List.length_map, sizeLine_eq]; show _ + 1 ≤ _; omega, fun k10 JA mA PA jA => ⟨by show 1 ≤ sizeLine; decide, fun k11 JB mB PB jB => ⟨D2, k11, _, _, rfl, rfl, ((P9.trans PA).trans PB) _ _ j8, jB, by rw [List.length_append, sizeLine_eq]; show _ + 4 + 1 ≤ _; omega, fun D3 JC mC PC jC => ?_⟩⟩⟩⟩
    have P8C := ((P9.trans PA).trans PB).trans PC
    have P5C := P58.trans P8C
    have S0C := S5.trans P5C
    have bdC : ∀ v ∈ xs ++ [V.ref k1, .ref k2, .ref k4, .ref k6] ++ [V.ref k10], Bd n (rowsOf n us) e JC v := by
      have j1' := (P2.trans P27) _ _ j1
      have j1' := (P8.trans P8C) _ _ j1'
      have j2' := (P27.trans (P8.trans P8C)) _ _ j2
      have j3' := (((P4.trans P5).trans (P6.trans P7)).trans (P8.trans P8C)) _ _ j3
      have j4' := ((P5.trans (P6.trans P7)).trans (P8.trans P8C)) _ _ j4
      have j5' := ((P6.trans P7).trans (P8.trans P8C)) _ _ j5
      have j6' := (P7.trans (P8.trans P8C)) _ _ j6
      have jA' := (PB.trans PC) _ _ jA
      intro v hv
      rcases List.mem_append.mp hv with hv | hv
      · rcases List.mem_append.mp hv with hv | hv
        · exact (bd5 v hv).ext (extS P5C)
        · simp only [List.mem_cons, List.not_mem_nil, or_false] at hv
          rcases hv with rfl | rfl | rfl | rfl
          · obtain ⟨d, g1, g2, g3⟩ := hv1.th JC
            refine ⟨.list [d, .int e], .lst j1' (.cons g1 (.cons (.int e) .nil)), by simp only [PyData.bulk, PyData.bulkAll, g2]; omega, tour_moves ?_⟩
            show (bayD n d && _) = false
            rw [g3]
            rfl
          · obtain ⟨d, g1, g2, g3⟩ := hv2.th JC
            refine ⟨.list [.int nb, d], .lst j2' (.cons (.int nb) (.cons g1 .nil)), by simp only [PyData.bulk, PyData.bulkAll, g2]; omega, tour_moves ?_⟩
            show (_ && (bayD n d && true)) = false
            rw [g3, Bool.false_and, Bool.and_false]
          · exact ⟨.list [.list [.int 0], .int e], .lst j4' (.cons (.lst j3' (.cons (.int 0) .nil)) (.cons (.int e) .nil)), by simp only [PyData.bulk, PyData.bulkAll]; omega, tour_moves rfl⟩
          · exact ⟨.list [.dict []], .lst j6' (.cons (.dct j5') .nil), by decide +kernel, tour_moves rfl⟩
      · rw [List.mem_singleton.mp hv]
        refine Bd.lst (M := ms ++ [nb]) (by rw [jA', List.map_append]; rfl) (by rw [List.length_append]; show _ + 1 ≤ _; omega) (.inr (.inl ?_))
        rw [lastS_app]
        exact nbe
    have TC : Tabs TT JC := hT.ext S0C
    have hWC := webH_ext hW (extS S0C)
    have hsC := hs.same S0C
    have htC := S0C _ _ htl
    clear bd5 h3 P27 P57 P58 P8C P5C
    generalize xs ++ [V.ref k1, .ref k2, .ref k4, .ref k6] ++ [V.ref k10] = zs at bdC jC
    refine ⟨D3, rfl, ⟨_, SqL.of jC⟩, for_list (K := K) (a := D3) (xs := zs) (fun i σ H' => (∃ x6 x8 x9 x10, σ = [some (.ref r), some (.int e), some (.ref lo), some (.ref tl), some (.ref F0), some (.ref D2), x6, some (.int nb), x8, x9, x10, none]) ∧ ExtN JC H' ∧ Tabs TT H') ⟨⟨_, _, _, _, rfl⟩, ExtN.refl _, TC⟩ (fun i σ H' _ ⟨_, e, _⟩ => SqL.of (lst_ext e jC)) ?_ ?_⟩
    · rintro i v σ G hi ⟨⟨x6, x8, x9, x10, rfl⟩, eG, TG⟩
      obtain ⟨d, hd, hdb, hdt⟩ := bdC v (List.mem_of_getElem? hi)
      refine ⟨TG, fun M1 e1 T1 => ?_⟩
      have x1 := eG.trans e1
      refine ⟨_, rfl, _, rfl, _, rfl, t_bad (webH_ext hWC x1) (hd.ext x1) hdb hdt fun M2 V2 => ⟨3, by decide, rfl, by show 1 ≤ sizeLine; decide, fun fd M3 q3 V3 f3 => ?_⟩⟩
      have x2_ := x1.trans (extS V2)
      have T3_ : Tabs TT M3 := (T1.ext V2).ext V3
      refine ⟨_, rfl, .inl ⟨rfl, _, SqL.of f3⟩, T3_, fun M4 e4 T4 => ?_⟩
      have x4 := (x2_.trans (extS V3)).trans e4
      refine ⟨_, rfl, _, rfl, _, rfl, o_bad (webH_ext hWC x4) (hd.ext x4) hdb hdt fun M5 V5 => ⟨3, by decide, rfl, fd, _, _, rfl, rfl, V5 _ _ (lst_ext e4 f3), by show 1 < sizeLine; decide, fun M6 B6 f6 => ?_⟩⟩
      have T6_ : Tabs TT M6 := tabs_but (T4.ext V5) B6 (V5 _ _ (lst_ext e4 f3))
      have e26 : ExtN M2 M6 := ext_but (((extS V3).trans e4).trans (extS V5)) q3 B6
      refine ⟨_, rfl, .inl ⟨rfl, _, SqL.of f6⟩, T6_, fun M7 e7_ T7 => ?_⟩
      have x7_ := (x2_.trans e26).trans e7_
      refine ⟨_, rfl, _, rfl, _, rfl, m_bad (webH_ext hWC x7_) (hsC.ext x7_) (hd.ext x7_) hdb .non hdt fun M8 V8 => ⟨3, by decide, rfl, fd, _, _, rfl, rfl, V8 _ _ (lst_ext e7_ f6), by show 2 < sizeLine; decide, fun M9 B9 f9 => ?_⟩⟩
      have T9_ : Tabs TT M9 := tabs_but (T7.ext V8) B9 (V8 _ _ (lst_ext e7_ f6))
      have e29 : ExtN M2 M9 := ext_but ((e26.trans e7_).trans (extS V8)) q3 B9
      refine ⟨_, rfl, by show 1 ≤ sizeLine; decide, fun w1 N4 q4 V13 f13 => ⟨w1, 3, _, rfl, rfl, f13, by decide, by decide, by show 1 * 3 ≤ sizeLine; decide, fun w2 N5 q5 V14 f14 => ?_⟩⟩
      refine ⟨.list [.str "tour", .str "tour", .str "tour"], .list [.str "tour", .str "tour", .str "tour"], .lst (SqL.of (V14 _ _ (V13 _ _ f9))) (.cons (.str _) (.cons (.str _) (.cons (.str _) .nil))), .lst (SqL.of f14) (.cons (.str _) (.cons (.str _) (.cons (.str _) .nil))), shaped_t3, shaped_t3, _, rfl, iteC (by rw [SeqAt.eqv_refl _ (SeqAt.canLay_of_shaped shaped_t3)]; rfl) ?_⟩
      exact ⟨⟨_, _, _, _, rfl⟩, (x2_.trans e29).trans (extS (V13.trans V14)), (T9_.ext V13).ext V14⟩
    rintro σ G ⟨⟨x6, x8, x9, x10, rfl⟩, eG, TG⟩
    clear bdC jC zs
    have hWG := webH_ext hWC eG
    have hsG := hsC.ext eG
    have htG := lst_ext eG htC
    have E0G : ExtN H G := (extS S0C).trans eG
    obtain ⟨wa6, wt6, ewa6, hwa6, hT6⟩ := hWG.at (K := K)
    cases ewa6
    clear hWC hsC htC TC eG
    -- bays that are none
    refine ⟨1, rfl, _, rfl, r, _, _, _, rfl, rfl, hwa6, at_of (j := 0) rfl rfl, by show 1 ≤ sizeLine; decide, fun k1 K1 m1 P1 j1 => fun k2 m2 => ?_⟩
    have P2 : Same K1 (upd K1 k2 (.dK [])) := same_upd m2
    have j2 : (upd K1 k2 (.dK [])) k2 = some (.dK []) := upd_same
    generalize upd K1 k2 (.dK []) = K2 at P2 j2
    refine ⟨by show 8 ≤ sizeLine; decide, fun D4 K3 m3 P3 j3 => ?_⟩
    have P13 := P2.trans P3
    have PG3 := P1.trans P13
    have bdb : ∀ v ∈ [V.non, .int (-1), .int (n : Int), .bl true, .bl false, .str "0", .ref k1, .ref k2], ∃ d, Th K3 v d ∧ bayD n d = false := by
      have j1' := P13 _ _ j1
      have j2' := P3 _ _ j2
      intro v hv
      simp only [List.mem_cons, List.not_mem_nil, or_false] at hv
      rcases hv with rfl | rfl | rfl | rfl | rfl | rfl | rfl | rfl
      · exact ⟨.none, .non, rfl⟩
      · exact ⟨.int (-1), .int (-1), rfl⟩
      · exact ⟨.int n, .int n, by rw [bayD_int, decide_eq_false (show ¬ ((n : Int) < (n : Int)) by omega), Bool.and_false]⟩
      · exact ⟨.bool true, .bl true, rfl⟩
      · exact ⟨.bool false, .bl false, rfl⟩
      · exact ⟨.str "0", .str _, rfl⟩
      · exact ⟨.list [.int 0], .lst j1' (.cons (.int 0) .nil), rfl⟩
      · exact ⟨.dict [], .dct j2', rfl⟩
    have hWK := webH_ext hWG (extS PG3)
    have TK : Tabs TT K3 := TG.ext PG3
    refine ⟨D4, rfl, ⟨_, SqL.of j3⟩, for_list (K := K) (a := D4) (fun i σ H' => (∃ x6 x8 x9 x10, σ = [some (.ref r), some (.int e), some (.ref lo), some (.ref tl), some (.ref F0), some (.ref D2), x6, some (.int nb), x8, x9, x10, none]) ∧ ExtN K3 H' ∧ Tabs TT H') ⟨⟨_, _, _, _, rfl⟩, ExtN.refl _, TK⟩ (fun i σ H' _ ⟨_, e, _⟩ => SqL.of (lst_ext e j3)) ?_ ?_⟩
    · rintro i v σ G2 hi ⟨⟨x6, x8, x9, x10, rfl⟩, eG, TG2⟩
      obtain ⟨d, hd, hdt⟩ := bdb v (List.mem_of_getElem? hi)
      refine ⟨TG2, fun M1 e1 T1 => ?_⟩
      have x1 := eG.trans e1
      refine ⟨_, rfl, _, rfl, t_bay (webH_ext hWK x1) (hd.ext x1) hdt fun M2 V2 => ⟨1, by decide, rfl, by show 1 ≤ sizeLine; decide, fun fd M3 q3 V3 f3 => ?_⟩⟩
      have x2_ := x1.trans (extS V2)
      have T3_ : Tabs TT M3 := (T1.ext V2).ext V3
      refine ⟨_, rfl, .inl ⟨rfl, _, SqL.of f3⟩, T3_, fun M4 e4 T4 => ?_⟩
      have x4 := (x2_.trans (extS V3)).trans e4
      refine ⟨_, rfl, _, rfl, o_bay (webH_ext hWK x4) (hd.ext x4) hdt fun M5 V5 => ⟨1, by decide, rfl, fd, _, _, rfl, rfl, V5 _ _ (lst_ext e4 f3), by show 1 < sizeLine; decide, fun M6 B6 f6 => ?_⟩⟩
      have T6_ : Tabs TT M6 := tabs_but (T4.ext V5) B6 (V5 _ _ (lst_ext e4 f3))
      have e26 : ExtN M2 M6 := ext_but (((extS V3).trans e4).trans (extS V5)) q3 B6
      refine ⟨_, rfl, by show 1 ≤ sizeLine; decide, fun w1 N4 q4 V13 f13 => ⟨w1, 2, _, rfl, rfl, f13, by decide, by decide, by show 1 * 2 ≤ sizeLine; decide, fun w2 N5 q5 V14 f14 => ?_⟩⟩
      refine ⟨.list [.str "bay", .str "bay"], .list [.str "bay", .str "bay"], .lst (SqL.of (V14 _ _ (V13 _ _ f6))) (.cons (.str _) (.cons (.str _) .nil)), .lst (SqL.of f14) (.cons (.str _) (.cons (.str _) .nil)), shaped_b2, shaped_b2, _, rfl, iteC (by rw [SeqAt.eqv_refl _ (SeqAt.canLay_of_shaped shaped_b2)]; rfl) ?_⟩
      exact ⟨⟨_, _, _, _, rfl⟩, (x2_.trans e26).trans (extS (V13.trans V14)), (T6_.ext V13).ext V14⟩
    rintro σ G2 ⟨⟨x6, x8, x9, x10, rfl⟩, eG, TG2⟩
    clear bdb
    have hWH := webH_ext hWK eG
    have eGH : ExtN G G2 := (extS PG3).trans eG
    have hsH := hsG.ext eGH
    have htH := lst_ext eGH htG
    have E0H : ExtN H G2 := E0G.trans eGH
    clear hWK TK hWG hsG htG TG E0G eGH eG
    -- counts that are none
    refine ⟨1, rfl, by show 1 ≤ sizeLine; decide, fun k1 K1 m1 P1 j1 => ?_⟩
    refine ⟨_, _, rfl, rfl, ⟨by decide, by decide, by decide⟩, _, _, rfl, rfl, by show 7 ≤ sizeLine; decide, fun D5 K3 m3 P3 j3 => ?_⟩
    have PG3 := P1.trans P3
    have bdc : ∀ v ∈ [V.non, .int (-1), .bl true, .bl false, .str "1", .ref k1, .int ((10 : Int) ^ (30 : Int).toNat + 1)], ∃ d, Th K3 v d ∧ countD d = false := by
      have j1' := P3 _ _ j1
      intro v hv
      simp only [List.mem_cons, List.not_mem_nil, or_false] at hv
      rcases hv with rfl | rfl | rfl | rfl | rfl | rfl | rfl
      · exact ⟨.none, .non, rfl⟩
      · exact ⟨.int (-1), .int (-1), rfl⟩
      · exact ⟨.bool true, .bl true, rfl⟩
      · exact ⟨.bool false, .bl false, rfl⟩
      · exact ⟨.str "1", .str _, rfl⟩
      · exact ⟨.list [.int 1], .lst j1' (.cons (.int 1) .nil), rfl⟩
      · exact ⟨.int _, .int _, by decide +kernel⟩
    have TK : Tabs TT K3 := TG2.ext PG3
    have hWK := webH_ext hWH (extS PG3)
    have hsK := hsH.same PG3
    have htK := PG3 _ _ htH
    refine ⟨D5, rfl, ⟨_, SqL.of j3⟩, for_list (K := K) (a := D5) (fun i σ H' => (∃ x6 x8 x9 x10, σ = [some (.ref r), some (.int e), some (.ref lo), some (.ref tl), some (.ref F0), some (.ref D2), x6, some (.int nb), x8, x9, x10, none]) ∧ ExtN K3 H' ∧ Tabs TT H') ⟨⟨_, _, _, _, rfl⟩, ExtN.refl _, TK⟩ (fun i σ H' _ ⟨_, e, _⟩ => SqL.of (lst_ext e j3)) ?_ ?_⟩
    · rintro i v σ G3 hi ⟨⟨x6, x8, x9, x10, rfl⟩, eG, TG3⟩
      obtain ⟨d, hd, hdt⟩ := bdc v (List.mem_of_getElem? hi)
      refine ⟨TG3, fun M1 e1 T1 => ?_⟩
      have x1 := eG.trans e1
      refine ⟨_, rfl, _, rfl, _, rfl, _, rfl, m_count (webH_ext hWK x1) (hsK.ext x1) (.lst (lst_ext x1 htK) (all_ints ms)) (by rw [bulk_ints]; omega) (tour_d hm) (hd.ext x1) hdt fun M2 V2 => ⟨4, by decide, rfl, rfl, _, rfl, iteC (by decide) ?_⟩⟩
      exact ⟨⟨_, _, _, _, rfl⟩, x1.trans (extS V2), T1.ext V2⟩
    rintro σ G3 ⟨⟨x6, x8, x9, x10, rfl⟩, eG, TG3⟩
    clear bdc
    have eGI : ExtN G2 G3 := (extS PG3).trans eG
    have hWI := webH_ext hWK eG
    have hsI := hsK.ext eG
    have htI := lst_ext eG htK
    have E0I : ExtN H G3 := E0H.trans eGI
    clear hWK hsK htK TK hWH hsH htH E0H eGI eG
    -- standings and webs that are none
    refine ⟨TG3, fun M1 e1 T1 => ?_⟩
    refine ⟨_, rfl, _, rfl, 1, rfl, lo, _, rfl, hsI.ext e1, fun t5 M2 U2 g2 => ?_⟩
    have g2 : TupZ M2 t5 ((L.drop 1).map V.int) := by
      rw [show (1 : Int) = ((1 : Nat) : Int) from rfl, cutV_loT (by rw [List.length_map, hL.len]; omega), ← List.map_drop] at g2
      exact g2
    have x2a := e1.trans (extS U2)
    have lbad : looseD n (.tuple ((L.drop 1).map PyData.int)) = false := by
      cases z : looseD n (.tuple ((L.drop 1).map PyData.int)) with
      | false => rfl
      | true =>
        obtain ⟨M, eM, hM⟩ := looseD_is z
        have eM := loose_eq (n := n) eM
        have := hM.len
        rw [eM, List.length_drop, hL.len] at this
        omega
    refine m_stand (webH_ext hWI x2a) (.tupR g2.rd (all_ints _)) (ex_of g2) lbad .non (by decide) .non fun M3 V3 => ⟨2, by decide, rfl, by show 1 ≤ sizeLine; decide, fun fd M4 q4 V4 f4 => ?_⟩
    have X3 := x2a.trans (extS V3)
    have T4_ := ((T1.ext U2).ext V3).ext V4
    refine ⟨_, rfl, .inl ⟨rfl, _, SqL.of f4⟩, T4_, fun M5 e5 T5 => ?_⟩
    have x5 := (X3.trans (extS V4)).trans e5
    refine ⟨_, rfl, _, rfl, lo, _, rfl, .inr (hsI.ext x5).sq, fun k2 M6 n6 V6 g6 => ⟨_, rfl, m_stand (webH_ext hWI (x5.trans (extS V6))) (.lst g6 (all_ints L)) (ex_lst g6) rfl (.lst (lst_ext (x5.trans (extS V6)) htI) (all_ints ms)) (by rw [bulk_ints]; omega) (.int 1) fun M7 V7 => ⟨2, by decide, rfl, fd, _, _, rfl, rfl, (V6.trans V7) _ _ (lst_ext e5 f4), by show 1 < sizeLine; decide, fun M8 B8 f8 => ?_⟩⟩⟩
    have T8_ : Tabs TT M8 := tabs_but ((T5.ext V6).ext V7) B8 ((V6.trans V7) _ _ (lst_ext e5 f4))
    have e38 : ExtN M3 M8 := ext_but (((extS V4).trans e5).trans (extS (V6.trans V7))) q4 B8
    refine ⟨_, rfl, .inl ⟨rfl, _, SqL.of f8⟩, T8_, fun M9 e9 T9 => ?_⟩
    refine t_web .non (by decide) rfl fun N1 W1 => ⟨0, by decide, rfl, fd, _, _, rfl, rfl, W1 _ _ (lst_ext e9 f8), by show 2 < sizeLine; decide, fun N2 C2 h2 => ?_⟩
    have Tn2 : Tabs TT N2 := tabs_but (T9.ext W1) C2 (W1 _ _ (lst_ext e9 f8))
    have e32 : ExtN M3 N2 := ext_but ((e38.trans e9).trans (extS W1)) q4 C2
    refine ⟨_, rfl, .inl ⟨rfl, _, SqL.of h2⟩, Tn2, fun N3 e3 Tn3 => ?_⟩
    refine ⟨by show 0 ≤ sizeLine; decide, fun t6 N4 n4 W4 g4 => o_web (th_tup g4 .nil) (by decide +kernel) rfl fun N5 W5 => ⟨0, by decide, rfl, fd, _, _, rfl, rfl, (W4.trans W5) _ _ (lst_ext e3 h2), by show 3 < sizeLine; decide, fun N6 C6 h6 => ?_⟩⟩
    have Tn6 : Tabs TT N6 := tabs_but (Tn3.ext (W4.trans W5)) C6 ((W4.trans W5) _ _ (lst_ext e3 h2))
    have e36 : ExtN M3 N6 := ext_but ((e32.trans e3).trans (extS (W4.trans W5))) q4 C6
    refine ⟨_, rfl, .inl ⟨rfl, _, SqL.of h6⟩, Tn6, fun N7 e7 Tn7 => ?_⟩
    have x7 := (X3.trans e36).trans e7
    refine ⟨by show 0 ≤ sizeLine; decide, fun t7 N8 n8 W8 g8 => ⟨by show 2 ≤ sizeLine; decide, fun t8 N9 n9 W9 g9 => ?_⟩⟩
    have x9 := x7.trans (extS (W8.trans W9))
    refine ⟨_, rfl, _, rfl, m_web (th_tup g9 (.cons (.int 9) (.cons (th_tup (W9 _ _ g8) .nil) .nil))) (by decide +kernel) (by decide +kernel) (.tupR (hsI.ext x9).rd (all_ints L)) (ex_of (hsI.ext x9)) (.lst (lst_ext x9 htI) (all_ints ms)) (by rw [bulk_ints]; omega) (.int 1) fun NA WA => ⟨0, by decide, rfl, fd, _, _, rfl, rfl, ((W8.trans W9).trans WA) _ _ (lst_ext e7 h6), by show 4 < sizeLine; decide, fun NB CB hB => ?_⟩⟩
    have TnB : Tabs TT NB := tabs_but (Tn7.ext ((W8.trans W9).trans WA)) CB (((W8.trans W9).trans WA) _ _ (lst_ext e7 h6))
    have e3B : ExtN M3 NB := ext_but ((e36.trans e7).trans (extS ((W8.trans W9).trans WA))) q4 CB
    refine ⟨_, rfl, by show 1 ≤ sizeLine; decide, fun w1 O1 p1 Y1 y1 => ⟨w1, 2, _, rfl, rfl, y1, by decide, by decide, by show 1 * 2 ≤ sizeLine; decide, fun w2 O2 p2 Y2 y2 => ⟨by show 1 ≤ sizeLine; decide, fun w3 O3 p3 Y3 y3 => ⟨w3, 3, _, rfl, rfl, y3, by decide, by decide, by show 1 * 3 ≤ sizeLine; decide, fun w4 O4 p4 Y4 y4 => ⟨w2, w4, _, _, rfl, rfl, (Y3.trans Y4) _ _ y2, y4, by show 2 + 3 ≤ sizeLine; decide, fun w5 O5 p5 Y5 y5 => ?_⟩⟩⟩⟩⟩
    have Y15 := (((Y1.trans Y2).trans Y3).trans Y4).trans Y5
    refine ⟨.list [.str "standing", .str "standing", .str "web", .str "web", .str "web"], .list [.str "standing", .str "standing", .str "web", .str "web", .str "web"], .lst (SqL.of (Y15 _ _ hB)) (.cons (.str _) (.cons (.str _) (.cons (.str _) (.cons (.str _) (.cons (.str _) .nil))))), .lst (SqL.of y5) (.cons (.str _) (.cons (.str _) (.cons (.str _) (.cons (.str _) (.cons (.str _) .nil))))), shaped_s2w3, shaped_s2w3, ?_⟩
    rw [SeqAt.eqv_refl _ (SeqAt.canLay_of_shaped shaped_s2w3)]
    exact q O5 (((E0I.trans X3).trans e3B).trans (extS Y15)) (TnB.ext Y15)
end
end Sb

/-! ## LT42 -/
/-! The law. -/
namespace Sb
open PySem PySem.Spec PyProof.Rows L2
open LamX (ExtN Tabs TabS)
abbrev sLaw : Stmt := top 67
def spLaw (K : PySem.W.Frag) (TT : List (Addr × Str)) : Sp := fun vs H Q _ => ∃ (a : Addr) (ns : List Int), vs = [.ref a] ∧ SqL K H a (ns.map V.int) ∧ ns.length ≤ 63 ∧ Tabs TT H ∧ ∀ H', Q (.bl true) H'
structure LawTxt (mg : Str → Option Value) : Prop where
  range : mg "range" = none
  repr : mg "repr" = none
  list : mg "list" = none
  tuple : mg "tuple" = none
  min : mg "min" = none
  int : mg "int" = none
theorem cr_minK {X : Cx} {K : PySem.W.Frag} (hc : X.calm = true) (hK : X.K = K := by rfl) : CallR X (.builtin "min") (rMin K) := hK ▸ cr_min hc
theorem mt_tindexKL {X : Cx} {K : PySem.W.Frag} (hK : X.K = K := by rfl) : MtR X "tuple.index" (rIxTI K) := hK ▸ mt_tindex
/-- pieces, where they are more than three -/
def tri (L : List Int) : List Int := L.map fun z => if 3 < z then 3 else z
theorem tri_loose {n : Nat} {L : List Int} (h : LooseP n L) : LooseP n (tri L) := by
  refine ⟨by unfold tri; rw [List.length_map, h.len], fun z hz => ?_, ?_⟩
  · unfold tri at hz
    obtain ⟨y, hy, rfl⟩ := List.mem_map.mp hz
    have := h.inn y hy
    split <;> omega
  · have key : ∀ (M : List Int), (∀ z ∈ M, 0 ≤ z) → (tri M).count 0 = M.count 0 := fun M => by
      induction M with
      | nil => exact fun _ => rfl
      | cons z M ih =>
        intro hM
        have h0 := hM z List.mem_cons_self
        have i2 := ih fun y hy => hM y (List.mem_cons_of_mem _ hy)
        show ((if 3 < z then 3 else z) :: tri M).count 0 = (z :: M).count 0
        rw [List.count_cons, List.count_cons, i2]
        congr 1
        by_cases e : z = 0
        · rw [e]
          rfl
        · have e1 : ((if 3 < z then 3 else z) == (0 : Int)) = false := by
            rw [beq_eq_false_iff_ne]
            split <;> omega
          have e2 : (z == (0 : Int)) = false := beq_eq_false_iff_ne.mpr e
          rw [e1, e2]
    rw [key L fun z hz => (h.inn z hz).1, h.one]
theorem tri_e0 {n : Nat} {L : List Int} (h : LooseP n L) : e0 (tri L) = e0 L := by
  obtain ⟨_, e1, _⟩ := e0_at h.zero
  have : (tri L)[L.idxOf 0]? = some 0 := by
    unfold tri
    rw [List.getElem?_map, e1]
    rfl
  rw [e0_is (tri_loose h) this]
  rfl
theorem ok_ints {L : List Int} (h : ∀ z ∈ L, -1 ≤ z ∧ z ≤ 1900) (hl : L.length ≤ 1000) : OKD (.tuple (L.map PyData.int)) := (NoDs.tup (ints_nod (a := 0) h)).ok (by decide) (by omega)
theorem ok_int {z : Int} (h0 : -1 ≤ z) (h1 : z ≤ 1900) : OKD (.int z) := (NoD.int (a := 0) (b := 0) h0 h1).ok (by decide) (by decide)
theorem ok_text {n : Nat} {us : List (Int × Int)} {L ms : List Int} (W : WebP n us) (hl : us.length ≤ 1000) (hL : ∀ z ∈ L, -1 ≤ z ∧ z ≤ 1900) (lL : L.length ≤ 1000) (hm : ∀ z ∈ ms, -1 ≤ z ∧ z ≤ 1900) (lm : ms.length ≤ 1000) : OKD (.tuple [webT n us, .tuple (L.map PyData.int), .list (ms.map PyData.int)]) := by
  have o := ok_webT_ W hl
  have nw : NoD 3 5000 (webT n us) := by
    obtain ⟨a, b, c⟩ := pure_small _ (pure_webT W)
    exact ⟨a, by simpa using b, depth_webT _ _, by rw [bulk_webT]; omega⟩
  have n1 : NoD 3 1000 (.tuple (L.map PyData.int)) := (NoDs.tup (ints_nod (a := 0) hL)).mono (by decide) lL
  have n2 : NoD 3 1000 (.list (ms.map PyData.int)) := (NoDs.lst (ints_nod (a := 0) hm)).mono (by decide) lm
  exact (NoDs.tup (NoDs.cons nw (NoDs.cons n1 (NoDs.cons n2 NoDs.nil)))).ok (by decide) (by decide)
theorem slidS_app (L : List Int) (e : Int) (ms ks : List Int) : slidS L e (ms ++ ks) = slidS (slidS L e ms).1 (slidS L e ms).2 ks := by
  unfold slidS
  rw [List.foldl_append]
/-- behind some turns of the law's own loop -/
def LawInv (TT : List (Addr × Str)) (a p c : Addr) (i : Nat) (σ : L2.St) (H' : Hp) : Prop :=
  (∃ x2 x3 x4 x5 x6 x7 x8 x9 x10 x11 x12 x13 x14, σ = [some (.ref a), some (.ref p), x2, x3, x4, x5, x6, x7, x8, x9, x10, x11, x12, x13, x14, none, none]) ∧ Tabs TT H' ∧ ∃ k, k ≤ 2000 * i ∧ Pen H' p c k
section
variable {P : Program} {w : World} {K : PySem.W.Frag} {mg : Str → Option Value} {base : Heap} {C : Nat → Addr}
abbrev scLawN : List Str := ["script", "pen", "turn", "web", "standing", "loose", "bay", "tour", "text", "start", "behind", "due", "many", "one", "times", "piece", "place"]
abbrev scLawS : Scope := defScope sLaw
theorem scLaw : FnScope ["script", "pen", "turn", "web", "standing", "loose", "bay", "tour", "text", "start", "behind", "due", "many", "one", "times", "piece", "place"] ["script"] (defScope sLaw) := ⟨rfl, rfl, rfl, by decide +kernel, rfl, by decide +kernel, by decide +kernel⟩
theorem ok_law {f fP fT fA fS fY fM fR fU fO fG fD fX cl : Addr} {fdP fdT fdA fdS fdY fdM fdR fdU fdO fdG fdD fdX : FuncData} {oc : Value} {od : Option Addr} {dV kV doc pm ct : Value} {an : Option Addr} {osl : Array (Option Value)} {TT : List (Addr × Str)}
    (lk : K.lookup f = some ⟨oc, od, .func (PySem.W.fnOf "law" "law" (defArgs sLaw) (defBody sLaw) (defScope sLaw) dV kV doc pm an (.ref cl) ct), osl⟩) (hcd : PySem.W.codeIn K (.ref cl) "law" = true) (T : LawTxt mg)
    (FP : FnP K "_law_open" sOpen fP fdP) (gP : mg "_law_open" = some (.ref fP)) (GP : FnOk P w K mg base CX0 1 fP fdP ["script"] (spOpen K))
    (FT : FnP K "_law_take" sTake fT fdT) (gT : mg "_law_take" = some (.ref fT)) (GT : FnOk P w K mg base CX0 2 fT fdT ["pen", "many"] spTake)
    (FA : FnP K "_law_any_web" sAnyWeb fA fdA) (gA : mg "_law_any_web" = some (.ref fA)) (GA : FnOk P w K mg base CX0 5 fA fdA ["pen", "most", "size"] spAnyWeb)
    (FS : FnP K "_law_any_standing" sAnyStand fS fdS) (gS : mg "_law_any_standing" = some (.ref fS)) (GS : FnOk P w K mg base CX0 3 fS fdS ["pen", "n", "most"] spAnyStand)
    (FY : FnP K "_law_any_tour" sAnyTour fY fdY) (gY : mg "_law_any_tour" = some (.ref fY)) (GY : FnOk P w K mg base CX0 4 fY fdY ["pen", "web", "bay"] spAnyTour)
    (FM : FnP K "_law_times" sTimes fM fdM) (gM : mg "_law_times" = some (.ref fM)) (GM : FnOk P w K mg base CX0 2 fM fdM ["web", "standing", "tour", "times"] (spTimes K))
    (FR : FnP K "_law_order" sOrder fR fdR) (gR_ : mg "_law_order" = some (.ref fR)) (GR : FnOk P w K mg base CX0 3 fR fdR ["web", "bay", "tour"] (spOrder K))
    (FU : FnP K "turned" sTurned fU fdU) (gU : mg "turned" = some (.ref fU)) (GU : FnOk P w K mg base (L2.CX P w) 5 fU fdU ["web", "bay", "tour"] (spTurned (C 0) (C 1) (C 3)))
    (FO : FnP K "order_of" sOrderOf fO fdO) (gO : mg "order_of" = some (.ref fO)) (GO : FnOk P w K mg base (L2.CX P w) 5 fO fdO ["web", "bay", "tour"] (spOrderOf (C 0) (C 1) (C 3)))
    (FG : FnP K "done_many" sDoneMany fG fdG) (gG : mg "done_many" = some (.ref fG)) (GG : FnOk P w K mg base (L2.CX P w) 6 fG fdG ["web", "loose", "tour", "times"] (spDoneMany (C 0) (C 2) (C 3) (C 4)))
    (FD : FnP K "done" sDone fD fdD) (gD : mg "done" = some (.ref fD)) {CM CB : Addr} (GD_ : FnOk P w K mg base (L2.CX P w) 6 fD fdD ["web", "loose", "moves"] (spDone (C 0) (C 2) CM CB))
    (FX : FnP K "_law_refused_right" sRefT fX fdX) (gX : mg "_law_refused_right" = some (.ref fX)) (GX : FnOk P w K mg base CX0 9 fX fdX ["web", "bay", "loose", "tour"] (spRefT TT)) : FnOkG P w K mg base CX0 10 f (PySem.W.fnOf "law" "law" (defArgs sLaw) (defBody sLaw) (defScope sLaw) dV kV doc pm an (.ref cl) ct) ["script"] (spLaw K TT) := by
  have bP : Binds K fdP ["script"] [] := FP.bindsN fun _ _ _ _ _ _ us hl => match us, hl with | [_], _ => rfl
  have bT : Binds K fdT ["pen", "many"] [] := FT.bindsN fun _ _ _ _ _ _ us hl => match us, hl with | [_, _], _ => rfl
  have bA : Binds K fdA ["pen", "most", "size"] [] := FA.bindsN fun _ _ _ _ _ _ us hl => match us, hl with | [_, _, _], _ => rfl
  have bS : Binds K fdS ["pen", "n", "most"] [] := FS.bindsN fun _ _ _ _ _ _ us hl => match us, hl with | [_, _, _], _ => rfl
  have bY : Binds K fdY ["pen", "web", "bay"] [] := FY.bindsN fun _ _ _ _ _ _ us hl => match us, hl with | [_, _, _], _ => rfl
  have bM : Binds K fdM ["web", "standing", "tour", "times"] [] := FM.bindsN fun _ _ _ _ _ _ us hl => match us, hl with | [_, _, _, _], _ => rfl
  have bR : Binds K fdR ["web", "bay", "tour"] [] := FR.bindsN fun _ _ _ _ _ _ us hl => match us, hl with | [_, _, _], _ => rfl
  have bU : Binds K fdU ["web", "bay", "tour"] [] := FU.bindsN fun _ _ _ _ _ _ us hl => match us, hl with | [_, _, _], _ => rfl
  have bO : Binds K fdO ["web", "bay", "tour"] [] := FO.bindsN fun _ _ _ _ _ _ us hl => match us, hl with | [_, _, _], _ => rfl
  have bG : Binds K fdG ["web", "loose", "tour", "times"] [] := FG.bindsN fun _ _ _ _ _ _ us hl => match us, hl with | [_, _, _, _], _ => rfl
  have bD : Binds K fdD ["web", "loose", "moves"] [] := FD.bindsN fun _ _ _ _ _ _ us hl => match us, hl with | [_, _, _], _ => rfl
  have bX : Binds K fdX ["web", "bay", "loose", "tour"] [] := FX.bindsN fun _ _ _ _ _ _ us hl => match us, hl with | [_, _, _, _], _ => rfl
  obtain ⟨sU, eU⟩ : ∃ s : Sp, s = spTurned (C 0) (C 1) (C 3) := ⟨_, rfl⟩
  obtain ⟨sO, eO⟩ : ∃ s : Sp, s = spOrderOf (C 0) (C 1) (C 3) := ⟨_, rfl⟩
  obtain ⟨sG, eG⟩ : ∃ s : Sp, s = spDoneMany (C 0) (C 2) (C 3) (C 4) := ⟨_, rfl⟩
  obtain ⟨sD, eD⟩ : ∃ s : Sp, s = spDone (C 0) (C 2) CM CB := ⟨_, rfl⟩
  rw [← eU] at GU
  rw [← eO] at GO
  rw [← eG] at GG
  rw [← eD] at GD_
  refine okG_of (k := 9) lk hcd scLaw (fun vs H Q E h => ?_) (fun A outer s H vs Q E0 hgd hr h => ?_)
  · obtain ⟨a, ns, rfl, _⟩ := h
    rfl
  · have hr1 : Room 1 _ := hr.mono (by decide)
    have hr2 : Room 2 _ := hr.mono (by decide)
    have hr3 : Room 3 _ := hr.mono (by decide)
    have hr4 : Room 4 _ := hr.mono (by decide)
    have hr5 : Room 5 _ := hr.mono (by decide)
    have hr6 : Room 6 _ := hr.mono (by decide)
    have hr9 : Room 9 _ := hr
    obtain ⟨a, ns, rfl, hS, hl, hT, q⟩ := h
    refine ⟨_, PSs.nox (pss_cons (ps_set (i := 1) scLaw.nd rfl (Or.inl rfl) (pe_call GP hr1 rfl gP FP.kp bP .nil pass0 (pa_cons (pv 0) pa_nil)))
    (pss_cons (ps_for PassesOwn.never rfl (pi_range1 (by rfl) T.range (pa_cons pe_int pa_nil)) (pg_name (i := 2) scLaw.nd rfl (Or.inl rfl))
      (pss_cons (ps_set (i := 3) scLaw.nd rfl (Or.inl rfl) (pe_call GA hr5 rfl gA FA.kp bA .nil pass0 (pa_cons (pv 1) (pa_cons pe_int (pa_cons pe_int pa_nil)))))
    (pss_cons (ps_set (i := 4) scLaw.nd rfl (Or.inl rfl) (pe_call GS hr3 rfl gS FS.kp bS .nil pass0 (pa_cons (pv 1) (pa_cons (pe_ix (ix_tupK (K := K)) (pv 3) pe_int (fun _ _ => rfl)) (pa_cons pe_int pa_nil)))))
    (pss_cons (ps_set (i := 5) scLaw.nd rfl (Or.inl rfl) (pe_callTy (T := "tuple") call_tuple_ofZ (by rfl) T.tuple (by decide +kernel) (pa_cons (pe_lc (own := [("piece", 15)]) (g := gName 15) (by rfl) scLaw.nd (pi_tup (pv 4)) (blkOk_by (own := [("piece", 15)]) (N := scLawN) (sc := scLawS) (by decide +kernel)) (fun _ _ _ _ _ => pg_name (i := 15) scLaw.nd rfl (Or.inl rfl)) (fun _ _ _ _ _ => pts_nil) (fun _ _ _ _ _ => (pe_callB (id := "min") (cr_minK (K := K) rfl) (by rfl) T.min (by decide +kernel) (pa_cons (pe_lstL (pa_cons (pv 15) (pa_cons pe_int pa_nil))) pa_nil)))) pa_nil)))
    (pss_cons (ps_set (i := 6) scLaw.nd rfl (Or.inr rfl) (pe_tm PySem.F.plainAttrs_tuple PySem.F.slot_tuple_index PySem.F.type_tuple_index mt_tindex (pv 4) (pa_cons pe_int pa_nil)))
    (pss_cons (ps_set (i := 7) scLaw.nd rfl (Or.inl rfl) (pe_call GY hr4 rfl gY FY.kp bY .nil pass0 (pa_cons (pv 1) (pa_cons (pv 3) (pa_cons (pv 6) pa_nil)))))
    (pss_cons (ps_set (i := 8) scLaw.nd rfl (Or.inl rfl) (pe_callB (id := "repr") (cr_repr hgd hr.units) (by rfl) T.repr (by decide +kernel) (pa_cons (pe_tupL (pa_cons (pv 3) (pa_cons (pv 4) (pa_cons (pv 7) pa_nil)))) pa_nil)))
    (pss_cons (ps_set (i := 9) scLaw.nd rfl (Or.inl rfl) (pe_callTy (T := "tuple") call_tuple_ofZ (by rfl) T.tuple (by decide +kernel) (pa_cons (pe_lc (own := [("place", 16)]) (g := gName 16) (by rfl) scLaw.nd (pi_range1 (by rfl) T.range (pa_cons (pe_ix (ix_tupK (K := K)) (pv 3) pe_int (fun _ _ => rfl)) pa_nil)) (blkOk_by (own := [("place", 16)]) (N := scLawN) (sc := scLawS) (by decide +kernel)) (fun _ _ _ _ _ => pg_name (i := 16) scLaw.nd rfl (Or.inl rfl)) (fun _ _ _ _ _ => pts_nil) (fun _ _ _ _ _ => (pe_ifExp (pt_cmpR op_ne (pv 16) (pv 6) (nomark _)) (pe_op op_add (pv 16) pe_int) pe_int))) pa_nil)))
    (pss_cons (ps_set (i := 10) scLaw.nd rfl (Or.inr rfl) (pe_call GM hr2 rfl gM FM.kp bM .nil pass0 (pa_cons (pv 3) (pa_cons (pv 9) (pa_cons (pv 7) (pa_cons pe_int pa_nil))))))
    (pss_cons (ps_set (i := 11) scLaw.nd rfl (Or.inl rfl) (pe_callTy (T := "tuple") call_tuple_ofZ (by rfl) T.tuple (by decide +kernel) (pa_cons (pe_lc (own := [("place", 16)]) (g := gName 16) (by rfl) scLaw.nd (pi_range1 (by rfl) T.range (pa_cons (pe_ix (ix_tupK (K := K)) (pv 3) pe_int (fun _ _ => rfl)) pa_nil)) (blkOk_by (own := [("place", 16)]) (N := scLawN) (sc := scLawS) (by decide +kernel)) (fun _ _ _ _ _ => pg_name (i := 16) scLaw.nd rfl (Or.inl rfl)) (fun _ _ _ _ _ => pts_nil) (fun _ _ _ _ _ => (pe_ifExp (pt_cmpR op_ne (pv 16) (pv 6) (nomark _)) (pe_tm PySem.F.plainAttrs_tuple PySem.F.slot_tuple_index PySem.F.type_tuple_index (mt_tindexKL (K := K)) (pv 10) (pa_cons (pe_op op_add (pv 16) pe_int) pa_nil)) (pv 6)))) pa_nil)))
    (pss_cons (ps_set (i := 12) scLaw.nd rfl (Or.inl rfl) (pe_call GR hr3 rfl gR_ FR.kp bR .nil pass0 (pa_cons (pv 3) (pa_cons (pv 6) (pa_cons (pv 7) pa_nil)))))
    (pss_cons (ps_if (PW.pt (pw_or (pt_cmpR op_ne (pe_callB (id := "repr") (cr_repr hgd hr.units) (by rfl) T.repr (by decide +kernel) (pa_cons (pe_call GU hr5 rfl gU FU.kp bU .nil (passes_call takes0 (fun _ _ _ _ h => h)) (pa_cons (pv 3) (pa_cons (pv 6) (pa_cons (pv 7) pa_nil)))) pa_nil)) (pe_callB (id := "repr") (cr_repr hgd hr.units) (by rfl) T.repr (by decide +kernel) (pa_cons (pv 11) pa_nil)) (nomark _)) (pw_or1 (pt_cmpR op_ne (pe_callB (id := "repr") (cr_repr hgd hr.units) (by rfl) T.repr (by decide +kernel) (pa_cons (pe_call GO hr5 rfl gO FO.kp bO .nil (passes_call takes0 (fun _ _ _ _ h => h)) (pa_cons (pv 3) (pa_cons (pv 6) (pa_cons (pv 7) pa_nil)))) pa_nil)) (pe_callB (id := "repr") (cr_repr hgd hr.units) (by rfl) T.repr (by decide +kernel) (pa_cons (pv 12) pa_nil)) (nomark _)))))
      (pss_one (ps_ret pe_bl))
      pss_nil)
    (pss_cons (ps_for PassesOwn.never rfl (pi_list (pe_lstL (pa_cons (pv 4) (pa_cons (pv 5) pa_nil)))) (pg_name (i := 13) scLaw.nd rfl (Or.inl rfl))
      (pss_one (ps_for PassesOwn.never rfl (pi_list (pe_lstL (pa_cons pe_int (pa_cons pe_int (pa_cons (pe_call GT hr2 rfl gT FT.kp bT .nil pass0 (pa_cons (pv 1) (pa_cons pe_int pa_nil))) (pa_cons (pv 12) (pa_cons (pe_op op_sub (pe_op op_pow pe_int pe_int) (pe_call GT hr2 rfl gT FT.kp bT .nil pass0 (pa_cons (pv 1) (pa_cons pe_int pa_nil)))) (pa_cons (pe_op op_pow pe_int pe_int) pa_nil)))))))) (pg_name (i := 14) scLaw.nd rfl (Or.inl rfl))
      (pss_one (ps_if (pt_cmpR op_ne (pe_callB (id := "repr") (cr_repr hgd hr.units) (by rfl) T.repr (by decide +kernel) (pa_cons (pe_call GG hr6 rfl gG FG.kp bG .nil (passes_call takes0 (fun _ _ _ _ h => h)) (pa_cons (pv 3) (pa_cons (pv 13) (pa_cons (pv 7) (pa_cons (pv 14) pa_nil))))) pa_nil)) (pe_callB (id := "repr") (cr_repr hgd hr.units) (by rfl) T.repr (by decide +kernel) (pa_cons (pe_call GM hr2 rfl gM FM.kp bM .nil pass0 (pa_cons (pv 3) (pa_cons (pv 13) (pa_cons (pv 7) (pa_cons (pe_op op_mod (pe_callTy (T := "int") call_int1 (by rfl) T.int (by decide +kernel) (pa_cons (pv 14) pa_nil)) (pv 12)) pa_nil))))) pa_nil)) (nomark _))
      (pss_one (ps_ret pe_bl))
      pss_nil)))))
    (pss_cons (ps_if (PW.pt (pw_or (pt_cmpR (op_neTu hr.units) (pe_call GD_ hr6 rfl gD FD.kp bD .nil (passes_call takes0 (fun _ _ _ _ h => h)) (pa_cons (pv 3) (pa_cons (pv 4) (pa_cons (pe_op op_repL (pv 7) pe_int) pa_nil)))) (pe_call GG hr6 rfl gG FG.kp bG .nil (passes_call takes0 (fun _ _ _ _ h => h)) (pa_cons (pv 3) (pa_cons (pv 4) (pa_cons (pv 7) (pa_cons pe_int pa_nil))))) (nomark _)) (pw_or1 (pt_cmpR op_ne (pe_callB (id := "repr") (cr_repr hgd hr.units) (by rfl) T.repr (by decide +kernel) (pa_cons (pe_tupL (pa_cons (pv 3) (pa_cons (pv 4) (pa_cons (pv 7) pa_nil)))) pa_nil)) (pv 8) (nomark _)))))
      (pss_one (ps_ret pe_bl))
      pss_nil)
    (pss_cons (ps_if (PW.pt (pw_or (pt_cmpR (op_neTu hr.units) (pe_call GU hr5 rfl gU FU.kp bU .nil (passes_call takes0 (fun _ _ _ _ h => h)) (pa_cons (pv 3) (pa_cons (pv 6) (pa_cons (pe_lstL pa_nil) pa_nil)))) (pe_tupRg rfl rfl T.tuple (prg_1 rfl T.range (pe_ix ix_tup (pv 3) pe_int (fun _ _ => rfl)))) (nomark _)) (pw_or1 (pt_cmpR op_ne (pe_call GO hr5 rfl gO FO.kp bO .nil (passes_call takes0 (fun _ _ _ _ h => h)) (pa_cons (pv 3) (pa_cons (pv 6) (pa_cons (pe_lstL pa_nil) pa_nil)))) pe_int (nomark _)))))
      (pss_one (ps_ret pe_bl))
      pss_nil)
    (pss_one (ps_if (pt_not (pt_val (pe_call GX hr9 rfl gX FX.kp bX .nil pass0 (pa_cons (pv 3) (pa_cons (pv 6) (pa_cons (pv 5) (pa_cons (pv 7) pa_nil)))))))
      (pss_one (ps_ret pe_bl))
      pss_nil)))))))))))))))))
    (pss_one (ps_ret pe_bl)))), ?_⟩
    refine ⟨_, rfl, a, ns, rfl, hS, hl, fun p c H1 S1 n1 n2 hp1 => ?_⟩
    refine ⟨2, rfl, by decide, by decide, for_range (lo := 0) (n := (2 : Int).toNat) (LawInv TT a p c) ⟨⟨none, none, none, none, none, none, none, none, none, none, none, none, none, rfl⟩, hT.ext S1, 0, Nat.le_refl _, hp1⟩ (fun i σ H2 hi hinv => ?_) (fun σ H2 hinv => q H2)⟩
    obtain ⟨⟨x2, x3, x4, x5, x6, x7, x8, x9, x10, x11, x12, x13, x14, rfl⟩, T2, k, hk, hp⟩ := hinv
    have hi : i < 2 := hi
    refine ⟨_, rfl, p, c, k, 10, 6, rfl, hp, by omega, by decide, by decide, by decide, by decide, fun r H3 n us k3 B3 nr hw3 good hlt hasc n2_ nle hlen hk3 hp3 => ?_⟩
    have T3 : Tabs TT H3 := tabs_butp T2 B3 hp
    obtain ⟨W, _⟩ := WebP.of (good_web good hlt hasc n2_ (by omega))
    rw [show ((n : Int)).toNat = n by omega] at W
    have hts : us.length ≤ 1000 := by omega
    have n10 : n ≤ 10 := by omega
    have n40 := W.n40
    clear good hlt hasc
    have u_good : ∀ {H : Hp} {Q : VK} {E : XK} {tl : Addr} {e : Int} {ms : List Int}, WebH H r n us → Bay n e → H tl = some (.lst (ms.map V.int)) → TourP n (rowsOf n us) e ms → ms.length ≤ 1000 → (∀ p H', Same H H' → H p = none → H' p = some (.tup (natI ((List.range n).map (goT e ms)))) → Q (.ref p) H') → sU [.ref r, .int e, .ref tl] H Q E := by
      subst eU
      exact fun a b c d f g => turned_good a W hts b c d f g
    have o_good : ∀ {H : Hp} {Q : VK} {E : XK} {tl : Addr} {e : Int} {ms : List Int}, WebH H r n us → Bay n e → H tl = some (.lst (ms.map V.int)) → TourP n (rowsOf n us) e ms → ms.length ≤ 1000 → (∀ cs H', Same H H' → Cy.Rounds n (goT e ms) cs → Q (.int ((Cy.lcms cs : Nat) : Int)) H') → sO [.ref r, .int e, .ref tl] H Q E := by
      subst eO
      exact fun a b c d f g => order_good a W hts b c d f g
    have g_good : ∀ {H : Hp} {Q : VK} {E : XK} {lo tl : Addr} {L ms : List Int} {e z : Int}, WebH H r n us → TupZ H lo (L.map V.int) → LooseP n L → e0 L = e → H tl = some (.lst (ms.map V.int)) → TourP n (rowsOf n us) e ms → ms.length ≤ 1000 → 0 ≤ z → z ≤ 10 ^ 30 → (∀ p H', Same H H' → TupZ H' p ((tmS ms z.toNat L).map V.int) → Q (.ref p) H') → sG [.ref r, .ref lo, .ref tl, .int z] H Q E := by
      subst eG
      exact fun a b c d f g h i j k => many_good a W hts b c d f g h i j k
    have d_good : ∀ {H : Hp} {Q : VK} {E : XK} {lo m : Addr} {L ks : List Int}, WebH H r n us → TupZ H lo (L.map V.int) → LooseP n L → H m = some (.lst (ks.map V.int)) → ks.length ≤ 1000 → (∀ b ∈ ks, Bay n b) → tiedS (rowsOf n us) (e0 L) ks = true → (∀ t H', Same H H' → TupZ H' t ((slidS L (e0 L) ks).1.map V.int) → Q (.ref t) H') → sD [.ref r, .ref lo, .ref m] H Q E := by
      subst eD
      exact fun a b c d f g h i => done_goodT a W hts b c d f g h i
    clear eU eO eG eD
    have wat : ∀ {H' : Hp}, WebH H' r n us → ∃ wt, SqT K H' r [V.int (n : Int), V.ref wt] ∧ Ties K H' wt us := fun e => by
      obtain ⟨wa, wt, ewa, hwa, hT⟩ := e.at (K := K)
      cases ewa
      exact ⟨wt, hwa, hT⟩
    obtain ⟨wt3, hs3, _⟩ := wat hw3
    refine ⟨_, rfl, _, rfl, r, _, _, _, rfl, rfl, hs3, at_of (j := 0) rfl rfl, p, c, k3, n, 999, rfl, hp3, by omega, by omega, by omega, by omega, fun st H4 L k4 B4 nst hst hL hLn hk4 hp4 => ?_⟩
    have hw4 := webH_extP hw3 (.but B4) hp3
    have T4 : Tabs TT H4 := tabs_butp T3 B4 hp3
    have hLl := hL.len
    refine ⟨_, rfl, st, rfl, ⟨_, hst.sq⟩, fun D hD => lc_tup (K := K) (a := st) (xs := L.map V.int) (fun i H' => Same H4 H' ∧ H' D = some (.lst ((tri (L.take i)).map V.int))) ⟨same_upd hD, by rw [upd_same, List.take_zero]; rfl⟩ (fun i H' _ ⟨S, _⟩ => (hst.same S).sq) ?_ ?_⟩
    · rintro i y H' hi ⟨S, e⟩
      obtain ⟨z, hz, rfl⟩ := getMap hi
      refine ⟨rfl, _, rfl, by show 2 ≤ sizeLine; decide, fun l H7 m7 S7 h7 => ⟨l, [z, 3], rfl, SqL.of h7, by show 0 < 2; decide, fun m hm hle => ?_⟩⟩
      have em : m = if 3 < z then 3 else z := by
        have a1 := hle z (by simp)
        have a2 := hle 3 (by simp)
        simp only [List.mem_cons, List.not_mem_nil, or_false] at hm
        split <;> omega
      refine ⟨_, S7 _ _ e, ?_, fun c o hc => by rw [upd_ne (ne_of_none hc hD)]; exact (S.trans S7) _ _ hc, ?_⟩
      · unfold tri
        rw [List.length_map, List.length_map, List.length_take, sizeLine_eq]
        omega
      · rw [upd_same, take_more hz, em]
        unfold tri
        rw [List.map_append, List.map_append]
        rfl
    rintro H5 ⟨S5, e5⟩
    rw [List.length_map, List.take_length] at e5
    refine ⟨D, _, rfl, .inl ⟨SqL.of e5, fun lo H6 n6 S6 hlo => ?_⟩⟩
    have hL3 := tri_loose hL
    have S46 := S5.trans S6
    have hp6 := hp4.same S46
    have hw6 := webH_extP hw4 (.same S46) hp4
    have hst6 := hst.same S46
    have T6 : Tabs TT H6 := T4.ext S46
    obtain ⟨be, e1, e2⟩ := e0_at hL.zero
    rw [hLl] at be
    have be0 := be.1
    have be1 := be.2
    -- bay, tour
    refine ⟨_, rfl, ⟨st, _, rfl, hst6⟩, st, L, 0, L.idxOf 0, rfl, rfl, hst6.sq, e1, e2, ?_⟩
    refine ⟨_, rfl, _, rfl, _, rfl, p, c, r, k4, n, us, e0 L, rfl, hp6, by omega, hw6, W, hts, be, fun tl H7 ms k7 B7 ntl ntp htl TP lms hk7 hp7 => ?_⟩
    have hw7 := webH_extP hw6 (.but B7) hp6
    have hst7 := hst6.extP (hst6.nep hp6) (.but B7)
    have hlo7 := TupZ.extP hlo (TupZ.nep hlo hp6) (.but B7)
    have T7 : Tabs TT H7 := tabs_butp T6 B7 hp6
    -- text
    have okL : ∀ {M : List Int}, LooseP n M → ∀ z ∈ M, -1 ≤ z ∧ z ≤ 1900 := fun h z hz => by
      have := h.inn z hz
      omega
    have okm : ∀ z ∈ ms, -1 ≤ z ∧ z ≤ 1900 := fun z hz => by
      have := TP.bays z hz
      have a := this.1
      have b := this.2
      omega
    have oT := ok_text W hts (okL hL) (by omega) okm (by omega)
    refine ⟨_, rfl, _, rfl, _, rfl, by show 3 ≤ sizeLine; decide, fun t1 H8 n8 S8 h8 => ⟨.ref t1, _, rfl, th_tup h8 (.cons (webH_th (webH_ext hw7 (extS S8))) (.cons (.tupR (hst7.same S8).rd (all_ints L)) (.cons (.lst (S8 _ _ htl) (all_ints ms)) .nil))), oT.show_.1, oT.nd, Nat.le_trans oT.dep (by decide), oT.show_.2, ?_⟩⟩
    have hw8 := webH_ext hw7 (extS S8)
    obtain ⟨wt8, hs8, _⟩ := wat hw8
    -- start
    have tk : ∀ i, i < n → (startL n (e0 L)).take (i + 1) = (startL n (e0 L)).take i ++ [if (i : Int) ≠ e0 L then (i : Int) + 1 else 0] := fun i hi => take_more (startL_at hi)
    refine ⟨_, rfl, r, _, _, .int (n : Int), rfl, rfl, hs8, at_of (j := 0) rfl rfl, (n : Int), rfl, by omega, by omega, fun D hD => lc_range (lo := 0) (n := ((n : Int)).toNat) (fun i H' => Same H8 H' ∧ H' D = some (.lst (((startL n (e0 L)).take i).map V.int))) ⟨same_upd hD, by rw [upd_same, List.take_zero]; rfl⟩ (fun i H3 hi ⟨S3, h3⟩ => ?_) (fun H9 ⟨S9, h9⟩ => ?_)⟩
    · rw [Int.toNat_natCast] at hi
      have key : ∀ y : V, y = V.int (if (i : Int) ≠ e0 L then (i : Int) + 1 else 0) → ∃ acc, H3 D = some (.lst acc) ∧ acc.length < sizeLine ∧ (Same H8 (upd H3 D (.lst (acc ++ [y]))) ∧ (upd H3 D (.lst (acc ++ [y]))) D = some (.lst (((startL n (e0 L)).take (i + 1)).map V.int))) := fun y ey =>
        ⟨_, h3, by rw [List.length_map, List.length_take, startL_len, sizeLine_eq]; omega, fun u o hu => by rw [upd_ne (ne_of_none hu hD)]; exact S3 _ _ hu, by rw [upd_same, ey, tk i hi, List.map_append]; rfl⟩
      refine ⟨rfl, _, rfl, _, rfl, rfl, _, rfl, ?_⟩
      by_cases c : (i : Int) = e0 L
      · refine iteC (by rw [decide_eq_true (show V.int (0 + (i : Int)) = V.int ((List.idxOf 0 L : Nat) : Int) by rw [Int.zero_add]; exact congrArg V.int c)]; rfl) ?_
        exact key _ (by rw [if_neg (fun z => z c)])
      · refine iteD (by rw [decide_eq_false (show ¬ V.int (0 + (i : Int)) = V.int ((List.idxOf 0 L : Nat) : Int) from fun z => c (by have z := V.int.inj z; have y : e0 L = ((List.idxOf 0 L : Nat) : Int) := rfl; omega))]; rfl) ⟨_, rfl, _, _, rfl, rfl, ?_⟩
        exact key _ (by rw [if_pos c, Int.zero_add])
    rw [Int.toNat_natCast, List.take_of_length_le (by rw [startL_len]; exact Nat.le_refl _)] at h9
    have hst0 := startL_loose (e := e0 L) (n := n) (by omega) be
    have est := startL_e0 (e := e0 L) (n := n) (by omega) be
    refine ⟨D, _, rfl, .inl ⟨SqL.of h9, fun sa HA nA SA hsa => ?_⟩⟩
    have S7A := (S8.trans S9).trans SA
    refine ⟨_, rfl, _, rfl, _, rfl, .ref r, sa, tl, n, startL n (e0 L), ms, 1, rfl, hsa, SqL.of (S7A _ _ htl), hst0, TP.bays, by decide, fun sb HB SB hsb => ?_⟩
    have S7B := S7A.trans SB
    obtain ⟨wtB, hsB, _⟩ := wat (webH_ext hw7 (extS S7B))
    obtain ⟨g1, g2, g3, g4⟩ := tm_go hst0 est TP.bays TP.back 1
    have gnd : (tmS ms 1 (startL n (e0 L))).Nodup := g3.nodup_iff.mpr startL_nd
    generalize tmS ms 1 (startL n (e0 L)) = BH at hsb g1 g2 g3 g4 gnd
    -- due
    refine ⟨_, rfl, r, _, _, .int (n : Int), rfl, rfl, hsB, at_of (j := 0) rfl rfl, (n : Int), rfl, by omega, by omega, fun D2 hD2 => lc_range (lo := 0) (n := ((n : Int)).toNat) (fun i H' => Same HB H' ∧ H' D2 = some (.lst (natI ((List.range i).map (goT (e0 L) ms))))) ⟨same_upd hD2, by rw [upd_same]; rfl⟩ (fun i H3 hi ⟨S3, h3⟩ => ?_) (fun HC ⟨SC, hC⟩ => ?_)⟩
    · rw [Int.toNat_natCast] at hi
      have key : ∀ y : V, y = V.int ((goT (e0 L) ms i : Nat) : Int) → ∃ acc, H3 D2 = some (.lst acc) ∧ acc.length < sizeLine ∧ (Same HB (upd H3 D2 (.lst (acc ++ [y]))) ∧ (upd H3 D2 (.lst (acc ++ [y]))) D2 = some (.lst (natI ((List.range (i + 1)).map (goT (e0 L) ms))))) := fun y ey =>
        ⟨_, h3, by unfold natI; rw [List.length_map, List.length_map, List.length_map, List.length_range, sizeLine_eq]; omega, fun u o hu => by rw [upd_ne (ne_of_none hu hD2)]; exact S3 _ _ hu, by
          rw [upd_same, ey, List.range_succ, List.map_append]
          unfold natI
          rw [List.map_append, List.map_append]
          rfl⟩
      refine ⟨rfl, _, rfl, _, rfl, rfl, _, rfl, ?_⟩
      by_cases c : (i : Int) = e0 L
      · refine iteC (by rw [decide_eq_true (show V.int (0 + (i : Int)) = V.int ((List.idxOf 0 L : Nat) : Int) by rw [Int.zero_add]; exact congrArg V.int c)]; rfl) ⟨_, rfl, ?_⟩
        refine key _ ?_
        have := go_empty hL rfl TP.bays TP.back
        rw [show i = (e0 L).toNat by omega, this]
        show V.int (e0 L) = _
        rw [Int.toNat_of_nonneg be0]
      · have hg := g4 i hi
        rw [startL_at hi, if_pos c] at hg
        refine iteD (by rw [decide_eq_false (show ¬ V.int (0 + (i : Int)) = V.int ((List.idxOf 0 L : Nat) : Int) from fun z => c (by have z := V.int.inj z; have y : e0 L = ((List.idxOf 0 L : Nat) : Int) := rfl; omega))]; rfl) ⟨_, rfl, ⟨sb, _, rfl, hsb.same S3⟩, _, rfl, _, _, rfl, rfl, sb, BH, _, goT (e0 L) ms i, rfl, rfl, (hsb.same S3).sq, ?_, ?_, ?_⟩
        · show BH[goT (e0 L) ms i]? = some (0 + (i : Int) + 1)
          rw [Int.zero_add]
          exact hg
        · intro m hm e
          have e : BH[m]? = some (0 + (i : Int) + 1) := e
          rw [Int.zero_add] at e
          have hg : BH[goT (e0 L) ms i]? = some ((i : Int) + 1) := hg
          obtain ⟨l1, v1⟩ := List.getElem?_eq_some_iff.mp e
          obtain ⟨l2, v2⟩ := List.getElem?_eq_some_iff.mp hg
          have := (List.getElem_inj (h₀ := l1) (h₁ := l2) gnd).mp (v1.trans v2.symm)
          omega
        · exact key _ rfl
    rw [Int.toNat_natCast] at hC
    refine ⟨D2, _, rfl, .inl ⟨SqL.of hC, fun du HD nD SD hdu => ?_⟩⟩
    have S7D := (S7B.trans SC).trans SD
    have hwD := webH_ext hw7 (extS S7D)
    refine ⟨_, rfl, _, rfl, _, rfl, .ref r, tl, n, us, e0 L, ms, rfl, hwD.at, by omega, n10, be, SqL.of (S7D _ _ htl), TP.bays, TP.back, fun m HE SE least lm => ?_⟩
    clear h9 hC hsb g1 g2 g3 g4 gnd hsa tk
    have S7E := S7D.trans SE
    have hwE := webH_ext hw7 (extS S7E)
    have hstE := hst7.same S7E
    have hloE := hlo7.same S7E
    have htlE := S7E _ _ htl
    have hduE := hdu.same SE
    have hpE := hp7.same S7E
    have TE : Tabs TT HE := T7.ext S7E
    -- turned, order_of
    have eDU : natI ((List.range n).map (goT (e0 L) ms)) = (((List.range n).map (goT (e0 L) ms)).map fun d : Nat => (d : Int)).map V.int := rfl
    have okDU : ∀ z ∈ ((List.range n).map (goT (e0 L) ms)).map (fun d : Nat => (d : Int)), -1 ≤ z ∧ z ≤ 1900 := fun z hz => by
      obtain ⟨d, hd, rfl⟩ := List.mem_map.mp hz
      obtain ⟨v, hv, rfl⟩ := List.mem_map.mp hd
      have := goT_lt be TP.bays v (List.mem_range.mp hv)
      omega
    have oDU := ok_ints okDU (by rw [List.length_map, List.length_map, List.length_range]; omega)
    rw [eDU] at hduE
    refine ⟨_, rfl, _, rfl, _, rfl, u_good hwE be htlE TP (by omega) fun q1 HF SF nF hF => ?_⟩
    have hF : HF q1 = some (.tup (natI ((List.range n).map (goT (e0 L) ms)))) := hF
    rw [eDU] at hF
    generalize ((List.range n).map (goT (e0 L) ms)).map (fun d : Nat => (d : Int)) = DU at hduE hF oDU
    refine ⟨.ref q1, .tuple (DU.map PyData.int), rfl, th_tup hF (all_ints DU), oDU.show_.1, oDU.nd, Nat.le_trans oDU.dep (by decide), oDU.show_.2, _, rfl, .ref du, .tuple (DU.map PyData.int), rfl, .tupR (hduE.same SF).rd (all_ints DU), oDU.show_.1, oDU.nd, Nat.le_trans oDU.dep (by decide), oDU.show_.2, rfl, _, rfl, iteC (by rw [decide_eq_true rfl]; rfl) ?_⟩
    refine ⟨_, rfl, _, rfl, _, rfl, o_good (webH_ext hwE (extS SF)) be (SF _ _ htlE) TP (by omega) fun cs HG SG rd => ?_⟩
    have rd : Cy.Rounds n (goT (e0 L) ms) cs := rd
    have emc := least.is rd
    subst emc
    have oM : OKD (.int ((Cy.lcms cs : Nat) : Int)) := ok_int (by omega) (by omega)
    refine ⟨.int ((Cy.lcms cs : Nat) : Int), .int ((Cy.lcms cs : Nat) : Int), rfl, .int _, oM.show_.1, oM.nd, Nat.le_trans oM.dep (by decide), oM.show_.2, _, rfl, .int ((Cy.lcms cs : Nat) : Int), .int ((Cy.lcms cs : Nat) : Int), rfl, .int _, oM.show_.1, oM.nd, Nat.le_trans oM.dep (by decide), oM.show_.2, rfl, _, rfl, iteC (by rw [decide_eq_true rfl]; rfl) ?_⟩
    generalize Cy.lcms cs = m at least lm
    clear rd oM
    have SEG := SF.trans SG
    have hwG := webH_ext hwE (extS SEG)
    have hstG := hstE.same SEG
    have hloG := hloE.same SEG
    have htlG := SEG _ _ htlE
    have hpG := hpE.same SEG
    have TG : Tabs TT HG := TE.ext SEG
    clear hwE hstE hloE htlE hpE TE hduE hF
    refine ⟨_, rfl, _, rfl, by show 2 ≤ sizeLine; decide, fun lw HH nH SH hH => ?_⟩
    have hwH := webH_ext hwG (extS SH)
    have hstH := hstG.same SH
    have hloH := hloG.same SH
    have htlH := SH _ _ htlG
    have hpH := hpG.same SH
    have TH_ : Tabs TT HH := TG.ext SH
    have nlw : lw ≠ p := fun z => by
      rw [z, (pen_lst hpG).choose_spec] at nH
      cases nH
    obtain ⟨tx, etx⟩ : ∃ tx, tx = (PyData.tuple [webT (n : Int) us, PyData.tuple (List.map PyData.int L), PyData.list (List.map PyData.int ms)]).shown := ⟨_, rfl⟩
    rw [← etx]
    refine ⟨lw, rfl, ⟨_, SqL.of hH⟩, for_list (K := K) (a := lw) (fun j σ H' => (∃ y13 y14, σ = [some (.ref a), some (.ref p), some (.int (0 + (i : Nat))), some (.ref r), some (.ref st), some (.ref lo), some (.int (e0 L)), some (.ref tl), some (.str tx), some (.ref sa), some (.ref sb), some (.ref du), some (.int (m : Int)), y13, y14, none, none]) ∧ ExtP p HH H' ∧ Tabs TT H' ∧ ∃ k', k' ≤ k7 + 2 * j ∧ Pen H' p c k') ⟨⟨_, _, rfl⟩, ExtP.refl, TH_, k7, Nat.le_refl _, hpH⟩ (fun j σ H' _ ⟨_, e, _⟩ => SqL.of (e.lst nlw hH)) ?_ ?_⟩
    · rintro j v σ H1 hj ⟨⟨y13, y14, rfl⟩, x1, T1, kq, hkq, hpq⟩
      obtain ⟨o, M, rfl, hoM, hM, eM⟩ : ∃ o M, v = .ref o ∧ TupZ HH o (M.map V.int) ∧ LooseP n M ∧ e0 M = e0 L := by
        have hm := List.mem_of_getElem? hj
        simp only [List.mem_cons, List.not_mem_nil, or_false] at hm
        rcases hm with rfl | rfl
        · exact ⟨st, L, rfl, hstH, hL, rfl⟩
        · exact ⟨lo, tri L, rfl, hloH, hL3, tri_e0 hL⟩
      have hj2 : j < 2 := (List.getElem?_eq_some_iff.mp hj).1
      refine ⟨_, rfl, p, c, kq, _, rfl, hpq, by decide, by decide, by omega, fun t20 H2_ k20 a0 a1 B20 hk20 hp20 => ⟨_, rfl, _, _, rfl, rfl, ⟨by decide, by decide, by decide⟩, _, rfl, p, c, k20, _, rfl, hp20, by decide, by decide, by omega, fun t99 H3_ k99 b0 b1 B99 hk99 hp99 => ⟨_, _, rfl, rfl, _, _, rfl, rfl, ⟨by decide, by decide, by decide⟩, by show 6 ≤ sizeLine; decide, fun l6 H4_ n6' S6_ h6 => ?_⟩⟩⟩
      have x4 : ExtP p HH H4_ := ((x1.trans (.but B20)).trans (.but B99)).trans (.same S6_)
      have T4_ : Tabs TT H4_ := (tabs_butp (tabs_butp T1 B20 hpq) B99 hp20).ext S6_
      have hp4_ := hp99.same S6_
      have hw4_ := webH_extP hwH x4 hpH
      have ho4 := hoM.extP (hoM.nep hpH) x4
      have ht4 : H4_ tl = some (.lst (ms.map V.int)) := x4.lst ntp htlH
      have e30 : (10 : Int) ^ (30 : Int).toNat = 10 ^ 30 := rfl
      have each : ∀ v ∈ [V.int 0, .int 1, .int t20, .int (m : Int), .int ((10 : Int) ^ (30 : Int).toNat - t99), .int ((10 : Int) ^ (30 : Int).toNat)], ∃ z : Nat, v = .int (z : Int) ∧ (z : Int) ≤ 10 ^ 30 := by
        intro v hv
        rw [e30] at hv
        simp only [List.mem_cons, List.not_mem_nil, or_false] at hv
        rcases hv with rfl | rfl | rfl | rfl | rfl | rfl
        · exact ⟨0, rfl, by decide⟩
        · exact ⟨1, rfl, by decide⟩
        · exact ⟨t20.toNat, by rw [Int.toNat_of_nonneg a0], by omega⟩
        · exact ⟨m, rfl, by omega⟩
        · exact ⟨((10 : Int) ^ 30 - t99).toNat, by rw [Int.toNat_of_nonneg (by omega)], by omega⟩
        · exact ⟨10 ^ 30, rfl, by decide⟩
      refine ⟨l6, rfl, ⟨_, SqL.of h6⟩, for_list (K := K) (a := l6) (fun g σ H' => (∃ y14, σ = [some (.ref a), some (.ref p), some (.int (0 + (i : Nat))), some (.ref r), some (.ref st), some (.ref lo), some (.int (e0 L)), some (.ref tl), some (.str tx), some (.ref sa), some (.ref sb), some (.ref du), some (.int (m : Int)), some (.ref o), y14, none, none]) ∧ Same H4_ H') ⟨⟨_, rfl⟩, Same.refl _⟩ (fun g σ H' _ ⟨_, S⟩ => SqL.of (S _ _ h6)) ?_ ?_⟩
      · rintro g v σ H5_ hg ⟨⟨y14', rfl⟩, S5_⟩
        obtain ⟨z, rfl, hz⟩ := each v (List.mem_of_getElem? hg)
        have hw5_ := webH_ext hw4_ (extS S5_)
        refine ⟨_, rfl, _, rfl, _, rfl, _, rfl, g_good hw5_ (ho4.same S5_) hM eM (S5_ _ _ ht4) TP (by omega) (by omega) hz fun q1 H6_ S6' hq1 => ?_⟩
        rw [Int.toNat_natCast] at hq1
        obtain ⟨gL, _⟩ := tm_go hM eM TP.bays TP.back z
        have oK := ok_ints (okL gL) (by rw [gL.len]; omega)
        have S46_ := S5_.trans S6'
        refine ⟨.ref q1, _, rfl, .tupR hq1.rd (all_ints _), oK.show_.1, oK.nd, Nat.le_trans oK.dep (by decide), oK.show_.2, ?_⟩
        refine ⟨_, rfl, _, rfl, _, rfl, _, rfl, .inl ⟨_, rfl, _, rfl, _, _, rfl, rfl, by have := least.pos; omega, ?_⟩⟩
        have mlt := Nat.mod_lt z least.pos
        refine ⟨.ref r, o, tl, n, M, ms, z % m, by rw [Int.natCast_emod]; rfl, ho4.same S46_, SqL.of (S46_ _ _ ht4), hM, TP.bays, by omega, fun q2 H7_ S7_ hq2 => ?_⟩
        rw [← tm_mod hM eM TP.bays TP.back least.back z] at hq2
        refine ⟨.ref q2, _, rfl, .tupR hq2.rd (all_ints _), oK.show_.1, oK.nd, Nat.le_trans oK.dep (by decide), oK.show_.2, rfl, _, rfl, iteC (by rw [decide_eq_true rfl]; rfl) ?_⟩
        exact ⟨⟨_, rfl⟩, S46_.trans S7_⟩
      · rintro σ H5_ ⟨⟨y14', rfl⟩, S5_⟩
        exact ⟨⟨_, _, rfl⟩, x4.trans (.same S5_), T4_.ext S5_, k99, by omega, hp4_.same S5_⟩
    rintro σ H1 ⟨⟨y13, y14, rfl⟩, x1, T1, kq, hkq, hpq⟩
    have hkq : kq ≤ k7 + 4 := hkq
    have hw1 := webH_extP hwH x1 hpH
    have hst1 := hstH.extP (hstH.nep hpH) x1
    have hlo1 := hloH.extP (hloH.nep hpH) x1
    have ht1 : H1 tl = some (.lst (ms.map V.int)) := x1.lst ntp htlH
    clear hwH hstH hloH htlH hpH TH_ x1
    -- twice
    refine ⟨_, rfl, _, rfl, _, rfl, tl, 2, _, rfl, rfl, ht1, by decide, by decide, by show (ms.map V.int).length * 2 ≤ sizeLine; rw [List.length_map, sizeLine_eq]; omega, fun k2 G1 d1 V1 v1 => ?_⟩
    have v1 : G1 k2 = some (.lst ((ms ++ ms).map V.int)) := by
      rw [v1, List.map_append]
      show some (HO.lst (ms.map V.int ++ (ms.map V.int ++ []))) = _
      rw [List.append_nil]
    have tied2 : tiedS (rowsOf n us) (e0 L) (ms ++ ms) = true := by
      rw [tiedS_app, TP.back, TP.tied]
      rfl
    refine d_good (webH_ext hw1 (extS V1)) (hst1.same V1) hL v1 (by rw [List.length_append]; omega) (fun b hb => (List.mem_append.mp hb).elim (TP.bays b) (TP.bays b)) tied2 fun q1 G2 V2 v2 => ?_
    have V12 := V1.trans V2
    refine ⟨_, rfl, _, rfl, _, rfl, g_good (z := 2) (webH_ext hw1 (extS V12)) (hst1.same V12) hL rfl (V12 _ _ ht1) TP (by omega) (by decide) (by decide) fun q2 G3 V3 v3 => ?_⟩
    have V13 := V12.trans V3
    have e2 : (slidS L (e0 L) (ms ++ ms)).1 = tmS ms (2 : Int).toNat L := by
      obtain ⟨_, h2, _⟩ := tm_go hL rfl TP.bays TP.back 1
      show _ = (slidS (tmS ms 1 L) (e0 (tmS ms 1 L)) ms).1
      rw [h2, slidS_app, slid_last, TP.back]
      rfl
    rw [e2] at v2
    refine ⟨q1, q2, _, _, rfl, rfl, (v2.same V3).sq, v3.sq, _, rfl, iteC (by rw [decide_eq_true rfl]; rfl) ?_⟩
    -- nothing was changed
    refine ⟨_, rfl, _, rfl, _, rfl, by show 3 ≤ sizeLine; decide, fun t2 G4 d4 V4 v4 => ⟨.ref t2, _, rfl, th_tup v4 (.cons (webH_th (webH_ext hw1 (extS (V13.trans V4)))) (.cons (.tupR (hst1.same (V13.trans V4)).rd (all_ints L)) (.cons (.lst ((V13.trans V4) _ _ ht1) (all_ints ms)) .nil))), oT.show_.1, oT.nd, Nat.le_trans oT.dep (by decide), oT.show_.2, ?_⟩⟩
    rw [← etx]
    refine ⟨_, rfl, rfl, _, rfl, iteC (by rw [decide_eq_true rfl]; rfl) ?_⟩
    have V14 := V13.trans V4
    have T0 : TourP n (rowsOf n us) (e0 L) [] := ⟨fun b hb => absurd hb List.not_mem_nil, rfl, rfl⟩
    refine ⟨_, rfl, _, rfl, by show 0 ≤ sizeLine; decide, fun l0 G5 d5 V5 v5 => ?_⟩
    have V15 := V14.trans V5
    refine u_good (ms := []) (webH_ext hw1 (extS V15)) be v5 T0 (by show 0 ≤ 1000; decide) fun q3 G6 V6 d6 v6 => ?_
    have V16 := V15.trans V6
    obtain ⟨wt6, hs6, _⟩ := wat (webH_ext hw1 (extS V16))
    refine ⟨_, rfl, r, _, _, .int (n : Int), rfl, rfl, hs6, at_of (j := 0) rfl rfl, _, rfl, ⟨by omega, by omega, by omega, by omega⟩, fun q4 d7 => ?_⟩
    have V7 : Same G6 (upd G6 q4 (.tup (rgV 0 (n : Int)))) := same_upd d7
    have v7 : (upd G6 q4 (.tup (rgV 0 (n : Int)))) q4 = some (.tup (((List.range n).map fun d : Nat => (d : Int)).map V.int)) := by
      rw [upd_same]
      unfold rgV
      rw [Int.sub_zero, Int.toNat_natCast, List.map_map]
      exact congrArg (fun x => some (HO.tup x)) (List.map_congr_left fun i _ => by show V.int (0 + (i : Int)) = V.int (i : Int); rw [Int.zero_add])
    generalize upd G6 q4 (.tup (rgV 0 (n : Int))) = G7 at V7 v7
    have v6 : G6 q3 = some (.tup (((List.range n).map fun d : Nat => (d : Int)).map V.int)) := by
      have e : (List.range n).map (goT (e0 L) []) = List.range n := (List.map_congr_left fun _ _ => rfl).trans (List.map_id _)
      have v6 : G6 q3 = some (.tup (natI ((List.range n).map (goT (e0 L) [])))) := v6
      rw [v6, e]
    have V17 := V16.trans V7
    refine ⟨q3, q4, _, _, rfl, rfl, SqT.of (V7 _ _ v6), SqT.of v7, _, rfl, iteC (by rw [decide_eq_true rfl]; rfl) ?_⟩
    refine ⟨_, rfl, _, rfl, by show 0 ≤ sizeLine; decide, fun l1 G8 d8 V8 v8 => ?_⟩
    have V18 := V17.trans V8
    refine o_good (ms := []) (webH_ext hw1 (extS V18)) be v8 T0 (by show 0 ≤ 1000; decide) fun cs G9 V9 rd => ?_
    have one1 : Cy.lcms cs = 1 := (show Cy.Least n (goT (e0 L) []) 1 from ⟨by decide, fun v _ => rfl, fun j a b => by omega⟩).is rd
    rw [one1]
    have V19 := V18.trans V9
    refine ⟨rfl, _, rfl, iteC rfl ?_⟩
    -- what is none
    refine ⟨_, rfl, _, rfl, _, rfl, _, rfl, r, lo, tl, n, us, e0 L, tri L, ms, rfl, webH_ext hw1 (extS V19), W, hts, hlo1.same V19, hL3, tri_e0 hL, V19 _ _ ht1, TP, lms, T1.ext V19, fun GZ eZ TZ => ⟨_, rfl, iteC rfl ?_⟩⟩
    exact ⟨⟨_, _, _, _, _, _, _, _, _, _, _, _, _, rfl⟩, TZ, kq, by omega, pen_ext (hpq.same V19) eZ⟩
end
end Sb

/-! ## H42 -/
set_option maxHeartbeats 0
/-! What the head leaves. -/
namespace Sb
open PySem PySem.Spec PyProof.Rows L2
def dDef (x : Str) (i : Nat) : He.DefD := ⟨(x, none), x, x, defArgs (top i), defBody (top i), defScope (top i), [], []⟩
def fns : List He.DefD := [dDef "is_whole" 11, dDef "rows_of" 12, dDef "steps_from" 13, dDef "tied_along" 15, dDef "slid" 16, dDef "is_web" 20, dDef "is_tie" 21, dDef "need_web" 22, dDef "is_bay" 23, dDef "need_bay" 24, dDef "done" 27, dDef "fits_loosely" 28, dDef "fits_openly" 29, dDef "is_piece_or_0" 30, dDef "need_loose" 31, dDef "need_tied" 32, dDef "are_bays" 33, dDef "need_moves" 34, dDef "turned" 37, dDef "order_of" 38, dDef "done_many" 39, dDef "need_tour" 40, dDef "turn_of" 41, dDef "cycles_of" 42, dDef "_law_open" 44, dDef "_law_spread" 45, dDef "_law_take" 46, dDef "_law_one_of" 47, dDef "_law_near" 48, dDef "_law_reached" 49, dDef "_law_any_names" 50, dDef "_law_renamed" 51, dDef "_law_ways" 52, dDef "_law_piece" 53, dDef "_law_any_web" 54, dDef "_law_any_standing" 55, dDef "_law_moved" 56, dDef "_law_any_moves" 57, dDef "_law_mixed" 58, dDef "_law_exchanged" 59, dDef "_law_far" 60, dDef "_law_path" 61, dDef "_law_word" 62, dDef "_law_any_tour" 63, dDef "_law_times" 64, dDef "_law_order" 65, dDef "_law_refused_right" 66, dDef "law" 67]
def defNames : List Str := (["is_whole", "rows_of", "steps_from", "tied_along", "slid", "is_web", "is_tie", "need_web", "is_bay", "need_bay", "done", "fits_loosely", "fits_openly", "is_piece_or_0", "need_loose", "need_tied"] : List Str) ++ (["are_bays", "need_moves", "turned", "order_of", "done_many", "need_tour", "turn_of", "cycles_of", "_law_open", "_law_spread", "_law_take", "_law_one_of", "_law_near", "_law_reached", "_law_any_names", "_law_renamed"] : List Str) ++ (["_law_ways", "_law_piece", "_law_any_web", "_law_any_standing", "_law_moved", "_law_any_moves", "_law_mixed", "_law_exchanged", "_law_far", "_law_path", "_law_word", "_law_any_tour", "_law_times", "_law_order", "_law_refused_right", "law"] : List Str)
def freeNames : List Str := (["len", "int", "list", "enumerate", "range", "isinstance", "tuple", "all", "min", "bool", "set", "sorted", "str", "any", "zip", "max"] : List Str) ++ (["sum", "repr"] : List Str)
def fas : List He.Fa := (defNames).map .glo ++ freeNames.map .free ++ [.int "FEWEST_BAYS" 2, .int "MOST_BAYS" 40, .int "GREATEST_PIECE" 999, .int "MOST_TIMES" 1000000000000000000000000000000]
def clsNames : List Str := (["NoWeb", "NoBay", "NoStanding", "NoTour", "NoCount", "NoMoves", "BadMove", "BayError"] : List Str)
def cOf (K : PySem.W.Frag) (i : Nat) : Addr := He.ga K (clsNames.getD i "")
def exOne (K : PySem.W.Frag) (i : Nat) : Bool :=
  PySem.W.keepIn K (.ref (cOf K i)) && (PySem.W.excIn K (cOf K i) He.veBase "ValueError.__new__" && (decide (PySem.W.subIn K (.ref (cOf K i)) (.type "BaseException") = some true) && (decide (PySem.W.typeIn K (.ref (cOf K i)) = some (.type "type")) &&
  (List.range 7).all fun j => decide (PySem.W.exmOne K (.ref (cOf K i)) (.ref (cOf K j)) = some (decide (i = j))))))
def exs (K : PySem.W.Frag) : Bool := (List.range 7).all (exOne K) && ((List.range 8).all (fun i => He.eqO (PySem.W.nsIn K mainGlobals (clsNames.getD i "")) (some (some (.ref (cOf K i))))) &&
  He.eqO (PySem.W.nsIn K mainGlobals "lcm") (some (some (.builtin "math.lcm"))))
def tfs : List He.Defn := [("_law_refused_right", none)]
abbrev theRow : PySem.W.OpenRow := PySem.W.OpenLaw.row PySem.Challenge.rw_sparebay_k42_whole_tours
abbrev hk : PySem.W.Hook := He.hookX 4 fas fns [] tfs exs
def ob (s : PySem.W.SharedT) : He.AlX := He.obsX 4 fas fns [] tfs exs (HandSHeadRun.getT s)
theorem ob_eq (s : PySem.W.SharedT) : ob s = hk.obs s.abs := He.obsX_eq (HandSHeadRun.getT_eq s)
def loose : List Str := (["BayError", "NoWeb", "NoBay", "NoStanding", "BadMove", "NoMoves", "NoTour", "NoCount", "FEWEST_BAYS", "MOST_BAYS", "GREATEST_PIECE", "MOST_TIMES", "is_whole", "rows_of", "steps_from", "tied_along"] : List Str) ++ (["slid", "is_web", "is_tie", "need_web", "is_bay", "need_bay", "done", "fits_loosely", "fits_openly", "is_piece_or_0", "need_loose", "need_tied", "are_bays", "need_moves", "turned", "order_of"] : List Str) ++ (["done_many", "need_tour", "turn_of", "cycles_of", "_law_open", "_law_spread", "_law_take", "_law_one_of", "_law_near", "_law_reached", "_law_any_names", "_law_renamed", "_law_ways", "_law_piece", "_law_any_web", "_law_any_standing"] : List Str) ++ (["_law_moved", "_law_any_moves", "_law_mixed", "_law_exchanged", "_law_far", "_law_path", "_law_word", "_law_any_tour", "_law_times", "_law_order", "_law_refused_right"] : List Str)
theorem run (w : World) : HandSHeadRun.RunEqI theRow (PySem.W.view theRow.prog [0, 67]) hk ob 6000 loose w := by
  unfold HandSHeadRun.RunEqI
  kernel_rfl
end Sb

/-! ## F42 -/
/-! The end. -/
namespace Sb
open PySem PySem.Spec PyProof.Rows L2
theorem exs_cls {K : PySem.W.Frag} (e : exs K = true) : (∀ i, i < 7 → exOne K i = true) ∧ (∀ i, i < 8 → PySem.W.nsIn K mainGlobals (clsNames.getD i "") = some (some (.ref (cOf K i)))) ∧ PySem.W.nsIn K mainGlobals "lcm" = some (some (.builtin "math.lcm")) := by
  unfold exs at e
  obtain ⟨e1, e2⟩ := He.ba e
  obtain ⟨e3, d1⟩ := He.ba e2
  exact ⟨fun i hi => List.all_eq_true.mp e1 i (List.mem_range.mpr hi), fun i hi => He.eqO_ok (List.all_eq_true.mp e3 i (List.mem_range.mpr hi)), He.eqO_ok d1⟩
def cE (K : PySem.W.Frag) (i : Nat) : Addr := cOf K (if i < 5 then i else 7)
theorem nm6_is (i : Nat) (hi : i < 6) : nm6 i = clsNames.getD (if i < 5 then i else 7) "" := by
  obtain rfl | rfl | rfl | rfl | rfl | rfl : i = 0 ∨ i = 1 ∨ i = 2 ∨ i = 3 ∨ i = 4 ∨ i = 5 := by omega
  all_goals rfl
theorem cls_one {K : PySem.W.Frag} (e : exs K = true) : ∀ i, i < 7 → PySem.W.keepIn K (.ref (cOf K i)) = true ∧ PySem.W.excIn K (cOf K i) He.veBase "ValueError.__new__" = true ∧ PySem.W.subIn K (.ref (cOf K i)) (.type "BaseException") = some true ∧ PySem.W.typeIn K (.ref (cOf K i)) = some (.type "type") ∧
      ∀ j, j < 7 → PySem.W.exmOne K (.ref (cOf K i)) (.ref (cOf K j)) = some (decide (i = j)) := fun i hi => by
  obtain ⟨e1, _, _⟩ := exs_cls e
  have h := e1 i hi
  unfold exOne at h
  obtain ⟨a1, h⟩ := He.ba h
  obtain ⟨a2, h⟩ := He.ba h
  obtain ⟨a3, h⟩ := He.ba h
  obtain ⟨a4, a5⟩ := He.ba h
  exact ⟨a1, a2, of_decide_eq_true a3, of_decide_eq_true a4, fun j hj => of_decide_eq_true (List.all_eq_true.mp a5 j (List.mem_range.mpr hj))⟩
theorem cE_lt {K : PySem.W.Frag} {i : Nat} (hi : i < 5) : cE K i = cOf K i := by
  unfold cE
  rw [if_pos hi]
theorem err_of {K : PySem.W.Frag} {h : Heap} {mg : Str → Option Value} (X : K.In h) (G : h.Ns mainGlobals mg) (e : exs K = true) : Err6 K mg (cE K) := by
  obtain ⟨_, e2, _⟩ := exs_cls e
  have one := cls_one e
  refine ⟨fun i hi => ?_, fun i hi => by rw [cE_lt hi]; exact (one i (by omega)).1, fun i hi => by rw [cE_lt hi]; exact (one i (by omega)).2.1, fun i hi => by rw [cE_lt hi]; exact (one i (by omega)).2.2.1, fun i hi => by rw [cE_lt hi]; exact (one i (by omega)).2.2.2.1, fun i j hi hj => by rw [cE_lt hi, cE_lt hj]; exact (one i (by omega)).2.2.2.2 j (by omega)⟩
  rw [nm6_is i hi]
  exact PySem.W.mg_of X G (e2 _ (by split <;> omega))
theorem errN_of {K : PySem.W.Frag} {h : Heap} {mg : Str → Option Value} (X : K.In h) (G : h.Ns mainGlobals mg) (e : exs K = true) (i : Nat) (hi : i < 7) {x : Str} (ex : clsNames.getD i "" = x) : ErrN K mg x (cOf K i) := by
  obtain ⟨_, e2, _⟩ := exs_cls e
  obtain ⟨a, b, c, d, _⟩ := cls_one e i hi
  exact ⟨by rw [← ex]; exact PySem.W.mg_of X G (e2 i (by omega)), a, b, c, d⟩
theorem law_at {w : World} {K : PySem.W.Frag} {h : Heap} {mg : Str → Option Value} {fa : Addr} (X : K.In h) (G : h.Ns mainGlobals mg) (hfa : mg ("law" : Str) = some (.ref fa)) (c : He.SaysX fas fns [] tfs exs w h K) :
    LawG PySem.Challenge.rw_sparebay_k42_whole_tours w K CX0 10 63 "script" mg fa h := by
  have d := He.SaysT.d c.t
  have glo : ∀ (i : Nat) (x : Str), fas[i]? = some (.glo x) → mg x = some (.ref (He.ga K x)) := fun i x hi => He.glo_ok X G (d.fact i (f := .glo x) hi)
  have free : ∀ (i : Nat) (x : Str), fas[i]? = some (.free x) → mg x = none := fun i x hi => He.free_ok X G (d.fact i (f := .free x) hi)
  obtain ⟨fd_is_whole, F_is_whole⟩ := d.def_ 0 (d := dDef "is_whole" 11) rfl
  have g_is_whole := glo 0 "is_whole" rfl
  obtain ⟨fd_rows_of, F_rows_of⟩ := d.def_ 1 (d := dDef "rows_of" 12) rfl
  have g_rows_of := glo 1 "rows_of" rfl
  obtain ⟨fd_steps_from, F_steps_from⟩ := d.def_ 2 (d := dDef "steps_from" 13) rfl
  have g_steps_from := glo 2 "steps_from" rfl
  obtain ⟨fd_tied_along, F_tied_along⟩ := d.def_ 3 (d := dDef "tied_along" 15) rfl
  have g_tied_along := glo 3 "tied_along" rfl
  obtain ⟨fd_slid, F_slid⟩ := d.def_ 4 (d := dDef "slid" 16) rfl
  have g_slid := glo 4 "slid" rfl
  obtain ⟨fd_is_web, F_is_web⟩ := d.def_ 5 (d := dDef "is_web" 20) rfl
  have g_is_web := glo 5 "is_web" rfl
  obtain ⟨fd_is_tie, F_is_tie⟩ := d.def_ 6 (d := dDef "is_tie" 21) rfl
  have g_is_tie := glo 6 "is_tie" rfl
  obtain ⟨fd_need_web, F_need_web⟩ := d.def_ 7 (d := dDef "need_web" 22) rfl
  have g_need_web := glo 7 "need_web" rfl
  obtain ⟨fd_is_bay, F_is_bay⟩ := d.def_ 8 (d := dDef "is_bay" 23) rfl
  have g_is_bay := glo 8 "is_bay" rfl
  obtain ⟨fd_need_bay, F_need_bay⟩ := d.def_ 9 (d := dDef "need_bay" 24) rfl
  have g_need_bay := glo 9 "need_bay" rfl
  obtain ⟨fd_done, F_done⟩ := d.def_ 10 (d := dDef "done" 27) rfl
  have g_done := glo 10 "done" rfl
  obtain ⟨fd_fits_loosely, F_fits_loosely⟩ := d.def_ 11 (d := dDef "fits_loosely" 28) rfl
  have g_fits_loosely := glo 11 "fits_loosely" rfl
  obtain ⟨fd_fits_openly, F_fits_openly⟩ := d.def_ 12 (d := dDef "fits_openly" 29) rfl
  have g_fits_openly := glo 12 "fits_openly" rfl
  obtain ⟨fd_is_piece_or_0, F_is_piece_or_0⟩ := d.def_ 13 (d := dDef "is_piece_or_0" 30) rfl
  have g_is_piece_or_0 := glo 13 "is_piece_or_0" rfl
  obtain ⟨fd_need_loose, F_need_loose⟩ := d.def_ 14 (d := dDef "need_loose" 31) rfl
  have g_need_loose := glo 14 "need_loose" rfl
  obtain ⟨fd_need_tied, F_need_tied⟩ := d.def_ 15 (d := dDef "need_tied" 32) rfl
  have g_need_tied := glo 15 "need_tied" rfl
  obtain ⟨fd_are_bays, F_are_bays⟩ := d.def_ 16 (d := dDef "are_bays" 33) rfl
  have g_are_bays := glo 16 "are_bays" rfl
  obtain ⟨fd_need_moves, F_need_moves⟩ := d.def_ 17 (d := dDef "need_moves" 34) rfl
  have g_need_moves := glo 17 "need_moves" rfl
  obtain ⟨fd_turned, F_turned⟩ := d.def_ 18 (d := dDef "turned" 37) rfl
  have g_turned := glo 18 "turned" rfl
  obtain ⟨fd_order_of, F_order_of⟩ := d.def_ 19 (d := dDef "order_of" 38) rfl
  have g_order_of := glo 19 "order_of" rfl
  obtain ⟨fd_done_many, F_done_many⟩ := d.def_ 20 (d := dDef "done_many" 39) rfl
  have g_done_many := glo 20 "done_many" rfl
  obtain ⟨fd_need_tour, F_need_tour⟩ := d.def_ 21 (d := dDef "need_tour" 40) rfl
  have g_need_tour := glo 21 "need_tour" rfl
  obtain ⟨fd_turn_of, F_turn_of⟩ := d.def_ 22 (d := dDef "turn_of" 41) rfl
  have g_turn_of := glo 22 "turn_of" rfl
  obtain ⟨fd_cycles_of, F_cycles_of⟩ := d.def_ 23 (d := dDef "cycles_of" 42) rfl
  have g_cycles_of := glo 23 "cycles_of" rfl
  obtain ⟨fd__law_open, F__law_open⟩ := d.def_ 24 (d := dDef "_law_open" 44) rfl
  have g__law_open := glo 24 "_law_open" rfl
  obtain ⟨fd__law_spread, F__law_spread⟩ := d.def_ 25 (d := dDef "_law_spread" 45) rfl
  have g__law_spread := glo 25 "_law_spread" rfl
  obtain ⟨fd__law_take, F__law_take⟩ := d.def_ 26 (d := dDef "_law_take" 46) rfl
  have g__law_take := glo 26 "_law_take" rfl
  obtain ⟨fd__law_one_of, F__law_one_of⟩ := d.def_ 27 (d := dDef "_law_one_of" 47) rfl
  have g__law_one_of := glo 27 "_law_one_of" rfl
  obtain ⟨fd__law_near, F__law_near⟩ := d.def_ 28 (d := dDef "_law_near" 48) rfl
  have g__law_near := glo 28 "_law_near" rfl
  obtain ⟨fd__law_reached, F__law_reached⟩ := d.def_ 29 (d := dDef "_law_reached" 49) rfl
  have g__law_reached := glo 29 "_law_reached" rfl
  obtain ⟨fd__law_any_names, F__law_any_names⟩ := d.def_ 30 (d := dDef "_law_any_names" 50) rfl
  have g__law_any_names := glo 30 "_law_any_names" rfl
  obtain ⟨fd__law_renamed, F__law_renamed⟩ := d.def_ 31 (d := dDef "_law_renamed" 51) rfl
  have g__law_renamed := glo 31 "_law_renamed" rfl
  obtain ⟨fd__law_ways, F__law_ways⟩ := d.def_ 32 (d := dDef "_law_ways" 52) rfl
  have g__law_ways := glo 32 "_law_ways" rfl
  obtain ⟨fd__law_piece, F__law_piece⟩ := d.def_ 33 (d := dDef "_law_piece" 53) rfl
  have g__law_piece := glo 33 "_law_piece" rfl
  obtain ⟨fd__law_any_web, F__law_any_web⟩ := d.def_ 34 (d := dDef "_law_any_web" 54) rfl
  have g__law_any_web := glo 34 "_law_any_web" rfl
  obtain ⟨fd__law_any_standing, F__law_any_standing⟩ := d.def_ 35 (d := dDef "_law_any_standing" 55) rfl
  have g__law_any_standing := glo 35 "_law_any_standing" rfl
  obtain ⟨fd__law_moved, F__law_moved⟩ := d.def_ 36 (d := dDef "_law_moved" 56) rfl
  have g__law_moved := glo 36 "_law_moved" rfl
  obtain ⟨fd__law_any_moves, F__law_any_moves⟩ := d.def_ 37 (d := dDef "_law_any_moves" 57) rfl
  have g__law_any_moves := glo 37 "_law_any_moves" rfl
  obtain ⟨fd__law_mixed, F__law_mixed⟩ := d.def_ 38 (d := dDef "_law_mixed" 58) rfl
  have g__law_mixed := glo 38 "_law_mixed" rfl
  obtain ⟨fd__law_exchanged, F__law_exchanged⟩ := d.def_ 39 (d := dDef "_law_exchanged" 59) rfl
  have g__law_exchanged := glo 39 "_law_exchanged" rfl
  obtain ⟨fd__law_far, F__law_far⟩ := d.def_ 40 (d := dDef "_law_far" 60) rfl
  have g__law_far := glo 40 "_law_far" rfl
  obtain ⟨fd__law_path, F__law_path⟩ := d.def_ 41 (d := dDef "_law_path" 61) rfl
  have g__law_path := glo 41 "_law_path" rfl
  obtain ⟨fd__law_word, F__law_word⟩ := d.def_ 42 (d := dDef "_law_word" 62) rfl
  have g__law_word := glo 42 "_law_word" rfl
  obtain ⟨fd__law_any_tour, F__law_any_tour⟩ := d.def_ 43 (d := dDef "_law_any_tour" 63) rfl
  have g__law_any_tour := glo 43 "_law_any_tour" rfl
  obtain ⟨fd__law_times, F__law_times⟩ := d.def_ 44 (d := dDef "_law_times" 64) rfl
  have g__law_times := glo 44 "_law_times" rfl
  obtain ⟨fd__law_order, F__law_order⟩ := d.def_ 45 (d := dDef "_law_order" 65) rfl
  have g__law_order := glo 45 "_law_order" rfl
  obtain ⟨fd__law_refused_right, F__law_refused_right⟩ := d.def_ 46 (d := dDef "_law_refused_right" 66) rfl
  have g__law_refused_right := glo 46 "_law_refused_right" rfl
  obtain ⟨fd_law, F_law⟩ := d.def_ 47 (d := dDef "law" 67) rfl
  have g_law := glo 47 "law" rfl
  have f_len := free 48 "len" rfl
  have f_int := free 49 "int" rfl
  have f_list := free 50 "list" rfl
  have f_enumerate := free 51 "enumerate" rfl
  have f_range := free 52 "range" rfl
  have f_isinstance := free 53 "isinstance" rfl
  have f_tuple := free 54 "tuple" rfl
  have f_all := free 55 "all" rfl
  have f_min := free 56 "min" rfl
  have f_bool := free 57 "bool" rfl
  have f_set := free 58 "set" rfl
  have f_sorted := free 59 "sorted" rfl
  have f_str := free 60 "str" rfl
  have f_any := free 61 "any" rfl
  have f_zip := free 62 "zip" rfl
  have f_max := free 63 "max" rfl
  have f_sum := free 64 "sum" rfl
  have f_repr := free 65 "repr" rfl
  have i_FEWEST_BAYS := He.int_ok X G (d.fact 66 (f := .int "FEWEST_BAYS" 2) rfl)
  have i_MOST_BAYS := He.int_ok X G (d.fact 67 (f := .int "MOST_BAYS" 40) rfl)
  have i_GREATEST_PIECE := He.int_ok X G (d.fact 68 (f := .int "GREATEST_PIECE" 999) rfl)
  have i_MOST_TIMES := He.int_ok X G (d.fact 69 (f := .int "MOST_TIMES" 1000000000000000000000000000000) rfl)
  have T0 : PenTxt mg := ⟨f_len, f_int, f_list, f_enumerate⟩
  have T : WebTxt mg := ⟨f_len, f_range, f_isinstance, f_int, f_bool, f_tuple, f_all, f_min⟩
  have T2 : WebTxt2 mg := ⟨i_FEWEST_BAYS, i_MOST_BAYS⟩
  have TW : WTxt mg := ⟨f_len, f_range, f_list, f_zip, f_sorted, f_tuple, f_min, f_max, f_sum⟩
  have TN : NearTxt mg := ⟨f_sorted, f_int, f_min, f_tuple, f_range⟩
  have TS : StTxt mg := ⟨T, f_set, f_list, i_GREATEST_PIECE⟩
  have TM : MvTxt mg := ⟨f_list, f_tuple, f_range⟩
  have TSl : SlTxt mg := ⟨f_list, f_tuple⟩
  have TTu : TurTxt mg := ⟨f_list, f_range, f_tuple⟩
  have TTo : TouTxt mg := ⟨f_len, f_range⟩
  have TDm : DmTxt mg := ⟨T, f_list, f_zip, i_MOST_TIMES⟩
  have TRf : RfTxt mg := ⟨f_range, f_tuple, f_list⟩
  have TL : LawTxt mg := ⟨f_range, f_repr, f_list, f_tuple, f_min, f_int⟩
  have E : Err6 K mg (cE K) := err_of X G c.more
  obtain ⟨_, _, hl0⟩ := exs_cls c.more
  have hlcm : mg "lcm" = some (.builtin "math.lcm") := PySem.W.mg_of X G hl0
  have EM : ErrN K mg "NoMoves" (cOf K 5) := errN_of X G c.more 5 (by decide) rfl
  have EB : ErrN K mg "BadMove" (cOf K 6) := errN_of X G c.more 6 (by decide) rfl
  have e := hfa.symm.trans g_law
  cases e
  have bL := FunD.bindsA (ps := ["script"]) F_law fun _ _ _ _ _ _ us hl => match us, hl with | [_], _ => rfl
  let TT : List (Addr × Str) := [((He.cT K ("_law_refused_right", none)).2, qOf "_law_refused_right")]
  have m0 : ((He.cT K ("_law_refused_right", none)).2, qOf "_law_refused_right") ∈ TT := List.mem_cons_self
  have u0 : ∀ p ∈ TT, p.1 = (He.cT K ("_law_refused_right", none)).2 → p.2 = qOf "_law_refused_right" := fun p hp e => by
    rw [List.mem_singleton.mp hp]
  refine ⟨fd_law, tfs.map (He.cT K), spLaw K TT, fun p hp => ?_, fun p hp => ?_, fun p hp => ?_, fun s v => bL s [v] rfl, fun H a ns hl _ hT hS => ?_, fun base KB GB TBs => ?_⟩
  · obtain ⟨q, hq, rfl⟩ := List.mem_map.mp hp
    exact c.empty q hq
  · obtain ⟨q, hq, rfl⟩ := List.mem_map.mp hp
    exact c.out q hq
  · obtain ⟨q, hq, rfl⟩ := List.mem_map.mp hp
    exact PySem.W.codeHd_of_K X (c.hd q hq)
  · refine ⟨a, ns, rfl, hS, hl, fun z hz => ?_, fun _ => rfl⟩
    rw [List.mem_singleton.mp hz]
    exact LamX.TabS.nil (hT _ List.mem_cons_self)
  · have Gtake : FnOk PySem.Challenge.rw_sparebay_k42_whole_tours.prog w K mg base CX0 2 _ fd__law_take ["pen", "many"] spTake := ok_take F__law_take T0 F__law_spread g__law_spread
    have Gopen : FnOk PySem.Challenge.rw_sparebay_k42_whole_tours.prog w K mg base CX0 1 _ fd__law_open ["script"] (spOpen K) := ok_open F__law_open T0
    have Gone : FnOk PySem.Challenge.rw_sparebay_k42_whole_tours.prog w K mg base CX0 3 _ fd__law_one_of ["pen", "some"] (spOneOf K) := ok_oneOf F__law_one_of T0 F__law_take Gtake g__law_take
    have Gnames := ok_names (P := PySem.Challenge.rw_sparebay_k42_whole_tours.prog) (w := w) (base := base) F__law_any_names TW F__law_take g__law_take Gtake
    have Gways := ok_ways (P := PySem.Challenge.rw_sparebay_k42_whole_tours.prog) (w := w) (mg := mg) (base := base) F__law_ways TW
    have Gren := ok_renamed (P := PySem.Challenge.rw_sparebay_k42_whole_tours.prog) (w := w) (mg := mg) (base := base) F__law_renamed TW
    have Gpiece := ok_piece (P := PySem.Challenge.rw_sparebay_k42_whole_tours.prog) (w := w) (base := base) F__law_piece TW F__law_take g__law_take Gtake F__law_one_of g__law_one_of Gone F__law_ways g__law_ways Gways
    have Gany := ok_anyWeb (P := PySem.Challenge.rw_sparebay_k42_whole_tours.prog) (w := w) (base := base) F__law_any_web TW F__law_take g__law_take Gtake F__law_piece g__law_piece Gpiece F__law_any_names g__law_any_names Gnames F__law_renamed g__law_renamed Gren
    have Gweb := ok_webT (P := PySem.Challenge.rw_sparebay_k42_whole_tours.prog) (w := w) (base := base) F_is_web T T2 F_is_whole g_is_whole F_is_tie g_is_tie F_rows_of g_rows_of F_steps_from g_steps_from
    have Gneed := ok_needN (P := PySem.Challenge.rw_sparebay_k42_whole_tours.prog) (w := w) (base := base) F_need_web (E.n 0 (by decide)) F_is_web g_is_web Gweb
    have GisB := ok_isBayQ (P := PySem.Challenge.rw_sparebay_k42_whole_tours.prog) (w := w) (base := base) F_is_bay T F_is_whole g_is_whole
    have Gbay := ok_bayN (P := PySem.Challenge.rw_sparebay_k42_whole_tours.prog) (w := w) (base := base) F_need_bay (E.n 1 (by decide)) F_is_bay g_is_bay GisB
    have Grows := ok_rows (P := PySem.Challenge.rw_sparebay_k42_whole_tours.prog) (w := w) (base := base) F_rows_of T
    have Gtied := ok_tied (P := PySem.Challenge.rw_sparebay_k42_whole_tours.prog) (w := w) (mg := mg) (base := base) F_tied_along
    have Gslid := ok_slid (P := PySem.Challenge.rw_sparebay_k42_whole_tours.prog) (w := w) (mg := mg) (base := base) F_slid TSl
    have Gpc0 := ok_piece0 (P := PySem.Challenge.rw_sparebay_k42_whole_tours.prog) (w := w) (base := base) F_is_piece_or_0 TS F_is_whole g_is_whole
    have Gopenly := ok_openly (P := PySem.Challenge.rw_sparebay_k42_whole_tours.prog) (w := w) (base := base) F_fits_openly TS F_is_piece_or_0 g_is_piece_or_0 Gpc0
    have Gfits := ok_fits (P := PySem.Challenge.rw_sparebay_k42_whole_tours.prog) (w := w) (base := base) F_fits_loosely F_fits_openly g_fits_openly Gopenly
    have GnL := ok_needL (P := PySem.Challenge.rw_sparebay_k42_whole_tours.prog) (w := w) (base := base) F_need_loose (E.n 2 (by decide)) F_fits_loosely g_fits_loosely Gfits
    have Gare := ok_areBays (P := PySem.Challenge.rw_sparebay_k42_whole_tours.prog) (w := w) (base := base) F_are_bays TS F_is_bay g_is_bay GisB
    have GnM := ok_needM (P := PySem.Challenge.rw_sparebay_k42_whole_tours.prog) (w := w) (base := base) F_need_moves EM F_are_bays g_are_bays Gare
    have GnT := ok_needTied (P := PySem.Challenge.rw_sparebay_k42_whole_tours.prog) (w := w) (base := base) F_need_tied EB F_tied_along g_tied_along Gtied
    have kit : KitS PySem.Challenge.rw_sparebay_k42_whole_tours.prog w K mg base (cE K 0) (cE K 2) := ⟨⟨_, _, F_need_web, g_need_web, Gneed⟩, ⟨_, _, F_need_loose, g_need_loose, GnL⟩, ⟨_, _, F_fits_loosely, g_fits_loosely, Gfits⟩, ⟨_, _, F_rows_of, g_rows_of, Grows⟩⟩
    have Gdone := ok_done F_done kit f_tuple F_need_moves g_need_moves GnM F_need_tied g_need_tied GnT F_slid g_slid Gslid
    have Gnear := ok_near (P := PySem.Challenge.rw_sparebay_k42_whole_tours.prog) (w := w) (mg := mg) (base := base) F__law_near TN
    have Gfar := ok_far F__law_far F__law_near g__law_near Gnear
    have Glpath := ok_lpath F__law_path TN F__law_near g__law_near Gnear F__law_far g__law_far Gfar
    have Gstand := ok_anyStand (P := PySem.Challenge.rw_sparebay_k42_whole_tours.prog) (w := w) (base := base) F__law_any_standing TW F__law_take g__law_take Gtake
    have Gmoved := ok_moved (P := PySem.Challenge.rw_sparebay_k42_whole_tours.prog) (w := w) (mg := mg) (base := base) F__law_moved TM
    have GnTo := ok_needTour (P := PySem.Challenge.rw_sparebay_k42_whole_tours.prog) (w := w) (base := base) F_need_tour (E.n 3 (by decide)) F_are_bays g_are_bays Gare F_tied_along g_tied_along Gtied F_rows_of g_rows_of Grows
    have Gturn := ok_turnOf (P := PySem.Challenge.rw_sparebay_k42_whole_tours.prog) (w := w) (base := base) F_turn_of TTu F_slid g_slid Gslid
    have Gcyc := ok_cycles (P := PySem.Challenge.rw_sparebay_k42_whole_tours.prog) (w := w) (base := base) F_cycles_of TTo
    have kitT : KitT PySem.Challenge.rw_sparebay_k42_whole_tours.prog w K mg base (cE K 0) (cE K 1) (cE K 3) := ⟨⟨_, _, F_need_web, g_need_web, Gneed⟩, ⟨_, _, F_need_bay, g_need_bay, Gbay⟩, ⟨_, _, F_need_tour, g_need_tour, GnTo⟩, ⟨_, _, F_turn_of, g_turn_of, Gturn⟩⟩
    have Gturned := ok_turned F_turned kitT
    have Gorder := ok_orderOf F_order_of kitT f_len hlcm F_cycles_of g_cycles_of Gcyc
    have kitM : KitM PySem.Challenge.rw_sparebay_k42_whole_tours.prog w K mg base (cE K 0) (cE K 2) (cE K 3) := ⟨⟨_, _, F_need_web, g_need_web, Gneed⟩, ⟨_, _, F_need_loose, g_need_loose, GnL⟩, ⟨_, _, F_need_tour, g_need_tour, GnTo⟩, ⟨_, _, F_turn_of, g_turn_of, Gturn⟩, ⟨_, _, F_cycles_of, g_cycles_of, Gcyc⟩, ⟨_, _, F_is_whole, g_is_whole⟩⟩
    have Gmany := ok_doneMany F_done_many TDm (E.n 4 (by decide)) kitM
    have GanyT := ok_anyTour F__law_any_tour TM F__law_take g__law_take Gtake F__law_one_of g__law_one_of Gone F__law_near g__law_near Gnear F__law_path g__law_path Glpath
    have Gtimes := ok_times F__law_times TM F__law_moved g__law_moved Gmoved
    have Gord := ok_order F__law_order TM F__law_times g__law_times Gtimes
    obtain ⟨oc1, od1, dV1, kV1, doc1, pm1, an1, cd1, ct1, osl1, rfl, lk1, hc1, _, _⟩ := F__law_refused_right.ex
    obtain ⟨cl1, rfl⟩ := He.codeIn_ref hc1
    have ec1 : (He.cT K ("_law_refused_right", none)).1 = cl1 := He.codeOf_eq lk1 rfl
    have TB1 := TBs _ (List.mem_cons_self : He.cT K ("_law_refused_right", none) ∈ tfs.map (He.cT K))
    rw [ec1] at TB1
    have Gref := ok_refT (TT := TT) lk1 hc1 TRf E F__law_word g__law_word F__law_near g__law_near Gnear F__law_path g__law_path Glpath F_turned g_turned Gturned F_order_of g_order_of Gorder F_done_many g_done_many Gmany TB1 m0 u0
    obtain ⟨oc3, od3, dV3, kV3, doc3, pm3, an3, cd3, ct3, osl3, rfl, lk3, hc3, _, _⟩ := F_law.ex
    obtain ⟨cl3, rfl⟩ := He.codeIn_ref hc3
    exact ok_law (C := cE K) (TT := TT) lk3 hc3 TL F__law_open g__law_open Gopen F__law_take g__law_take Gtake F__law_any_web g__law_any_web Gany F__law_any_standing g__law_any_standing Gstand F__law_any_tour g__law_any_tour GanyT F__law_times g__law_times Gtimes F__law_order g__law_order Gord F_turned g_turned Gturned F_order_of g_order_of Gorder F_done_many g_done_many Gmany F_done g_done Gdone F__law_refused_right g__law_refused_right Gref
end Sb

open PySem PySem.W PySem.Calls PyProof.Rows in
set_option maxRecDepth 100000 in
set_option maxHeartbeats 0 in
theorem PySem.Challenge.cw_sparebay_k42_whole_tours_holds : PySem.Challenge.rw_sparebay_k42_whole_tours.Holds := by
  w_on; o_law
  refine HandSHeadRun.head_imp (r := OpenLaw.row PySem.Challenge.rw_sparebay_k42_whole_tours) (q := view (OpenLaw.row PySem.Challenge.rw_sparebay_k42_whole_tours).prog [0, 67]) (H := Sb.hk) (ob := Sb.ob) (M := 6000) (loose := Sb.loose) (d := HandSHeadRun.topDef (OpenLaw.row PySem.Challenge.rw_sparebay_k42_whole_tours).prog 67) (kwd := []) Sb.ob_eq
    Sb.run (by kernel_rfl) (by kernel_rfl) (by kernel_rfl) (by rfl) (by first | assumption | decide +kernel) (by decide +kernel) ⟨rfl, rfl, rfl, rfl, rfl, by decide +kernel⟩ ?hw ?hc
  case hw => w_witness2
  case hc =>
    refine Sb.walkG (l := PySem.Challenge.rw_sparebay_k42_whole_tours) (n := 63) (k := 10) (x := "script") (CX := fun _ => L2.CX0) rfl (by decide) (by kernel_rfl) ⟨rfl, by decide, by decide⟩ ?F (fun _ _ _ _ _ z => z)
    intro w mg fa h Y G hmg0
    obtain ⟨K, KX, c⟩ := Y
    have hmg : mg ("law" : PySem.Str) = some (.ref fa) := by
      have e : (HandSHeadRun.topDef (OpenLaw.row PySem.Challenge.rw_sparebay_k42_whole_tours).prog 67).name = ("law" : PySem.Str) := by kernel_rfl
      rw [← e]
      exact hmg0
    exact ⟨K, KX, Sb.law_at KX G hmg c⟩
