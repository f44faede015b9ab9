import PyProof.Rows.All
import Wide.All
import OpenK.AllK
import Wide.FinOn
import HandS.ForMost
import HandS.Walk
import HandS.Defaults
import HandS.Codes
import HandS.Conv
import KE.SortData
import HandS.Words
import HandS.IsInst
import HandS.ForExc
import KE.KDictZip
import PyProof.ListNew
import HandS.Iter
import HandS.SortRule
import HandS.SetFor
import HandS.TupSets
import PyProof.ReprRoads
import HandS.Lambda
import HandS.EndTab
import HandS.HeadWalk
import HandS.HeadHook2
import HandS.ExcValue
import HandS.ExcIs
import KE.GoesEnum
import HandS.DictComp
import HandS.SortInts
import HandS.Style
import KE.KMinKey
import PyProof.NsMap
import HandS.Strs
import PyProof.SetRoads
import HandS.Zip
import KE.KRevSl
import HandS.TupAny
import HandS.Exc
import HandS.TryMany
import KE.KDictPairs
import KE.KDictCopyH
import HandS.WordsDict
import KE.KStateDown
import HandS.Head0
import HandS.Head1
import HandS.Head2
import HandS.HeadEnd
import HandS.HeadHook4
import PySem.Challenge.RW_sparebay_k32_blocks_and_gates
set_option Elab.async false
set_option linter.all false
set_option maxRecDepth 100000
set_option maxHeartbeats 0

/-! ## P32 -/
/-! The pen: a row of numbers made of the script, from which numbers below a bound are taken. -/
namespace Sb
open PySem PySem.Spec PyProof.Rows L2
def top (i : Nat) : Stmt := PySem.Challenge.pw_sparebay_k32_blocks_and_gates.main.body.getD i (.Pass ⟨0, 0, 0, 0⟩)
abbrev sOpen : Stmt := top 28
abbrev sSpread : Stmt := top 29
abbrev sTake : Stmt := top 30
abbrev sOneOf : Stmt := top 31
abbrev FnP (K : PySem.W.Frag) (x : Str) (st : Stmt) (f : Addr) (fd : FuncData) : Prop := FunD K x x (defArgs st) (defBody st) (defScope st) [] [] f fd
/-- all that stood but the object at p stands as it was -/
def But (p : Addr) (H H' : Hp) : Prop := ∀ b o, b ≠ p → H b = some o → H' b = some o
theorem But.refl (p : Addr) (H : Hp) : But p H H := fun _ _ _ h => h
theorem But.trans {p : Addr} {H H1 H2 : Hp} (a : But p H H1) (b : But p H1 H2) : But p H H2 := fun c o n h => b c o n (a c o n h)
theorem sameBut {p : Addr} {H H' : Hp} (a : Same H H') : But p H H' := fun c o _ h => a c o h
theorem same_upd {H : Hp} {p : Addr} {o : HO} (h : H p = none) : Same H (upd H p o) := fun b u e => by
  rw [upd_ne (ne_of_none e h)]
  exact e
theorem but_upd {H : Hp} {p : Addr} {o : HO} : But p H (upd H p o) := fun b u n e => by
  rw [upd_ne n]
  exact e
/-- a pen at p, from which k cells have been taken -/
def Pen (H : Hp) (p c : Addr) (k : Nat) : Prop := ∃ (cells : List Int) (x : Int), H p = some (.lst [.ref c, .int (k : Int), .int x]) ∧ H c = some (.lst (cells.map V.int)) ∧ 0 ≤ x ∧ cells.length ≤ 12
theorem pen_ne {c : Addr} {k x : V} {cells : List Int} : HO.lst [.ref c, k, x] ≠ .lst (cells.map V.int) := fun q => by
  have q := HO.lst.inj q
  cases cells with
  | nil => cases q
  | cons a r => 
    rw [List.map_cons] at q
    cases (List.cons.inj q).1
theorem Pen.same {H H' : Hp} {p c : Addr} {k : Nat} (h : Pen H p c k) (s : Same H H') : Pen H' p c k := by
  obtain ⟨cells, x, h1, h2, h3, h4⟩ := h
  exact ⟨cells, x, s _ _ h1, s _ _ h2, h3, h4⟩
theorem Pen.at {H H' : Hp} {p c : Addr} {k : Nat} (h : Pen H p c k) (h1 : ∀ o, H p = some o → H' p = some o) (h2 : ∀ o, H c = some o → H' c = some o) : Pen H' p c k := by
  obtain ⟨cells, x, e1, e2, e3, e4⟩ := h
  exact ⟨cells, x, h1 _ e1, h2 _ e2, e3, e4⟩
theorem Pen.there {H : Hp} {p c : Addr} {k : Nat} (h : Pen H p c k) : (∃ o, H p = some o) ∧ ∃ o, H c = some o := by
  obtain ⟨cells, x, e1, e2, _⟩ := h
  exact ⟨⟨_, e1⟩, ⟨_, e2⟩⟩
theorem Pen.new {H : Hp} {p c b : Addr} {k : Nat} (h : Pen H p c k) (n : H b = none) : p ≠ b ∧ c ≠ b := by
  obtain ⟨⟨o, e1⟩, ⟨u, e2⟩⟩ := h.there
  exact ⟨ne_of_none e1 n, ne_of_none e2 n⟩
/-! ### the promises -/
def spOpen (K : PySem.W.Frag) : Sp := fun vs H Q _ => ∃ (a : Addr) (ns : List Int), vs = [.ref a] ∧ SqL K H a (ns.map V.int) ∧ ns.length ≤ 63 ∧ ∀ (p c : Addr) H', Same H H' → H p = none → H c = none → Pen H' p c 0 → Q (.ref p) H'
def spSpread : Sp := fun vs H Q _ => ∃ (cell : Int) (k : Nat), vs = [.int cell, .int (k : Int)] ∧ k < 1000000 ∧ ∀ r H', 0 ≤ r → Same H H' → Q (.int r) H'
def spTake : Sp := fun vs H Q _ => ∃ (p c : Addr) (k : Nat) (many : Int), vs = [.ref p, .int many] ∧ Pen H p c k ∧ 0 < many ∧ many < 1073741824 ∧ k < 1000000 ∧
  ∀ r H' k', 0 ≤ r → r < many → But p H H' → k' ≤ k + 1 → Pen H' p c k' → Q (.int r) H'
def spOneOf (K : PySem.W.Frag) : Sp := fun vs H Q _ => ∃ (p c a : Addr) (k : Nat) (xs : List V), vs = [.ref p, .ref a] ∧ Pen H p c k ∧ SqL K H a xs ∧ a ≠ p ∧ 0 < xs.length ∧ xs.length < 1000000 ∧ k < 1000000 ∧
  ∀ (i : Nat) v H' k', xs[i]? = some v → But p H H' → k' ≤ k + 1 → Pen H' p c k' → Q v H'
structure PenTxt (mg : Str → Option Value) : Prop where
  len : mg "len" = none
  int : mg "int" = none
  list : mg "list" = none
  enumerate : mg "enumerate" = none

section
variable {X : Cx}
theorem OpR.weak {f : Value → Value → Sem Value} {r r' : R2} (h : OpR X f r) (w : ∀ x y H Q, r' x y H Q → r x y H Q) : OpR X f r' := fun pins s σ H x y v u Q I rx ry q => h pins s σ H x y v u Q I rx ry (w x y H Q q)
/-- operators that hand on a letter -/
def rIL (C : Int → Int → Prop) (g : Int → Int → Int) : R2 := fun x y H Q => ∃ i j, x = .int i ∧ y = .int j ∧ C i j ∧ ∀ r, r = g i j → Q (.int r) H
def rIL0 (g : Int → Int → Int) : R2 := fun x y H Q => ∃ i j, x = .int i ∧ y = .int j ∧ ∀ r, r = g i j → Q (.int r) H
theorem op_addL : OpR X (binaryOp .Add) (rIL0 fun i j => i + j) := OpR.weak op_add fun _ _ _ _ ⟨i, j, a, b, q⟩ => ⟨i, j, a, b, q _ rfl⟩
theorem op_subL : OpR X (binaryOp .Sub) (rIL0 fun i j => i - j) := OpR.weak op_sub fun _ _ _ _ ⟨i, j, a, b, q⟩ => ⟨i, j, a, b, q _ rfl⟩
theorem op_mulL : OpR X (binaryOp .Mult) (rIL CMul fun i j => i * j) := OpR.weak op_mul fun _ _ _ _ ⟨i, j, a, b, c, q⟩ => ⟨i, j, a, b, c, q _ rfl⟩
theorem op_powL : OpR X (binaryOp .Pow) (rIL CPow fun i j => i ^ j.toNat) := OpR.weak op_pow fun _ _ _ _ ⟨i, j, a, b, c, q⟩ => ⟨i, j, a, b, c, q _ rfl⟩
theorem op_modL : OpR X (binaryOp .Mod) (rIL (fun _ j => 0 < j) fun i j => i % j) := OpR.weak op_mod fun _ _ _ _ ⟨i, j, a, b, c, q⟩ => ⟨i, j, a, b, c, q _ rfl⟩
/-- a rest: its bounds alone -/
def rMB : R2 := fun x y H Q => ∃ i j, x = .int i ∧ y = .int j ∧ 0 < j ∧ ∀ r, 0 ≤ r → r < j → Q (.int r) H
theorem op_modB : OpR X (binaryOp .Mod) rMB := OpR.weak op_mod fun _ _ _ _ ⟨i, j, a, b, c, q⟩ => ⟨i, j, a, b, c, q _ (Int.emod_nonneg _ (by omega)) (Int.emod_lt_of_pos _ c)⟩
/-- a new object -/
def New (H : Hp) (o : HO) (Q : VK) : Prop := ∀ p H', H p = none → Same H H' → H' p = some o → Q (.ref p) H'
theorem New.go {H : Hp} {o : HO} {Q : VK} (h : New H o Q) : ∀ p, H p = none → Q (.ref p) (upd H p o) := fun p n => h p _ n (same_upd n) upd_same
theorem PE.weak {e : Expr} {t t' : TE} (h : PE X e t) (w : ∀ σ H Q, t' σ H Q → t σ H Q) : PE X e t' := ⟨fun pins s σ H Q I q => h.run pins s σ H Q I (w σ H Q q)⟩
def TAMono (t : TA) : Prop := ∀ σ H (Q Q' : List V → Hp → Prop), (∀ xs H', Q xs H' → Q' xs H') → t σ H Q → t σ H Q'
def tLstN (t : TA) : TE := fun σ H Q => t σ H fun xs H1 => xs.length ≤ sizeLine ∧ New H1 (.lst xs) Q
def tTupN (t : TA) : TE := fun σ H Q => t σ H fun xs H1 => xs.length ≤ sizeLine ∧ New H1 (.tup xs) Q
theorem pe_lstL {es : List Expr} {t : TA} {pos : Pos} (h : PA X es t) : PE X (.List es pos) (tLstN t) := by
  refine ⟨fun pins s σ H Q I hq => ?_⟩
  refine wpAny_List_spliced (thn (h.run pos pins s σ H _ I hq) fun us s1 ⟨xs, H1, I1, r, z, q⟩ => ⟨by rw [← r.length]; exact z, ?_⟩)
  have hf : H1 s1.heap.objs.size = none := I1.hok.fresh (Nat.le_refl _)
  refine ⟨.ref s1.heap.objs.size, upd H1 s1.heap.objs.size (.lst xs), I1.laid (t' := s1.toks) (fun b u e => Heap.get?_push_of_some _ e) (Nat.le_refl _) ?_, rfl, q.go _ hf⟩
  exact ⟨z, us, 0, r, Heap.get?_push_size _ rfl⟩
theorem pe_tupL {es : List Expr} {t : TA} {pos : Pos} {x1} (h : PA X es t) : PE X (.Tuple es x1 pos) (tTupN t) := by
  refine ⟨fun pins s σ H Q I hq => ?_⟩
  refine wpAny_Tuple_spliced (thn (h.run pos pins s σ H _ I hq) fun us s1 ⟨xs, H1, I1, r, z, q⟩ => ⟨by rw [← r.length]; exact z, ?_⟩)
  have hf : H1 s1.heap.objs.size = none := I1.hok.fresh (Nat.le_refl _)
  refine ⟨.ref s1.heap.objs.size, upd H1 s1.heap.objs.size (.tup xs), I1.laid (t' := s1.toks) (fun b u e => Heap.get?_push_of_some _ e) (Nat.le_refl _) ?_, rfl, q.go _ hf⟩
  exact ⟨z, us, r, ⟨_, Heap.get?_push_size _ rfl, rfl, _, rfl⟩⟩
def rCatN : R2 := fun x y H Q => ∃ l b xs zs, x = .ref l ∧ y = .ref b ∧ H l = some (.lst xs) ∧ H b = some (.lst zs) ∧ xs.length + zs.length ≤ sizeLine ∧ New H (.lst (xs ++ zs)) Q
theorem op_catL : OpR X (binaryOp .Add) rCatN := OpR.weak op_cat fun _ _ _ _ ⟨l, b, xs, zs, a1, a2, a3, a4, a5, q⟩ => ⟨l, b, xs, zs, a1, a2, a3, a4, a5, q.go⟩
def rSlN (K : PySem.W.Frag) : V → Option Int → Option Int → Hp → VK → Prop := fun x lo hi H Q => ∃ a xs, x = .ref a ∧ SqL K H a xs ∧ New H (.lst (cutV xs lo hi)) Q
theorem sl_listL : SlR X (rSlN X.K) := by
  intro pins s σ H x v vl vu lo hi sl Q I rx hs pl pu h
  obtain ⟨a, xs, e, hS, q⟩ := h
  exact sl_list pins s σ H x v vl vu lo hi sl Q I rx hs pl pu ⟨a, xs, e, hS, q.go⟩
theorem call_list_ofL : CallR X (.type "list") (fun xs H Q => ∃ p ys, xs = [.ref p] ∧ (SqL X.K H p ys ∨ SqT X.K H p ys) ∧ New H (.lst ys) Q) := fun pins s σ H xs us Q I r ⟨p, ys, e, h, q⟩ => call_list_of pins s σ H xs us Q I r ⟨p, ys, e, h, q.go⟩
def rSetN : V → V → V → Hp → (Hp → Prop) → Prop := fun o i v H Q => ∃ p xs k j, o = .ref p ∧ i = .int k ∧ H p = some (.lst xs) ∧ ixN xs.length k = some j ∧ ∀ H', But p H H' → H' p = some (.lst (xs.set j v)) → Q H'
theorem set_listL : PSet X rSetN := fun pins s σ H o i v ov iv u Q I ro ri rv ⟨p, xs, k, j, a1, a2, a3, a4, q⟩ => set_list pins s σ H o i v ov iv u Q I ro ri rv ⟨p, xs, k, j, a1, a2, a3, a4, q _ but_upd upd_same⟩
theorem op_fdivL : OpR X (binaryOp .FloorDiv) (rIL CDiv fun i j => i / j) := OpR.weak op_fdiv fun _ _ _ _ ⟨i, j, a, b, c, q⟩ => ⟨i, j, a, b, c, q _ rfl⟩
end
section
variable {P : Program} {w : World} {K : PySem.W.Frag} {mg : Str → Option Value} {base : Heap} {x qual : Str} {params : Arguments} {body : List Stmt} {scope : Scope} {dvs : List V} {kws : List (Str × V)} {f : Addr} {fd : FuncData}
/-- a def that lets nothing out -/
theorem ok0 {N ps : List Str} {k : Nat} {sp : Sp} (F : FunD K x qual params body scope dvs kws f fd) (S : FnScope N ps scope) (len : ∀ vs H Q E, sp vs H Q E → vs.length = ps.length)
    (hbody : ∀ (cdv : Value) (A : Around) (outer : List Env) (s : Shared) (H : Hp) (vs : List V) (Q : VK) (E : XK), Room k (A.deeper (envOfC qual scope s.heap.objs.size f cdv)) → sp vs H Q E →
      ∃ t, PSs (cxOf CX0 P w K mg base N qual scope f cdv A outer s H E).nox body t ∧ t { nx := fun _ H' => Q .non H', rt := Q } (start N vs) H) : FnOk P w K mg base CX0 (k + 1) f fd ps sp := by
  refine F.ok S len fun cdv A outer s H vs Q E hr hsp => ?_
  obtain ⟨t, h, q⟩ := hbody cdv A outer s H vs Q E hr hsp
  exact ⟨t, h.nox, q⟩
end
section
variable {P : Program} {w : World} {K : PySem.W.Frag} {mg : Str → Option Value} {base : Heap}
theorem scSpread : FnScope ["cell", "k", "primes", "one", "two", "three"] ["cell", "k"] (defScope sSpread) := ⟨rfl, rfl, rfl, by decide +kernel, rfl, by decide +kernel, by decide +kernel⟩
/-- a place of a list of 13 -/
theorem at13 {xs : List V} (h : xs.length = 13) (k : Int) : ∃ v, atI xs (k % 13) = some v ∧ v ∈ xs := by
  have h1 : 0 ≤ k % 13 := Int.emod_nonneg _ (by decide)
  have h2 : k % 13 < 13 := Int.emod_lt_of_pos _ (by decide)
  have h3 : (k % 13).toNat < xs.length := by omega
  refine ⟨xs[(k % 13).toNat], ?_, List.getElem_mem h3⟩
  exact at_of (j := (k % 13).toNat) (by omega) (by simp [h3])
def prA : List Int := [2147483629, 2147483587, 2147483579, 2147483563, 2147483549, 2147483543, 2147483497, 2147483489]
def prB : List Int := [2147483477, 2147483423, 2147483399, 2147483353, 2147483323]
theorem pr_mem {v : V} (h : v ∈ (prA ++ prB).map V.int) : ∃ p : Int, v = .int p ∧ 0 < p ∧ p < 2147483648 := by
  obtain ⟨p, hp, rfl⟩ := List.mem_map.mp h
  refine ⟨p, rfl, ?_⟩
  have q : ∀ p ∈ prA ++ prB, 0 < p ∧ p < 2147483648 := by decide
  exact q p hp
theorem ok_spread {f : Addr} {fd : FuncData} (F : FnP K "_law_spread" sSpread f fd) (T : PenTxt mg) : FnOk P w K mg base CX0 1 f fd ["cell", "k"] spSpread := by
  refine ok0 F scSpread (fun vs H Q E h => ?_) (fun cdv A outer s H vs Q E hr h => ?_)
  · obtain ⟨cell, k, rfl, _⟩ := h
    rfl
  · obtain ⟨cell, k, rfl, hk, q⟩ := h
    refine ⟨_, (pss_cons (ps_if (pt_cmpR op_ge (pv 0) (pe_op op_pow pe_int pe_int) (nomark _))
      (pss_one (ps_ret (pv 0)))
      pss_nil)
    (pss_cons (ps_set (i := 2) scSpread.nd rfl (Or.inl rfl) (pe_lstL (pa_cons pe_int (pa_cons pe_int (pa_cons pe_int (pa_cons pe_int (pa_cons pe_int (pa_cons pe_int (pa_cons pe_int (pa_cons pe_int pa_nil))))))))))
    (pss_cons (ps_set (i := 2) scSpread.nd rfl (Or.inl rfl) (pe_op op_catL (pv 2) (pe_lstL (pa_cons pe_int (pa_cons pe_int (pa_cons pe_int (pa_cons pe_int (pa_cons pe_int pa_nil))))))))
    (pss_cons (ps_set (i := 3) scSpread.nd rfl (Or.inl rfl) (pe_op op_mulL (pe_op op_modB (pe_callTy (T := "int") call_int1 (by rfl) T.int (by decide +kernel) (pa_cons (pv 0) pa_nil)) pe_int) (pe_op op_add (pe_op op_mul pe_int (pv 1)) pe_int)))
    (pss_cons (ps_set (i := 3) scSpread.nd rfl (Or.inl rfl) (pe_op op_modB (pe_callTy (T := "int") call_int1 (by rfl) T.int (by decide +kernel) (pa_cons (pe_op op_powL (pe_op op_add (pe_op op_add (pv 3) (pe_op op_mul (pv 1) pe_int)) pe_int) pe_int) pa_nil)) (pe_ix ix_list (pv 2) (pe_op op_mod (pe_callTy (T := "int") call_int1 (by rfl) T.int (by decide +kernel) (pa_cons (pv 1) pa_nil)) pe_int) (fun _ _ => rfl))))
    (pss_cons (ps_set (i := 4) scSpread.nd rfl (Or.inl rfl) (pe_op op_modB (pe_callTy (T := "int") call_int1 (by rfl) T.int (by decide +kernel) (pa_cons (pe_op op_powL (pe_op op_add (pe_op op_add (pe_op op_mulL (pv 3) (pe_op op_add (pv 1) pe_int)) (pe_op op_modB (pe_callTy (T := "int") call_int1 (by rfl) T.int (by decide +kernel) (pa_cons (pv 0) pa_nil)) pe_int)) pe_int) pe_int) pa_nil)) (pe_ix ix_list (pv 2) (pe_op op_mod (pe_callTy (T := "int") call_int1 (by rfl) T.int (by decide +kernel) (pa_cons (pe_op op_add (pv 1) pe_int) pa_nil)) pe_int) (fun _ _ => rfl))))
    (pss_cons (ps_set (i := 5) scSpread.nd rfl (Or.inl rfl) (pe_op op_modB (pe_callTy (T := "int") call_int1 (by rfl) T.int (by decide +kernel) (pa_cons (pe_op op_powL (pe_op op_add (pe_op op_add (pv 4) (pe_op op_modB (pe_callTy (T := "int") call_int1 (by rfl) T.int (by decide +kernel) (pa_cons (pv 3) pa_nil)) pe_int)) (pv 1)) pe_int) pa_nil)) (pe_ix ix_list (pv 2) (pe_op op_mod (pe_callTy (T := "int") call_int1 (by rfl) T.int (by decide +kernel) (pa_cons (pe_op op_add (pv 1) pe_int) pa_nil)) pe_int) (fun _ _ => rfl))))
    (pss_one (ps_ret (pe_op op_add (pe_op op_mulL (pe_op op_add (pe_op op_mulL (pv 3) pe_int) (pv 4)) pe_int) (pv 5))))))))))), ?_⟩
    refine ⟨_, rfl, _, _, rfl, rfl, ⟨by decide, by decide, by decide⟩, _, _, rfl, rfl, _, rfl, ?_⟩
    refine ite2 (fun c => ?_) (fun _ => ?_)
    · have c := of_decide_eq_true c
      exact ⟨_, rfl, q cell H (Int.le_trans (by decide) c) (Same.refl H)⟩
    · refine ⟨by show 8 ≤ sizeLine; decide, fun l1 H1 n1 s1 h1 => ⟨_, rfl, by show 5 ≤ sizeLine; decide, fun l2 H2 n2 s2 h2 => ⟨l1, l2, prA.map V.int, prB.map V.int, rfl, rfl, s2 _ _ h1, h2, by show 13 ≤ sizeLine; decide, fun p H3 n3 s3 hp => ?_⟩⟩⟩
      have S : Same H H3 := (s1.trans s2).trans s3
      rw [← List.map_append] at hp
      have Kp : ∀ z : Int, ∃ v : Int, atI ((prA ++ prB).map V.int) (z % 13) = some (V.int v) ∧ 0 < v ∧ v < 2147483648 := fun z => by
        obtain ⟨v, h1, h2⟩ := at13 (xs := (prA ++ prB).map V.int) rfl z
        obtain ⟨w', rfl, h3⟩ := pr_mem h2
        exact ⟨w', h1, h3⟩
      obtain ⟨p1, hp1, lp1, up1⟩ := Kp k
      obtain ⟨p2, hp2, lp2, up2⟩ := Kp (k + 5)
      obtain ⟨p3, hp3, lp3, up3⟩ := Kp (k + 7)
      have hS : SqL K H3 p ((prA ++ prB).map V.int) := SqL.of hp
      -- one
      refine ⟨_, rfl, .inl ⟨_, rfl, _, _, rfl, rfl, (by show (0 : Int) < 1000000007; decide), fun a a0 a1 => ⟨_, rfl, _, _, rfl, rfl, .inl ⟨by decide, by decide⟩, _, _, rfl, rfl, _, _, rfl, rfl, .inl ⟨by omega, by omega⟩, fun one e1 => ?_⟩⟩⟩
      have f1 : 0 ≤ one := by rw [e1]; exact Int.mul_nonneg a0 (by omega)
      have f2 : one ≤ 1000000007 * 2069069 := by rw [e1]; exact Int.mul_le_mul (by omega) (by omega) (by omega) (by omega)
      refine ⟨_, rfl, _, rfl, _, _, rfl, rfl, .inr ⟨by decide, by decide⟩, _, _, rfl, rfl, _, _, rfl, rfl, _, _, rfl, rfl, ⟨by decide, by decide, by omega⟩, fun r1 g1 => .inl ⟨_, rfl, ?_⟩⟩
      refine ⟨_, rfl, _, rfl, .inl ⟨_, rfl, _, _, rfl, rfl, (by show (0 : Int) < 13; decide), p, _, _, _, rfl, rfl, hS, hp1, _, _, rfl, rfl, lp1, fun o o0 o1 => ?_⟩⟩
      -- two
      refine ⟨_, rfl, _, rfl, _, _, rfl, rfl, _, _, rfl, rfl, .inl ⟨by omega, by omega⟩, fun m em => ⟨_, rfl, .inl ⟨_, rfl, _, _, rfl, rfl, (by show (0 : Int) < 65537; decide), fun b b0 b1 => ?_⟩⟩⟩
      have g2 : 0 ≤ m := by rw [em]; exact Int.mul_nonneg o0 (by omega)
      have g3 : m ≤ 2147483648 * 1000003 := by rw [em]; exact Int.mul_le_mul (by omega) (by omega) (by omega) (by omega)
      refine ⟨_, _, rfl, rfl, _, _, rfl, rfl, _, _, rfl, rfl, ⟨by decide, by decide, by omega⟩, fun r2 _ => .inl ⟨_, rfl, _, rfl, _, rfl, _, _, rfl, rfl, .inl ⟨_, rfl, _, _, rfl, rfl, (by show (0 : Int) < 13; decide), p, _, _, _, rfl, rfl, hS, hp2, _, _, rfl, rfl, lp2, fun t t0 t1 => ?_⟩⟩⟩
      -- three
      refine ⟨_, rfl, _, rfl, .inl ⟨_, rfl, _, _, rfl, rfl, (by show (0 : Int) < 1009; decide), fun b2 b20 b21 => ⟨_, _, rfl, rfl, _, rfl, _, _, rfl, rfl, _, _, rfl, rfl, ⟨by decide, by decide, by omega⟩, fun r3 _ => .inl ⟨_, rfl, _, rfl, _, rfl, _, _, rfl, rfl, .inl ⟨_, rfl, _, _, rfl, rfl, (by show (0 : Int) < 13; decide), p, _, _, _, rfl, rfl, hS, hp3, _, _, rfl, rfl, lp3, fun u u0 u1 => ?_⟩⟩⟩⟩⟩
      refine ⟨_, rfl, _, _, rfl, rfl, .inr ⟨by decide, by decide⟩, fun z1 y1 => ⟨_, rfl, _, _, rfl, rfl, _, _, rfl, rfl, .inr ⟨by decide, by decide⟩, fun z2 y2 => ⟨_, rfl, _, _, rfl, rfl, ?_⟩⟩⟩
      have y1 : z1 = o * 2147483647 := y1
      have y2 : z2 = (z1 + t) * 2147483647 := y2
      exact q _ _ (by omega) S
theorem scTake : FnScope ["pen", "many", "k", "cell", "found"] ["pen", "many"] (defScope sTake) := ⟨rfl, rfl, rfl, by decide +kernel, rfl, by decide +kernel, by decide +kernel⟩
theorem at_pos {xs : List V} {n : Nat} (h : xs.length = n) (hn : 0 < n) (k : Int) : ∃ v, atI xs (k % (n : Int)) = some v ∧ v ∈ xs := by
  have h1 : 0 ≤ k % (n : Int) := Int.emod_nonneg _ (by omega)
  have h2 : k % (n : Int) < (n : Int) := Int.emod_lt_of_pos _ (by omega)
  have h3 : (k % (n : Int)).toNat < xs.length := by omega
  exact ⟨xs[(k % (n : Int)).toNat], at_of (j := (k % (n : Int)).toNat) (by omega) (by simp [h3]), List.getElem_mem h3⟩
theorem ix_pos {xs : List V} {n : Nat} (h : xs.length = n) (hn : 0 < n) (k : Int) : ixN xs.length (k % (n : Int)) = some (k % (n : Int)).toNat := by
  have h1 : 0 ≤ k % (n : Int) := Int.emod_nonneg _ (by omega)
  have h2 : k % (n : Int) < (n : Int) := Int.emod_lt_of_pos _ (by omega)
  unfold ixN
  rw [if_pos h1, if_pos (by omega)]
theorem ok_take {f fS : Addr} {fd fdS : FuncData} (F : FnP K "_law_take" sTake f fd) (T : PenTxt mg) (FS : FnP K "_law_spread" sSpread fS fdS) (gS : mg "_law_spread" = some (.ref fS)) : FnOk P w K mg base CX0 2 f fd ["pen", "many"] spTake := by
  have G_l_spread : FnOk P w K mg base CX0 1 fS fdS ["cell", "k"] spSpread := ok_spread FS T
  have b_l_spread : Binds K fdS ["cell", "k"] [] := FS.bindsN fun _ _ _ _ _ _ us hl => match us, hl with | [_, _], _ => rfl
  refine ok0 F scTake (fun vs H Q E h => ?_) (fun cdv A outer s H vs Q E hr h => ?_)
  · obtain ⟨p, c, k, many, rfl, _⟩ := h
    rfl
  · obtain ⟨p, c, k, many, rfl, ⟨cells, x, hp, hc, x0, cl⟩, m0, m1, hk, q⟩ := h
    have hr_l_spread : Room 1 _ := hr
    refine ⟨_, (C8.pss_cut (ps_if (pt_cmpR op_lt (pe_ix ix_list (pv 0) pe_int (fun _ _ => rfl)) (pv 1) (nomark _))
      (pss_cons (ps_set (i := 2) scTake.nd rfl (Or.inl rfl) (pe_ix ix_list (pv 0) pe_int (fun _ _ => rfl)))
    (pss_cons (ps_set (i := 3) scTake.nd rfl (Or.inl rfl) pe_int)
    (C8.pss_cut (ps_if (pt_cmpR op_lt (pv 2) (pe_callB (id := "len") call_len_seq (by rfl) T.len (by decide +kernel) (pa_cons (pe_ix ix_list (pv 0) pe_int (fun _ _ => rfl)) pa_nil)) (nomark _))
      (pss_one (ps_set (i := 3) scTake.nd rfl (Or.inl rfl) (pe_ix ix_list (pe_ix ix_list (pv 0) pe_int (fun _ _ => rfl)) (pv 2) (fun _ _ => rfl))))
      (pss_one (ps_if (pt_cmpR op_gt (pe_callB (id := "len") call_len_seq (by rfl) T.len (by decide +kernel) (pa_cons (pe_ix ix_list (pv 0) pe_int (fun _ _ => rfl)) pa_nil)) pe_int (nomark _))
      (pss_one (ps_set (i := 3) scTake.nd rfl (Or.inl rfl) (pe_op op_modL (pe_callTy (T := "int") call_int1 (by rfl) T.int (by decide +kernel) (pa_cons (pe_ix ix_list (pe_ix ix_list (pv 0) pe_int (fun _ _ => rfl)) (pe_op op_mod (pe_callTy (T := "int") call_int1 (by rfl) T.int (by decide +kernel) (pa_cons (pe_op op_add (pe_op op_mul (pv 2) pe_int) pe_int) pa_nil)) (pe_callB (id := "len") call_len_seq (by rfl) T.len (by decide +kernel) (pa_cons (pe_ix ix_list (pv 0) pe_int (fun _ _ => rfl)) pa_nil))) (fun _ _ => rfl)) pa_nil)) (pe_op op_add (pe_op op_pow pe_int pe_int) (pv 2)))))
      pss_nil)))
    (pss_cons (ps_asg (pe_op op_add (pv 2) pe_int) (pg_sub (pv 0) pe_int set_listL))
    (pss_one (ps_asg (pe_call G_l_spread hr_l_spread rfl gS FS.kp b_l_spread .nil pass0 (pa_cons (pv 3) (pa_cons (pv 2) pa_nil))) (pg_sub (pv 0) pe_int set_listL)))))))
      pss_nil)
    (pss_cons (ps_set (i := 4) scTake.nd rfl (Or.inl rfl) (pe_op op_modB (pe_callTy (T := "int") call_int1 (by rfl) T.int (by decide +kernel) (pa_cons (pe_ix ix_list (pv 0) pe_int (fun _ _ => rfl)) pa_nil)) (pv 1)))
    (pss_cons (ps_asg (pe_op op_fdivL (pe_ix ix_list (pv 0) pe_int (fun _ _ => rfl)) (pv 1)) (pg_sub (pv 0) pe_int set_listL))
    (pss_one (ps_ret (pv 4)))))), ?_⟩
    have ne : c ≠ p := ne_of hc hp (fun z => pen_ne z.symm)
    refine ⟨fun σ' H' => (∃ a b e, σ' = [some (.ref p), some (.int many), a, b, e]) ∧ But p H H' ∧ ∃ k', k' ≤ k + 1 ∧ Pen H' p c k', ?_, ?_⟩
    · -- if pen[2] < many:
      have hS : SqL K H p [.ref c, .int (k : Int), .int x] := SqL.of hp
      have hC : SqL K H c (cells.map V.int) := SqL.of hc
      have a0 : atI [V.ref c, .int (k : Int), .int x] 0 = some (.ref c) := rfl
      have a1 : atI [V.ref c, .int (k : Int), .int x] 1 = some (.int (k : Int)) := rfl
      have a2 : atI [V.ref c, .int (k : Int), .int x] 2 = some (.int x) := rfl
      refine ⟨_, rfl, p, _, _, _, rfl, rfl, hS, a2, _, rfl, _, _, rfl, rfl, _, rfl, ?_⟩
      refine ite2 (fun _ => ?_) (fun _ => ⟨⟨none, none, none, rfl⟩, But.refl _ _, k, Nat.le_succ _, cells, x, hp, hc, x0, cl⟩)
      refine ⟨_, rfl, p, _, _, _, rfl, rfl, hS, a1, ?_⟩
      refine ⟨fun σ' H' => H' = H ∧ ∃ cell : Int, σ' = [some (.ref p), some (.int many), some (.int (k : Int)), some (.int cell), none], ?_, ?_⟩
      · refine ⟨_, rfl, _, rfl, p, _, _, _, rfl, rfl, hS, a0, c, _, rfl, .inl hC, _, _, rfl, rfl, _, rfl, ?_⟩
        refine ite2 (fun e => ?_) (fun _ => ?_)
        · have e := of_decide_eq_true e
          have e1 : k < (cells.map V.int).length := by omega
          have e2 : k < cells.length := by rw [List.length_map] at e1; exact e1
          refine ⟨_, rfl, p, _, _, _, rfl, rfl, hS, a0, _, rfl, c, _, _, _, rfl, rfl, hC, at_of (j := k) rfl (by rw [List.getElem?_map, List.getElem?_eq_getElem e2]; rfl), rfl, cells[k], rfl⟩
        · refine ⟨_, rfl, p, _, _, _, rfl, rfl, hS, a0, c, _, rfl, .inl hC, _, _, rfl, rfl, _, rfl, ?_⟩
          refine ite2 (fun e => ?_) (fun _ => ⟨rfl, 0, rfl⟩)
          have e := of_decide_eq_true e
          have e1 : 0 < (cells.map V.int).length := by omega
          obtain ⟨v, h1, h2⟩ := at_pos (n := (cells.map V.int).length) rfl e1 ((k : Int) * 5 + 3)
          obtain ⟨z, hz, rfl⟩ := List.mem_map.mp h2
          refine ⟨_, rfl, p, _, _, _, rfl, rfl, hS, a0, _, rfl, _, _, rfl, rfl, .inr ⟨by decide, by decide⟩, _, _, rfl, rfl, .inl ⟨_, rfl, _, rfl, p, _, _, _, rfl, rfl, hS, a0, c, _, rfl, .inl hC, _, _, rfl, rfl, by omega, c, _, _, _, rfl, rfl, hC, h1, .inl ⟨_, rfl, _, _, rfl, rfl, ⟨by decide, by decide, by decide⟩, _, rfl, _, _, rfl, rfl, _, _, rfl, rfl, ?_, fun r _ => ⟨rfl, r, rfl⟩⟩⟩⟩
          show (0 : Int) < 10 ^ Int.toNat 17 + (k : Int)
          have : (0 : Int) < 10 ^ Int.toNat 17 := by decide
          omega
      · rintro σ' H' ⟨rfl, cell, rfl⟩
        refine ⟨_, rfl, _, _, rfl, rfl, _, rfl, p, _, 1, 1, rfl, rfl, hp, rfl, fun H1 B1 h1 => ⟨_, rfl, _, rfl, cell, k, rfl, hk, fun r H2 r0 s2 => ⟨_, rfl, p, _, 2, 2, rfl, rfl, s2 _ _ h1, rfl, fun H3 B3 h3 => ?_⟩⟩⟩
        exact ⟨⟨_, _, _, rfl⟩, (B1.trans (sameBut s2)).trans B3, k + 1, Nat.le_refl _, cells, r, h3, B3 _ _ ne (s2 _ _ (B1 _ _ ne hc)), r0, cl⟩
    · rintro σ' H' ⟨⟨a, b, e, rfl⟩, B, k', hk', cells', x', hp', hc', x0', cl'⟩
      have hS : SqL K H' p [.ref c, .int (k' : Int), .int x'] := SqL.of hp'
      have ne' : c ≠ p := ne
      refine ⟨_, rfl, p, _, _, _, rfl, rfl, hS, (show atI [V.ref c, .int (k' : Int), .int x'] 2 = some (.int x') from rfl), .inl ⟨_, rfl, _, rfl, _, _, rfl, rfl, m0, fun r r0 r1 => ?_⟩⟩
      refine ⟨_, rfl, p, _, _, _, rfl, rfl, hS, (show atI [V.ref c, .int (k' : Int), .int x'] 2 = some (.int x') from rfl), _, rfl, _, _, rfl, rfl, ⟨m0, m1⟩, fun d ed => ⟨_, rfl, p, _, 2, 2, rfl, rfl, hp', rfl, fun H2 B2 h2 => ⟨_, rfl, ?_⟩⟩⟩
      have d0 : 0 ≤ d := by rw [ed]; exact Int.ediv_nonneg x0' (by omega)
      exact q r H2 k' r0 r1 (B.trans B2) hk' ⟨cells', d, h2, B2 _ _ ne' hc', d0, cl'⟩
theorem scOneOf : FnScope ["pen", "some"] ["pen", "some"] (defScope sOneOf) := ⟨rfl, rfl, rfl, by decide +kernel, rfl, by decide +kernel, by decide +kernel⟩
theorem SqL.but {p a : Addr} {H H' : Hp} {xs : List V} (h : SqL K H a xs) (n : a ≠ p) (B : But p H H') : SqL K H' a xs := by
  rcases h with (h | ⟨o, h⟩) | h
  · exact .inl (.inl (B _ _ n h))
  · exact .inl (.inr ⟨o, B _ _ n h⟩)
  · exact .inr h
theorem ok_oneOf {f fT : Addr} {fd fdT : FuncData} (F : FnP K "_law_one_of" sOneOf f fd) (T : PenTxt mg) (FT : FnP K "_law_take" sTake fT fdT) (GT : FnOk P w K mg base CX0 2 fT fdT ["pen", "many"] spTake) (gT : mg "_law_take" = some (.ref fT)) : FnOk P w K mg base CX0 3 f fd ["pen", "some"] (spOneOf K) := by
  have bT : Binds K fdT ["pen", "many"] [] := FT.bindsN fun _ _ _ _ _ _ us hl => match us, hl with | [_, _], _ => rfl
  refine ok0 F scOneOf (fun vs H Q E h => ?_) (fun cdv A outer s H vs Q E hr h => ?_)
  · obtain ⟨p, c, a, k, xs, rfl, _⟩ := h
    rfl
  · obtain ⟨p, c, a, k, xs, rfl, hp, ha, na, x0, x1, hk, q⟩ := h
    refine ⟨_, (pss_one (ps_ret (pe_ix ix_list (pv 1) (pe_call GT hr rfl gT FT.kp bT .nil pass0 (pa_cons (pv 0) (pa_cons (pe_callB call_len_seq (by rfl) T.len (by decide +kernel) (pa_cons (pv 1) pa_nil)) pa_nil))) (fun _ _ => rfl)))), ?_⟩
    refine ⟨_, rfl, _, rfl, _, rfl, a, _, rfl, .inl ha, p, c, k, _, rfl, hp, by omega, by omega, hk, fun r H' k' r0 r1 B hk' hp' => ?_⟩
    have hi : r.toNat < xs.length := by omega
    refine ⟨a, xs, _, xs[r.toNat], rfl, rfl, SqL.but ha na B, at_of (j := r.toNat) (by omega) (by simp [hi]), ?_⟩
    exact q r.toNat _ H' k' (by simp [hi]) B hk' hp'
theorem scOpen : FnScope ["script", "cells", "k", "cell"] ["script"] (defScope sOpen) := ⟨rfl, rfl, rfl, by decide +kernel, rfl, by decide +kernel, by decide +kernel⟩
theorem ok_open {f : Addr} {fd : FuncData} (F : FnP K "_law_open" sOpen f fd) (T : PenTxt mg) : FnOk P w K mg base CX0 1 f fd ["script"] (spOpen K) := by
  refine ok0 F scOpen (fun vs H Q E h => ?_) (fun cdv A outer s H vs Q E hr h => ?_)
  · obtain ⟨a, ns, rfl, _⟩ := h
    rfl
  · obtain ⟨a, ns, rfl, hS, hl, q⟩ := h
    refine ⟨_, (pss_cons (ps_set (i := 1) scOpen.nd rfl (Or.inl rfl) (pe_callTy (T := "list") call_list_ofL (by rfl) T.list (by decide +kernel) (pa_cons (pe_slice sl_listL (pv 0) po_none (po_some pe_int)) pa_nil)))
    (pss_cons (ps_for PassesOwn.never rfl (pi_enum (by rfl) T.enumerate (pa_cons (pe_slice sl_listL (pv 0) (po_some pe_int) (po_some pe_int)) pa_nil)) (pg_tup (by rfl) (pgs_cons (pg_name (i := 2) scOpen.nd rfl (Or.inl rfl)) (pgs_cons (pg_name (i := 3) scOpen.nd rfl (Or.inl rfl)) pgs_nil)))
      (pss_one (ps_asg (pe_op op_add (pe_ix ix_list (pv 1) (pe_op op_mod (pe_callTy (T := "int") call_int1 (by rfl) T.int (by decide +kernel) (pa_cons (pv 2) pa_nil)) pe_int) (fun _ _ => rfl)) (pv 3)) (pg_sub (pv 1) (pe_op op_mod (pe_callTy (T := "int") call_int1 (by rfl) T.int (by decide +kernel) (pa_cons (pv 2) pa_nil)) pe_int) set_listL))))
    (pss_one (ps_ret (pe_lstL (pa_cons (pv 1) (pa_cons pe_int (pa_cons pe_int pa_nil)))))))), ?_⟩
    refine ⟨_, rfl, 12, rfl, a, _, rfl, hS, fun l1 H1 n1 s1 h1 => ⟨l1, _, rfl, .inl (SqL.of h1), fun c H2 n2 s2 h2 => ?_⟩⟩
    refine ⟨_, rfl, 12, rfl, 63, rfl, a, _, rfl, (s1.trans s2).seq hS, fun l3 H3 n3 s3 h3 => ?_⟩
    -- for k, cell in enumerate(script[12:63]): cells[int(k) % 12] = cells[int(k) % 12] + cell
    have e1 : cutV (ns.map V.int) none (some 12) = (ns.take 12).map V.int := by
      unfold cutV
      rw [HT.sIx_none, show ((12 : Int)) = ((12 : Nat) : Int) from rfl, HT.sIx_nat, List.drop_zero, List.map_take, List.length_map]
      rw [Nat.sub_zero]
      by_cases h : 12 ≤ ns.length
      · rw [Nat.min_eq_left h]
      · rw [Nat.min_eq_right (by omega), List.take_of_length_le (by simp), List.take_of_length_le (by simp; omega)]
    have e2 : (cutV (ns.map V.int) (some 12) (some 63)).length ≤ ns.length - 12 := by
      unfold cutV
      rw [List.length_take, List.length_drop, show ((12 : Int)) = ((12 : Nat) : Int) from rfl, HT.sIx_nat, List.length_map]
      omega
    have e3 : ∀ y ∈ cutV (ns.map V.int) (some 12) (some 63), ∃ z : Int, y = .int z := fun y hy => by
      have hy := List.mem_of_mem_drop (List.mem_of_mem_take hy)
      obtain ⟨z, _, rfl⟩ := List.mem_map.mp hy
      exact ⟨z, rfl⟩
    rw [e1] at h2
    generalize hX : cutV (ns.map V.int) (some 12) (some 63) = xs3 at h3 e2 e3
    have n3c : l3 ≠ c := (ne_of_none h2 n3).symm
    have hL3 : SqL K H3 l3 xs3 := SqL.of h3
    refine ⟨l3, xs3, rfl, SqL.of h3, for_it walk_enum (fun i σ H' => ∃ (u v : Option V) (cells : List Int), σ = [some (.ref a), some (.ref c), u, v] ∧ H' c = some (.lst (cells.map V.int)) ∧ cells.length = (ns.take 12).length ∧ But c H3 H')
      ⟨none, none, ns.take 12, rfl, s3 _ _ h2, rfl, But.refl _ _⟩ (fun i σ H' _ ⟨_, _, _, _, _, _, B⟩ => SqL.but hL3 n3c B) ?_ ?_⟩
    · rintro i x σ H' H'' hi ⟨u, v, cells, rfl, hc, hn, B⟩ ⟨t, y1, y2, rfl, nt, rfl, hx, hy⟩
      cases hx
      obtain ⟨z, rfl⟩ := e3 y2 (List.mem_of_getElem? hy)
      have hn : cells.length = 12 := by
        rw [hn, List.length_take]
        omega
      have ntc : c ≠ t := ne_of_none hc nt
      have S4 : Same H' (upd H' t (.tup [V.int (i : Nat), .int z])) := same_upd nt
      refine ⟨t, _, rfl, .inl (.inl upd_same), rfl, ?_⟩
      obtain ⟨v, h1, h2'⟩ := at_pos (n := 12) (xs := cells.map V.int) (by rw [List.length_map]; exact hn) (by decide) (i : Int)
      obtain ⟨z', _, rfl⟩ := List.mem_map.mp h2'
      refine ⟨_, _, rfl, _, _, rfl, rfl, _, rfl, _, rfl, .inl ⟨_, rfl, _, _, rfl, rfl, (by show (0 : Int) < 12; decide), c, _, _, _, rfl, rfl, SqL.of (S4 _ _ hc), h1, _, rfl, _, _, rfl, rfl, _, rfl, _, rfl, .inl ⟨_, rfl, _, _, rfl, rfl, (by show (0 : Int) < 12; decide), c, _, _, _, rfl, rfl, S4 _ _ hc, (ix_pos (n := 12) (by rw [List.length_map]; exact hn) (by decide) (i : Int)), fun H5 B5 h5 => ?_⟩⟩⟩
      refine ⟨_, _, cells.set ((i : Int) % 12).toNat (z' + z), rfl, ?_, by rw [List.length_set, hn, List.length_take]; omega, (B.trans (sameBut S4)).trans B5⟩
      rw [h5, List.map_set]
      rfl
    · rintro σ H' ⟨u, v, cells, rfl, hc, hn, B⟩
      refine ⟨_, rfl, by show 3 ≤ sizeLine; decide, fun p H5 n5 s5 h5 => ?_⟩
      have S0 : Same H H3 := (s1.trans s2).trans s3
      have S1 : Same H H' := fun b o e => by
        have nb : b ≠ c := ne_of_none e (s1.free n2)
        exact B b o nb (S0 b o e)
      refine q p c H5 (S1.trans s5) (S1.free n5) (s1.free n2) ⟨cells, 0, h5, s5 _ _ hc, Int.le_refl 0, ?_⟩
      rw [hn, List.length_take]
      omega
end
end Sb

/-! ## SD32 -/
/-! sorted of a list of things that read as data. -/
namespace Sb
open PySem PySem.Spec PyProof.Rows L2
open PySem.W (EachIs dataLe AllAlike Sortable)
section
variable {β : Type}
/-- sorted(xs), xs items that read as data -/
def rSortD (K : PySem.W.Frag) (enc : β → PyData) : List V → Hp → VK → Prop := fun vs H Q => ∃ (a : Addr) (xs : List V) (bs : List β) (R : V → β → Prop), vs = [V.ref a] ∧ SqL K H a xs ∧ EachIs R xs bs ∧ (∀ x b, R x b → Dp K H x (enc b)) ∧ AllAlike (bs.map enc) ∧ Sortable (bs.map enc) ∧ bs.length ≤ sizeLine ∧ (∀ b ∈ bs, (enc b).depth ≤ 60) ∧
  ∀ ys, EachIs R ys (bs.mergeSort (dataLe false enc)) → New H (.lst ys) Q
theorem each_vals {R : V → β → Prop} : ∀ {xs : List V} {bs : List β} {us : List Value}, EachIs R xs bs → Vals xs us → EachIs (fun u b => ∃ x, RelV x u ∧ R x b) us bs
  | _, _, _, .nil, h => by
    cases h
    exact .nil
  | _, _, _, .cons h t, r => by
    cases r with
    | cons r1 r2 => exact .cons ⟨_, r1, h⟩ (each_vals t r2)
theorem vals_each {R : V → β → Prop} : ∀ {us : List Value} {bs : List β}, EachIs (fun u b => ∃ x, RelV x u ∧ R x b) us bs → ∃ xs, Vals xs us ∧ EachIs R xs bs
  | _, _, .nil => ⟨[], .nil, .nil⟩
  | _, _, .cons ⟨x, r, h⟩ t => by
    obtain ⟨xs, a, b⟩ := vals_each t
    exact ⟨x :: xs, .cons r a, .cons h b⟩
theorem cr_sortedD {X : Cx} {K : PySem.W.Frag} {enc : β → PyData} (hu : X.A.units + 64 < cLine) (hK : X.K = K := by rfl) : CallR X (.builtin "sorted") (rSortD K enc) := by
  subst hK
  intro pins s σ H vs us Q I r h
  obtain ⟨a, xs, bs, R, rfl, hs, he, hR, hal, hk, hL, hd, q⟩ := h
  obtain ⟨its, rv, pl, _⟩ := I.list hs
  obtain rfl := Vals.ref1 r
  have e := each_vals he rv
  have er : EachIs (fun v b => ∃ as, Reads s.heap v (enc b) as) its bs := e.mono fun u b ⟨x, r, h⟩ => Dp.reads I _ _ _ (hR x b h) r
  refine PySem.W.sorted_data pl.isList e er hal hk hL (fun b hb => ?_) fun out hl eo => ?_
  · have := hd b hb
    omega
  obtain ⟨ys, ry, ey⟩ := vals_each eo
  obtain ⟨ep, at_⟩ := sortedAll_at s.heap its out.toArray
  have hlen : ys.length ≤ sizeLine := by
    rw [ry.length, hl]
    exact hL
  have I2 := I.laid (o := .lst ys) (t' := s.toks) (fun _ _ => sortedAll_old) (Nat.le_succ _) ⟨hlen, out, ep, ry, at_⟩
  exact ⟨.ref _, _, I2, rfl, (q ys ey).go _ (I.hok.fresh (Nat.le_succ _))⟩
end
theorem each_len {α β : Type} {R : α → β → Prop} : ∀ {as : List α} {bs : List β}, EachIs R as bs → as.length = bs.length
  | _, _, .nil => rfl
  | _, _, .cons _ t => by rw [List.length_cons, List.length_cons, each_len t]
theorem each_get {α β : Type} {R : α → β → Prop} : ∀ {as : List α} {bs : List β} {i : Nat} {a : α}, EachIs R as bs → as[i]? = some a → ∃ b, bs[i]? = some b ∧ R a b
  | _, _, i, a, .nil, h => by simp at h
  | _, _, 0, a, .cons h _, e => by
    cases e
    exact ⟨_, rfl, h⟩
  | _, _, i + 1, a, .cons _ t, e => each_get (i := i) t e
theorem each_got {α β : Type} {R : α → β → Prop} : ∀ {as : List α} {bs : List β} {i : Nat} {b : β}, EachIs R as bs → bs[i]? = some b → ∃ a, as[i]? = some a ∧ R a b
  | _, _, i, a, .nil, h => by simp at h
  | _, _, 0, a, .cons h _, e => by
    cases e
    exact ⟨_, rfl, h⟩
  | _, _, i + 1, a, .cons _ t, e => each_got (i := i) t e
theorem each_imp {α β : Type} {R S : α → β → Prop} (k : ∀ a b, R a b → S a b) : ∀ {as : List α} {bs : List β}, EachIs R as bs → EachIs S as bs
  | _, _, .nil => .nil
  | _, _, .cons h t => .cons (k _ _ h) (each_imp k t)
theorem each_snoc {α β : Type} {R : α → β → Prop} : ∀ {as : List α} {bs : List β} {a : α} {b : β}, EachIs R as bs → R a b → EachIs R (as ++ [a]) (bs ++ [b])
  | _, _, a, b, .nil, h => .cons h .nil
  | _, _, a, b, .cons h t, k => .cons h (each_snoc t k)
/-- a tuple of whole numbers -/
theorem dp_il {K : PySem.W.Frag} {H : Hp} : ∀ {xs : List Int}, DpAll K H (xs.map V.int) (xs.map PyData.int)
  | [] => .nil
  | x :: xs => .cons (.int x) dp_il
/-! ### rows in order -/
theorem leT : dataLe false (fun b : List Int => PyData.tuple (b.map PyData.int)) = fun p q => decide (p ≤ q) := by
  funext p q
  show (!PySem.W.dataLt (.tuple (q.map .int)) (.tuple (p.map .int))) = _
  rw [PySem.W.dataLt_tuple]
  show (!PySem.W.rowLt (q.map .int) (p.map .int)) = _
  rw [PySem.W.dataLt_ints]
  by_cases h : q < p
  · have h' : ¬ p ≤ q := fun r => List.not_lt.mpr r h
    simp [h, h']
  · have h' : p ≤ q := List.not_lt.mp h
    simp [h, h']
theorem eqv_ints : ∀ {xs ys : List Int}, PyData.eqvAll (xs.map PyData.int) (ys.map PyData.int) = decide (xs = ys)
  | [], [] => by simp only [List.map_nil, PyData.eqvAll]; rfl
  | [], y :: ys => by simp only [List.map_nil, List.map_cons, PyData.eqvAll]; simp
  | x :: xs, [] => by simp only [List.map_nil, List.map_cons, PyData.eqvAll]; simp
  | x :: xs, y :: ys => by
    simp only [List.map_cons, PyData.eqvAll, PyData.eqv]
    rw [eqv_ints]
    by_cases h : x = y <;> by_cases g : xs = ys <;> simp [h, g]
/-- a block with its gate, as data -/
def bgD (b : List Int × Int) : PyData := .tuple [.tuple (b.1.map .int), .int b.2]
theorem leBG : dataLe false bgD = fun p q => decide (p.1 < q.1 ∨ (p.1 = q.1 ∧ p.2 ≤ q.2)) := by
  funext p q
  show (!PySem.W.dataLt (.tuple [.tuple (q.1.map .int), .int q.2]) (.tuple [.tuple (p.1.map .int), .int p.2])) = _
  rw [PySem.W.dataLt_pair (by rw [PySem.W.alike]; exact PySem.W.alike_ints _ _) (by simp [PySem.W.alike]), PySem.W.dataLt_tuple]
  have e0 : PyData.eqv (.tuple (q.1.map .int)) (.tuple (p.1.map .int)) = decide (q.1 = p.1) := by
    rw [PyData.eqv]
    exact eqv_ints
  have e1 : PyData.eqv (.int q.2) (.int p.2) = decide (q.2 = p.2) := by
    rw [PyData.eqv]
    by_cases h : q.2 = p.2 <;> simp [h]
  rw [e0, e1]
  have e : PyProof.Rows.lexLt itemOrd (PySem.W.keyToksAll (q.1.map PyData.int)) (PySem.W.keyToksAll (p.1.map PyData.int)) = decide (q.1 < p.1) := PySem.W.dataLt_ints q.1 p.1
  rw [e, PySem.W.dataLt_int]
  by_cases h : q.1 = p.1
  · rw [h]
    have n : ¬ p.1 < p.1 := List.lt_irrefl _
    by_cases g : q.2 = p.2
    · simp [g]
    · by_cases k : q.2 < p.2
      · have k' : ¬ p.2 ≤ q.2 := by omega
        simp [g, k, k', n]
      · have k' : p.2 ≤ q.2 := by omega
        simp [g, k, k', n]
  · have h' : ¬ p.1 = q.1 := fun z => h z.symm
    by_cases g : q.1 < p.1
    · have g' : ¬ p.1 < q.1 := List.lt_asymm g
      simp [h, h', g, g']
    · have g' : p.1 < q.1 := by
        have z : p.1 ≤ q.1 := List.not_lt.mp g
        rcases Decidable.em (p.1 < q.1) with k | k
        · exact k
        · exact absurd (List.le_antisymm z (List.not_lt.mp k)) h'
      simp [h, h', g, g']
theorem leBG_tr (a b c : List Int × Int) (h1 : dataLe false bgD a b = true) (h2 : dataLe false bgD b c = true) : dataLe false bgD a c = true := by
  rw [leBG] at *
  have h1 := of_decide_eq_true h1
  have h2 := of_decide_eq_true h2
  refine decide_eq_true ?_
  rcases h1 with h1 | ⟨h1, h1'⟩
  · rcases h2 with h2 | ⟨h2, _⟩
    · exact .inl (List.lt_trans h1 h2)
    · exact .inl (h2 ▸ h1)
  · rcases h2 with h2 | ⟨h2, h2'⟩
    · exact .inl (h1 ▸ h2)
    · exact .inr ⟨h1.trans h2, Int.le_trans h1' h2'⟩
theorem leBG_to (a b : List Int × Int) : (dataLe false bgD a b || dataLe false bgD b a) = true := by
  rw [leBG]
  by_cases h : a.1 = b.1
  · by_cases g : a.2 ≤ b.2
    · simp [h, g]
    · have g' : b.2 ≤ a.2 := by omega
      simp [h, g']
  · by_cases g : a.1 < b.1
    · simp [g]
    · have g' : b.1 < a.1 := by
        rcases Decidable.em (b.1 < a.1) with k | k
        · exact k
        · exact absurd (List.le_antisymm (List.not_lt.mp k) (List.not_lt.mp g)) h
      simp [g']
theorem sortBG (l : List (List Int × Int)) : (l.mergeSort (dataLe false bgD)).Pairwise fun p q => p.1 < q.1 ∨ (p.1 = q.1 ∧ p.2 ≤ q.2) :=
  (List.pairwise_mergeSort leBG_tr leBG_to l).imp fun {a b} h => by
    rw [leBG] at h
    exact of_decide_eq_true h
theorem sortT (l : List (List Int)) : (l.mergeSort (dataLe false fun b : List Int => PyData.tuple (b.map PyData.int))).Pairwise fun p q => p ≤ q := by
  rw [leT]
  refine (List.pairwise_mergeSort (fun a b c h1 h2 => ?_) (fun a b => ?_) l).imp fun {a b} h => of_decide_eq_true h
  · exact decide_eq_true (List.le_trans (of_decide_eq_true h1) (of_decide_eq_true h2))
  · rcases List.le_total a b with h | h
    · simp [h]
    · simp [h]
theorem asc_of {l : List (List Int)} (h : l.Pairwise fun p q => p ≤ q) (nd : l.Nodup) : l.Pairwise fun p q => p < q :=
  List.Pairwise.imp₂ (fun {a b} (h1 : a ≤ b) (h2 : a ≠ b) => by
    rcases Decidable.em (a < b) with k | k
    · exact k
    · exact absurd (List.le_antisymm h1 (List.not_lt.mp k)) h2) h nd
end Sb

/-! ## MB -/
/-! Trees in graphs: which of a tree's ties lie on rings together. -/
namespace Sb
structure TreeP (n : Nat) (par : Int → Int) (dep : Int → Nat) : Prop where
  root : dep 0 = 0
  up : ∀ v : Int, 0 ≤ v → v < (n : Int) → v ≠ 0 → 0 ≤ par v ∧ par v < (n : Int) ∧ dep (par v) + 1 = dep v
/-- v is x or above it -/
inductive Sub (par : Int → Int) (v : Int) : Int → Prop
  | refl : Sub par v v
  | step {x : Int} : x ≠ 0 → Sub par v (par x) → Sub par v x
/-- the tie above v lies between a and b -/
def Path (par : Int → Int) (a b v : Int) : Prop := ¬ (Sub par v a ↔ Sub par v b)
theorem Path.symm {par : Int → Int} {a b v : Int} (h : Path par a b v) : Path par b a v := fun z => h z.symm
section
variable {n : Nat} {par : Int → Int} {dep : Int → Nat}
theorem sub_in (T : TreeP n par dep) {v x : Int} (x0 : 0 ≤ x) (x1 : x < (n : Int)) (h : Sub par v x) : (0 ≤ v ∧ v < (n : Int)) ∧ (v = x ∨ dep v < dep x) := by
  induction h with
  | refl => exact ⟨⟨x0, x1⟩, .inl rfl⟩
  | @step x ne _ ih =>
    obtain ⟨a, b, c⟩ := T.up x x0 x1 ne
    obtain ⟨d, e⟩ := ih a b
    refine ⟨d, .inr ?_⟩
    rcases e with e | e
    · rw [e]
      omega
    · omega
theorem sub_par {v x : Int} (ne : x ≠ 0) : Sub par v x ↔ v = x ∨ Sub par v (par x) := by
  constructor
  · intro h
    cases h with
    | refl => exact .inl rfl
    | step _ h => exact .inr h
  · rintro (h | h)
    · rw [h]
      exact .refl
    · exact .step ne h
theorem sub_trans {v x y : Int} (h : Sub par v x) (g : Sub par x y) : Sub par v y := by
  induction g with
  | refl => exact h
  | step ne _ ih => exact .step ne ih
theorem sub_comp {v w x : Int} (h : Sub par v x) (g : Sub par w x) : Sub par v w ∨ Sub par w v := by
  induction h with
  | refl => exact .inr g
  | @step x ne h ih =>
    cases g with
    | refl => exact .inl (.step ne h)
    | step _ g => exact ih g
theorem sub_root (T : TreeP n par dep) : ∀ (k : Nat) (x : Int), 0 ≤ x → x < (n : Int) → dep x ≤ k → Sub par 0 x
  | k, x, x0, x1, hk => by
    by_cases e : x = 0
    · rw [e]
      exact .refl
    · obtain ⟨a, b, c⟩ := T.up x x0 x1 e
      cases k with
      | zero => omega
      | succ k => exact .step e (sub_root T k (par x) a b (by omega))
theorem sub_child {w y : Int} (h : Sub par w y) (ne : y ≠ w) : ∃ c, c ≠ 0 ∧ par c = w ∧ Sub par c y := by
  induction h with
  | refl => exact absurd rfl ne
  | @step x nx h ih =>
    by_cases e : par x = w
    · exact ⟨x, nx, e, .refl⟩
    · obtain ⟨c, c0, c1, c2⟩ := ih e
      exact ⟨c, c0, c1, .step nx c2⟩
theorem child_one (T : TreeP n par dep) {c d w y : Int} (y0 : 0 ≤ y) (y1 : y < (n : Int)) (c0 : c ≠ 0) (d0 : d ≠ 0) (hc : par c = w) (hd : par d = w) (h : Sub par c y) (g : Sub par d y) : c = d := by
  obtain ⟨⟨a, b⟩, _⟩ := sub_in T y0 y1 h
  obtain ⟨⟨a', b'⟩, _⟩ := sub_in T y0 y1 g
  have e1 := (T.up c a b c0).2.2
  have e2 := (T.up d a' b' d0).2.2
  rw [hc] at e1
  rw [hd] at e2
  rcases sub_comp h g with z | z
  · rcases (sub_in T a' b' z).2 with z | z
    · exact z
    · omega
  · rcases (sub_in T a b z).2 with z | z
    · exact z.symm
    · omega
/-- the tie at w that leads towards y, named by its lower bay -/
def Dir (par : Int → Int) (w y c : Int) : Prop := (Sub par w y ∧ c ≠ 0 ∧ par c = w ∧ Sub par c y) ∨ (¬ Sub par w y ∧ c = w)
theorem dir_ex (w : Int) {y : Int} (ne : y ≠ w) : ∃ c, Dir par w y c := by
  by_cases h : Sub par w y
  · obtain ⟨c, a, b, d⟩ := sub_child h ne
    exact ⟨c, .inl ⟨h, a, b, d⟩⟩
  · exact ⟨w, .inr ⟨h, rfl⟩⟩
theorem dir_path (T : TreeP n par dep) {w z c : Int} (w0 : 0 ≤ w) (w1 : w < (n : Int)) (h : Dir par w z c) : Path par w z c := by
  rcases h with ⟨h1, h2, h3, h4⟩ | ⟨h1, rfl⟩
  · intro q
    have g := q.mpr h4
    obtain ⟨⟨a, b⟩, e⟩ := sub_in T w0 w1 g
    have e1 := (T.up c a b h2).2.2
    rw [h3] at e1
    rcases e with e | e
    · rw [e] at e1
      omega
    · omega
  · exact fun q => h1 (q.mp .refl)
theorem dir_two (T : TreeP n par dep) {w y z c d : Int} (y0 : 0 ≤ y) (y1 : y < (n : Int)) (z0 : 0 ≤ z) (z1 : z < (n : Int)) (hc : Dir par w y c) (hd : Dir par w z d) (ne : c ≠ d) : Path par y z c ∧ Path par y z d := by
  rcases hc with ⟨c1, c2, c3, c4⟩ | ⟨c1, rfl⟩
  · rcases hd with ⟨d1, d2, d3, d4⟩ | ⟨d1, rfl⟩
    · exact ⟨fun q => ne (child_one T z0 z1 c2 d2 c3 d3 (q.mp c4) d4), fun q => ne (child_one T y0 y1 c2 d2 c3 d3 c4 (q.mpr d4))⟩
    · refine ⟨fun q => d1 ?_, fun q => d1 (q.mp c1)⟩
      exact sub_trans (.step c2 (by rw [c3]; exact .refl)) (q.mp c4)
  · rcases hd with ⟨d1, d2, d3, d4⟩ | ⟨d1, rfl⟩
    · refine ⟨fun q => c1 (q.mpr d1), fun q => c1 ?_⟩
      exact sub_trans (.step d2 (by rw [d3]; exact .refl)) (q.mpr d4)
    · exact absurd rfl ne
end
/-! ### joined -/
inductive Cn {α : Type} (R : α → α → Prop) (a : α) : α → Prop
  | refl : Cn R a a
  | step {b c : α} : Cn R a b → R b c → Cn R a c
theorem Cn.trans {α : Type} {R : α → α → Prop} {a b c : α} (h : Cn R a b) (g : Cn R b c) : Cn R a c := by
  induction g with
  | refl => exact h
  | step _ r ih => exact .step ih r
theorem Cn.one {α : Type} {R : α → α → Prop} {a b : α} (r : R a b) : Cn R a b := .step .refl r
theorem Cn.symm {α : Type} {R : α → α → Prop} (s : ∀ a b, R a b → R b a) {a b : α} (h : Cn R a b) : Cn R b a := by
  induction h with
  | refl => exact .refl
  | step _ r ih => exact (Cn.one (s _ _ r)).trans ih
theorem Cn.mono {α : Type} {R S : α → α → Prop} (k : ∀ a b, R a b → Cn S a b) {a b : α} (h : Cn R a b) : Cn S a b := by
  induction h with
  | refl => exact .refl
  | step _ r ih => exact ih.trans (k _ _ r)
/-- both between the ends of one tie -/
def Jn (par : Int → Int) (Ed : Int → Int → Prop) (u v : Int) : Prop := ∃ a b, Ed a b ∧ Path par a b u ∧ Path par a b v
theorem Jn.symm {par : Int → Int} {Ed : Int → Int → Prop} {u v : Int} (h : Jn par Ed u v) : Jn par Ed v u := by
  obtain ⟨a, b, e, x, y⟩ := h
  exact ⟨a, b, e, y, x⟩
abbrev Jc (par : Int → Int) (Ed : Int → Int → Prop) : Int → Int → Prop := Cn (Jn par Ed)
theorem Jc.symm {par : Int → Int} {Ed : Int → Int → Prop} {u v : Int} (h : Jc par Ed u v) : Jc par Ed v u := Cn.symm (fun _ _ r => r.symm) h
/-- a graph on the bays below n with a tree of it -/
structure GT (n : Nat) (par : Int → Int) (dep : Int → Nat) (Ed : Int → Int → Prop) : Prop extends TreeP n par dep where
  inn : ∀ a b, Ed a b → (0 ≤ a ∧ a < (n : Int)) ∧ (0 ≤ b ∧ b < (n : Int)) ∧ a ≠ b
  sym : ∀ a b, Ed a b → Ed b a
  tree : ∀ v : Int, 0 ≤ v → v < (n : Int) → v ≠ 0 → Ed v (par v)
/-- a walk along ties that keeps off w behind its first bay -/
inductive Wk (Ed : Int → Int → Prop) (w : Int) (a : Int) : Int → Prop
  | refl : Wk Ed w a a
  | step {b c : Int} : Wk Ed w a b → Ed b c → c ≠ w → Wk Ed w a c
section
variable {n : Nat} {par : Int → Int} {dep : Int → Nat} {Ed : Int → Int → Prop}
theorem walk_dir (G : GT n par dep Ed) {w a b : Int} (h : Wk Ed w a b) (a0 : 0 ≤ a) (a1 : a < (n : Int)) (na : a ≠ w) : b ≠ w ∧ (0 ≤ b ∧ b < (n : Int)) ∧ ∀ c d, Dir par w a c → Dir par w b d → Jc par Ed c d := by
  induction h with
  | refl =>
    refine ⟨na, ⟨a0, a1⟩, fun c d hc hd => ?_⟩
    by_cases e : c = d
    · rw [e]
      exact .refl
    · obtain ⟨x, y⟩ := dir_two G.toTreeP a0 a1 a0 a1 hc hd e
      exact absurd Iff.rfl x
  | @step b c _ e nc ih =>
    obtain ⟨nb, ⟨b0, b1⟩, ih⟩ := ih
    obtain ⟨_, ⟨c0, c1⟩, _⟩ := G.inn _ _ e
    refine ⟨nc, ⟨c0, c1⟩, fun p q hp hq => ?_⟩
    obtain ⟨r, hr⟩ := dir_ex (par := par) w nb
    have h1 := ih p r hp hr
    by_cases z : r = q
    · rw [← z]
      exact h1
    · obtain ⟨x, y⟩ := dir_two G.toTreeP b0 b1 c0 c1 hr hq z
      exact .step h1 ⟨b, c, e, x, y⟩
/-- two ties at w, their other ends joined by a walk that keeps off w: one class -/
theorem turn_class (G : GT n par dep Ed) {u w x : Int} (e1 : Ed u w) (e2 : Ed w x) (h : Wk Ed w x u) {p q : Int} (hp : Path par u w p) (hq : Path par w x q) : Jc par Ed p q := by
  obtain ⟨⟨u0, u1⟩, ⟨w0, w1⟩, nuw⟩ := G.inn _ _ e1
  obtain ⟨_, ⟨x0, x1⟩, nwx⟩ := G.inn _ _ e2
  obtain ⟨c, hc⟩ := dir_ex (par := par) w nuw
  obtain ⟨d, hd⟩ := dir_ex (par := par) w (Ne.symm nwx)
  have k := (walk_dir G h x0 x1 (Ne.symm nwx)).2.2 d c hd hc
  have p1 := dir_path G.toTreeP w0 w1 hc
  have p2 := dir_path G.toTreeP w0 w1 hd
  have j1 : Jc par Ed p c := .one ⟨u, w, e1, hp, p1.symm⟩
  have j2 : Jc par Ed d q := .one ⟨w, x, e2, p2, hq⟩
  exact (j1.trans k.symm).trans j2
/-- a class lies below the bay above one of it, if that bay is not in the class -/
theorem class_below (G : GT n par dep Ed) {c : Int} (c0 : 0 ≤ c) (c1 : c < (n : Int)) (nc : c ≠ 0) (out : ∀ y, Jc par Ed c y → y ≠ par c) : ∀ y, Jc par Ed c y → Sub par (par c) y ∧ y ≠ par c := fun y h => by
  induction h with
  | refl => exact ⟨.step nc .refl, out c .refl⟩
  | @step y z h r ih =>
    obtain ⟨hy, ny⟩ := ih
    have nz := out z (.step h r)
    refine ⟨?_, nz⟩
    obtain ⟨a, b, e, p, q⟩ := r
    obtain ⟨⟨a0, a1⟩, ⟨b0, b1⟩, _⟩ := G.inn _ _ e
    have nw : ¬ Path par a b (par c) := fun k => out (par c) (.step h ⟨a, b, e, p, k⟩) rfl
    have iw : Sub par (par c) a ↔ Sub par (par c) b := Classical.not_not.mp nw
    -- w is above a and b
    have wa : Sub par (par c) a := by
      by_cases s : Sub par y a
      · exact sub_trans hy s
      · have s2 : Sub par y b := Classical.byContradiction fun k => p ⟨fun t => absurd t s, fun t => absurd t k⟩
        exact iw.mpr (sub_trans hy s2)
    have wb := iw.mp wa
    by_cases s : Sub par z a
    · rcases sub_comp s wa with k | k
      · exact absurd ⟨fun _ => sub_trans k wb, fun _ => s⟩ q
      · exact k
    · have s2 : Sub par z b := Classical.byContradiction fun k => q ⟨fun t => absurd t s, fun t => absurd t k⟩
      rcases sub_comp s2 wb with k | k
      · exact absurd ⟨fun _ => s2, fun _ => sub_trans k wa⟩ q
      · exact k
/-- .. and each of it lies below a bay of it that has g above it -/
theorem class_child (G : GT n par dep Ed) {t : Int} (t0 : 0 ≤ t) (t1 : t < (n : Int)) (nt : t ≠ 0) (out : ∀ y, Jc par Ed t y → y ≠ par t) : ∀ y, Jc par Ed t y → ∃ c, c ≠ 0 ∧ par c = par t ∧ Sub par c y ∧ Jc par Ed t c := fun y h => by
  induction h with
  | refl => exact ⟨t, nt, rfl, .refl, .refl⟩
  | @step y z h r ih =>
    obtain ⟨c, nc, ec, sc, jc⟩ := ih
    obtain ⟨sz, nz⟩ := class_below G t0 t1 nt out z (.step h r)
    obtain ⟨d, nd, ed, sd⟩ := sub_child sz nz
    refine ⟨d, nd, ed, sd, ?_⟩
    by_cases k : c = d
    · rw [← k]
      exact jc
    obtain ⟨a, b, e, p, q⟩ := r
    obtain ⟨⟨a0, a1⟩, ⟨b0, b1⟩, _⟩ := G.inn _ _ e
    have cd : ∀ x : Int, 0 ≤ x → x < (n : Int) → Sub par c x → ¬ Sub par d x := fun x x0 x1 s1 s2 => k (child_one G.toTreeP x0 x1 nc nd ec ed s1 s2)
    -- d lies between a and b
    have pd : Path par a b d := by
      intro i
      have hyab : Sub par y a ∨ Sub par y b := Classical.byContradiction fun g => p ⟨fun s => absurd (.inl s) g, fun s => absurd (.inr s) g⟩
      have hzab : Sub par z a ∨ Sub par z b := Classical.byContradiction fun g => q ⟨fun s => absurd (.inl s) g, fun s => absurd (.inr s) g⟩
      have da : Sub par d a := hzab.elim (fun s => sub_trans sd s) fun s => i.mpr (sub_trans sd s)
      have db := i.mp da
      rcases hyab with s | s
      · exact cd a a0 a1 (sub_trans sc s) da
      · exact cd b b0 b1 (sub_trans sc s) db
    exact .step h ⟨a, b, e, p, pd⟩
/-- without the gate none of a class is come to from bay 0 -/
theorem gate_shuts (G : GT n par dep Ed) (hn : 0 < n) {t : Int} (t0 : 0 ≤ t) (t1 : t < (n : Int)) (nt : t ≠ 0) (out : ∀ y, Jc par Ed t y → y ≠ par t) (ng : par t ≠ 0) {y : Int} (hy : Jc par Ed t y) (h : Wk Ed (par t) 0 y) : False := by
  obtain ⟨c, nc, ec, sc, jc⟩ := class_child G t0 t1 nt out y hy
  obtain ⟨sy, ny⟩ := class_below G t0 t1 nt out y hy
  have z0 : ¬ Sub par (par t) 0 := fun s => by
    rcases (sub_in G.toTreeP (Int.le_refl 0) (by omega) s).2 with k | k
    · exact ng k
    · rw [G.root] at k
      exact Nat.not_lt_zero _ k
  have k := (walk_dir G h (Int.le_refl 0) (by omega) (Ne.symm ng)).2.2 (par t) c (.inr ⟨z0, rfl⟩) (.inl ⟨sy, nc, ec, sc⟩)
  exact out (par t) (jc.trans k.symm) rfl
end
end Sb

/-! ## MC -/
/-! Rings: their ties are of one class; between the ends of a tie runs one. -/
namespace Sb
def nrm (a b : Int) : Int × Int := if a ≤ b then (a, b) else (b, a)
theorem nrm_symm (a b : Int) : nrm a b = nrm b a := by
  unfold nrm
  by_cases h : a ≤ b
  · by_cases g : b ≤ a
    · rw [if_pos h, if_pos g]
      have : a = b := Int.le_antisymm h g
      rw [this]
    · rw [if_pos h, if_neg g]
  · rw [if_neg h, if_pos (by omega)]
theorem nrm_path {par : Int → Int} {a b v : Int} : Path par (nrm a b).1 (nrm a b).2 v ↔ Path par a b v := by
  unfold nrm
  by_cases h : a ≤ b
  · rw [if_pos h]
  · rw [if_neg h]
    exact ⟨Path.symm, Path.symm⟩
def Chn (Ed : Int → Int → Prop) : List Int → Prop
  | a :: b :: r => Ed a b ∧ Chn Ed (b :: r)
  | _ => True
structure Ring (Ed : Int → Int → Prop) (row : List Int) : Prop where
  nd : row.Nodup
  len : 3 ≤ row.length
  chn : Chn Ed row
  close : ∀ a b, row.head? = some a → row.getLast? = some b → Ed b a
/-- a tie of a round -/
def InR (row : List Int) (t : Int × Int) : Prop := (∃ A u w B, row = A ++ u :: w :: B ∧ t = nrm u w) ∨ ∃ a b, row.head? = some a ∧ row.getLast? = some b ∧ t = nrm b a
section
variable {Ed : Int → Int → Prop}
theorem chn_app {l m : List Int} {a b : Int} (h : Chn Ed (l ++ [a])) (e : Ed a b) (g : Chn Ed (b :: m)) : Chn Ed (l ++ a :: b :: m) := by
  induction l with
  | nil => exact ⟨e, g⟩
  | cons x l ih =>
    cases l with
    | nil => exact ⟨h.1, ih h.2⟩
    | cons y l => exact ⟨h.1, ih h.2⟩
theorem chn_left {l m : List Int} (h : Chn Ed (l ++ m)) : Chn Ed l := by
  induction l with
  | nil => exact trivial
  | cons x l ih =>
    cases l with
    | nil => exact trivial
    | cons y l => exact ⟨h.1, ih h.2⟩
theorem chn_right {l m : List Int} (h : Chn Ed (l ++ m)) : Chn Ed m := by
  induction l with
  | nil => exact h
  | cons x l ih =>
    cases l with
    | nil =>
      cases m with
      | nil => exact trivial
      | cons y m => exact h.2
    | cons y l => exact ih h.2
theorem chn_mid {l m : List Int} {a b : Int} (h : Chn Ed (l ++ a :: b :: m)) : Ed a b := (chn_right h).1
theorem chn_rev (s : ∀ a b, Ed a b → Ed b a) : ∀ {l : List Int}, Chn Ed l → Chn Ed l.reverse
  | [], _ => trivial
  | [_], _ => trivial
  | a :: b :: r, h => by
    have ih := chn_rev s h.2
    rw [List.reverse_cons] at ih ⊢
    rw [List.reverse_cons, List.append_assoc]
    exact chn_app ih (s _ _ h.1) (show Chn Ed [a] from trivial)
/-- along a chain that keeps off w -/
theorem chn_walk {w : Int} : ∀ {l : List Int} {a b : Int}, Chn Ed (a :: l) → (a :: l).getLast? = some b → (∀ x ∈ l, x ≠ w) → Wk Ed w a b
  | [], a, b, _, e, _ => by
    cases e
    exact .refl
  | c :: l, a, b, h, e, k => by
    have e2 : (c :: l).getLast? = some b := by
      rw [List.getLast?_cons_cons] at e
      exact e
    have ih := chn_walk (w := w) h.2 e2 fun x hx => k x (List.mem_cons_of_mem _ hx)
    -- one step in front
    have front : ∀ {y z : Int}, Wk Ed w y z → Ed a y → y ≠ w → Wk Ed w a z := fun {y z} hyz ey ny => by
      induction hyz with
      | refl => exact .step .refl ey ny
      | step _ e n ih => exact .step ih e n
    exact front ih h.1 (k c List.mem_cons_self)
theorem Wk.trans {w a b c : Int} (h : Wk Ed w a b) (g : Wk Ed w b c) : Wk Ed w a c := by
  induction g with
  | refl => exact h
  | step _ e n ih => exact .step ih e n
end
section
variable {n : Nat} {par : Int → Int} {dep : Int → Nat} {Ed : Int → Int → Prop}
/-- two ties of a round with a bay in common -/
theorem ring_turn (G : GT n par dep Ed) {A B : List Int} {u w : Int} (R : Ring Ed (A ++ u :: w :: B)) : ∃ x, ((∃ B', B = x :: B') ∨ (B = [] ∧ (A ++ [u]).head? = some x)) ∧ Ed w x ∧ ∀ p q, Path par u w p → Path par w x q → Jc par Ed p q := by
  have e1 : Ed u w := chn_mid R.chn
  have nd := R.nd
  have hd : ∃ h, (A ++ [u]).head? = some h := by
    cases A with
    | nil => exact ⟨u, rfl⟩
    | cons a A => exact ⟨a, rfl⟩
  obtain ⟨hh, eh⟩ := hd
  have ehead : (A ++ u :: w :: B).head? = some hh := by
    cases A with
    | nil => exact eh
    | cons a A => exact eh
  rw [show A ++ u :: w :: B = (A ++ [u]) ++ w :: B by simp] at nd
  obtain ⟨nd1, nd2, nd3⟩ := List.nodup_append.mp nd
  have offA : ∀ x ∈ A ++ [u], x ≠ w := fun x hx => nd3 x hx w List.mem_cons_self
  have offB : ∀ x ∈ B, x ≠ w := fun x hx e => (List.nodup_cons.mp nd2).1 (e ▸ hx)
  have cA : Chn Ed (A ++ [u]) := by
    have z := R.chn
    rw [show A ++ u :: w :: B = (A ++ [u]) ++ w :: B by simp] at z
    exact chn_left z
  have lastA : (A ++ [u]).getLast? = some u := List.getLast?_concat
  have wA : Wk Ed w hh u := by
    cases hl : A ++ [u] with
    | nil => simp at hl
    | cons a l =>
      rw [hl] at cA lastA eh offA
      cases eh
      exact chn_walk cA lastA fun x hx => offA x (List.mem_cons_of_mem _ hx)
  have hhw : hh ≠ w := offA hh (List.mem_of_mem_head? eh)
  cases B with
  | nil =>
    refine ⟨hh, .inr ⟨rfl, eh⟩, ?_, fun p q hp hq => turn_class G e1 ?_ wA hp hq⟩
    · exact R.close hh w ehead (by rw [show A ++ [u, w] = (A ++ [u]) ++ [w] by simp]; exact List.getLast?_concat)
    · exact R.close hh w ehead (by rw [show A ++ [u, w] = (A ++ [u]) ++ [w] by simp]; exact List.getLast?_concat)
  | cons x B' =>
    have cB : Chn Ed (w :: x :: B') := by
      have z := R.chn
      rw [show A ++ u :: w :: x :: B' = (A ++ [u]) ++ w :: x :: B' by simp] at z
      exact chn_right z
    obtain ⟨lb, el⟩ : ∃ lb, (x :: B').getLast? = some lb := ⟨_, List.getLast?_eq_some_getLast (List.cons_ne_nil _ _)⟩
    have w1 : Wk Ed w x lb := chn_walk cB.2 el fun y hy => offB y (List.mem_cons_of_mem _ hy)
    have elast : (A ++ u :: w :: x :: B').getLast? = some lb := by
      rw [List.getLast?_append, List.getLast?_cons_cons, List.getLast?_cons_cons, el]
      rfl
    have w2 : Wk Ed w x hh := .step w1 (R.close hh lb ehead elast) hhw
    exact ⟨x, .inl ⟨B', rfl⟩, cB.1, fun p q hp hq => turn_class G e1 cB.1 (w2.trans wA) hp hq⟩
/-- all ties of a round are of one class -/
theorem ring_class (G : GT n par dep Ed) {row : List Int} (R : Ring Ed row) {t t' : Int × Int} (h : InR row t) (h' : InR row t') {p q : Int} (hp : Path par t.1 t.2 p) (hq : Path par t'.1 t'.2 q) : Jc par Ed p q := by
  -- the first tie
  obtain ⟨r0, r1, r2, rest, rfl⟩ : ∃ r0 r1 r2 rest, row = r0 :: r1 :: r2 :: rest := by
    have z := R.len
    match row, z with
    | r0 :: r1 :: r2 :: rest, _ => exact ⟨r0, r1, r2, rest, rfl⟩
  have ex : ∀ a b, Ed a b → ∃ v, Path par a b v := fun a b e => by
    obtain ⟨⟨a0, a1⟩, ⟨b0, b1⟩, ne⟩ := G.inn _ _ e
    refine Classical.byContradiction fun k => ?_
    have all : ∀ v, Sub par v a ↔ Sub par v b := fun v => Classical.not_not.mp fun z => k ⟨v, z⟩
    rcases (sub_in G.toTreeP b0 b1 ((all a).mp .refl)).2 with z | z
    · exact ne z
    · rcases (sub_in G.toTreeP a0 a1 ((all b).mpr .refl)).2 with y | y
      · exact ne y.symm
      · omega
  have mid : ∀ (A : List Int) (u w : Int) (B : List Int), r0 :: r1 :: r2 :: rest = A ++ u :: w :: B → ∀ v z, Path par u w v → Path par r0 r1 z → Jc par Ed z v := fun A => by
    induction hl : A.length generalizing A with
    | zero =>
      intro u w B e v z hv hz
      cases List.eq_nil_of_length_eq_zero hl
      cases e
      exact .one ⟨r0, r1, R.chn.1, hz, hv⟩
    | succ k ih =>
      intro u w B e v z hv hz
      have hne : A ≠ [] := fun c => by rw [c] at hl; cases hl
      obtain ⟨A', y, rfl⟩ : ∃ A' y, A = A' ++ [y] := ⟨A.dropLast, A.getLast hne, (List.dropLast_concat_getLast hne).symm⟩
      have e2 : r0 :: r1 :: r2 :: rest = A' ++ y :: u :: (w :: B) := by rw [e]; simp
      have R2 : Ring Ed (A' ++ y :: u :: (w :: B)) := e2 ▸ R
      obtain ⟨x, hx, exw, cl⟩ := ring_turn G R2
      have exq : x = w := by
        rcases hx with ⟨B', h⟩ | ⟨h, _⟩
        · cases h
          rfl
        · cases h
      subst exq
      obtain ⟨s, hs⟩ := ex y u (chn_mid R2.chn)
      have i1 := ih A' (by rw [List.length_append, List.length_singleton] at hl; omega) y u (x :: B) e2 s z hs hz
      exact i1.trans (cl s v hs hv)
  have all : ∀ t, InR (r0 :: r1 :: r2 :: rest) t → ∀ v z, Path par t.1 t.2 v → Path par r0 r1 z → Jc par Ed z v := fun t ht v z hv hz => by
    rcases ht with ⟨A, u, w, B, e, rfl⟩ | ⟨a, b, ea, eb, rfl⟩
    · exact mid A u w B e v z (nrm_path.mp hv) hz
    · cases ea
      have hv := nrm_path.mp hv
      -- the last two
      obtain ⟨A, u, e⟩ : ∃ A u, r0 :: r1 :: r2 :: rest = A ++ [u, b] := by
        have h1 : r0 :: r1 :: r2 :: rest = (r0 :: r1 :: r2 :: rest).dropLast ++ [b] := by
          have z := List.dropLast_concat_getLast (List.cons_ne_nil r0 (r1 :: r2 :: rest))
          rw [List.getLast?_eq_some_getLast (List.cons_ne_nil _ _)] at eb
          rw [← Option.some.inj eb]
          exact z.symm
        have h2 : (r0 :: r1 :: r2 :: rest).dropLast ≠ [] := by simp
        refine ⟨(r0 :: r1 :: r2 :: rest).dropLast.dropLast, (r0 :: r1 :: r2 :: rest).dropLast.getLast h2, ?_⟩
        have z := List.dropLast_concat_getLast h2
        rw [show ∀ (l : List Int) (x : Int), l ++ [x, b] = (l ++ [x]) ++ [b] from fun l x => by simp, z]
        exact h1
      have R2 : Ring Ed (A ++ u :: b :: []) := e ▸ R
      obtain ⟨x, hx, exw, cl⟩ := ring_turn G R2
      have exa : x = r0 := by
        rcases hx with ⟨B', h⟩ | ⟨_, h⟩
        · cases h
        · have z : (A ++ [u, b]).head? = (A ++ [u]).head? := by cases A <;> rfl
          rw [← e] at z
          rw [← z] at h
          cases h
          rfl
      subst exa
      obtain ⟨s, hs⟩ := ex u b (chn_mid R2.chn)
      exact (mid A u b [] e s z hs hz).trans (cl s v hs hv)
  obtain ⟨z, hz⟩ := ex r0 r1 R.chn.1
  exact (all t h p z hp hz).symm.trans (all t' h' q z hq hz)
/-! ### between the ends of a tie -/
/-- a and the bays above it that are not above b, then the first that is -/
theorem up_list (T : TreeP n par dep) {b : Int} (b0 : 0 ≤ b) (b1 : b < (n : Int)) : ∀ (k : Nat) (a : Int), dep a = k → 0 ≤ a → a < (n : Int) → ∃ (A : List Int) (m : Int), (A ++ [m]).head? = some a ∧ Chn (fun x y => (0 ≤ x ∧ x < (n : Int)) ∧ x ≠ 0 ∧ y = par x) (A ++ [m]) ∧ (∀ v ∈ A, Sub par v a ∧ ¬ Sub par v b) ∧ A.Nodup ∧ Sub par m a ∧ Sub par m b ∧
    (∀ v, Sub par v a → ¬ Sub par v b → v ∈ A) ∧ (∀ v, Sub par v a → Sub par v b → Sub par v m) ∧ 0 ≤ m ∧ m < (n : Int) := fun k => by
  induction k with
  | zero =>
    intro a ha a0 a1
    have e : a = 0 := Classical.byContradiction fun ne => by
      have := (T.up a a0 a1 ne).2.2
      omega
    subst e
    have s := sub_root T (dep b) b b0 b1 (Nat.le_refl _)
    refine ⟨[], 0, rfl, trivial, fun v hv => (by cases hv), List.nodup_nil, .refl, s, fun v hv nv => ?_, fun v hv _ => hv, Int.le_refl 0, a1⟩
    rcases (sub_in T a0 a1 hv).2 with z | z
    · rw [z] at nv
      exact absurd s nv
    · rw [T.root] at z
      exact absurd z (Nat.not_lt_zero _)
  | succ k ih =>
    intro a ha a0 a1
    by_cases s : Sub par a b
    · exact ⟨[], a, rfl, trivial, fun v hv => (by cases hv), List.nodup_nil, .refl, s, fun v hv nv => absurd (sub_trans hv s) nv, fun v hv _ => hv, a0, a1⟩
    have ne : a ≠ 0 := fun e => by
      rw [e, T.root] at ha
      cases ha
    obtain ⟨p0, p1, pd⟩ := T.up a a0 a1 ne
    obtain ⟨A, m, h1, h2, h3, h4, h5, h6, h7, h8, h9⟩ := ih (par a) (by omega) p0 p1
    refine ⟨a :: A, m, rfl, ?_, fun v hv => ?_, List.nodup_cons.mpr ⟨fun z => ?_, h4⟩, .step ne h5, h6, fun v hv nv => ?_, fun v hv sv => ?_, h9⟩
    · cases hA : A ++ [m] with
      | nil => simp at hA
      | cons x l =>
        rw [hA] at h1 h2
        cases h1
        show Chn _ (a :: (A ++ [m]))
        rw [hA]
        exact ⟨⟨⟨a0, a1⟩, ne, rfl⟩, h2⟩
    · rcases List.mem_cons.mp hv with z | z
      · rw [z]
        exact ⟨.refl, s⟩
      · exact ⟨.step ne (h3 v z).1, (h3 v z).2⟩
    · rcases (sub_in T p0 p1 (h3 a z).1).2 with y | y
      · rw [← y] at pd
        omega
      · omega
    · rcases (sub_par ne).mp hv with z | z
      · rw [z]
        exact List.mem_cons_self
      · exact List.mem_cons_of_mem _ (h7 v z nv)
    · rcases (sub_par ne).mp hv with z | z
      · rw [z] at sv
        exact absurd sv s
      · exact h8 v z sv
theorem chn_imp {R S : Int → Int → Prop} (k : ∀ a b, R a b → S a b) : ∀ {l : List Int}, Chn R l → Chn S l
  | [], _ => trivial
  | [_], _ => trivial
  | _ :: _ :: _, h => ⟨k _ _ h.1, chn_imp k h.2⟩
/-- the ties up a chain of the tree are ties of the chain -/
theorem up_tie {R : Int → Int → Prop} : ∀ {A : List Int} {m v : Int}, Chn (fun x y => R x y ∧ y = par x) (A ++ [m]) → v ∈ A → ∃ L M, A ++ [m] = L ++ v :: par v :: M
  | [], _, _, _, h => by cases h
  | a :: A, m, v, c, h => by
    cases A with
    | nil =>
      rw [List.mem_singleton.mp h]
      refine ⟨[], [], ?_⟩
      rw [← c.1.2]
      rfl
    | cons b A =>
      rcases List.mem_cons.mp h with z | z
      · rw [z]
        refine ⟨[], A ++ [m], ?_⟩
        rw [← c.1.2]
        rfl
      · obtain ⟨L, M, e⟩ := up_tie (A := b :: A) c.2 z
        exact ⟨a :: L, M, by rw [List.cons_append, e]; rfl⟩
/-- a tie that is none of the tree: a round through it, with all tree ties between its ends -/
theorem tie_ring (G : GT n par dep Ed) {a b : Int} (e : Ed a b) (n1 : par a ≠ b) (n2 : par b ≠ a) : ∃ row, Ring Ed row ∧ InR row (nrm a b) ∧ ∀ v, Path par a b v → InR row (nrm v (par v)) := by
  obtain ⟨⟨a0, a1⟩, ⟨b0, b1⟩, nab⟩ := G.inn _ _ e
  obtain ⟨A, m, h1, h2, h3, h4, h5, h6, h7, h8, m0, m1⟩ := up_list G.toTreeP b0 b1 (dep a) a rfl a0 a1
  obtain ⟨B, m', g1, g2, g3, g4, g5, g6, g7, g8, _, _⟩ := up_list G.toTreeP a0 a1 (dep b) b rfl b0 b1
  have em : m' = m := by
    have s1 := h8 m' g6 g5
    have s2 := g8 m h6 h5
    have hm' := sub_in G.toTreeP m0 m1 s1
    rcases hm'.2 with z | z
    · exact z
    · rcases (sub_in G.toTreeP hm'.1.1 hm'.1.2 s2).2 with y | y
      · exact y.symm
      · omega
  subst em
  have tr : ∀ x y : Int, (0 ≤ x ∧ x < (n : Int)) ∧ x ≠ 0 ∧ y = par x → Ed x y := fun x y ⟨⟨x0, x1⟩, nx, ey⟩ => by
    rw [ey]
    exact G.tree x x0 x1 nx
  have cA := chn_imp tr h2
  have cB : Chn Ed (m' :: B.reverse) := by
    have z := chn_rev G.sym (chn_imp tr g2)
    rw [List.reverse_append] at z
    exact z
  have crow : Chn Ed (A ++ m' :: B.reverse) := by
    cases hB : B.reverse with
    | nil => exact cA
    | cons x l =>
      rw [hB] at cB
      exact chn_app cA cB.1 cB.2
  have nd : (A ++ m' :: B.reverse).Nodup := by
    refine List.nodup_append.mpr ⟨h4, List.nodup_cons.mpr ⟨fun z => ?_, (List.reverse_perm B).nodup_iff.mpr g4⟩, fun x hx y hy exy => ?_⟩
    · exact (g3 m' (List.mem_reverse.mp z)).2 h5
    · subst exy
      rcases List.mem_cons.mp hy with z | z
      · rw [z] at hx
        exact (h3 m' hx).2 h6
      · exact (h3 x hx).2 (g3 x (List.mem_reverse.mp z)).1
  have hhead : (A ++ m' :: B.reverse).head? = some a := by
    cases A with
    | nil => exact h1
    | cons x A => exact h1
  have hlast : (A ++ m' :: B.reverse).getLast? = some b := by
    rw [List.getLast?_append]
    cases B with
    | nil =>
      cases g1
      rfl
    | cons y B =>
      cases g1
      rw [List.reverse_cons, ← List.cons_append, List.getLast?_concat]
      rfl
  have len : 3 ≤ (A ++ m' :: B.reverse).length := by
    rw [List.length_append, List.length_cons, List.length_reverse]
    match A, B, h1, g1, h2, g2 with
    | [], [], h1, g1, _, _ =>
      cases h1
      cases g1
      exact absurd rfl nab
    | [x], [], h1, g1, h2, _ =>
      cases h1
      cases g1
      exact absurd h2.1.2.2.symm n1
    | [], [y], h1, g1, _, g2 =>
      cases h1
      cases g1
      exact absurd g2.1.2.2.symm n2
    | x :: y :: l, B, _, _, _, _ =>
      simp only [List.length_cons]
      omega
    | A, x :: y :: l, _, _, _, _ =>
      simp only [List.length_cons]
      omega
    | [x], [y], _, _, _, _ => exact Nat.le_refl 3
  refine ⟨A ++ m' :: B.reverse, ⟨nd, len, crow, fun x y ex ey => ?_⟩, .inr ⟨a, b, hhead, hlast, nrm_symm a b⟩, fun v hv => ?_⟩
  · rw [hhead] at ex
    rw [hlast] at ey
    cases ex
    cases ey
    exact G.sym _ _ e
  · have c1 := chn_imp (S := fun x y => ((0 ≤ x ∧ x < (n : Int)) ∧ x ≠ 0) ∧ y = par x) (fun x y h => ⟨⟨h.1, h.2.1⟩, h.2.2⟩) h2
    have c2 := chn_imp (S := fun x y => ((0 ≤ x ∧ x < (n : Int)) ∧ x ≠ 0) ∧ y = par x) (fun x y h => ⟨⟨h.1, h.2.1⟩, h.2.2⟩) g2
    by_cases sa : Sub par v a
    · have nb : ¬ Sub par v b := fun sb => hv ⟨fun _ => sb, fun _ => sa⟩
      obtain ⟨L, M, eq⟩ := up_tie c1 (h7 v sa nb)
      refine .inl ⟨L, v, par v, M ++ B.reverse, ?_, rfl⟩
      have z : A ++ m' :: B.reverse = (A ++ [m']) ++ B.reverse := by simp
      rw [z, eq]
      simp
    · have sb : Sub par v b := Classical.byContradiction fun k => hv ⟨fun z => absurd z sa, fun z => absurd z k⟩
      obtain ⟨L, M, eq⟩ := up_tie c2 (g7 v sb sa)
      refine .inl ⟨A ++ M.reverse, par v, v, L.reverse, ?_, nrm_symm _ _⟩
      have z : A ++ m' :: B.reverse = A ++ (B ++ [m']).reverse := by simp
      rw [z, eq]
      simp
end
end Sb

/-! ## MD -/
/-! Labels that are merged; the classes of a web's ties; a class's gate. -/
namespace Sb
/-! ### labels -/
def mrg (c : Int) (S : List Int) (x : Int) : Int := if x ∈ S then c else x
theorem mrg_iff {c : Int} {S : List Int} {x y : Int} (hc : c ∈ S) : mrg c S x = mrg c S y ↔ x = y ∨ (x ∈ S ∧ y ∈ S) := by
  unfold mrg
  by_cases hx : x ∈ S
  · by_cases hy : y ∈ S
    · rw [if_pos hx, if_pos hy]
      exact ⟨fun _ => .inr ⟨hx, hy⟩, fun _ => rfl⟩
    · rw [if_pos hx, if_neg hy]
      refine ⟨fun e => absurd (e ▸ hc) hy, fun h => ?_⟩
      rcases h with h | h
      · exact absurd (h ▸ hx) hy
      · exact absurd h.2 hy
  · by_cases hy : y ∈ S
    · rw [if_neg hx, if_pos hy]
      refine ⟨fun e => absurd (e ▸ hc) hx, fun h => ?_⟩
      rcases h with h | h
      · exact absurd (h ▸ hy) hx
      · exact absurd h.1 hx
    · rw [if_neg hx, if_neg hy]
      exact ⟨.inl, fun h => h.elim id fun z => absurd z.1 hx⟩
section
variable {α : Type}
/-- alike labels: just those that R joins -/
structure Lab (D : α → Prop) (f : α → Int) (R : α → α → Prop) : Prop where
  iff : ∀ x y, D x → D y → (f x = f y ↔ Cn R x y)
  inn : ∀ x y, R x y → D x ∧ D y
  sym : ∀ x y, R x y → R y x
theorem Cn.dom {D : α → Prop} {R : α → α → Prop} (inn : ∀ x y, R x y → D x ∧ D y) {x y : α} (hx : D x) (h : Cn R x y) : D y := by
  cases h with
  | refl => exact hx
  | step _ r => exact (inn _ _ r).2
theorem lab_step {D : α → Prop} {f : α → Int} {R : α → α → Prop} {J : List α} {c : Int} (h : Lab D f R) (hJ : ∀ x ∈ J, D x) (hc : c ∈ J.map f) : Lab D (fun x => mrg c (J.map f) (f x)) (fun x y => R x y ∨ (x ∈ J ∧ y ∈ J)) := by
  have inn : ∀ x y, R x y ∨ (x ∈ J ∧ y ∈ J) → D x ∧ D y := fun x y k => k.elim (h.inn x y) fun z => ⟨hJ _ z.1, hJ _ z.2⟩
  refine ⟨fun x y hx hy => ⟨fun e => ?_, fun k => ?_⟩, inn, fun x y k => k.elim (fun z => .inl (h.sym _ _ z)) fun z => .inr ⟨z.2, z.1⟩⟩
  · have mo : ∀ {a b : α}, Cn R a b → Cn (fun x y => R x y ∨ (x ∈ J ∧ y ∈ J)) a b := fun k => k.mono fun _ _ r => .one (.inl r)
    rcases (mrg_iff hc).mp e with e | ⟨e1, e2⟩
    · exact mo ((h.iff x y hx hy).mp e)
    · obtain ⟨j, hj, ej⟩ := List.mem_map.mp e1
      obtain ⟨i, hi, ei⟩ := List.mem_map.mp e2
      have k1 := mo ((h.iff x j hx (hJ j hj)).mp ej.symm)
      have k2 := mo ((h.iff i y (hJ i hi) hy).mp ei)
      exact (k1.trans (.one (.inr ⟨hj, hi⟩))).trans k2
  · induction k with
    | refl => rfl
    | @step b z kb r ih =>
      have hb := Cn.dom inn hx kb
      refine (ih hb).trans ((mrg_iff hc).mpr ?_)
      rcases r with r | ⟨r1, r2⟩
      · exact .inl ((h.iff b z hb hy).mpr (.one r))
      · exact .inr ⟨List.mem_map.mpr ⟨_, r1, rfl⟩, List.mem_map.mpr ⟨_, r2, rfl⟩⟩
theorem lab_skip {D : α → Prop} {f : α → Int} {R : α → α → Prop} {J : List α} (h : Lab D f R) (hJ : ∀ x ∈ J, D x) (hs : ∀ x ∈ J, ∀ y ∈ J, f x = f y) : Lab D f (fun x y => R x y ∨ (x ∈ J ∧ y ∈ J)) := by
  refine ⟨fun x y hx hy => (h.iff x y hx hy).trans ⟨fun k => k.mono fun _ _ r => .one (.inl r), fun k => k.mono fun a b r => ?_⟩, fun x y k => k.elim (h.inn x y) fun z => ⟨hJ _ z.1, hJ _ z.2⟩, fun x y k => k.elim (fun z => .inl (h.sym _ _ z)) fun z => .inr ⟨z.2, z.1⟩⟩
  rcases r with r | ⟨r1, r2⟩
  · exact .one r
  · exact (h.iff a b (hJ _ r1) (hJ _ r2)).mp (hs a r1 b r2)
theorem Lab.congr {D : α → Prop} {f g : α → Int} {R S : α → α → Prop} (h : Lab D f R) (e : ∀ x, D x → g x = f x) (k : ∀ x y, R x y ↔ S x y) : Lab D g S := by
  have : R = S := funext fun x => funext fun y => propext (k x y)
  subst this
  exact ⟨fun x y hx hy => by rw [e x hx, e y hy]; exact h.iff x y hx hy, h.inn, h.sym⟩
theorem lab_start {D : α → Prop} {f : α → Int} (inj : ∀ x y, D x → D y → f x = f y → x = y) : Lab D f (fun _ _ => False) :=
  ⟨fun x y hx hy => ⟨fun e => inj x y hx hy e ▸ .refl, fun k => by
    cases k with
    | refl => rfl
    | step _ r => exact r.elim⟩, fun _ _ r => r.elim, fun _ _ r => r.elim⟩
/-- one of so many lists holds both -/
def InOne (Js : List (List α)) (x y : α) : Prop := ∃ J ∈ Js, x ∈ J ∧ y ∈ J
theorem inOne_snoc {Js : List (List α)} {J : List α} {x y : α} : (InOne Js x y ∨ (x ∈ J ∧ y ∈ J)) ↔ InOne (Js ++ [J]) x y := by
  constructor
  · rintro (⟨K, hK, h⟩ | h)
    · exact ⟨K, List.mem_append_left _ hK, h⟩
    · exact ⟨J, List.mem_append_right _ (List.mem_singleton.mpr rfl), h⟩
  · rintro ⟨K, hK, h⟩
    rcases List.mem_append.mp hK with hK | hK
    · exact .inl ⟨K, hK, h⟩
    · rw [List.mem_singleton.mp hK] at h
      exact .inr h
theorem inOne_nil {x y : α} : False ↔ InOne ([] : List (List α)) x y := ⟨False.elim, fun ⟨_, h, _⟩ => by cases h⟩
end
/-! ### up from both ends of a tie -/
def climb (above away : List Int) : Nat → Int → Int → List Int
  | 0, _, _ => []
  | k + 1, a, b => if a = b then [] else if away.getD a.toNat 0 < away.getD b.toNat 0 then b :: climb above away k (above.getD b.toNat 0) a else a :: climb above away k (above.getD a.toNat 0) b
section
variable {n : Nat} {par : Int → Int} {dep : Int → Nat} {Ed : Int → Int → Prop}
theorem dep_zero (T : TreeP n par dep) {v : Int} (v0 : 0 ≤ v) (v1 : v < (n : Int)) (e : dep v = 0) : v = 0 :=
  Classical.byContradiction fun ne => by
    have := (T.up v v0 v1 ne).2.2
    omega
theorem path_nil {a v : Int} : ¬ Path par a a v := fun h => h Iff.rfl
theorem path_up (T : TreeP n par dep) {a b v : Int} (a0 : 0 ≤ a) (a1 : a < (n : Int)) (b0 : 0 ≤ b) (b1 : b < (n : Int)) (ne : a ≠ b) (hd : dep b ≤ dep a) : a ≠ 0 ∧ (Path par a b v ↔ v = a ∨ Path par (par a) b v) := by
  have na : a ≠ 0 := fun e => by
    rw [e, T.root] at hd
    exact ne (e.trans (dep_zero T b0 b1 (by omega)).symm)
  have nsab : ¬ Sub par a b := fun s => by
    rcases (sub_in T b0 b1 s).2 with z | z
    · exact ne z
    · omega
  refine ⟨na, ?_⟩
  by_cases e : v = a
  · rw [e]
    refine ⟨fun _ => .inl rfl, fun _ i => nsab (i.mp .refl)⟩
  · have k : Sub par v a ↔ Sub par v (par a) := (sub_par na).trans ⟨fun h => h.elim (fun z => absurd z e) id, .inr⟩
    unfold Path
    rw [k]
    exact ⟨.inr, fun h => h.elim (fun z => absurd z e) id⟩
theorem path_in (T : TreeP n par dep) {a b v : Int} (a0 : 0 ≤ a) (a1 : a < (n : Int)) (b0 : 0 ≤ b) (b1 : b < (n : Int)) (h : Path par a b v) : 0 ≤ v ∧ v < (n : Int) ∧ v ≠ 0 := by
  have k : Sub par v a ∨ Sub par v b := Classical.byContradiction fun g => h ⟨fun s => absurd (.inl s) g, fun s => absurd (.inr s) g⟩
  have nz : v ≠ 0 := fun e => by
    rw [e] at h
    exact h ⟨fun _ => sub_root T _ b b0 b1 (Nat.le_refl _), fun _ => sub_root T _ a a0 a1 (Nat.le_refl _)⟩
  rcases k with k | k
  · have := (sub_in T a0 a1 k).1
    exact ⟨this.1, this.2, nz⟩
  · have := (sub_in T b0 b1 k).1
    exact ⟨this.1, this.2, nz⟩
end
theorem climb_path {n : Nat} {above away : List Int} (T : TreeP n (fun v => above.getD v.toNat 0) (fun v => (away.getD v.toNat 0).toNat)) (nn : ∀ v : Int, 0 ≤ v → v < (n : Int) → 0 ≤ away.getD v.toNat 0) :
    ∀ (k : Nat) (a b : Int), 0 ≤ a → a < (n : Int) → 0 ≤ b → b < (n : Int) → (away.getD a.toNat 0).toNat + (away.getD b.toNat 0).toNat ≤ k → ∀ v, v ∈ climb above away k a b ↔ Path (fun v => above.getD v.toNat 0) a b v
  | 0, a, b, a0, a1, b0, b1, hk, v => by
    have ea := dep_zero T a0 a1 (by show (away.getD a.toNat 0).toNat = 0; omega)
    have eb := dep_zero T b0 b1 (by show (away.getD b.toNat 0).toNat = 0; omega)
    rw [ea, eb]
    exact ⟨fun h => (by cases h), fun h => absurd h path_nil⟩
  | k + 1, a, b, a0, a1, b0, b1, hk, v => by
    have na := nn a a0 a1
    have nb := nn b b0 b1
    unfold climb
    by_cases e : a = b
    · rw [if_pos e, e]
      exact ⟨fun h => (by cases h), fun h => absurd h path_nil⟩
    rw [if_neg e]
    by_cases c : away.getD a.toNat 0 < away.getD b.toNat 0
    · rw [if_pos c]
      obtain ⟨nz, q⟩ := path_up T (v := v) b0 b1 a0 a1 (Ne.symm e) (by show (away.getD a.toNat 0).toNat ≤ (away.getD b.toNat 0).toNat; omega)
      obtain ⟨p0, p1, pd⟩ := T.up b b0 b1 nz
      have pd : (away.getD (above.getD b.toNat 0).toNat 0).toNat + 1 = (away.getD b.toNat 0).toNat := pd
      have ih := climb_path T nn k (above.getD b.toNat 0) a p0 p1 a0 a1 (by omega) v
      rw [List.mem_cons, ih]
      exact q.symm.trans ⟨Path.symm, Path.symm⟩
    · rw [if_neg c]
      obtain ⟨nz, q⟩ := path_up T (v := v) a0 a1 b0 b1 e (by show (away.getD b.toNat 0).toNat ≤ (away.getD a.toNat 0).toNat; omega)
      obtain ⟨p0, p1, pd⟩ := T.up a a0 a1 nz
      have pd : (away.getD (above.getD a.toNat 0).toNat 0).toNat + 1 = (away.getD a.toNat 0).toNat := pd
      have ih := climb_path T nn k (above.getD a.toNat 0) b p0 p1 b0 b1 (by omega) v
      rw [List.mem_cons, ih]
      exact q.symm
/-! ### the program's groups -/
def climbT (above away : List Int) (t : Int × Int) : List Int := climb above away ((away.getD t.1.toNat 0).toNat + (away.getD t.2.toNat 0).toNat) t.1 t.2
def gjoin (above away : List Int) (g : List Int) (t : Int × Int) : List Int := (climbT above away t).map fun v => g.getD v.toNat 0
def manyB (J : List Int) : Bool := J.any fun x => decide (x ≠ J.headD 0)
def gstep (above away : List Int) (g : List Int) (t : Int × Int) : List Int := if manyB (gjoin above away g t) = true then g.map (mrg ((gjoin above away g t).headD 0) (gjoin above away g t)) else g
theorem gstep_len {above away : List Int} {g : List Int} {t : Int × Int} : (gstep above away g t).length = g.length := by
  unfold gstep
  by_cases h : manyB (gjoin above away g t) = true
  · rw [if_pos h, List.length_map]
  · rw [if_neg h]
theorem many_no {J : List Int} (h : ¬ manyB J = true) : ∀ x ∈ J, ∀ y ∈ J, x = y := fun x hx y hy => by
  have q : ∀ z ∈ J, z = J.headD 0 := fun z hz => Classical.byContradiction fun ne => h (List.any_eq_true.mpr ⟨z, hz, decide_eq_true ne⟩)
  rw [q x hx, q y hy]
theorem many_head {J : List Int} (h : manyB J = true) : J.headD 0 ∈ J := by
  cases J with
  | nil => cases h
  | cons x l => exact List.mem_cons_self
def Bay (n : Nat) (v : Int) : Prop := 0 ≤ v ∧ v < (n : Int)
theorem gstep_lab {n : Nat} {above away : List Int} {g : List Int} {t : Int × Int} {R : Int → Int → Prop} (hl : g.length = n) (h : Lab (Bay n) (fun v => g.getD v.toNat 0) R) (hJ : ∀ v ∈ climbT above away t, Bay n v) :
    Lab (Bay n) (fun v => (gstep above away g t).getD v.toNat 0) (fun x y => R x y ∨ (x ∈ climbT above away t ∧ y ∈ climbT above away t)) := by
  unfold gstep
  by_cases c : manyB (gjoin above away g t) = true
  · rw [if_pos c]
    refine (lab_step h hJ (many_head c)).congr (fun v hv => ?_) fun _ _ => Iff.rfl
    have hv2 : v.toNat < g.length := by
      have := hv.1
      have := hv.2
      omega
    rw [List.getD_eq_getElem?_getD, List.getElem?_map, List.getD_eq_getElem?_getD, List.getElem?_eq_getElem hv2]
    rfl
  · rw [if_neg c]
    exact lab_skip h hJ fun x hx y hy => many_no c _ (List.mem_map.mpr ⟨x, hx, rfl⟩) _ (List.mem_map.mpr ⟨y, hy, rfl⟩)
theorem gfold_lab {n : Nat} {above away : List Int} : ∀ (ps : List (Int × Int)) {g : List Int} {R : Int → Int → Prop}, g.length = n → Lab (Bay n) (fun v => g.getD v.toNat 0) R → (∀ t ∈ ps, ∀ v ∈ climbT above away t, Bay n v) →
    (ps.foldl (gstep above away) g).length = n ∧ Lab (Bay n) (fun v => (ps.foldl (gstep above away) g).getD v.toNat 0) (fun x y => R x y ∨ ∃ t ∈ ps, x ∈ climbT above away t ∧ y ∈ climbT above away t)
  | [], g, R, hl, h, _ => ⟨hl, h.congr (fun _ _ => rfl) fun x y => ⟨.inl, fun z => z.elim id fun ⟨_, q, _⟩ => (by cases q)⟩⟩
  | t :: ps, g, R, hl, h, hJ => by
    obtain ⟨q1, q2⟩ := gfold_lab ps (gstep_len.trans hl) (gstep_lab hl h (hJ t List.mem_cons_self)) fun s hs => hJ s (List.mem_cons_of_mem _ hs)
    refine ⟨q1, q2.congr (fun _ _ => rfl) fun x y => ⟨fun z => ?_, fun z => ?_⟩⟩
    · rcases z with (z | z) | ⟨s, hs, z⟩
      · exact .inl z
      · exact .inr ⟨t, List.mem_cons_self, z⟩
      · exact .inr ⟨s, List.mem_cons_of_mem _ hs, z⟩
    · rcases z with z | ⟨s, hs, z⟩
      · exact .inl (.inl z)
      · rcases List.mem_cons.mp hs with e | e
        · rw [e] at z
          exact .inl (.inr z)
        · exact .inr ⟨s, e, z⟩
end Sb

/-! ## ME -/
/-! Classes of ties by rings and by the tree; the bays of a class; its gate. -/
namespace Sb
theorem nrm_or (a b : Int) : nrm a b = (a, b) ∨ nrm a b = (b, a) := by
  unfold nrm
  by_cases h : a ≤ b
  · exact .inl (if_pos h)
  · exact .inr (if_neg h)
theorem nrm_lt {a b : Int} (h : a < b) : nrm a b = (a, b) := if_pos (Int.le_of_lt h)
section
variable {n : Nat} {par : Int → Int} {dep : Int → Nat} {Ed : Int → Int → Prop}
theorem nrm_ed (G : GT n par dep Ed) {a b : Int} (e : Ed a b) : Ed (nrm a b).1 (nrm a b).2 := by
  rcases nrm_or a b with h | h
  · rw [h]
    exact e
  · rw [h]
    exact G.sym _ _ e
theorem inR_ed (G : GT n par dep Ed) {row : List Int} (R : Ring Ed row) {t : Int × Int} (h : InR row t) : Ed t.1 t.2 := by
  rcases h with ⟨A, u, w, B, e, rfl⟩ | ⟨a, b, ea, eb, rfl⟩
  · have c := R.chn
    rw [e] at c
    exact nrm_ed G (chn_mid c)
  · exact nrm_ed G (R.close a b ea eb)
theorem ed_path (G : GT n par dep Ed) {a b : Int} (e : Ed a b) : ∃ v, Path par a b v := by
  obtain ⟨⟨a0, a1⟩, ⟨b0, b1⟩, ne⟩ := G.inn _ _ e
  refine Classical.byContradiction fun k => ?_
  have all : ∀ v, Sub par v a ↔ Sub par v b := fun v => Classical.not_not.mp fun z => k ⟨v, z⟩
  rcases (sub_in G.toTreeP b0 b1 ((all a).mp .refl)).2 with z | z
  · exact ne z
  · rcases (sub_in G.toTreeP a0 a1 ((all b).mpr .refl)).2 with y | y
    · exact ne y.symm
    · omega
/-- on a ring together -/
def OnR (Ed : Int → Int → Prop) (t s : Int × Int) : Prop := ∃ row, Ring Ed row ∧ InR row t ∧ InR row s
/-- the tie above v has just v between its ends -/
theorem path_par (T : TreeP n par dep) {v x : Int} (v0 : 0 ≤ v) (v1 : v < (n : Int)) (nv : v ≠ 0) : Path par v (par v) x ↔ x = v := by
  obtain ⟨p0, p1, pd⟩ := T.up v v0 v1 nv
  have q := (path_up T (v := x) v0 v1 p0 p1 (fun e => by rw [← e] at pd; omega) (by omega)).2
  rw [q]
  exact ⟨fun h => h.elim id fun z => absurd z path_nil, .inl⟩
/-- each tie between whose ends v lies is joined by rings with the tie above v -/
theorem up_on (G : GT n par dep Ed) (z0 : par 0 = 0) {t : Int × Int} (ht : Ed t.1 t.2) (hn : nrm t.1 t.2 = t) {v : Int} (h : Path par t.1 t.2 v) : Cn (OnR Ed) (nrm v (par v)) t := by
  obtain ⟨⟨a0, a1⟩, ⟨b0, b1⟩, ne⟩ := G.inn _ _ ht
  obtain ⟨v0, v1, nv⟩ := path_in G.toTreeP a0 a1 b0 b1 h
  by_cases c1 : par t.1 = t.2
  · have nz : t.1 ≠ 0 := fun e => by
      rw [e] at c1 ne
      exact ne (z0.symm.trans c1)
    have e := (path_par G.toTreeP (x := v) a0 a1 nz).mp (by rw [c1]; exact h)
    rw [e, c1, hn]
    exact .refl
  by_cases c2 : par t.2 = t.1
  · have nz : t.2 ≠ 0 := fun e => by
      rw [e] at c2 ne
      exact ne (c2.symm.trans z0)
    have e := (path_par G.toTreeP (x := v) b0 b1 nz).mp (by rw [c2]; exact h.symm)
    rw [e, c2, nrm_symm, hn]
    exact .refl
  obtain ⟨row, R, i1, i2⟩ := tie_ring G ht c1 c2
  rw [hn] at i1
  exact .one ⟨row, R, i2 v h, i1⟩
theorem OnR.symm {t s : Int × Int} (h : OnR Ed t s) : OnR Ed s t := by
  obtain ⟨row, R, a, b⟩ := h
  exact ⟨row, R, b, a⟩
/-- ties are joined by rings just if what lies between their ends is -/
theorem tie_class (G : GT n par dep Ed) (z0 : par 0 = 0) {t s : Int × Int} (ht : Ed t.1 t.2) (hs : Ed s.1 s.2) (nt : nrm t.1 t.2 = t) (ns : nrm s.1 s.2 = s) {p q : Int} (hp : Path par t.1 t.2 p) (hq : Path par s.1 s.2 q) : Cn (OnR Ed) t s ↔ Jc par Ed p q := by
  constructor
  · intro h
    induction h generalizing q with
    | refl => exact .one ⟨t.1, t.2, ht, hp, hq⟩
    | @step b c _ r ih =>
      obtain ⟨row, R, i1, i2⟩ := r
      have eb := inR_ed G R i1
      obtain ⟨v, hv⟩ := ed_path G eb
      have k := ring_class G R i1 i2 hv hq
      have nb : nrm b.1 b.2 = b := by
        rcases i1 with ⟨A, u, w, B, e, rfl⟩ | ⟨a, b, ea, eb, rfl⟩
        · rcases nrm_or u w with h | h
          · rw [h]
            exact h
          · rw [h, nrm_symm]
            exact h
        · rcases nrm_or b a with h | h
          · rw [h]
            exact h
          · rw [h, nrm_symm]
            exact h
      exact (ih eb nb hv).trans k
  · intro h
    have sy : ∀ {x y : Int × Int}, Cn (OnR Ed) x y → Cn (OnR Ed) y x := fun h => Cn.symm (fun _ _ r => r.symm) h
    have main : ∀ {q : Int}, Jc par Ed p q → Cn (OnR Ed) t (nrm q (par q)) := fun {q} h => by
      induction h with
      | refl => exact sy (up_on G z0 ht nt hp)
      | @step u w _ r ih =>
        obtain ⟨a, b, e, x, y⟩ := r
        have en := nrm_ed G e
        have nn : nrm (nrm a b).1 (nrm a b).2 = nrm a b := by
          rcases nrm_or a b with h | h
          · rw [h]
            exact h
          · rw [h, nrm_symm]
            exact h
        exact ih.trans ((up_on G z0 en nn (nrm_path.mpr x)).trans (sy (up_on G z0 en nn (nrm_path.mpr y))))
    exact (main h).trans (up_on G z0 hs ns hq)
/-! ### the bays of a class -/
/-- t is one of its class with the fewest steps -/
structure Top (n : Nat) (par : Int → Int) (dep : Int → Nat) (Ed : Int → Int → Prop) (t : Int) : Prop where
  t0 : 0 ≤ t
  t1 : t < (n : Int)
  nt : t ≠ 0
  least : ∀ y, Jc par Ed t y → dep t ≤ dep y
theorem jc_in (G : GT n par dep Ed) {t y : Int} (h : Jc par Ed t y) (t0 : 0 ≤ t) (t1 : t < (n : Int)) (nt : t ≠ 0) : 0 ≤ y ∧ y < (n : Int) ∧ y ≠ 0 := by
  cases h with
  | refl => exact ⟨t0, t1, nt⟩
  | step _ r =>
    obtain ⟨a, b, e, _, y⟩ := r
    obtain ⟨⟨a0, a1⟩, ⟨b0, b1⟩, _⟩ := G.inn _ _ e
    exact path_in G.toTreeP a0 a1 b0 b1 y
theorem Top.out (G : GT n par dep Ed) {t : Int} (h : Top n par dep Ed t) : ∀ y, Jc par Ed t y → y ≠ par t := fun y hy e => by
  have k := h.least y hy
  have := (G.up t h.t0 h.t1 h.nt).2.2
  rw [e] at k
  omega
theorem class_par (G : GT n par dep Ed) {t : Int} (h : Top n par dep Ed t) {u : Int} (hu : Jc par Ed t u) : Jc par Ed t (par u) ∨ par u = par t := by
  by_cases c : Jc par Ed t (par u)
  · exact .inl c
  refine .inr ?_
  obtain ⟨u0, u1, nu⟩ := jc_in G hu h.t0 h.t1 h.nt
  have outu : ∀ y, Jc par Ed u y → y ≠ par u := fun y hy e => c (e ▸ hu.trans hy)
  obtain ⟨s1, n1⟩ := class_below G u0 u1 nu outu t hu.symm
  obtain ⟨s2, n2⟩ := class_below G h.t0 h.t1 h.nt (h.out G) u hu
  have e1 := (G.up u u0 u1 nu).2.2
  have e2 := (G.up t h.t0 h.t1 h.nt).2.2
  -- par u above t, par t above u
  have a1 : Sub par (par u) (par t) := by
    rcases (sub_par h.nt).mp s1 with z | z
    · exact absurd z.symm n1
    · exact z
  have a2 : Sub par (par t) (par u) := by
    rcases (sub_par nu).mp s2 with z | z
    · exact absurd z.symm n2
    · exact z
  obtain ⟨p0, p1, _⟩ := G.up t h.t0 h.t1 h.nt
  obtain ⟨q0, q1, _⟩ := G.up u u0 u1 nu
  rcases (sub_in G.toTreeP p0 p1 a1).2 with z | z
  · exact z
  · rcases (sub_in G.toTreeP q0 q1 a2).2 with y | y
    · exact y.symm
    · omega
/-- the bays of the ties of a class -/
theorem class_bays (G : GT n par dep Ed) {t : Int} (h : Top n par dep Ed t) (x : Int) : (∃ a b v, Ed a b ∧ Path par a b v ∧ Jc par Ed t v ∧ (x = a ∨ x = b)) ↔ Jc par Ed t x ∨ x = par t := by
  have one : ∀ a b v, Ed a b → Path par a b v → Jc par Ed t v → Jc par Ed t a ∨ a = par t := fun a b v e hv hj => by
    obtain ⟨⟨a0, a1⟩, ⟨b0, b1⟩, ne⟩ := G.inn _ _ e
    by_cases s : Sub par a b
    · obtain ⟨c, nc, ec, sc⟩ := sub_child s (Ne.symm ne)
      have pc : Path par a b c := fun i => by
        have sa := i.mpr sc
        obtain ⟨⟨c0, c1⟩, k⟩ := sub_in G.toTreeP a0 a1 sa
        have := (G.up c c0 c1 nc).2.2
        rw [ec] at this
        rcases k with k | k
        · rw [k] at this
          omega
        · omega
      have jc : Jc par Ed t c := hj.trans (.one ⟨a, b, e, hv, pc⟩)
      rw [← ec]
      exact class_par G h jc
    · exact .inl (hj.trans (.one ⟨a, b, e, hv, fun i => s (i.mp .refl)⟩))
  constructor
  · rintro ⟨a, b, v, e, hv, hj, rfl | rfl⟩
    · exact one _ b v e hv hj
    · exact one _ a v (G.sym _ _ e) hv.symm hj
  · rintro (k | k)
    · obtain ⟨x0, x1, nx⟩ := jc_in G k h.t0 h.t1 h.nt
      exact ⟨x, par x, x, G.tree x x0 x1 nx, (path_par G.toTreeP x0 x1 nx).mpr rfl, k, .inl rfl⟩
    · exact ⟨t, par t, t, G.tree t h.t0 h.t1 h.nt, (path_par G.toTreeP h.t0 h.t1 h.nt).mpr rfl, .refl, .inr k⟩
/-! ### the gate -/
/-- to the bays above g one comes from bay 0 without a bay that isn't above g -/
theorem up_reach (G : GT n par dep Ed) {x : Int} : ∀ (k : Nat) (g : Int), dep g = k → 0 ≤ g → g < (n : Int) → ¬ Sub par x g → Wk Ed x 0 g
  | 0, g, e, g0, g1, _ => by
    rw [dep_zero G.toTreeP g0 g1 e]
    exact .refl
  | k + 1, g, e, g0, g1, ns => by
    have ng : g ≠ 0 := fun z => by
      rw [z, G.root] at e
      cases e
    obtain ⟨p0, p1, pd⟩ := G.up g g0 g1 ng
    have ih := up_reach G (x := x) k (par g) (by omega) p0 p1 fun s => ns (.step ng s)
    exact .step ih (G.sym _ _ (G.tree g g0 g1 ng)) fun z => ns (z ▸ .refl)
/-- bars w all of the class but itself -/
def Bars (par : Int → Int) (Ed : Int → Int → Prop) (t w : Int) : Prop := ∀ y, (Jc par Ed t y ∨ y = par t) → y ≠ w → ¬ Wk Ed w 0 y
theorem gate_bars (G : GT n par dep Ed) (hn : 0 < n) {t : Int} (h : Top n par dep Ed t) (ng : par t ≠ 0) {w : Int} (hw : Jc par Ed t w ∨ w = par t) : Bars par Ed t w ↔ w = par t := by
  constructor
  · intro k
    refine Classical.byContradiction fun ne => ?_
    have jw := hw.resolve_right ne
    obtain ⟨s, _⟩ := class_below G h.t0 h.t1 h.nt (h.out G) w jw
    obtain ⟨p0, p1, _⟩ := G.up t h.t0 h.t1 h.nt
    refine k (par t) (.inr rfl) (Ne.symm ne) (up_reach G _ _ rfl p0 p1 fun s2 => ?_)
    obtain ⟨w0, w1, _⟩ := jc_in G jw h.t0 h.t1 h.nt
    rcases (sub_in G.toTreeP w0 w1 s).2 with z | z
    · exact ne z.symm
    · rcases (sub_in G.toTreeP p0 p1 s2).2 with y | y
      · exact ne y
      · omega
  · rintro rfl y hy ne hk
    exact gate_shuts G hn h.t0 h.t1 h.nt (h.out G) ng (hy.resolve_right ne) hk
end
end Sb

/-! ## MF -/
/-! All rings: walked from their least bay. -/
namespace Sb
def ringTies (row : List Int) : List (Int × Int) := (row.zip (row.drop 1 ++ row.take 1)).map fun p => nrm p.1 p.2
theorem zip_next {z u w : Int} : ∀ (l : List Int) (x : Int), (u, w) ∈ (x :: l).zip (l ++ [z]) ↔ (∃ A B, x :: l = A ++ u :: w :: B) ∨ ((x :: l).getLast? = some u ∧ w = z)
  | [], x => by
    show (u, w) ∈ [(x, z)] ↔ _
    rw [List.mem_singleton]
    constructor
    · intro h
      cases h
      exact .inr ⟨rfl, rfl⟩
    · rintro (⟨A, B, e⟩ | ⟨e, rfl⟩)
      · have := congrArg List.length e
        simp only [List.length_append, List.length_cons, List.length_nil] at this
        exact absurd this (by omega)
      · cases e
        rfl
  | y :: l, x => by
    show (u, w) ∈ (x, y) :: (y :: l).zip (l ++ [z]) ↔ _
    rw [List.mem_cons, zip_next l y, List.getLast?_cons_cons]
    constructor
    · rintro (h | ⟨A, B, e⟩ | h)
      · cases h
        exact .inl ⟨[], l, rfl⟩
      · exact .inl ⟨x :: A, B, by rw [e]; rfl⟩
      · exact .inr h
    · rintro (⟨A, B, e⟩ | h)
      · cases A with
        | nil =>
          cases e
          exact .inl rfl
        | cons a A =>
          exact .inr (.inl ⟨A, B, (List.cons.inj e).2⟩)
      · exact .inr (.inr h)
theorem ringTies_mem {row : List Int} (h : row ≠ []) {t : Int × Int} : t ∈ ringTies row ↔ InR row t := by
  cases row with
  | nil => exact absurd rfl h
  | cons x l =>
    unfold ringTies
    show t ∈ ((x :: l).zip (l ++ [x])).map _ ↔ _
    constructor
    · intro k
      obtain ⟨⟨u, w⟩, hm, rfl⟩ := List.mem_map.mp k
      rcases (zip_next l x).mp hm with ⟨A, B, e⟩ | ⟨e, rfl⟩
      · exact .inl ⟨A, u, w, B, e, rfl⟩
      · exact .inr ⟨w, u, rfl, e, rfl⟩
    · rintro (⟨A, u, w, B, e, rfl⟩ | ⟨a, b, ea, eb, rfl⟩)
      · exact List.mem_map.mpr ⟨(u, w), (zip_next l x).mpr (.inl ⟨A, B, e⟩), rfl⟩
      · cases ea
        exact List.mem_map.mpr ⟨(b, x), (zip_next l x).mpr (.inr ⟨eb, rfl⟩), rfl⟩
theorem ringTies_turn (a c : Int) (m : List Int) : (ringTies (a :: c :: m)).Perm (ringTies (c :: m ++ [a])) := by
  unfold ringTies
  refine List.Perm.map _ ?_
  show ((a, c) :: (c :: m).zip (m ++ [a])).Perm ((c :: m ++ [a]).zip ((m ++ [a]) ++ [c]))
  rw [List.zip_append (by rw [List.length_append]; rfl)]
  exact List.perm_append_comm (l₁ := [(a, c)])
section
variable {Ed : Int → Int → Prop}
theorem ring_turn1 {a : Int} {l : List Int} (R : Ring Ed (a :: l)) : Ring Ed (l ++ [a]) ∧ ∀ t, InR (l ++ [a]) t ↔ InR (a :: l) t := by
  obtain ⟨c, m, rfl⟩ : ∃ c m, l = c :: m := by
    cases l with
    | nil => exact absurd (show 3 ≤ 1 from R.len) (by decide)
    | cons c m => exact ⟨c, m, rfl⟩
  refine ⟨⟨?_, ?_, ?_, fun x y hx hy => ?_⟩, fun t => ?_⟩
  · exact (List.perm_append_comm (l₁ := [a])).nodup_iff.mp R.nd
  · have := R.len
    rw [List.length_append, List.length_singleton]
    exact this
  · obtain ⟨b, eb⟩ : ∃ b, (c :: m).getLast? = some b := ⟨_, List.getLast?_eq_some_getLast (List.cons_ne_nil _ _)⟩
    have e := R.close a b rfl (by rw [List.getLast?_cons_cons]; exact eb)
    have z := List.dropLast_concat_getLast (List.cons_ne_nil c m)
    rw [List.getLast?_eq_some_getLast (List.cons_ne_nil c m)] at eb
    rw [Option.some.inj eb] at z
    have h2 := R.chn.2
    rw [← z] at h2 ⊢
    rw [List.append_assoc]
    exact chn_app h2 e (show Chn Ed [a] from trivial)
  · rw [List.getLast?_concat] at hy
    cases hy
    cases hx
    exact R.chn.1
  · rw [← ringTies_mem (by simp), ← ringTies_mem (List.cons_ne_nil _ _)]
    exact (ringTies_turn a c m).mem_iff.symm
theorem ring_rot : ∀ (A : List Int) {B : List Int}, Ring Ed (A ++ B) → Ring Ed (B ++ A) ∧ ∀ t, InR (B ++ A) t ↔ InR (A ++ B) t
  | [], B, R => by
    rw [List.append_nil]
    exact ⟨R, fun _ => Iff.rfl⟩
  | a :: A, B, R => by
    obtain ⟨R1, i1⟩ := ring_turn1 (l := A ++ B) R
    rw [List.append_assoc] at R1 i1
    obtain ⟨R2, i2⟩ := ring_rot A R1
    rw [List.append_assoc] at R2 i2
    exact ⟨R2, fun t => (i2 t).trans (i1 t)⟩
theorem least_of : ∀ {l : List Int}, l ≠ [] → ∃ m ∈ l, ∀ x ∈ l, m ≤ x
  | [], h => absurd rfl h
  | [a], _ => ⟨a, List.mem_cons_self, fun x hx => by rw [List.mem_singleton.mp hx]; exact Int.le_refl _⟩
  | a :: b :: l, _ => by
    obtain ⟨m, hm, k⟩ := least_of (List.cons_ne_nil b l)
    by_cases c : a ≤ m
    · refine ⟨a, List.mem_cons_self, fun x hx => ?_⟩
      rcases List.mem_cons.mp hx with z | z
      · rw [z]
        exact Int.le_refl _
      · exact Int.le_trans c (k x z)
    · refine ⟨m, List.mem_cons_of_mem _ hm, fun x hx => ?_⟩
      rcases List.mem_cons.mp hx with z | z
      · rw [z]
        omega
      · exact k x z
/-- its first bay is the least -/
def LeastHd (row : List Int) : Prop := ∀ a l, row = a :: l → ∀ x ∈ l, a < x
theorem ring_least {row : List Int} (R : Ring Ed row) : ∃ r, Ring Ed r ∧ LeastHd r ∧ ∀ t, InR r t ↔ InR row t := by
  have ne : row ≠ [] := fun e => by
    have := R.len
    rw [e] at this
    exact absurd this (by decide)
  obtain ⟨m, hm, k⟩ := least_of ne
  obtain ⟨A, B, e⟩ := List.append_of_mem hm
  rw [e] at R
  obtain ⟨R2, i2⟩ := ring_rot A R
  refine ⟨m :: B ++ A, R2, fun a l el x hx => ?_, fun t => by rw [e]; exact i2 t⟩
  cases el
  have nd := (List.nodup_cons.mp R2.nd).1
  have hx2 : x ∈ row := by
    rw [e]
    rcases List.mem_append.mp hx with z | z
    · exact List.mem_append_right _ (List.mem_cons_of_mem _ z)
    · exact List.mem_append_left _ z
  have h1 := k x hx2
  have h2 : x ≠ m := fun z => nd (z ▸ hx)
  omega
/-! ### the walk over rows -/
/-- how many rows come of one that lacks m bays -/
def rowsMost : Nat → Nat
  | 0 => 1
  | m + 1 => 1 + (m + 1) * rowsMost m
theorem rowsMost_pos : ∀ m, 1 ≤ rowsMost m
  | 0 => Nat.le_refl _
  | m + 1 => Nat.le_add_right _ _
def wSum (n : Nat) (ws : List (List Int)) : Nat := (ws.map fun r => rowsMost (n - r.length)).sum
theorem wSum_app {n : Nat} {a b : List (List Int)} : wSum n (a ++ b) = wSum n a + wSum n b := by
  unfold wSum
  rw [List.map_append, List.sum_append]
theorem wSum_len {n : Nat} : ∀ {ws : List (List Int)}, ws.length ≤ wSum n ws
  | [] => Nat.le_refl _
  | r :: ws => by
    have h1 := rowsMost_pos (n - r.length)
    have h2 := wSum_len (n := n) (ws := ws)
    show ws.length + 1 ≤ rowsMost (n - r.length) + wSum n ws
    omega
/-- a row without a bay twice, along ties, its first bay the least -/
structure RowOK (n : Nat) (Ed : Int → Int → Prop) (row : List Int) : Prop where
  ne : row ≠ []
  nd : row.Nodup
  chn : Chn Ed row
  inn : ∀ x ∈ row, Bay n x
  lst : LeastHd row
structure RInv (n : Nat) (Ed : Int → Int → Prop) (ws : List (List Int)) (Js : List (List (Int × Int))) : Prop where
  rows : ∀ r ∈ ws, RowOK n Ed r
  sound : ∀ J ∈ Js, ∃ row, Ring Ed row ∧ J = ringTies row
  full : ∀ row, Ring Ed row → LeastHd row → ringTies row ∈ Js ∨ ∃ w ∈ ws, w <+: row
/-- the bays that go on from a row -/
def goOn (near : List Int) (row : List Int) : List Int := near.filter fun o => decide (o ∉ row ∧ row.headD 0 < o)
def shutB (near : List Int) (row : List Int) : Bool := near.any fun o => decide (o = row.headD 0 ∧ 2 < row.length)
theorem pigeon : ∀ (ys xs : List Nat), xs.Nodup → (∀ x ∈ xs, x ∈ ys) → xs.length ≤ ys.length
  | [], xs, _, h => by
    cases xs with
    | nil => exact Nat.le_refl _
    | cons x xs => exact absurd (h x List.mem_cons_self) (fun z => by cases z)
  | y :: ys, xs, nd, h => by
    have ih := pigeon ys (xs.erase y) (nd.erase y) fun x hx => by
      have h1 := (nd.mem_erase_iff.mp hx)
      exact (List.mem_cons.mp (h x h1.2)).resolve_left h1.1
    have := List.le_length_erase (l := xs) (a := y)
    rw [List.length_cons]
    omega
theorem goOn_len {n : Nat} {near row : List Int} (hnd : near.Nodup) (hin : ∀ o ∈ near, Bay n o) (h : RowOK n Ed row) : (goOn near row).length + row.length ≤ n := by
  have nd : (goOn near row ++ row).Nodup := List.nodup_append.mpr ⟨hnd.filter _, h.nd, fun x hx y hy e => by
    have := (of_decide_eq_true (List.mem_filter.mp hx).2).1
    exact this (e ▸ hy)⟩
  have all : ∀ x ∈ goOn near row ++ row, Bay n x := fun x hx => (List.mem_append.mp hx).elim (fun z => hin x (List.mem_filter.mp z).1) (h.inn x)
  have k : ∀ {l : List Int}, l.Nodup → (∀ x ∈ l, Bay n x) → l.length ≤ n := fun {l} nd all => by
    have q : (l.map Int.toNat).Nodup := List.pairwise_map.mpr (List.Pairwise.imp_of_mem (fun {a b} ha hb ne e => by
      have h1 := all a ha
      have h2 := all b hb
      exact ne (by have := h1.1; have := h2.1; omega)) nd)
    have z := pigeon (List.range n) (l.map Int.toNat) q fun x hx => by
      obtain ⟨y, hy, rfl⟩ := List.mem_map.mp hx
      have h1 := all y hy
      have := h1.1
      have := h1.2
      exact List.mem_range.mpr (by omega)
    rw [List.length_map, List.length_range] at z
    exact z
  have z := k nd all
  rw [List.length_append] at z
  exact z
theorem grow_sum {n : Nat} {near row : List Int} (hnd : near.Nodup) (hin : ∀ o ∈ near, Bay n o) (h : RowOK n Ed row) : wSum n ((goOn near row).map fun o => row ++ [o]) + 1 ≤ rowsMost (n - row.length) := by
  have hl := goOn_len hnd hin h
  have e : wSum n ((goOn near row).map fun o => row ++ [o]) = (goOn near row).length * rowsMost (n - (row.length + 1)) := by
    unfold wSum
    rw [List.map_map]
    have : ((fun r : List Int => rowsMost (n - r.length)) ∘ fun o => row ++ [o]) = fun _ => rowsMost (n - (row.length + 1)) := funext fun o => by
      show rowsMost (n - (row ++ [o]).length) = _
      rw [List.length_append]
      rfl
    rw [this, List.map_const', List.sum_replicate_nat]
  rw [e]
  by_cases c : n - row.length = 0
  · have z : (goOn near row).length = 0 := by omega
    rw [z, Nat.zero_mul]
    exact rowsMost_pos _
  · obtain ⟨m, hm⟩ : ∃ m, n - row.length = m + 1 := ⟨n - row.length - 1, by omega⟩
    have e2 : n - (row.length + 1) = m := by omega
    rw [hm, e2]
    show _ + 1 ≤ 1 + (m + 1) * rowsMost m
    have := Nat.mul_le_mul_right (rowsMost m) (show (goOn near row).length ≤ m + 1 by omega)
    omega
theorem chn_snoc {l : List Int} {b x : Int} (h : Chn Ed l) (e : l.getLast? = some b) (r : Ed b x) : Chn Ed (l ++ [x]) := by
  have ne : l ≠ [] := fun z => by rw [z] at e; cases e
  have z := List.dropLast_concat_getLast ne
  rw [List.getLast?_eq_some_getLast ne] at e
  rw [Option.some.inj e] at z
  rw [← z] at h ⊢
  rw [List.append_assoc]
  exact chn_app h r (show Chn Ed [x] from trivial)
/-- one row is taken off and looked at -/
theorem rinv_step {n : Nat} {ws : List (List Int)} {row : List Int} {Js : List (List (Int × Int))} {near : List Int} {b : Int} (I : RInv n Ed (ws ++ [row]) Js) (hb : row.getLast? = some b) (hn : ∀ o, o ∈ near ↔ Ed b o) (inn : ∀ x y, Ed x y → Bay n x ∧ Bay n y) :
    RInv n Ed (ws ++ (goOn near row).map fun o => row ++ [o]) (Js ++ if shutB near row = true then [ringTies row] else []) := by
  have ok := I.rows row (List.mem_append_right _ (List.mem_singleton.mpr rfl))
  obtain ⟨h, l, el⟩ : ∃ h l, row = h :: l := by
    cases row with
    | nil => exact absurd rfl ok.ne
    | cons h l => exact ⟨h, l, rfl⟩
  have hd : row.headD 0 = h := by rw [el]; rfl
  have hd2 : row.head? = some h := by rw [el]; rfl
  refine ⟨fun r hr => ?_, fun J hJ => ?_, fun r R L => ?_⟩
  · rcases List.mem_append.mp hr with z | z
    · exact I.rows r (List.mem_append_left _ z)
    · obtain ⟨o, ho, rfl⟩ := List.mem_map.mp z
      obtain ⟨o1, o2⟩ := List.mem_filter.mp ho
      obtain ⟨o3, o4⟩ := of_decide_eq_true o2
      have e := (hn o).mp o1
      refine ⟨by simp, List.nodup_append.mpr ⟨ok.nd, (List.nodup_cons.mpr ⟨(fun z => by cases z), List.nodup_nil⟩), fun x hx y hy e => ?_⟩, chn_snoc ok.chn hb e, fun x hx => ?_, fun a m em x hx => ?_⟩
      · rw [List.mem_singleton.mp hy] at e
        exact o3 (e ▸ hx)
      · rcases List.mem_append.mp hx with z | z
        · exact ok.inn x z
        · rw [List.mem_singleton.mp z]
          exact (inn _ _ e).2
      · rw [el] at em
        cases em
        rcases List.mem_append.mp hx with z | z
        · exact ok.lst h l el x z
        · rw [List.mem_singleton.mp z, ← hd]
          exact o4
  · rcases List.mem_append.mp hJ with z | z
    · exact I.sound J z
    · by_cases c : shutB near row = true
      · rw [if_pos c] at z
        rw [List.mem_singleton.mp z]
        obtain ⟨o, o1, o2⟩ := List.any_eq_true.mp c
        obtain ⟨o3, o4⟩ := of_decide_eq_true o2
        refine ⟨row, ⟨ok.nd, o4, ok.chn, fun x y hx hy => ?_⟩, rfl⟩
        rw [hb] at hy
        rw [hd2] at hx
        cases hx
        cases hy
        rw [hd] at o3
        rw [← o3]
        exact (hn o).mp o1
      · rw [if_neg c] at z
        cases z
  · rcases I.full r R L with z | ⟨w, hw, pw⟩
    · exact .inl (List.mem_append_left _ z)
    · rcases List.mem_append.mp hw with z | z
      · exact .inr ⟨w, List.mem_append_left _ z, pw⟩
      · rw [List.mem_singleton.mp z] at pw
        obtain ⟨B, eB⟩ := pw
        cases B with
        | nil =>
          rw [List.append_nil] at eB
          subst eB
          have c : shutB near row = true := List.any_eq_true.mpr ⟨h, (hn h).mpr (R.close h b hd2 hb), decide_eq_true ⟨hd.symm, R.len⟩⟩
          rw [if_pos c]
          exact .inl (List.mem_append_right _ (List.mem_singleton.mpr rfl))
        | cons x B =>
          subst eB
          refine .inr ⟨row ++ [x], List.mem_append_right _ (List.mem_map.mpr ⟨x, List.mem_filter.mpr ⟨(hn x).mpr ?_, decide_eq_true ⟨?_, ?_⟩⟩, rfl⟩), B, by simp⟩
          · have z := List.dropLast_concat_getLast ok.ne
            rw [List.getLast?_eq_some_getLast ok.ne] at hb
            rw [Option.some.inj hb] at z
            have c := R.chn
            rw [← z, List.append_assoc] at c
            exact chn_mid c
          · intro hx
            exact (List.nodup_append.mp R.nd).2.2 x hx x List.mem_cons_self rfl
          · rw [hd]
            exact L h (l ++ x :: B) (by rw [el]; rfl) x (List.mem_append_right _ List.mem_cons_self)
end
end Sb

/-! ## MP -/
/-! A walk that never turns back, along bays of two ties, from a bay of another number: no directed tie comes twice. -/
namespace Sb
structure Stp (row : Int → List Int) (e e' : Int × Int) : Prop where
  at_ : e'.1 = e.2
  two : (row e.2).length = 2
  back : e.1 ∈ row e.2
  on : e'.2 ∈ row e.2
  ne : e'.2 ≠ e.1
inductive Orb (row : Int → List Int) (s : Int × Int) : List (Int × Int) → Prop
  | one : Orb row s [s]
  | more {e e' : Int × Int} {l : List (Int × Int)} : Orb row s (e :: l) → Stp row e e' → Orb row s (e' :: e :: l)
theorem two_only {l : List Int} (h : l.length = 2) {a b c : Int} (ha : a ∈ l) (hb : b ∈ l) (hc : c ∈ l) (na : a ≠ c) (nb : b ≠ c) : a = b := by
  match l, h with
  | [x, y], _ =>
    simp only [List.mem_cons, List.not_mem_nil, or_false] at ha hb hc
    omega
theorem stp_inj {row : Int → List Int} {e f g : Int × Int} (h : Stp row e g) (k : Stp row f g) : e = f := by
  have h2 : e.2 = f.2 := h.at_.symm.trans k.at_
  have kb := k.back
  have ko := k.on
  rw [← h2] at kb ko
  exact Prod.ext (two_only h.two h.back kb h.on h.ne.symm k.ne.symm) h2
theorem orb_pre {row : Int → List Int} {s x : Int × Int} : ∀ {l : List (Int × Int)}, Orb row s l → x ∈ l → x = s ∨ ∃ y, y ∈ l.tail ∧ Stp row y x
  | _, .one, h => .inl (List.mem_singleton.mp h)
  | _, .more (e := e) (e' := e') (l := l) o st, h => by
    rcases List.mem_cons.mp h with z | z
    · rw [z]
      exact .inr ⟨e, List.mem_cons_self, st⟩
    · rcases orb_pre o z with w | ⟨y, hy, k⟩
      · exact .inl w
      · exact .inr ⟨y, List.mem_cons_of_mem _ hy, k⟩
theorem orb_nodup {row : Int → List Int} {s : Int × Int} (hs : (row s.1).length ≠ 2) : ∀ {l : List (Int × Int)}, Orb row s l → l.Nodup
  | _, .one => List.nodup_cons.mpr ⟨(fun z => by cases z), List.nodup_nil⟩
  | _, .more (e := e) (e' := e') (l := l) o st => by
    have nd := orb_nodup hs o
    refine List.nodup_cons.mpr ⟨fun z => ?_, nd⟩
    rcases orb_pre o z with w | ⟨y, hy, k⟩
    · refine hs ?_
      rw [← w, st.at_]
      exact st.two
    · have e1 := stp_inj k st
      rw [e1] at hy
      exact (List.nodup_cons.mp nd).1 hy
theorem orb_len {row : Int → List Int} {s : Int × Int} {m : Nat} (hs : (row s.1).length ≠ 2) {l : List (Int × Int)} (o : Orb row s l) (hin : ∀ e ∈ l, Bay m e.1 ∧ Bay m e.2) : l.length ≤ m * m := by
  have q := pigeon (List.range (m * m)) (l.map fun e => e.1.toNat * m + e.2.toNat) (List.pairwise_map.mpr (List.Pairwise.imp_of_mem (fun {a b} ha hb ne e => by
    obtain ⟨⟨a0, a1⟩, ⟨b0, b1⟩⟩ := hin a ha
    obtain ⟨⟨c0, c1⟩, ⟨d0, d1⟩⟩ := hin b hb
    have h1 : a.2.toNat < m := by omega
    have h2 : b.2.toNat < m := by omega
    have e1 : a.1.toNat = b.1.toNat := by
      have x1 : (a.1.toNat * m + a.2.toNat) / m = a.1.toNat := by
        rw [Nat.mul_comm, Nat.mul_add_div (by omega), Nat.div_eq_of_lt h1, Nat.add_zero]
      have x2 : (b.1.toNat * m + b.2.toNat) / m = b.1.toNat := by
        rw [Nat.mul_comm, Nat.mul_add_div (by omega), Nat.div_eq_of_lt h2, Nat.add_zero]
      rw [← x1, ← x2, e]
    rw [e1] at e
    exact ne (Prod.ext (by omega) (by omega))) (orb_nodup hs o))) fun x hx => by
      obtain ⟨a, ha, rfl⟩ := List.mem_map.mp hx
      obtain ⟨⟨a0, a1⟩, ⟨b0, b1⟩⟩ := hin a ha
      refine List.mem_range.mpr ?_
      have h1 : a.1.toNat + 1 ≤ m := by omega
      have h2 := Nat.mul_le_mul_right m h1
      rw [Nat.add_mul] at h2
      omega
  rw [List.length_map, List.length_range] at q
  exact q
end Sb

/-! ## U -/
/-! Branches that are known. -/
namespace Sb
theorem iteC {c : Bool} {A B : Prop} (hc : c = false) (h : B) : if c = true then A else B := by
  rw [hc, if_neg Bool.false_ne_true]
  exact h
theorem iteD {c : Bool} {A B : Prop} (hc : c = true) (h : A) : if c = true then A else B := by
  rw [if_pos hc]
  exact h
end Sb

/-! ## D32 -/
/-! The program's defs over webs: rows, steps, is_web. -/
namespace Sb
open PySem PySem.Spec PyProof.Rows L2
abbrev sWhole : Stmt := top 4
abbrev sRows : Stmt := top 5
abbrev sSteps : Stmt := top 6
section
variable {X : Cx}
def rAppN : V → List V → Hp → VK → Prop := fun x vs H Q => ∃ l xs y, x = .ref l ∧ vs = [y] ∧ H l = some (.lst xs) ∧ xs.length < sizeLine ∧ ∀ H', But l H H' → H' l = some (.lst (xs ++ [y])) → Q .non H'
theorem mt_appendL : MtM X "list.append" rAppN := by
  intro pins s σ H x vs v us Q I rx rv h
  obtain ⟨l, xs, y, a1, a2, a3, a4, q⟩ := h
  exact mt_append pins s σ H x vs v us Q I rx rv ⟨l, xs, y, a1, a2, a3, a4, q _ but_upd upd_same⟩
end
theorem same_but {H0 H H' : Hp} {p : Addr} (s : Same H0 H) (n : H0 p = none) (b : But p H H') : Same H0 H' := fun c o h => b c o (ne_of_none h n) (s c o h)
theorem sqT_same {K : PySem.W.Frag} {H H' : Hp} {a : Addr} {xs : List V} (e : Same H H') (h : SqT K H a xs) : SqT K H' a xs := by
  rcases h with (h | ⟨o, h⟩) | h
  · exact .inl (.inl (e _ _ h))
  · exact .inl (.inr ⟨o, e _ _ h⟩)
  · exact .inr h
/-! ### rows of lists -/
def app (rss : List (List Int)) (i : Nat) (x : Int) : List (List Int) := rss.set i (rss.getD i [] ++ [x])
theorem app_len (rss : List (List Int)) (i : Nat) (x : Int) : (app rss i x).length = rss.length := List.length_set
theorem setD_self {α : Type} {l : List α} {i : Nat} {x d : α} (h : i < l.length) : (l.set i x).getD i d = x := by
  rw [List.getD_eq_getElem?_getD, List.getElem?_set_self h]
  rfl
theorem setD_ne {α : Type} {l : List α} {i j : Nat} {x d : α} (h : i ≠ j) : (l.set i x).getD j d = l.getD j d := by
  rw [List.getD_eq_getElem?_getD, List.getElem?_set_ne h, ← List.getD_eq_getElem?_getD]
structure RowsL (H : Hp) (l : Addr) (ps : List Addr) (rss : List (List Int)) : Prop where
  at_ : H l = some (.lst (ps.map V.ref))
  len : ps.length = rss.length
  nd : ps.Nodup
  out : l ∉ ps
  row : ∀ (i : Nat) (p : Addr), ps[i]? = some p → H p = some (.lst ((rss.getD i []).map V.int))
theorem RowsL.same {H H' : Hp} {l : Addr} {ps : List Addr} {rss : List (List Int)} (h : RowsL H l ps rss) (s : Same H H') : RowsL H' l ps rss := ⟨s _ _ h.at_, h.len, h.nd, h.out, fun i p e => s _ _ (h.row i p e)⟩
theorem RowsL.app {H H' : Hp} {l p : Addr} {ps : List Addr} {rss : List (List Int)} {i : Nat} {x : Int} (h : RowsL H l ps rss) (hi : ps[i]? = some p) (b : But p H H') (hp : H' p = some (.lst ((rss.getD i [] ++ [x]).map V.int))) : RowsL H' l ps (app rss i x) := by
  have hl : i < rss.length := by
    rw [← h.len]
    exact (List.getElem?_eq_some_iff.mp hi).1
  refine ⟨b _ _ (fun z => h.out (by rw [z]; exact List.mem_of_getElem? hi)) h.at_, by rw [app_len]; exact h.len, h.nd, h.out, fun j q e => ?_⟩
  by_cases hj : j = i
  · subst hj
    rw [hi] at e
    cases e
    rw [hp]
    unfold Sb.app
    rw [setD_self hl]
  · have hq : q ≠ p := fun z => hj (by rw [z] at e; exact nd_ix h.nd e hi)
    rw [b _ _ hq (h.row j q e)]
    unfold Sb.app
    rw [setD_ne (Ne.symm hj)]
theorem RowsL.get {H : Hp} {l : Addr} {ps : List Addr} {rss : List (List Int)} (h : RowsL H l ps rss) {i : Int} (h0 : 0 ≤ i) (h1 : i < (rss.length : Int)) : ∃ p, ps[i.toNat]? = some p ∧ atI (ps.map V.ref) i = some (.ref p) := by
  have hl : i.toNat < ps.length := by rw [h.len]; omega
  exact ⟨ps[i.toNat], by simp [hl], at_of (j := i.toNat) (by omega) (by simp [hl])⟩
/-- the tuple of ties -/
def Ties (K : PySem.W.Frag) (H : Hp) (t : Addr) (ts : List (Int × Int)) : Prop := ∃ qs : List Addr, SqT K H t (qs.map V.ref) ∧ qs.length = ts.length ∧ ∀ (i : Nat) (q : Addr) (a b : Int), qs[i]? = some q → ts[i]? = some (a, b) → SqT K H q [.int a, .int b]
theorem Ties.same {K : PySem.W.Frag} {H H' : Hp} {t : Addr} {ts : List (Int × Int)} (h : Ties K H t ts) (s : Same H H') : Ties K H' t ts := by
  obtain ⟨qs, h1, h2, h3⟩ := h
  exact ⟨qs, sqT_same s h1, h2, fun i q a b e1 e2 => sqT_same s (h3 i q a b e1 e2)⟩
/-- a web as it stands: its n, its ties -/
def WebAt (K : PySem.W.Frag) (H : Hp) (v : V) (n : Int) (ts : List (Int × Int)) : Prop := ∃ a t, v = .ref a ∧ SqT K H a [.int n, .ref t] ∧ Ties K H t ts
theorem WebAt.same {K : PySem.W.Frag} {H H' : Hp} {v : V} {n : Int} {ts : List (Int × Int)} (h : WebAt K H v n ts) (s : Same H H') : WebAt K H' v n ts := by
  obtain ⟨a, t, e, h1, h2⟩ := h
  exact ⟨a, t, e, sqT_same s h1, h2.same s⟩
def tieIn (n : Int) (t : Int × Int) : Prop := 0 ≤ t.1 ∧ t.1 < n ∧ 0 ≤ t.2 ∧ t.2 < n
def addTie (r : List (List Int)) (t : Int × Int) : List (List Int) := app (app r t.1.toNat t.2) t.2.toNat t.1
def rowsOf (n : Nat) (ts : List (Int × Int)) : List (List Int) := ts.foldl addTie (List.replicate n [])
theorem fold_len : ∀ (ts : List (Int × Int)) (r : List (List Int)), (ts.foldl addTie r).length = r.length
  | [], _ => rfl
  | t :: ts, r => by
    rw [List.foldl_cons, fold_len ts]
    unfold addTie
    rw [app_len, app_len]
theorem rowsOf_len (n : Nat) (ts : List (Int × Int)) : (rowsOf n ts).length = n := by
  unfold rowsOf
  rw [fold_len, List.length_replicate]
theorem take_more {α : Type} : ∀ {l : List α} {i : Nat} {x : α}, l[i]? = some x → l.take (i + 1) = l.take i ++ [x]
  | [], i, x, h => by simp at h
  | a :: l, 0, x, h => by
    have e : a = x := Option.some.inj h
    subst e
    rfl
  | a :: l, i + 1, x, h => by
    have ih := take_more (l := l) (i := i) (x := x) h
    show a :: l.take (i + 1) = a :: l.take i ++ [x]
    rw [ih]
    rfl
theorem rowsOf_more {n : Nat} {ts : List (Int × Int)} {i : Nat} {t : Int × Int} (h : ts[i]? = some t) : rowsOf n (ts.take (i + 1)) = addTie (rowsOf n (ts.take i)) t := by
  unfold rowsOf
  rw [take_more h, List.foldl_append]
  rfl
theorem app_small {r : List (List Int)} {m i : Nat} {x : Int} (h : ∀ k, (r.getD k []).length ≤ m) (k : Nat) : ((app r i x).getD k []).length ≤ m + 1 := by
  unfold app
  by_cases hk : i = k
  · subst hk
    by_cases hl : i < r.length
    · rw [setD_self hl, List.length_append, List.length_singleton]
      exact Nat.succ_le_succ (h i)
    · rw [List.getD_eq_getElem?_getD, List.getElem?_eq_none (by rw [List.length_set]; omega)]
      exact Nat.zero_le _
  · rw [setD_ne hk]
    exact Nat.le_succ_of_le (h k)
theorem rowsOf_small (n : Nat) (ts : List (Int × Int)) : ∀ (i k : Nat), ((rowsOf n (ts.take i)).getD k []).length ≤ 2 * i
  | 0, k => by
    rw [List.take_zero]
    unfold rowsOf
    rw [List.foldl_nil, List.getD_eq_getElem?_getD, List.getElem?_replicate]
    split <;> exact Nat.le_refl 0
  | i + 1, k => by
    cases h : ts[i]? with
    | none =>
      have e : ts.length ≤ i := List.getElem?_eq_none_iff.mp h
      have z := rowsOf_small n ts i k
      rw [List.take_of_length_le e] at z
      rw [List.take_of_length_le (by omega)]
      omega
    | some t =>
      rw [rowsOf_more h]
      unfold addTie
      exact app_small (app_small fun k => rowsOf_small n ts i k) k
def spRows (K : PySem.W.Frag) : Sp := fun vs H Q _ => ∃ (v : V) (n : Nat) (ts : List (Int × Int)), vs = [v] ∧ WebAt K H v n ts ∧ n ≤ 1000 ∧ ts.length ≤ 100000 ∧ (∀ t ∈ ts, tieIn n t) ∧ ∀ l ps H', Same H H' → H l = none → (∀ p ∈ ps, H p = none) → RowsL H' l ps (rowsOf n ts) → Q (.ref l) H'
structure WebTxt (mg : Str → Option Value) : Prop where
  len : mg "len" = none
  range : mg "range" = none
  isinstance : mg "isinstance" = none
  int : mg "int" = none
  bool : mg "bool" = none
  tuple : mg "tuple" = none
  all : mg "all" = none
  min : mg "min" = none
section
variable {P : Program} {w : World} {K : PySem.W.Frag} {mg : Str → Option Value} {base : Heap}
abbrev scRowsN : List Str := ["web", "n", "ties", "rows", "a", "b", "_"]
abbrev scRowsS : Scope := defScope sRows
theorem scRows : FnScope ["web", "n", "ties", "rows", "a", "b", "_"] ["web"] (defScope sRows) := ⟨rfl, rfl, rfl, by decide +kernel, rfl, by decide +kernel, by decide +kernel⟩
theorem ok_rows {f : Addr} {fd : FuncData} (F : FnP K "rows_of" sRows f fd) (T : WebTxt mg) : FnOk P w K mg base CX0 1 f fd ["web"] (spRows K) := by
  refine ok0 F scRows (fun vs H Q E h => ?_) (fun cdv A outer s H vs Q E hr h => ?_)
  · obtain ⟨v, n, ts, rfl, _⟩ := h
    rfl
  · obtain ⟨v, n, ts, rfl, ⟨wa, wt, rfl, hw, hT⟩, hn, htl, hts, q⟩ := h
    refine ⟨_, (pss_cons (ps_asg (pv 0) (pg_tup (by rfl) (pgs_cons (pg_name (i := 1) scRows.nd rfl (Or.inl rfl)) (pgs_cons (pg_name (i := 2) scRows.nd rfl (Or.inl rfl)) pgs_nil))))
    (pss_cons (ps_setLc (i := 3) (own := [("_", 6)]) (g := gName 6) (by rfl) scRows.nd rfl rfl (sw_true rfl rfl rfl (by decide +kernel)) (pi_range1 (by rfl) T.range (pa_cons (pv 1) pa_nil)) (blkOk_by (own := [("_", 6)]) (N := scRowsN) (sc := scRowsS) (by decide +kernel)) (fun _ _ _ _ _ => pg_name (i := 6) scRows.nd rfl (Or.inl rfl)) (fun _ _ _ _ _ => pts_nil) (fun _ _ _ _ _ => (pe_lstL pa_nil)))
    (pss_cons (ps_for PassesOwn.never rfl (pi_tup (pv 2)) (pg_tup (by rfl) (pgs_cons (pg_name (i := 4) scRows.nd rfl (Or.inl rfl)) (pgs_cons (pg_name (i := 5) scRows.nd rfl (Or.inl rfl)) pgs_nil)))
      (pss_cons (ps_expr (pe_bm PySem.F.plainAttrs_list PySem.F.slot_list_append PySem.F.type_list_append mt_appendL (pe_ix ix_list (pv 3) (pv 4) (fun _ _ => rfl)) (pa_cons (pv 5) pa_nil)))
    (pss_one (ps_expr (pe_bm PySem.F.plainAttrs_list PySem.F.slot_list_append PySem.F.type_list_append mt_appendL (pe_ix ix_list (pv 3) (pv 5) (fun _ _ => rfl)) (pa_cons (pv 4) pa_nil))))))
    (pss_one (ps_ret (pv 3)))))), ?_⟩
    refine ⟨_, rfl, wa, _, rfl, hw, rfl, _, _, rfl, _, _, rfl, rfl, ?_⟩
    refine ⟨_, rfl, n, rfl, by omega, by omega, fun D hD => lc_range (lo := 0) (n := (n : Int).toNat) (fun i H' => ∃ ps : List Addr, Same H H' ∧ H' D = some (.lst (ps.map V.ref)) ∧ ps.length = i ∧ ps.Nodup ∧ ∀ p ∈ ps, H p = none ∧ p ≠ D ∧ H' p = some (.lst []))
      ⟨[], same_upd hD, upd_same, rfl, List.nodup_nil, fun p hp => by cases hp⟩ ?_ ?_⟩
    · rintro i H' hi ⟨ps, S, e, hl, nd, hp⟩
      refine ⟨rfl, by show 0 ≤ sizeLine; decide, fun p H2 n2 s2 h2 => ⟨ps.map V.ref, s2 _ _ e, by rw [List.length_map, hl]; exact small1000 (by omega), ps ++ [p], fun b o hb => by rw [upd_ne (ne_of_none hb hD)]; exact s2 _ _ (S _ _ hb), by rw [upd_same, List.map_append]; rfl, by rw [List.length_append, hl]; rfl, ?_, fun p' hp' => ?_⟩⟩
      · refine List.nodup_append.mpr ⟨nd, by simp, fun a ha b hb => ?_⟩
        rw [List.mem_singleton.mp hb]
        exact ne_of_none (hp a ha).2.2 n2
      · have nDp : p ≠ D := (ne_of_none e n2).symm
        rcases List.mem_append.mp hp' with h | h
        · obtain ⟨h1, h3, h4⟩ := hp p' h
          exact ⟨h1, h3, by rw [upd_ne h3]; exact s2 _ _ h4⟩
        · rw [List.mem_singleton.mp h]
          exact ⟨S.free n2, nDp, by rw [upd_ne nDp]; exact h2⟩
    rintro H1 ⟨ps, S, e, hl, nd, hp⟩
    have hl : ps.length = n := by rw [hl]; omega
    have nDp : D ∉ ps := fun z => (hp D z).2.1 rfl
    have R0 : RowsL H1 D ps (rowsOf n []) := ⟨e, by rw [hl, rowsOf_len], nd, nDp, fun i p hi => by
      rw [(hp p (List.mem_of_getElem? hi)).2.2]
      have z : (rowsOf n []).getD i [] = [] := by
        unfold rowsOf
        rw [List.foldl_nil, List.getD_eq_getElem?_getD, List.getElem?_replicate]
        split <;> rfl
      rw [z]
      rfl⟩
    obtain ⟨qs, hq1, hq2, hq3⟩ := hT
    refine ⟨_, rfl, wt, rfl, ⟨_, sqT_same S hq1⟩, for_tup (K := K) (a := wt) (xs := qs.map V.ref) (fun i σ H' => (∃ u v x, σ = [some (.ref wa), some (.int n), some (.ref wt), some (.ref D), u, v, x]) ∧ Same H H' ∧ RowsL H' D ps (rowsOf n (ts.take i))) ⟨⟨none, none, none, rfl⟩, S, by rw [List.take_zero]; exact R0⟩ (fun i σ H' _ ⟨_, S', _⟩ => sqT_same S' hq1) ?_ ?_⟩
    · rintro i y σ H' hi ⟨⟨u, v, x, rfl⟩, S', R⟩
      rw [List.getElem?_map] at hi
      obtain ⟨qa, hqa, rfl⟩ : ∃ qa, qs[i]? = some qa ∧ y = V.ref qa := by
        cases eq : qs[i]? with
        | none => rw [eq] at hi; cases hi
        | some z => rw [eq] at hi; exact ⟨z, rfl, (Option.some.inj hi).symm⟩
      have hit : i < ts.length := by rw [← hq2]; exact (List.getElem?_eq_some_iff.mp hqa).1
      obtain ⟨a, b, hab⟩ : ∃ a b, ts[i]? = some (a, b) := ⟨(ts[i]).1, (ts[i]).2, List.getElem?_eq_getElem hit⟩
      obtain ⟨ha0, ha1, hb0, hb1⟩ := hts (a, b) (List.mem_of_getElem? hab)
      have hqt := sqT_same S' (hq3 i qa a b hqa hab)
      have L0 : (rowsOf n (ts.take i)).length = n := rowsOf_len _ _
      obtain ⟨pa, ga, xa⟩ := R.get (i := a) ha0 (by rw [L0]; exact ha1)
      have len1 : ∀ (k : Nat), ((rowsOf n (ts.take i)).getD k []).length ≤ 2 * i := fun k => rowsOf_small n ts i k
      have hi1 : i < 100000 := by omega
      refine ⟨qa, _, rfl, hqt, rfl, _, _, rfl, _, _, rfl, rfl, ?_⟩
      -- rows[a].append(b)
      refine ⟨_, rfl, _, rfl, D, _, _, _, rfl, rfl, SqL.of R.at_, xa, .inl ⟨rfl, _, SqL.of (R.row _ _ ga)⟩, _, rfl, pa, _, _, rfl, rfl, R.row _ _ ga, by rw [List.length_map]; exact Nat.lt_of_le_of_lt (len1 _) (by rw [sizeLine_eq]; omega), fun H2 B2 h2 => ?_⟩
      have R2 : RowsL H2 D ps (app (rowsOf n (ts.take i)) a.toNat b) := R.app ga B2 (by rw [h2, List.map_append]; rfl)
      have S2 : Same H H2 := same_but S' (hp pa (List.mem_of_getElem? ga)).1 B2
      have L2 : (app (rowsOf n (ts.take i)) a.toNat b).length = n := by rw [app_len]; exact L0
      obtain ⟨pb, gb, xb⟩ := R2.get (i := b) hb0 (by rw [L2]; exact hb1)
      have len2 : ((app (rowsOf n (ts.take i)) a.toNat b).getD b.toNat []).length ≤ 2 * i + 1 := app_small len1 _
      refine ⟨_, rfl, _, rfl, D, _, _, _, rfl, rfl, SqL.of R2.at_, xb, .inl ⟨rfl, _, SqL.of (R2.row _ _ gb)⟩, _, rfl, pb, _, _, rfl, rfl, R2.row _ _ gb, by rw [List.length_map]; exact Nat.lt_of_le_of_lt len2 (by rw [sizeLine_eq]; omega), fun H3 B3 h3 => ?_⟩
      refine ⟨⟨_, _, _, rfl⟩, same_but S2 (hp pb (List.mem_of_getElem? gb)).1 B3, ?_⟩
      rw [rowsOf_more hab]
      exact R2.app gb B3 (by rw [h3, List.map_append]; rfl)
    · rintro σ H' ⟨⟨u, v, x, rfl⟩, S', R⟩
      rw [List.length_map, hq2, List.take_length] at R
      exact ⟨_, rfl, q D ps H' S' hD (fun p h => (hp p h).1) R⟩
end
/-! ### steps -/
def bstep (bay : Nat) (st : List Int × List Int) (near : Int) : List Int × List Int := if st.1.getD near.toNat 0 < 0 then (st.1.set near.toNat (st.1.getD bay 0 + 1), st.2 ++ [near]) else st
def brow (rss : List (List Int)) (st : List Int × List Int) (bay : Int) : List Int × List Int := (rss.getD bay.toNat []).foldl (bstep bay.toNat) st
def level (rss : List (List Int)) (away front : List Int) : List Int × List Int := front.foldl (brow rss) (away, [])
def bfs (rss : List (List Int)) : Nat → List Int → List Int → List Int
  | 0, away, _ => away
  | k + 1, away, front => if front = [] then away else bfs rss k (level rss away front).1 (level rss away front).2
def stepsOf (rss : List (List Int)) (s : Nat) : List Int := bfs rss (2 * rss.length + 1) ((List.replicate rss.length (-1)).set s 0) [(s : Int)]
def neg (away : List Int) : Nat := away.countP fun z => decide (z < 0)
theorem neg_set : ∀ {l : List Int} {i : Nat} {x : Int}, i < l.length → l.getD i 0 < 0 → 0 ≤ x → neg (l.set i x) + 1 = neg l
  | [], i, x, h, _, _ => by simp at h
  | a :: r, 0, x, _, h, hx => by
    have h : a < 0 := h
    show neg (x :: r) + 1 = neg (a :: r)
    unfold neg
    rw [List.countP_cons_of_neg (by simpa using hx), List.countP_cons_of_pos (by simpa using h)]
  | a :: r, i + 1, x, hi, h, hx => by
    have ih := neg_set (l := r) (i := i) (x := x) (Nat.lt_of_succ_lt_succ hi) h hx
    show neg (a :: r.set i x) + 1 = neg (a :: r)
    unfold neg at ih ⊢
    rw [List.countP_cons, List.countP_cons]
    omega
/-- what holds of the pair within a level: n bays, all entries at least -1, the found ones bays -/
structure BOk (n m : Nat) (st : List Int × List Int) : Prop where
  len : st.1.length = n
  low : ∀ z ∈ st.1, -1 ≤ z
  rng : ∀ z ∈ st.2, 0 ≤ z ∧ z < (n : Int)
  mes : neg st.1 + st.2.length ≤ m
theorem getD_low {l : List Int} (h : ∀ z ∈ l, -1 ≤ z) (i : Nat) : -1 ≤ l.getD i 0 := by
  rw [List.getD_eq_getElem?_getD]
  cases e : l[i]? with
  | none => decide
  | some z => exact h z (List.mem_of_getElem? e)
theorem bstep_ok {n m bay : Nat} {st : List Int × List Int} {near : Int} (h : BOk n m st) (h0 : 0 ≤ near) (h1 : near < (n : Int)) : BOk n m (bstep bay st near) := by
  unfold bstep
  split
  · rename_i hc
    have hl : near.toNat < st.1.length := by rw [h.len]; omega
    have hx : 0 ≤ st.1.getD bay 0 + 1 := by have := getD_low h.low bay; omega
    refine ⟨by rw [List.length_set]; exact h.len, fun z hz => ?_, fun z hz => ?_, ?_⟩
    · rcases List.mem_or_eq_of_mem_set hz with q | q
      · exact h.low z q
      · omega
    · rcases List.mem_append.mp hz with q | q
      · exact h.rng z q
      · rw [List.mem_singleton.mp q]
        exact ⟨h0, h1⟩
    · have e := neg_set (l := st.1) (x := st.1.getD bay 0 + 1) hl hc hx
      have z := h.mes
      show neg (st.1.set near.toNat (st.1.getD bay 0 + 1)) + (st.2 ++ [near]).length ≤ m
      rw [List.length_append, List.length_singleton]
      omega
  · exact h
theorem fold_ok {n m bay : Nat} : ∀ {l : List Int} {st : List Int × List Int}, (∀ z ∈ l, 0 ≤ z ∧ z < (n : Int)) → BOk n m st → BOk n m (l.foldl (bstep bay) st)
  | [], _, _, h => h
  | x :: r, st, hl, h => fold_ok (l := r) (fun z hz => hl z (List.mem_cons_of_mem _ hz)) (bstep_ok h (hl x List.mem_cons_self).1 (hl x List.mem_cons_self).2)
def RowsIn (n : Nat) (rss : List (List Int)) : Prop := ∀ k, ∀ z ∈ rss.getD k [], 0 ≤ z ∧ z < (n : Int)
theorem front_ok {n m : Nat} {rss : List (List Int)} (hr : RowsIn n rss) : ∀ {l : List Int} {st : List Int × List Int}, BOk n m st → BOk n m (l.foldl (brow rss) st)
  | [], _, h => h
  | x :: r, st, h => front_ok hr (l := r) (fold_ok (hr x.toNat) h)
def spSteps : Sp := fun vs H Q _ => ∃ (l : Addr) (ps : List Addr) (rss : List (List Int)) (s : Nat), vs = [.ref l, .int s] ∧ RowsL H l ps rss ∧ RowsIn rss.length rss ∧ rss.length ≤ 1000 ∧ s < rss.length ∧
  ∀ a H', Same H H' → H a = none → H' a = some (.lst ((stepsOf rss s).map V.int)) → (stepsOf rss s).length = rss.length → Q (.ref a) H'
section
variable {X : Cx}
def rRepN : R2 := fun x y H Q => ∃ l k xs, x = .ref l ∧ y = .int k ∧ H l = some (.lst xs) ∧ -(2 ^ 63) ≤ k ∧ k < 2 ^ 63 ∧ xs.length * k.toNat ≤ sizeLine ∧ New H (.lst (List.replicate k.toNat xs).flatten) Q
theorem op_repL : OpR X (binaryOp .Mult) rRepN := OpR.weak op_rep fun _ _ _ _ ⟨l, k, xs, a1, a2, a3, a4, a5, a6, q⟩ => ⟨l, k, xs, a1, a2, a3, a4, a5, a6, q.go⟩
end
section
variable {P : Program} {w : World} {K : PySem.W.Frag} {mg : Str → Option Value} {base : Heap}
theorem bfs_nil {rss : List (List Int)} {aw : List Int} : ∀ m, bfs rss m aw [] = aw
  | 0 => rfl
  | _ + 1 => if_pos rfl
/-- behind some turns of the while: m turns at most are left -/
def StepsInv (H : Hp) (l A0 : Addr) (rss : List (List Int)) (st : Nat) (m : Nat) (σ : L2.St) (H' : Hp) : Prop :=
  ∃ (Fr : Addr) (aw fr : List Int) (u v x : Option V), σ = [some (.ref l), some (.int st), some (.ref A0), some (.ref Fr), u, v, x] ∧ Same H H' ∧ H' A0 = some (.lst (aw.map V.int)) ∧ H' Fr = some (.lst (fr.map V.int)) ∧ A0 ≠ Fr ∧ H Fr = none ∧
    BOk rss.length rss.length (aw, []) ∧ (∀ z ∈ fr, 0 ≤ z ∧ z < (rss.length : Int)) ∧ 2 * neg aw + (if fr = [] then 0 else 1) ≤ m ∧ bfs rss m aw fr = stepsOf rss st
theorem ixN_nat {n j : Nat} (h : j < n) : ixN n (j : Int) = some j := by
  unfold ixN
  rw [if_pos (by omega), if_pos (by omega), Int.toNat_natCast]
theorem ixN_map {l : List Int} {i : Int} (h0 : 0 ≤ i) (h1 : i < (l.length : Int)) : ixN (l.map V.int).length i = some i.toNat := by
  rw [List.length_map]
  unfold ixN
  rw [if_pos h0, if_pos h1]
theorem atI_map {l : List Int} {i : Int} (h0 : 0 ≤ i) (h1 : i < (l.length : Int)) : atI (l.map V.int) i = some (.int (l.getD i.toNat 0)) := by
  have hl : i.toNat < l.length := by omega
  refine at_of (j := i.toNat) (by omega) ?_
  rw [List.getElem?_map, List.getD_eq_getElem?_getD, List.getElem?_eq_getElem hl]
  rfl
theorem getMap {l : List Int} {i : Nat} {y : V} (h : (l.map V.int)[i]? = some y) : ∃ z, l[i]? = some z ∧ y = .int z := by
  rw [List.getElem?_map] at h
  cases e : l[i]? with
  | none => rw [e] at h; cases h
  | some z => rw [e] at h; exact ⟨z, rfl, (Option.some.inj h).symm⟩
theorem rep1 (n : Nat) (z : Int) : (List.replicate n [V.int z]).flatten = (List.replicate n z).map V.int := by
  induction n with
  | zero => rfl
  | succ n ih => rw [List.replicate_succ, List.flatten_cons, ih, List.replicate_succ]; rfl
theorem scSteps : FnScope ["rows", "start", "away", "front", "following", "bay", "near"] ["rows", "start"] (defScope sSteps) := ⟨rfl, rfl, rfl, by decide +kernel, rfl, by decide +kernel, by decide +kernel⟩
theorem ok_steps {f : Addr} {fd : FuncData} (F : FnP K "steps_from" sSteps f fd) (T : WebTxt mg) : FnOk P w K mg base CX0 1 f fd ["rows", "start"] spSteps := by
  refine ok0 F scSteps (fun vs H Q E h => ?_) (fun cdv A outer s H vs Q E hr h => ?_)
  · obtain ⟨l, ps, rss, s, rfl, _⟩ := h
    rfl
  · obtain ⟨l, ps, rss, st, rfl, R, hR, hn, hs, q⟩ := h
    refine ⟨_, (pss_cons (ps_set (i := 2) scSteps.nd rfl (Or.inl rfl) (pe_op op_repL (pe_lstL (pa_cons (pe_un un_neg pe_int) pa_nil)) (pe_callB (id := "len") call_len_seq (by rfl) T.len (by decide +kernel) (pa_cons (pv 0) pa_nil))))
    (pss_cons (ps_asg pe_int (pg_sub (pv 2) (pv 1) set_listL))
    (pss_cons (ps_set (i := 3) scSteps.nd rfl (Or.inl rfl) (pe_lstL (pa_cons (pv 1) pa_nil)))
    (pss_cons (ps_while PassesOwn.never (pt_truth (pv 3) (by intro _; rfl))
      (pss_cons (ps_set (i := 4) scSteps.nd rfl (Or.inl rfl) (pe_lstL pa_nil))
    (pss_cons (ps_for PassesOwn.never rfl (pi_list (pv 3)) (pg_name (i := 5) scSteps.nd rfl (Or.inl rfl))
      (pss_one (ps_for PassesOwn.never rfl (pi_list (pe_ix ix_list (pv 0) (pv 5) (fun _ _ => rfl))) (pg_name (i := 6) scSteps.nd rfl (Or.inl rfl))
      (pss_one (ps_if (pt_cmpR op_lt (pe_ix ix_list (pv 2) (pv 6) (fun _ _ => rfl)) pe_int (nomark _))
      (pss_cons (ps_asg (pe_op op_add (pe_ix ix_list (pv 2) (pv 5) (fun _ _ => rfl)) pe_int) (pg_sub (pv 2) (pv 6) set_listL))
    (pss_one (ps_expr (pe_bm PySem.F.plainAttrs_list PySem.F.slot_list_append PySem.F.type_list_append mt_appendL (pv 4) (pa_cons (pv 6) pa_nil)))))
      pss_nil)))))
    (pss_one (ps_set (i := 3) scSteps.nd rfl (Or.inl rfl) (pv 4))))))
    (pss_one (ps_ret (pv 2))))))), ?_⟩
    refine ⟨_, rfl, by show 1 ≤ sizeLine; decide, fun l1 H1 n1 s1 h1 => ⟨_, rfl, l, _, rfl, .inl (SqL.of (s1 _ _ R.at_)), l1, _, _, rfl, rfl, h1, by omega, by rw [List.length_map, R.len]; omega, by rw [List.length_map, R.len]; show 1 * _ ≤ _; rw [sizeLine_eq]; omega, fun A0 H2 n2 s2 h2 => ?_⟩⟩
    have h2 : H2 A0 = some (.lst ((List.replicate rss.length (-1)).map V.int)) := by
      rw [h2, List.length_map, R.len, Int.toNat_natCast]
      exact congrArg (fun z => some (HO.lst z)) (rep1 _ _)
    refine ⟨_, rfl, _, rfl, A0, _, st, st, rfl, rfl, h2, ixN_nat (by rw [List.length_map, List.length_replicate]; exact hs), fun H3 B3 h3 => ?_⟩
    have h3 : H3 A0 = some (.lst (((List.replicate rss.length (-1)).set st 0).map V.int)) := by rw [h3, List.map_set]
    have nA0 : H A0 = none := s1.free n2
    have S3 : Same H H3 := same_but (s1.trans s2) nA0 B3
    refine ⟨_, rfl, by show 1 ≤ sizeLine; decide, fun F0 H4 n4 s4 h4 => ?_⟩
    have B0 : BOk rss.length rss.length ((List.replicate rss.length (-1)).set st 0, []) := by
      refine ⟨by rw [List.length_set, List.length_replicate], fun z hz => ?_, fun z hz => (by cases hz), ?_⟩
      · rcases List.mem_or_eq_of_mem_set hz with h | h
        · rw [(List.mem_replicate.mp h).2]
          decide
        · rw [h]
          decide
      · have z : neg ((List.replicate rss.length (-1)).set st 0) ≤ ((List.replicate rss.length (-1 : Int)).set st 0).length := List.countP_le_length
        rw [List.length_set, List.length_replicate] at z
        exact z
    refine ⟨StepsInv H l A0 rss st, ⟨2 * rss.length + 1, F0, _, [(st : Int)], none, none, none, rfl, S3.trans s4, s4 _ _ h3, h4, ne_of_none h3 n4, S3.free n4, B0, fun z hz => ?_, ?_, rfl⟩, ?_⟩
    · rw [List.mem_singleton.mp hz]
      omega
    · have z := B0.mes
      have z2 : neg ((List.replicate rss.length (-1)).set st 0) ≤ rss.length := z
      rw [if_neg (List.cons_ne_nil _ _)]
      omega
    rintro m σ H' ⟨Fr, aw, fr, u, v, x, rfl, S', hA, hF, nAF, nF, B, rng, hm, hb⟩
    refine ⟨_, rfl, _, .inl ⟨_, SqL.of hF, rfl⟩, ?_⟩
    by_cases hfr : fr = []
    · subst hfr
      refine iteC rfl ⟨_, rfl, q A0 H' S' nA0 ?_ ?_⟩
      · rw [← hb, bfs_nil]
        exact hA
      · rw [← hb, bfs_nil]
        exact B.len
    · obtain ⟨m', rfl⟩ : ∃ m', m = m' + 1 := ⟨m - 1, by rw [if_neg hfr] at hm; omega⟩
      refine iteD (by cases fr with
        | nil => exact absurd rfl hfr
        | cons a r => rfl) ⟨StepsInv H l A0 rss st m', fun σ' H'' h => ⟨m', Nat.lt_succ_self _, h⟩, ?_⟩
      refine ⟨by show 0 ≤ sizeLine; decide, fun G H5 n5 s5 h5 => ?_⟩
      have nGA : A0 ≠ G := ne_of_none hA n5
      have nGF : Fr ≠ G := ne_of_none hF n5
      have nG : H G = none := S'.free n5
      refine ⟨_, rfl, Fr, rfl, ⟨_, SqL.of (s5 _ _ hF)⟩, for_list (K := K) (a := Fr) (xs := fr.map V.int) (fun i σ H' => ∃ (v x : Option V) (st' : List Int × List Int), σ = [some (.ref l), some (.int st), some (.ref A0), some (.ref Fr), some (.ref G), v, x] ∧ Same H H' ∧ H' A0 = some (.lst (st'.1.map V.int)) ∧ H' G = some (.lst (st'.2.map V.int)) ∧ H' Fr = some (.lst (fr.map V.int)) ∧ st' = (fr.take i).foldl (brow rss) (aw, []) ∧ BOk rss.length (neg aw) st')
        ⟨v, x, (aw, []), rfl, S'.trans s5, s5 _ _ hA, h5, s5 _ _ hF, by rw [List.take_zero]; rfl, ⟨B.len, B.low, fun z hz => (by cases hz), Nat.le_refl _⟩⟩ (fun i σ H' _ ⟨_, _, _, _, _, _, _, h, _⟩ => SqL.of h) ?_ ?_⟩
      · rintro i y σ H6 hi ⟨v, x, st1, rfl, S6, hA6, hG6, hF6, e6, B6⟩
        obtain ⟨bay, hbay, rfl⟩ := getMap hi
        obtain ⟨b0, b1⟩ := rng bay (List.mem_of_getElem? hbay)
        obtain ⟨p, gp, xp⟩ := R.get b0 b1
        have rp := R.row _ _ gp
        refine ⟨_, rfl, _, rfl, l, _, _, _, rfl, rfl, SqL.of (S6 _ _ R.at_), xp, p, rfl, ⟨_, SqL.of (S6 _ _ rp)⟩, for_list (K := K) (a := p) (xs := (rss.getD bay.toNat []).map V.int) (fun j σ H' => ∃ (x : Option V) (st' : List Int × List Int), σ = [some (.ref l), some (.int st), some (.ref A0), some (.ref Fr), some (.ref G), some (.int bay), x] ∧ Same H H' ∧ H' A0 = some (.lst (st'.1.map V.int)) ∧ H' G = some (.lst (st'.2.map V.int)) ∧ H' Fr = some (.lst (fr.map V.int)) ∧ st' = ((rss.getD bay.toNat []).take j).foldl (bstep bay.toNat) st1 ∧ BOk rss.length (neg aw) st')
          ⟨x, st1, rfl, S6, hA6, hG6, hF6, by rw [List.take_zero]; rfl, B6⟩ (fun j σ H' _ ⟨_, _, _, S, _⟩ => SqL.of (S _ _ rp)) ?_ ?_⟩
        · rintro j y σ H7 hj ⟨x, st2, rfl, S7, hA7, hG7, hF7, e7, B7⟩
          obtain ⟨near, hnear, rfl⟩ := getMap hj
          obtain ⟨c0, c1⟩ := hR bay.toNat near (List.mem_of_getElem? hnear)
          have e8 : bstep bay.toNat st2 near = ((rss.getD bay.toNat []).take (j + 1)).foldl (bstep bay.toNat) st1 := by
            rw [take_more hnear, List.foldl_append, ← e7]
            rfl
          have B8 : BOk rss.length (neg aw) (bstep bay.toNat st2 near) := bstep_ok B7 c0 c1
          refine ⟨_, rfl, _, rfl, A0, _, _, _, rfl, rfl, SqL.of hA7, atI_map c0 (by rw [B7.len]; exact c1), _, _, rfl, rfl, _, rfl, ?_⟩
          refine ite2 (fun hc => ?_) (fun hc => ?_)
          · have hc : st2.1.getD near.toNat 0 < 0 := of_decide_eq_true hc
            have es : bstep bay.toNat st2 near = (st2.1.set near.toNat (st2.1.getD bay.toNat 0 + 1), st2.2 ++ [near]) := if_pos hc
            refine ⟨_, rfl, _, rfl, A0, _, _, _, rfl, rfl, SqL.of hA7, atI_map b0 (by rw [B7.len]; exact b1), _, _, rfl, rfl, _, rfl, _, rfl, A0, _, near, near.toNat, rfl, rfl, hA7, ixN_map c0 (by rw [B7.len]; exact c1), fun H8 B8' h8 => ?_⟩
            have hG8 : H8 G = some (.lst (st2.2.map V.int)) := B8' _ _ nGA.symm hG7
            have len2 : st2.2.length ≤ 1000 := by have z := B7.mes; have z2 := B.mes; have z2 : neg aw ≤ rss.length := z2; omega
            refine ⟨_, rfl, .inl ⟨rfl, _, SqL.of hG8⟩, _, rfl, G, _, _, rfl, rfl, hG8, by rw [List.length_map]; exact small1000 len2, fun H9 B9 h9 => ?_⟩
            refine ⟨_, bstep bay.toNat st2 near, rfl, same_but (same_but S7 nA0 B8') nG B9, ?_, ?_, B9 _ _ nGF (B8' _ _ nAF.symm hF7), e8, B8⟩
            · rw [B9 _ _ nGA h8, es, List.map_set]
            · rw [h9, es, List.map_append]
              rfl
          · have hc : ¬ st2.1.getD near.toNat 0 < 0 := fun z => hc (decide_eq_true z)
            have es : bstep bay.toNat st2 near = st2 := if_neg hc
            rw [es] at e8
            exact ⟨_, st2, rfl, S7, hA7, hG7, hF7, e8, B7⟩
        · rintro σ H7 ⟨x, st2, rfl, S7, hA7, hG7, hF7, e7, B7⟩
          rw [List.length_map, List.take_length] at e7
          refine ⟨_, _, st2, rfl, S7, hA7, hG7, hF7, ?_, B7⟩
          rw [take_more hbay, List.foldl_append, ← e6, e7]
          rfl
      · rintro σ H6 ⟨v, x, st1, rfl, S6, hA6, hG6, hF6, e6, B6⟩
        rw [List.length_map, List.take_length] at e6
        have e6 : st1 = level rss aw fr := e6
        refine ⟨_, rfl, G, st1.1, st1.2, _, _, _, rfl, S6, hA6, hG6, nGA, nG, ⟨B6.len, B6.low, fun z hz => (by cases hz), ?_⟩, B6.rng, ?_, ?_⟩
        · have z := B6.mes
          have z2 := B.mes
          have z2 : neg aw ≤ rss.length := z2
          show neg st1.1 + 0 ≤ _
          omega
        · have z := B6.mes
          rw [if_neg hfr] at hm
          by_cases h : st1.2 = []
          · rw [if_pos h]
            omega
          · rw [if_neg h]
            have z3 : 0 < st1.2.length := List.length_pos_iff.mpr h
            omega
        · rw [← hb, e6]
          show _ = (if fr = [] then aw else bfs rss m' (level rss aw fr).1 (level rss aw fr).2)
          rw [if_neg hfr]
end
end Sb

/-! ## E32 -/
/-! is_web and what raises. -/
namespace Sb
open PySem PySem.Spec PyProof.Rows L2
abbrev sTie : Stmt := top 16
abbrev sWeb : Stmt := top 15
abbrev sNeed : Stmt := top 17
section
variable {X : Cx}
theorem call_isT {K : PySem.W.Frag} (hK : X.K = K := by rfl) : CallR X (.builtin "isinstance") (rIsi K) := hK ▸ call_isi
theorem ix_tupK {K : PySem.W.Frag} (hK : X.K = K := by rfl) : IxR X (rIxT K) := hK ▸ ix_tup
theorem op_ltTK {K : PySem.W.Frag} (hu : X.A.units < cLine) (hK : X.K = K := by rfl) : OpR X (compareOp .Lt) (rLtT K) := hK ▸ op_ltT hu
def tChain3 (r1 r2 r3 : R2) (ta tb tc td : TE) : TE := fun σ H Q => ta σ H fun x H1 => tb σ H1 fun y H2 => r1 x y H2 fun z H3 => ∃ k, z = .bl k ∧
  (if k = true then tc σ H3 fun w' H4 => r2 y w' H4 fun z2 H5 => ∃ k2, z2 = .bl k2 ∧ (if k2 = true then td σ H5 fun u' H6 => r3 w' u' H6 Q else Q (.bl false) H5) else Q (.bl false) H3)
theorem pe_chain3 {o1 o2 o3 : CmpOp} {r1 r2 r3 : R2} {a b c d : Expr} {ta tb tc td : TE} {pos : Pos} (h1 : OpR X (compareOp o1) r1) (h2 : OpR X (compareOp o2) r2) (h3 : OpR X (compareOp o3) r3) (ha : PE X a ta) (hb : PE X b tb) (hc : PE X c tc) (hd : PE X d td)
    (hm : lastMarks [o1, o2, o3] [b, c, d] = false := by with_unfolding_all rfl) : PE X (.Compare a [o1, o2, o3] [b, c, d] pos) (tChain3 r1 r2 r3 ta tb tc td) := by
  refine ⟨fun pins s σ H Q I h => ?_⟩
  refine Compare_chain (thn (ha.run pins s σ H _ I h) fun v s1 ⟨x, H1, I1, rx1, q1⟩ => chain_link (thn (hb.run pins s1 σ H1 _ I1 q1) fun u s2 ⟨y, H2, I2, rx2, q2⟩ =>
    thn (h1 pins s2 σ H2 x y v u _ I2 rx1 rx2 q2) fun d' s3 ⟨z, H3, I3, rx3, k, e, q3⟩ => ?_)) hm
  subst e
  cases rx3
  refine wpAny_truthy_bool ?_
  cases k with
  | false => exact ite_ff ⟨.bl false, H3, I3, rfl, q3⟩
  | true =>
    refine ite_tt (chain_link (thn (hc.run pins s3 σ H3 _ I3 q3) fun w' s4 ⟨z', H4, I4, rx4, q4⟩ => thn (h2 pins s4 σ H4 y z' u w' _ I4 rx2 rx4 q4) fun d2 s5 ⟨z2, H5, I5, rx5, k2, e2, q5⟩ => ?_))
    subst e2
    cases rx5
    refine wpAny_truthy_bool ?_
    cases k2 with
    | false => exact ite_ff ⟨.bl false, H5, I5, rfl, q5⟩
    | true => exact ite_tt (chain_last (thn (hd.run pins s5 σ H5 _ I5 q5) fun u' s6 ⟨z6, H6, I6, rx6, q6⟩ => h3 pins s6 σ H6 z' z6 w' u' Q I6 rx4 rx6 q6))
end
theorem ty_tup {K : PySem.W.Frag} {H : Hp} {a : Addr} {xs : List V} (h : SqT K H a xs) : TyX K H (.ref a) (.type "tuple") := by
  rcases h with (h | ⟨o, h⟩) | h
  · exact .base (.tup h)
  · exact .fTuple h
  · obtain ⟨o, its, n, e, c, _⟩ := h
    exact .kTuple e c
/-! ### promises -/
/-- is_whole of an int, of None -/
def spWhole : Sp := fun vs H Q _ => (∃ i, vs = [.int i] ∧ Q (.bl true) H) ∨ (vs = [.non] ∧ Q (.bl false) H)
def tieOK (n : Int) (t : Int × Int) : Bool := decide (0 ≤ t.1) && (decide (t.1 < t.2) && decide (t.2 < n))
def spTie (K : PySem.W.Frag) : Sp := fun vs H Q _ => ∃ (n a b : Int) (q : Addr), vs = [.int n, .ref q] ∧ SqT K H q [.int a, .int b] ∧ Q (.bl (tieOK n (a, b))) H
def lt2 (s t : Int × Int) : Bool := HT.lexLt [s.1, s.2] [t.1, t.2]
def asc (ts : List (Int × Int)) : Bool := (List.range (ts.length - 1)).all fun k => lt2 (ts.getD k (0, 0)) (ts.getD (k + 1) (0, 0))
def reach (n : Nat) (ts : List (Int × Int)) : Bool := (stepsOf (rowsOf n ts) 0).all fun z => decide (0 ≤ z)
def webOK (n : Int) (ts : List (Int × Int)) : Bool := (decide (2 ≤ n) && decide (n ≤ 40)) && (ts.all (tieOK n) && (asc ts && reach n.toNat ts))
/-- is_web of None, of what is like a web -/
def spWeb (K : PySem.W.Frag) : Sp := fun vs H Q _ => (vs = [.non] ∧ Q (.bl false) H) ∨
  (∃ v n ts, vs = [v] ∧ WebAt K H v n ts ∧ ts.length ≤ 100000 ∧ ∀ H', Same H H' → Q (.bl (webOK n ts)) H')
structure WebTxt2 (mg : Str → Option Value) : Prop where
  few : ∃ t, mg "FEWEST_BAYS" = some (.int 2 t)
  most : ∃ t, mg "MOST_BAYS" = some (.int 40 t)
section
variable {P : Program} {w : World} {K : PySem.W.Frag} {mg : Str → Option Value} {base : Heap}
theorem scWhole : FnScope ["thing"] ["thing"] (defScope sWhole) := ⟨rfl, rfl, rfl, by decide +kernel, rfl, by decide +kernel, by decide +kernel⟩
theorem ok_whole {f : Addr} {fd : FuncData} (F : FnP K "is_whole" sWhole f fd) (T : WebTxt mg) : FnOk P w K mg base CX0 1 f fd ["thing"] spWhole := by
  refine ok0 F scWhole (fun vs H Q E h => ?_) (fun cdv A outer s H vs Q E hr h => ?_)
  · rcases h with ⟨i, rfl, _⟩ | ⟨rfl, _⟩ <;> rfl
  · rcases h with ⟨i, rfl, q⟩ | ⟨rfl, q⟩
    · refine ⟨_, (pss_one (ps_ret (pe_and (pe_callB (id := "isinstance") (call_isT (K := K)) (by rfl) T.isinstance (by decide +kernel) (pa_cons (pv 0) (pa_cons (pe_bltn (v := .ty "int") rfl T.int (by decide +kernel) rfl) pa_nil))) (pe_one (pe_not (pe_callB (id := "isinstance") (call_isT (K := K)) (by rfl) T.isinstance (by decide +kernel) (pa_cons (pv 0) (pa_cons (pe_bltn (v := .ty "bool") rfl T.bool (by decide +kernel) rfl) pa_nil)))))))), ?_⟩
      refine ⟨_, rfl, _, _, _, .type "int", true, rfl, .ty "int", .base (.int i), kit_ty (by decide +kernel), _, rfl, iteD rfl ?_⟩
      exact ⟨_, rfl, _, _, _, .type "bool", false, rfl, .ty "bool", .base (.int i), kit_ty (by decide +kernel), _, rfl, q⟩
    · refine ⟨_, (pss_one (ps_ret (pe_and (pe_callB (id := "isinstance") (call_isT (K := K)) (by rfl) T.isinstance (by decide +kernel) (pa_cons (pv 0) (pa_cons (pe_bltn (v := .ty "int") rfl T.int (by decide +kernel) rfl) pa_nil))) (pe_one (pe_not (pe_callB (id := "isinstance") (call_isT (K := K)) (by rfl) T.isinstance (by decide +kernel) (pa_cons (pv 0) (pa_cons (pe_bltn (v := .ty "bool") rfl T.bool (by decide +kernel) rfl) pa_nil)))))))), ?_⟩
      exact ⟨_, rfl, _, _, _, .type "int", false, rfl, .ty "int", .base .non, kit_ty (by decide +kernel), _, rfl, iteC rfl q⟩
theorem scTie : FnScope ["n", "thing", "a", "b"] ["n", "thing"] (defScope sTie) := ⟨rfl, rfl, rfl, by decide +kernel, rfl, by decide +kernel, by decide +kernel⟩
theorem ok_tie {f fW : Addr} {fd fdW : FuncData} (F : FnP K "is_tie" sTie f fd) (T : WebTxt mg) (FW : FnP K "is_whole" sWhole fW fdW) (gW : mg "is_whole" = some (.ref fW)) : FnOk P w K mg base CX0 2 f fd ["n", "thing"] (spTie K) := by
  have GW : FnOk P w K mg base CX0 1 fW fdW ["thing"] spWhole := ok_whole FW T
  have bW : Binds K fdW ["thing"] [] := FW.bindsN fun _ _ _ _ _ _ us hl => match us, hl with | [_], _ => rfl
  refine ok0 F scTie (fun vs H Q E h => ?_) (fun cdv A outer s H vs Q E hr h => ?_)
  · obtain ⟨n, a, b, q, rfl, _⟩ := h
    rfl
  · obtain ⟨n, a, b, p, rfl, hp, q⟩ := h
    refine ⟨_, (pss_cons (ps_if (PW.pt (pw_or (pt_not (pt_val (pe_callB (id := "isinstance") (call_isT (K := K)) (by rfl) T.isinstance (by decide +kernel) (pa_cons (pv 1) (pa_cons (pe_bltn (v := .ty "tuple") rfl T.tuple (by decide +kernel) rfl) pa_nil))))) (pw_or1 (pt_cmpR op_ne (pe_callB (id := "len") call_len_seq (by rfl) T.len (by decide +kernel) (pa_cons (pv 1) pa_nil)) pe_int (nomark _)))))
      (pss_one (ps_ret pe_bl))
      pss_nil)
    (pss_cons (ps_asg (pv 1) (pg_tup (by rfl) (pgs_cons (pg_name (i := 2) scTie.nd rfl (Or.inl rfl)) (pgs_cons (pg_name (i := 3) scTie.nd rfl (Or.inl rfl)) pgs_nil))))
    (pss_one (ps_ret (pe_and (pe_call GW hr rfl gW FW.kp bW .nil pass0 (pa_cons (pv 2) pa_nil)) (pe_and (pe_call GW hr rfl gW FW.kp bW .nil pass0 (pa_cons (pv 3) pa_nil)) (pe_one (pe_chain3 op_le op_lt op_lt pe_int (pv 2) (pv 3) (pv 0))))))))), ?_⟩
    refine ⟨_, rfl, _, _, _, .type "tuple", true, rfl, .ty "tuple", ty_tup hp, kit_ty (by decide +kernel), _, rfl, iteC rfl ?_⟩
    refine ⟨_, rfl, p, _, rfl, .inr hp, rfl, _, rfl, iteC rfl ?_⟩
    refine ⟨_, rfl, p, _, rfl, hp, rfl, _, _, rfl, _, _, rfl, rfl, ?_⟩
    refine ⟨_, rfl, .inl ⟨a, rfl, _, rfl, iteD rfl ?_⟩⟩
    refine ⟨_, rfl, .inl ⟨b, rfl, _, rfl, iteD rfl ?_⟩⟩
    refine ⟨_, rfl, _, _, rfl, rfl, _, rfl, ?_⟩
    have e : tieOK n (a, b) = (decide (0 ≤ a) && (decide (a < b) && decide (b < n))) := rfl
    rw [e] at q
    refine ite2 (fun h1 => ?_) (fun h1 => ?_)
    · rw [h1] at q
      refine ⟨_, rfl, _, _, rfl, rfl, _, rfl, ?_⟩
      refine ite2 (fun h2 => ?_) (fun h2 => ?_)
      · rw [h2] at q
        exact ⟨_, rfl, _, _, rfl, rfl, q⟩
      · rw [Bool.eq_false_iff.mpr h2] at q
        exact q
    · rw [Bool.eq_false_iff.mpr h1] at q
      exact q
end
theorem app_in {n : Nat} {r : List (List Int)} {i : Nat} {x : Int} (h : RowsIn n r) (h0 : 0 ≤ x) (h1 : x < (n : Int)) : RowsIn n (app r i x) := by
  intro k z hz
  unfold app at hz
  by_cases hk : i = k
  · subst hk
    by_cases hl : i < r.length
    · rw [setD_self hl] at hz
      rcases List.mem_append.mp hz with q | q
      · exact h i z q
      · rw [List.mem_singleton.mp q]
        exact ⟨h0, h1⟩
    · rw [List.getD_eq_getElem?_getD, List.getElem?_eq_none (by rw [List.length_set]; omega)] at hz
      cases hz
  · rw [setD_ne hk] at hz
    exact h k z hz
theorem fold_in {n : Nat} : ∀ {ts : List (Int × Int)} {r : List (List Int)}, (∀ t ∈ ts, tieIn n t) → RowsIn n r → RowsIn n (ts.foldl addTie r)
  | [], _, _, h => h
  | t :: ts, r, ht, h => fold_in (ts := ts) (fun z hz => ht z (List.mem_cons_of_mem _ hz)) (by
    obtain ⟨a0, a1, b0, b1⟩ := ht t List.mem_cons_self
    exact app_in (app_in h b0 b1) a0 a1)
theorem rowsOf_in {n : Nat} {ts : List (Int × Int)} (h : ∀ t ∈ ts, tieIn n t) : RowsIn n (rowsOf n ts) := fold_in h fun k z hz => by
  rw [List.getD_eq_getElem?_getD, List.getElem?_replicate] at hz
  split at hz <;> cases hz
theorem tieIn_of {n : Int} {t : Int × Int} (h : tieOK n t = true) : 0 ≤ t.1 ∧ t.1 < t.2 ∧ t.2 < n := by
  unfold tieOK at h
  simp only [Bool.and_eq_true, decide_eq_true_eq] at h
  exact h
section
variable {P : Program} {w : World} {K : PySem.W.Frag} {mg : Str → Option Value} {base : Heap}
abbrev scWebN : List Str := ["thing", "n", "ties", "tie", "k"]
abbrev scWebS : Scope := defScope sWeb
theorem scWeb : FnScope ["thing", "n", "ties", "tie", "k"] ["thing"] (defScope sWeb) := ⟨rfl, rfl, rfl, by decide +kernel, rfl, by decide +kernel, by decide +kernel⟩
theorem getMapR {l : List Addr} {i : Nat} {y : V} (h : (l.map V.ref)[i]? = some y) : ∃ z, l[i]? = some z ∧ y = .ref z := by
  rw [List.getElem?_map] at h
  cases e : l[i]? with
  | none => rw [e] at h; cases h
  | some z => rw [e] at h; exact ⟨z, rfl, (Option.some.inj h).symm⟩
theorem ok_web {f fW fT fR fS : Addr} {fd fdW fdT fdR fdS : FuncData} (F : FnP K "is_web" sWeb f fd) (T : WebTxt mg) (T2 : WebTxt2 mg) (FW : FnP K "is_whole" sWhole fW fdW) (gW : mg "is_whole" = some (.ref fW))
    (FT : FnP K "is_tie" sTie fT fdT) (gT : mg "is_tie" = some (.ref fT)) (FR : FnP K "rows_of" sRows fR fdR) (gR : mg "rows_of" = some (.ref fR)) (FS : FnP K "steps_from" sSteps fS fdS) (gS : mg "steps_from" = some (.ref fS)) :
    FnOk P w K mg base CX0 3 f fd ["thing"] (spWeb K) := by
  have GW : FnOk P w K mg base CX0 1 fW fdW ["thing"] spWhole := ok_whole FW T
  have bW : Binds K fdW ["thing"] [] := FW.bindsN fun _ _ _ _ _ _ us hl => match us, hl with | [_], _ => rfl
  have GT : FnOk P w K mg base CX0 2 fT fdT ["n", "thing"] (spTie K) := ok_tie FT T FW gW
  have bT : Binds K fdT ["n", "thing"] [] := FT.bindsN fun _ _ _ _ _ _ us hl => match us, hl with | [_, _], _ => rfl
  have GR : FnOk P w K mg base CX0 1 fR fdR ["web"] (spRows K) := ok_rows FR T
  have bR : Binds K fdR ["web"] [] := FR.bindsN fun _ _ _ _ _ _ us hl => match us, hl with | [_], _ => rfl
  have GS : FnOk P w K mg base CX0 1 fS fdS ["rows", "start"] spSteps := ok_steps FS T
  have bS : Binds K fdS ["rows", "start"] [] := FS.bindsN fun _ _ _ _ _ _ us hl => match us, hl with | [_, _], _ => rfl
  obtain ⟨tf, hfew⟩ := T2.few
  obtain ⟨tm, hmost⟩ := T2.most
  refine ok0 F scWeb (fun vs H Q E h => ?_) (fun cdv A outer s H vs Q E hr h => ?_)
  · rcases h with ⟨rfl, _⟩ | ⟨v, n, ts, rfl, _⟩ <;> rfl
  · have hr1 : Room 1 _ := hr.mono (by decide)
    have hu : (A.deeper (envOfC "is_web" (defScope sWeb) s.heap.objs.size f cdv)).units < cLine := by have := hr.un; omega
    refine ⟨_, (pss_cons (ps_if (PW.pt (pw_or (pt_not (pt_val (pe_callB (id := "isinstance") (call_isT (K := K)) (by rfl) T.isinstance (by decide +kernel) (pa_cons (pv 0) (pa_cons (pe_bltn (v := .ty "tuple") rfl T.tuple (by decide +kernel) rfl) pa_nil))))) (pw_or1 (pt_cmpR op_ne (pe_callB (id := "len") call_len_seq (by rfl) T.len (by decide +kernel) (pa_cons (pv 0) pa_nil)) pe_int (nomark _)))))
      (pss_one (ps_ret pe_bl))
      pss_nil)
    (pss_cons (ps_asg (pv 0) (pg_tup (by rfl) (pgs_cons (pg_name (i := 1) scWeb.nd rfl (Or.inr rfl)) (pgs_cons (pg_name (i := 2) scWeb.nd rfl (Or.inr rfl)) pgs_nil))))
    (pss_cons (ps_if (PW.pt (pw_or (pt_not (pt_val (pe_call GW hr1 rfl gW FW.kp bW .nil pass0 (pa_cons (pv 1) pa_nil)))) (pw_or1 (pt_not (pt_chain op_le op_le (pe_glob (v := .int 2) rfl hfew ⟨_, rfl⟩) (pv 1) (pe_glob (v := .int 40) rfl hmost ⟨_, rfl⟩))))))
      (pss_one (ps_ret pe_bl))
      pss_nil)
    (pss_cons (ps_if (PW.pt (pw_or (pt_not (pt_val (pe_callB (id := "isinstance") (call_isT (K := K)) (by rfl) T.isinstance (by decide +kernel) (pa_cons (pv 2) (pa_cons (pe_bltn (v := .ty "tuple") rfl T.tuple (by decide +kernel) rfl) pa_nil))))) (pw_or1 (pt_not (pt_val (pe_callB (id := "all") (cr_all rfl) (by rfl) T.all (by decide +kernel) (pa_cons (pe_lc (own := [("tie", 3)]) (g := gName 3) (by rfl) scWeb.nd (pi_tup (pv 2)) (blkOk_by (own := [("tie", 3)]) (N := scWebN) (sc := scWebS) (by decide +kernel)) (fun _ _ _ _ _ => pg_name (i := 3) scWeb.nd rfl (Or.inl rfl)) (fun _ _ _ _ _ => pts_nil) (fun _ _ _ _ _ => (pe_call GT hr rfl gT FT.kp bT .nil pass0 (pa_cons (pv 1) (pa_cons (pv 3) pa_nil))))) pa_nil)))))))
      (pss_one (ps_ret pe_bl))
      pss_nil)
    (pss_cons (ps_if (pt_not (pt_val (pe_callB (id := "all") (cr_all rfl) (by rfl) T.all (by decide +kernel) (pa_cons (pe_lc (own := [("k", 4)]) (g := gName 4) (by rfl) scWeb.nd (pi_range1 (by rfl) T.range (pa_cons (pe_op op_sub (pe_callB (id := "len") call_len_seq (by rfl) T.len (by decide +kernel) (pa_cons (pv 2) pa_nil)) pe_int) pa_nil)) (blkOk_by (own := [("k", 4)]) (N := scWebN) (sc := scWebS) (by decide +kernel)) (fun _ _ _ _ _ => pg_name (i := 4) scWeb.nd rfl (Or.inl rfl)) (fun _ _ _ _ _ => pts_nil) (fun _ _ _ _ _ => (pe_cmpR (op_ltTK (K := K) hu) (pe_ix (ix_tupK (K := K)) (pv 2) (pv 4) (fun _ _ => rfl)) (pe_ix (ix_tupK (K := K)) (pv 2) (pe_op op_add (pv 4) pe_int) (fun _ _ => rfl)) (nomark _)))) pa_nil))))
      (pss_one (ps_ret pe_bl))
      pss_nil)
    (pss_one (ps_ret (pe_cmpR op_ge (pe_callB (id := "min") (cr_min rfl) (by rfl) T.min (by decide +kernel) (pa_cons (pe_call GS hr1 rfl gS FS.kp bS .nil pass0 (pa_cons (pe_call GR hr1 rfl gR FR.kp bR .nil pass0 (pa_cons (pv 0) pa_nil)) (pa_cons pe_int pa_nil))) pa_nil)) pe_int (nomark _))))))))), ?_⟩
    rcases h with ⟨rfl, q⟩ | ⟨v, n, ts, rfl, hW, htl, q⟩
    · exact ⟨_, rfl, _, _, _, .type "tuple", false, rfl, .ty "tuple", .base .non, kit_ty (by decide +kernel), _, rfl, iteD rfl (iteD rfl q)⟩
    · obtain ⟨wa, wt, rfl, hw, hT⟩ := id hW
      obtain ⟨qs, hq1, hq2, hq3⟩ := id hT
      refine ⟨_, rfl, _, _, _, .type "tuple", true, rfl, .ty "tuple", ty_tup hw, kit_ty (by decide +kernel), _, rfl, iteC rfl ?_⟩
      refine ⟨_, rfl, wa, _, rfl, .inr hw, rfl, _, rfl, iteC rfl ?_⟩
      refine ⟨_, rfl, wa, _, rfl, hw, rfl, _, _, rfl, _, _, rfl, rfl, ?_⟩
      -- the number of bays
      refine ⟨_, rfl, .inl ⟨n, rfl, _, rfl, iteC rfl ?_⟩⟩
      refine ⟨_, rfl, _, _, rfl, rfl, _, rfl, ?_⟩
      refine ite2 (fun h1 => ?_) (fun h1 => ⟨_, rfl, iteD rfl (by
        have z : webOK n ts = false := by
          unfold webOK
          rw [Bool.eq_false_iff.mpr h1]
          rfl
        have q' := q H (Same.refl H)
        rw [z] at q'
        exact q')⟩)
      refine ⟨_, _, rfl, rfl, _, rfl, ?_⟩
      refine ite2 (fun h2 => ?_) (fun h2 => ?_)
      · have h2 : ¬ n ≤ 40 := by
          intro z
          rw [decide_eq_true z] at h2
          cases h2
        have z : webOK n ts = false := by
          unfold webOK
          rw [decide_eq_false h2, Bool.and_false]
          rfl
        have q' := q H (Same.refl H)
        rw [z] at q'
        exact q'
      have h2 : n ≤ 40 := by
        refine Decidable.byContradiction fun z => h2 ?_
        rw [decide_eq_false z]
        rfl
      have h1 : 2 ≤ n := of_decide_eq_true h1
      -- the ties
      refine ⟨_, rfl, _, _, _, .type "tuple", true, rfl, .ty "tuple", ty_tup hq1, kit_ty (by decide +kernel), _, rfl, iteC rfl ?_⟩
      refine ⟨_, rfl, wt, rfl, ⟨_, hq1⟩, fun D hD => lc_tup (K := K) (a := wt) (xs := qs.map V.ref) (fun i H' => Same H H' ∧ H' D = some (.lst (((ts.take i).map (tieOK n)).map V.bl))) ⟨same_upd hD, by rw [upd_same, List.take_zero]; rfl⟩ (fun i H' _ ⟨S, _⟩ => sqT_same S hq1) ?_ ?_⟩
      · rintro i y H' hi ⟨S, e⟩
        obtain ⟨qa, hqa, rfl⟩ := getMapR hi
        have hit : i < ts.length := by rw [← hq2]; exact (List.getElem?_eq_some_iff.mp hqa).1
        obtain ⟨a, b, hab⟩ : ∃ a b, ts[i]? = some (a, b) := ⟨(ts[i]).1, (ts[i]).2, List.getElem?_eq_getElem hit⟩
        refine ⟨rfl, _, rfl, _, rfl, n, a, b, qa, rfl, sqT_same S (hq3 i qa a b hqa hab), _, e, ?_, fun c o hc => by rw [upd_ne (ne_of_none hc hD)]; exact S _ _ hc, ?_⟩
        · rw [List.length_map, List.length_map, List.length_take, sizeLine_eq]
          omega
        · rw [upd_same, take_more hab, List.map_append, List.map_append]
          rfl
      rintro H1 ⟨S1, e1⟩
      rw [List.length_map, hq2, List.take_length] at e1
      refine ⟨D, _, rfl, SqL.of e1, _, rfl, ?_⟩
      have ea : ((ts.map (tieOK n)).all id) = ts.all (tieOK n) := by rw [List.all_map]; rfl
      rw [ea]
      refine ite2 (fun h3 => ?_) (fun h3 => ?_)
      · have z : webOK n ts = false := by
          unfold webOK
          rw [(Bool.not_eq_true' _).mp h3, Bool.false_and, Bool.and_false]
        have q' := q H1 S1
        rw [z] at q'
        exact q'
      have h3 : ts.all (tieOK n) = true := by
        cases e : ts.all (tieOK n) with
        | true => rfl
        | false => exact absurd (by rw [e]; rfl) h3
      -- ascending
      refine ⟨_, rfl, wt, _, rfl, .inr (sqT_same S1 hq1), _, _, rfl, rfl, _, rfl, by rw [List.length_map]; omega, by rw [List.length_map]; omega, fun D2 hD2 => lc_range (lo := 0) (n := (((qs.map V.ref).length : Int) - 1).toNat) (fun i H' => Same H1 H' ∧ H' D2 = some (.lst (((List.range i).map fun k => lt2 (ts.getD k (0, 0)) (ts.getD (k + 1) (0, 0))).map V.bl))) ⟨same_upd hD2, by rw [upd_same]; rfl⟩ ?_ ?_⟩
      · rintro i H' hi ⟨S, e⟩
        rw [List.length_map, hq2] at hi
        have i1 : i < qs.length := by omega
        have i2 : i + 1 < qs.length := by omega
        have t1 : i < ts.length := by omega
        have t2 : i + 1 < ts.length := by omega
        have S' := S1.trans S
        have g1 : ts.getD i (0, 0) = ts[i] := by rw [List.getD_eq_getElem?_getD, List.getElem?_eq_getElem t1]; rfl
        have g2 : ts.getD (i + 1) (0, 0) = ts[i + 1] := by rw [List.getD_eq_getElem?_getD, List.getElem?_eq_getElem t2]; rfl
        refine ⟨rfl, _, rfl, _, rfl, wt, _, _, .ref qs[i], rfl, rfl, sqT_same S' hq1, at_of (j := i) (by omega) (by simp [i1]), _, rfl, _, rfl, _, _, rfl, rfl, wt, _, _, .ref qs[i + 1], rfl, rfl, sqT_same S' hq1, at_of (j := i + 1) (by omega) (by simp [i2]), _, _, [(ts[i]).1, (ts[i]).2], [(ts[i + 1]).1, (ts[i + 1]).2], rfl, rfl, sqT_same S' (hq3 i _ _ _ (List.getElem?_eq_getElem i1) (List.getElem?_eq_getElem t1)), sqT_same S' (hq3 (i + 1) _ _ _ (List.getElem?_eq_getElem i2) (List.getElem?_eq_getElem t2)), _, e, ?_, fun c o hc => by rw [upd_ne (ne_of_none hc hD2)]; exact S _ _ hc, ?_⟩
        · rw [List.length_map, List.length_map, List.length_range, sizeLine_eq]
          omega
        · rw [upd_same, List.range_succ, List.map_append, List.map_append]
          show some (HO.lst _) = some (HO.lst (_ ++ [V.bl (lt2 (ts.getD i (0, 0)) (ts.getD (i + 1) (0, 0)))]))
          rw [g1, g2]
          rfl
      rintro H2 ⟨S2, e2⟩
      have en : (((qs.map V.ref).length : Int) - 1).toNat = ts.length - 1 := by rw [List.length_map, hq2]; omega
      rw [en] at e2
      refine ⟨D2, _, rfl, SqL.of e2, _, rfl, ?_⟩
      have eb : (((List.range (ts.length - 1)).map fun k => lt2 (ts.getD k (0, 0)) (ts.getD (k + 1) (0, 0))).all id) = asc ts := by rw [List.all_map]; rfl
      rw [eb]
      have S12 := S1.trans S2
      refine ite2 (fun h4 => ?_) (fun h4 => ?_)
      · have z : webOK n ts = false := by
          unfold webOK
          rw [(Bool.not_eq_true' _).mp h4, Bool.false_and, Bool.and_false, Bool.and_false]
        have q' := q H2 S12
        rw [z] at q'
        exact q'
      have h4 : asc ts = true := by
        cases e : asc ts with
        | true => rfl
        | false => exact absurd (by rw [e]; rfl) h4
      -- whether all is reached
      have hin : ∀ t ∈ ts, tieIn (n.toNat : Int) t := fun t ht => by
        obtain ⟨a0, a1, a2⟩ := tieIn_of (List.all_eq_true.mp h3 t ht)
        exact ⟨a0, by omega, by omega, by omega⟩
      have en2 : ((n.toNat : Nat) : Int) = n := by omega
      refine ⟨_, rfl, .ref wa, n.toNat, ts, rfl, (by rw [en2]; exact hW.same S12), by omega, htl, hin, fun l ps H3 S3 nl nps R3 => ?_⟩
      have rl : (rowsOf n.toNat ts).length = n.toNat := rowsOf_len _ _
      refine ⟨l, ps, rowsOf n.toNat ts, 0, rfl, R3, (by rw [rl]; exact rowsOf_in hin), by rw [rl]; omega, by rw [rl]; omega, fun aw H4 S4 na4 h4' len4 => ?_⟩
      refine ⟨aw, _, rfl, SqL.of h4', by rw [len4, rl]; omega, fun m hm hmin => ⟨_, _, rfl, rfl, ?_⟩⟩
      have z : webOK n ts = decide (0 ≤ m) := by
        unfold webOK
        rw [decide_eq_true h1, decide_eq_true h2, h3, h4]
        show reach n.toNat ts = decide (0 ≤ m)
        unfold reach
        by_cases hm0 : 0 ≤ m
        · rw [decide_eq_true hm0]
          exact List.all_eq_true.mpr fun z hz => decide_eq_true (Int.le_trans hm0 (hmin z hz))
        · rw [decide_eq_false hm0]
          refine Bool.eq_false_iff.mpr fun e => hm0 ?_
          exact of_decide_eq_true (List.all_eq_true.mp e m hm)
      have q' := q H4 ((S12.trans S3).trans S4)
      rw [z] at q'
      exact q'
end
end Sb

/-! ## LZ -/
/-! list(zip(xs, ys)) of two lists. -/
namespace Sb
open PySem PySem.Spec PyProof.Rows L2
theorem zl_len : typeLookup (.type "zip") "__len__" = pure none := by
  rw [typeLookup_type, builtinLookup_eq_fast]
  kernel_rfl
theorem zl_hint : typeLookup (.type "zip") "__length_hint__" = pure none := by
  rw [typeLookup_type, builtinLookup_eq_fast]
  kernel_rfl
/-- a zip at z over the lists at a and b, i turns done; S apart from what it gave out -/
structure ZAt (h : Heap) (z TI TO i1 i2 a b S : Addr) (xs ys : Array Value) (i : Nat) : Prop where
  ti : IsPair h TI (.ref i1) (.ref i2)
  it1 : h.IsListIter i1 a i
  it2 : h.IsListIter i2 b i
  l1 : h.IsList a xs
  l2 : h.IsList b ys
  zip : (IsZip h z TI TO .none ∧ ∃ u v, IsPair h TO u v) ∨ ∃ T f oT, IsZipHeld h z TI TO T f ∧ h.get? T = some oT ∧ T ≠ z ∧ T ≠ i1 ∧ T ≠ i2 ∧ T ≠ S
/-- S lies apart from all of it -/
structure ZOff (z TI TO i1 i2 a b S : Addr) : Prop where
  z : S ≠ z
  ti : S ≠ TI
  to : S ≠ TO
  i1 : S ≠ i1
  i2 : S ≠ i2
  a : S ≠ a
  b : S ≠ b
section
variable {P : Program} {w : World} {A : Around} {s : Shared} {z TI TO i1 i2 a b S : Addr} {xs ys : Array Value}
theorem ZAt.keep {h h2 : Heap} {i : Nat} (x : ZAt h z TI TO i1 i2 a b S xs ys i) (o : ZOff z TI TO i1 i2 a b S) (k : ∀ c u, c ≠ S → h.get? c = some u → h2.get? c = some u) : ZAt h2 z TI TO i1 i2 a b S xs ys i where
  ti := k _ _ (Ne.symm o.ti) x.ti
  it1 := x.it1.at fun u e => k _ u (Ne.symm o.i1) e
  it2 := x.it2.at fun u e => k _ u (Ne.symm o.i2) e
  l1 := x.l1.at fun u e => k _ u (Ne.symm o.a) e
  l2 := x.l2.at fun u e => k _ u (Ne.symm o.b) e
  zip := by
    rcases x.zip with ⟨hz, u, v, e⟩ | ⟨T, f, oT, hz, hT, r1, r2, r3, r4⟩
    · exact .inl ⟨k _ _ (Ne.symm o.z) hz, u, v, k _ _ (Ne.symm o.to) e⟩
    · exact .inr ⟨T, f, oT, k _ _ (Ne.symm o.z) hz, k _ _ r4 hT, r1, r2, r3, r4⟩
theorem ZAt.lt {h : Heap} {i : Nat} (x : ZAt h z TI TO i1 i2 a b S xs ys i) : z < h.objs.size ∧ i1 < h.objs.size ∧ i2 < h.objs.size := by
  have l1 : i1 < h.objs.size := by
    obtain ⟨_, e, _⟩ := x.it1
    exact Heap.lt_size e
  have l2 : i2 < h.objs.size := by
    obtain ⟨_, e, _⟩ := x.it2
    exact Heap.lt_size e
  rcases x.zip with ⟨hz, _⟩ | ⟨T, f, oT, hz, _⟩
  · exact ⟨Heap.lt_size hz, l1, l2⟩
  · exact ⟨Heap.lt_size hz, l1, l2⟩
theorem z_item {E : Value → Shared → Prop} {i : Nat} {x y : Value} {Q : Option Value → Shared → Prop} (D : ZipApart z TI TO i1 i2 a b) (st : ZAt s.heap z TI TO i1 i2 a b S xs ys i) (hS : S < s.heap.objs.size) (hx : xs[i]? = some x) (hy : ys[i]? = some y)
    (q : ∀ h2, IsPair h2 s.heap.objs.size x y → ZAt h2 z TI TO i1 i2 a b S xs ys (i + 1) → h2.objs.size = s.heap.objs.size + 1 → (∀ c u, c ≠ z → c ≠ TO → c ≠ i1 → c ≠ i2 → s.heap.get? c = some u → h2.get? c = some u) → Q (some (.ref s.heap.objs.size)) { s with heap := h2 }) :
    wpAny (model P w) A (pyNext (.ref z)) Q E s := by
  obtain ⟨n0, n1, n2⟩ := st.lt
  rcases st.zip with ⟨hz, u, v, e⟩ | ⟨T, f, oT, hz, hT, r1, r2, r3, r4⟩
  · refine wpAny_pyNext_zip_item D hz st.ti e st.it1 st.it2 st.l1 st.l2 hx hy fun h2 z2 o2 a3 a4 a5 a6 k => ?_
    exact q h2 a5 ⟨k _ _ D.TIz D.TITO D.TIi1 D.TIi2 st.ti, a3, a4, st.l1.at fun o e => k _ o D.l1z D.l1TO D.l1i1 D.l1i2 e, st.l2.at fun o e => k _ o D.l2z D.l2TO D.l2i1 D.l2i2 e, .inr ⟨_, false, _, z2, a5, Nat.ne_of_gt n0, Nat.ne_of_gt n1, Nat.ne_of_gt n2, Nat.ne_of_gt hS⟩⟩ a6
      fun c o c1 c2 c3 c4 e => k c o c1 c2 c3 c4 e
  · refine wpAny_pyNext_zip_item_held D hz hT st.ti st.it1 st.it2 st.l1 st.l2 hx hy fun h2 z2 a3 a4 a5 a6 k => ?_
    exact q h2 a5 ⟨k _ _ D.TIz D.TIi1 D.TIi2 st.ti, a3, a4, st.l1.at fun o e => k _ o D.l1z D.l1i1 D.l1i2 e, st.l2.at fun o e => k _ o D.l2z D.l2i1 D.l2i2 e, .inr ⟨T, true, oT, z2, k _ _ r1 r2 r3 hT, r1, r2, r3, r4⟩⟩ a6
      fun c o c1 _ c3 c4 e => k c o c1 c3 c4 e
theorem z_done {E : Value → Shared → Prop} {i : Nat} {Q : Option Value → Shared → Prop} (hh : A.handled = none) (D : ZipApart z TI TO i1 i2 a b) (st : ZAt s.heap z TI TO i1 i2 a b S xs ys i) (he : xs[i]? = none ∨ ys[i]? = none)
    (q : ∀ h2, (∀ c u, c ≠ z → c ≠ TO → c ≠ i1 → c ≠ i2 → s.heap.get? c = some u → h2.get? c = some u) → Q none { s with heap := h2 }) : wpAny (model P w) A (pyNext (.ref z)) Q E s := by
  rcases st.zip with ⟨hz, u, v, e⟩ | ⟨T, f, oT, hz, hT, r1, r2, r3, r4⟩
  · exact wpAny_pyNext_zip_end hh D hz st.ti e st.it1 st.it2 st.l1 st.l2 he fun h2 k => q h2 fun c o c1 c2 c3 c4 e => k c o c1 c2 c3 c4 e
  · exact wpAny_pyNext_zip_end_held hh D hz hT st.ti st.it1 st.it2 st.l1 st.l2 he fun h2 k => q h2 fun c o c1 _ c3 c4 e => k c o c1 c3 c4 e
/-- the pairs given out so far stand above lo -/
def Given (lo : Nat) (xs ys : Array Value) (h : Heap) (ts : List Addr) : Prop := ts.Nodup ∧ ∀ (j : Nat) (t : Addr), ts[j]? = some t → lo ≤ t ∧ ∃ x y, xs[j]? = some x ∧ ys[j]? = some y ∧ IsPair h t x y
theorem z_loop {R : Result → Shared → Prop} {n lo : Nat} {res : Value} {base : Heap} (hh : A.handled = none) (D : ZipApart z TI TO i1 i2 a b) (off : ZOff z TI TO i1 i2 a b S) (hn : n = min xs.size ys.size) (hz : n ≤ sizeLine)
    (low : S < lo ∧ z < lo ∧ TO < lo ∧ i1 < lo ∧ i2 < lo)
    (q : ∀ h2 acc c ts, (∀ d u, d ≠ S → d ≠ z → d ≠ TO → d ≠ i1 → d ≠ i2 → base.get? d = some u → h2.get? d = some u) → h2.get? S = some { cls := .type "list", dict := none, data := .seq acc c, slots := #[] } → acc.toList = ts.map Value.ref → ts.length = n → Given lo xs ys h2 ts →
      R (.ok (.ret res)) { s with heap := h2 }) :
    ∀ (k i : Nat) (h : Heap) (c : Nat) (acc : Array Value) (ts : List Addr), i + k = n → ZAt h z TI TO i1 i2 a b S xs ys i → lo ≤ h.objs.size → (∀ d u, d ≠ S → d ≠ z → d ≠ TO → d ≠ i1 → d ≠ i2 → base.get? d = some u → h.get? d = some u) →
      h.get? S = some { cls := .type "list", dict := none, data := .seq acc c, slots := #[] } → acc.toList = ts.map Value.ref → ts.length = i → Given lo xs ys h ts →
      codeAny (model P w) A (.builtin "list.extend.loop" ⟨[.ref S, .ref z, res], []⟩) R { s with heap := h } := by
  have fresh : ∀ t, lo ≤ t → t ≠ S ∧ t ≠ z ∧ t ≠ TO ∧ t ≠ i1 ∧ t ≠ i2 := fun t ht => ⟨Nat.ne_of_gt (Nat.lt_of_lt_of_le low.1 ht), Nat.ne_of_gt (Nat.lt_of_lt_of_le low.2.1 ht), Nat.ne_of_gt (Nat.lt_of_lt_of_le low.2.2.1 ht), Nat.ne_of_gt (Nat.lt_of_lt_of_le low.2.2.2.1 ht), Nat.ne_of_gt (Nat.lt_of_lt_of_le low.2.2.2.2 ht)⟩
  intro k
  induction k with
  | zero =>
    intro i h c acc ts hi st hl keep hS hacc hts G
    refine codeAny_builtin F.entry_extend_loop ?_
    rw [Around.under_plainId F.plain_extend_loop _]
    show wpAny _ A.in1 (pyNext (.ref z) >>= _) _ _ _
    have he : xs[i]? = none ∨ ys[i]? = none := by
      rcases Nat.le_total xs.size ys.size with e | e
      · exact .inl (Array.getElem?_eq_none (by omega))
      · exact .inr (Array.getElem?_eq_none (by omega))
    refine wpAny_bind (z_done (s := { s with heap := h }) (A := A.in1) hh D st he fun h2 k2 => ?_)
    refine wpAny_pure (q h2 acc c ts (fun d u e0 e1 e2 e3 e4 e => k2 d u e1 e2 e3 e4 (keep d u e0 e1 e2 e3 e4 e)) (k2 _ _ off.z off.to off.i1 off.i2 hS) hacc (by omega) ⟨G.1, fun j t hj => ?_⟩)
    obtain ⟨g0, x, y, g1, g2, g3⟩ := G.2 j t hj
    obtain ⟨_, f1, f2, f3, f4⟩ := fresh t g0
    exact ⟨g0, x, y, g1, g2, k2 _ _ f1 f2 f3 f4 g3⟩
  | succ k ih =>
    intro i h c acc ts hi st hl keep hS hacc hts G
    have lx : i < xs.size := by omega
    have ly : i < ys.size := by omega
    have sz : acc.size = i := by rw [← Array.length_toList, hacc, List.length_map, hts]
    refine codeAny_builtin F.entry_extend_loop ?_
    rw [Around.under_plainId F.plain_extend_loop _]
    show wpAny _ A.in1 (pyNext (.ref z) >>= _) _ _ _
    refine wpAny_bind (z_item (s := { s with heap := h }) (A := A.in1) D st (Heap.lt_size hS) (Array.getElem?_eq_getElem lx) (Array.getElem?_eq_getElem ly) fun h2 hp st2 hsz k2 => ?_)
    dsimp only at hp hsz k2 ⊢
    have hS2 := k2 _ _ off.z off.to off.i1 off.i2 hS
    show wpAny _ A.in1 (updateSeq S (·.push (Value.ref h.objs.size)) >>= _) _ _ _
    have up : ∀ d u, d ≠ S → h2.get? d = some u → (h2.update S (Obj.mapSeq (·.push (Value.ref h.objs.size)))).get? d = some u := fun d u hd e => (Heap.get?_update_other _ _ (Ne.symm hd)).trans e
    refine wpAny_bind ?_
    refine wpAny_updateSeq hS2 rfl (wpAny_pure ⟨plainId_quiet F.plain_extend_loop _, ih (i + 1) _ _ (acc.push (Value.ref h.objs.size)) (ts ++ [h.objs.size]) (by omega) (st2.keep off up) (by rw [Heap.size_update, hsz]; omega) (fun d u e0 e1 e2 e3 e4 e => up d u e0 (k2 d u e1 e2 e3 e4 (keep d u e0 e1 e2 e3 e4 e))) (Heap.get?_update_self _ hS2 rfl) ?_ ?_ ⟨?_, fun j t hj => ?_⟩⟩) (by rw [sz]; omega) (by show (acc.push (Value.ref h.objs.size)).size ≤ sizeLine + 1; rw [Array.size_push, sz]; omega)
    · rw [Array.toList_push, hacc, List.map_append]
      rfl
    · rw [List.length_append, hts]
      rfl
    · refine List.nodup_append.mpr ⟨G.1, List.nodup_cons.mpr ⟨List.not_mem_nil, List.nodup_nil⟩, fun d hd e he z => ?_⟩
      rw [List.mem_singleton.mp he] at z
      obtain ⟨j, hj⟩ := List.mem_iff_getElem?.mp hd
      obtain ⟨_, x, y, _, _, g3⟩ := G.2 j d hj
      exact Nat.ne_of_lt (Heap.lt_size g3) z
    · rcases Nat.lt_or_ge j ts.length with hj1 | hj1
      · rw [List.getElem?_append_left hj1] at hj
        obtain ⟨g0, x, y, g1, g2, g3⟩ := G.2 j t hj
        obtain ⟨f0, f1, f2, f3, f4⟩ := fresh t g0
        exact ⟨g0, x, y, g1, g2, up _ _ f0 (k2 _ _ f1 f2 f3 f4 g3)⟩
      · rw [List.getElem?_append_right hj1] at hj
        have e0 : j - ts.length = 0 := by
          have z := (List.getElem?_eq_some_iff.mp hj).1
          rw [List.length_singleton] at z
          omega
        rw [e0] at hj
        cases hj
        have ej : j = i := by omega
        subst ej
        exact ⟨hl, _, _, Array.getElem?_eq_getElem lx, Array.getElem?_eq_getElem ly, up _ _ (fresh _ hl).1 hp⟩
/-- list(z), z a zip that has given nothing out -/
theorem z_list {E : Value → Shared → Prop} {n : Nat} {Q : Value → Shared → Prop} (hh : A.handled = none) (D : ZipApart z TI TO i1 i2 a b) (hz0 : IsZip s.heap z TI TO .none) (hti : IsPair s.heap TI (.ref i1) (.ref i2)) (hto : IsPair s.heap TO .none .none) (hi1 : s.heap.IsListIter i1 a 0) (hi2 : s.heap.IsListIter i2 b 0) (hl1 : s.heap.IsList a xs) (hl2 : s.heap.IsList b ys) (hn : n = min xs.size ys.size) (hz : n ≤ sizeLine)
    (q : ∀ h2 acc c ts, (∀ d u, d ≠ z → d ≠ TO → d ≠ i1 → d ≠ i2 → s.heap.get? d = some u → h2.get? d = some u) → h2.get? s.heap.objs.size = some { cls := .type "list", dict := none, data := .seq acc c, slots := #[] } → acc.toList = ts.map Value.ref → ts.length = n → Given (s.heap.objs.size + 1) xs ys h2 ts →
      Q (.ref s.heap.objs.size) { s with heap := h2 }) :
    wpAny (model P w) A (call (.type "list") [.ref z]) Q E s := by
  have st0 : ZAt s.heap z TI TO i1 i2 a b s.heap.objs.size xs ys 0 := ⟨hti, hi1, hi2, hl1, hl2, .inl ⟨hz0, _, _, hto⟩⟩
  have ho : TI < s.heap.objs.size ∧ TO < s.heap.objs.size := ⟨Heap.lt_size hti, Heap.lt_size hto⟩
  obtain ⟨n0, n1, n2⟩ := st0.lt
  have la : a < s.heap.objs.size := by
    obtain ⟨_, e, _⟩ := st0.l1
    exact Heap.lt_size e
  have lb : b < s.heap.objs.size := by
    obtain ⟨_, e, _⟩ := st0.l2
    exact Heap.lt_size e
  have off : ZOff z TI TO i1 i2 a b s.heap.objs.size := ⟨Nat.ne_of_gt n0, Nat.ne_of_gt ho.1, Nat.ne_of_gt ho.2, Nat.ne_of_gt n1, Nat.ne_of_gt n2, Nat.ne_of_gt la, Nat.ne_of_gt lb⟩
  refine callType_codes (Q₁ := fun o s1 => o = .ref s.heap.objs.size ∧ s1 = { s with heap := s.heap.push { cls := .type "list", data := .seq #[] } }) F.called_list (F.typeCall_list_1 _) F.entry_list_init (code_list_new _ ⟨rfl, rfl⟩) fun o s1 e1 => ?_
  obtain ⟨rfl, rfl⟩ := e1
  generalize hS : s.heap.objs.size = S at *
  have at0 : (s.heap.push { cls := .type "list", data := .seq #[] }).get? S = some { cls := .type "list", data := .seq #[] } := by
    rw [← hS]
    exact Heap.get?_push_size _ rfl
  have k0 : ∀ d u, s.heap.get? d = some u → (s.heap.push { cls := .type "list", data := .seq #[] }).get? d = some u := fun d u e => Heap.get?_push_of_some _ e
  have z0 : (s.heap.push { cls := .type "list", data := .seq #[] }).objs.size = S + 1 := by rw [Heap.size_push, hS]
  generalize s.heap.push { cls := .type "list", data := .seq #[] } = H0 at at0 k0 z0 ⊢
  refine ⟨⟨_, at0, rfl⟩, F.args_list_init_2 _ _, ?_⟩
  let tail : Sem PySem.Fin := Builtin.List.listExtendWith (.ref S) (.ref z) .none
  refine (show wpAny _ _ (Builtin.List.listItems (.ref S) >>= fun old => Builtin.List.listUpdate (.ref S) (fun _ => #[]) >>= fun _ => letGo old.toList.reverse >>= fun _ => tail) _ _ _ from wpAny_bind ?_)
  unfold Builtin.List.listItems
  refine wpAny_bind (wpAny_seqItems at0 rfl (wpAny_pure ?_))
  refine (show wpAny _ _ (updateSeq S (fun _ => #[]) >>= fun _ => letGo (#[] : Array Value).toList.reverse >>= fun _ => tail) _ _ _ from wpAny_bind (wpAny_updateSeq at0 rfl (wpAny_bind (wpAny_letGo ?_))))
  have at1 := Heap.get?_update_self (Obj.mapSeq (fun _ => (#[] : Array Value))) at0 rfl
  have k1 : ∀ d u, d ≠ S → H0.get? d = some u → (H0.update S (Obj.mapSeq (fun _ => (#[] : Array Value)))).get? d = some u := fun d u hd e => (Heap.get?_update_other _ _ (Ne.symm hd)).trans e
  have z1 : (H0.update S (Obj.mapSeq (fun _ => (#[] : Array Value)))).objs.size = S + 1 := by rw [Heap.size_update, z0]
  generalize H0.update S (Obj.mapSeq (fun _ => (#[] : Array Value))) = H1 at at1 k1 z1 ⊢
  have old1 : ∀ d u, s.heap.get? d = some u → H1.get? d = some u := fun d u e => k1 d u (Nat.ne_of_lt (by rw [← hS]; exact Heap.lt_size e)) (k0 d u e)
  have ty : ∀ h2 : Heap, (∀ d u, s.heap.get? d = some u → h2.get? d = some u) → Shared.TypeIs { s with heap := h2 } (.ref z) "zip" := fun h2 k => ⟨_, k _ _ hz0, rfl⟩
  show wpAny _ _ (Builtin.List.listExtendWith (.ref S) (.ref z) .none) _ _ _
  unfold Builtin.List.listExtendWith
  refine wpAny_bind (wpAny_typeOf (ty H1 old1) ?_)
  have b1 : Builtin.List.listSameRef (.ref S) (.ref z) = false := by simp [Builtin.List.listSameRef, off.z]
  have b2 : (Value.type "zip" == Value.type "list") = false := by decide
  have b3 : (Value.type "zip" == Value.type "tuple") = false := by decide
  simp only [b1, b2, b3, Bool.or_false, Bool.false_eq_true, if_false]
  refine wpAny_bind (wpAny_pyIter_zip (s := { s with heap := H1 }) (old1 _ _ hz0) (wpAny_bind (wpAny_holding ?_)))
  unfold Builtin.List.listLengthHint
  refine wpAny_bind (wpAny_specialOf (ty H1 old1) zl_len ?_)
  refine (show wpAny _ _ (specialOf (Value.ref z) (Str.ofString "__length_hint__") >>= _) _ _ _ from wpAny_bind (wpAny_specialOf (ty H1 old1) zl_hint (wpAny_pure ?_)))
  refine (show wpAny _ _ (rule "list.extend.makes-room" >>= fun _ => Builtin.List.listTouch (.ref S) >>= fun _ => again (.builtin "list.extend.loop" ⟨[.ref S, .ref z, .none], []⟩)) _ _ _ from wpAny_bind (wpAny_rule (wpAny_bind ?_)))
  refine (show wpAny _ _ (updateSeq S (·.push .none) >>= fun _ => updateSeq S (·.pop)) _ _ _ from wpAny_bind (wpAny_updateSeq at1 rfl ?_))
  have at2 := Heap.get?_update_self (Obj.mapSeq (·.push Value.none)) at1 rfl
  refine wpAny_updateSeq (hz := by seq_fits) at2 rfl ?_
  have at3 := Heap.get?_update_self (Obj.mapSeq (·.pop)) at2 rfl
  have k2 : ∀ d u, d ≠ S → H1.get? d = some u → ((H1.update S (Obj.mapSeq (·.push Value.none))).update S (Obj.mapSeq (·.pop))).get? d = some u := fun d u hd e => (Heap.get?_update_other _ _ (Ne.symm hd)).trans ((Heap.get?_update_other _ _ (Ne.symm hd)).trans e)
  have z2 : ((H1.update S (Obj.mapSeq (·.push Value.none))).update S (Obj.mapSeq (·.pop))).objs.size = S + 1 := by rw [Heap.size_update, Heap.size_update, z1]
  have old2 : ∀ d u, s.heap.get? d = some u → ((H1.update S (Obj.mapSeq (·.push Value.none))).update S (Obj.mapSeq (·.pop))).get? d = some u := fun d u e => k2 d u (Nat.ne_of_lt (by rw [← hS]; exact Heap.lt_size e)) (old1 d u e)
  have lo : ∀ d, d < S → d < S + 1 := fun d h => Nat.lt_succ_of_lt h
  refine wpAny_pure ⟨plainId_quiet F.plain_extend_loop _, z_loop (s := s) (A := A.in1) (base := s.heap) (lo := S + 1) (n := n) (by simp [hh]) D off hn hz ⟨Nat.lt_succ_self _, lo _ n0, lo _ ho.2, lo _ n1, lo _ n2⟩ (fun h2 acc c ts kp g1 g2 g3 g4 => ⟨rfl, q h2 acc c ts (fun d u e1 e2 e3 e4 e => kp d u (Nat.ne_of_lt (by rw [← hS]; exact Heap.lt_size e)) e1 e2 e3 e4 e) g1 g2 g3 g4⟩) n 0 _ _ #[] [] (by omega) (st0.keep off fun d u hd e => old2 d u e) (Nat.le_of_eq z2.symm) (fun d u e0 _ _ _ _ e => old2 d u e) at3 rfl rfl ⟨List.nodup_nil, fun j t hj => by simp at hj⟩⟩
end
theorem refs_vals : ∀ l : List Addr, Vals (l.map V.ref) (l.map Value.ref)
  | [] => .nil
  | _ :: l => .cons rfl (refs_vals l)
section
variable {X : Cx}
/-- many new objects are known at once: H2 tells no less, and of what it tells anew each is above what stood -/
theorem inv_lays {pins : List (Addr × Obj)} {σ : L2.St} {H H2 : Hp} {s : Shared} {h2 : Heap} {t2 : Nat} (I : Inv X pins σ H s) (k : ∀ b o, s.heap.get? b = some o → h2.get? b = some o) (low : ∀ b o, H b = some o → H2 b = some o)
    (new : ∀ b o, H2 b = some o → H b = some o ∨ (s.heap.objs.size ≤ b ∧ ObjOk X.prog X.w H2 h2 b o)) : Inv X pins σ H2 { s with heap := h2, toks := t2 } := by
  refine I.call' (ch := []) rfl ⟨fun b o q _ _ _ => k b o q, fun b o q _ _ _ => ⟨o.slots, k b o q⟩, fun b o q n _ => ?_, fun b o q _ => ⟨o, k b o q⟩, fun b xs q => low b _ q, fun b o u q => low b _ q, fun b ps q => ⟨#[], by simp [low b _ q]⟩⟩ (fun b u q => ?_) I.bare fun b z => absurd z (by simp)
  · cases e : H2 b with
    | none => rfl
    | some u =>
      rcases new b u e with z | ⟨z, _⟩
      · rw [n] at z
        cases z
      · exact absurd (Heap.lt_size q) (Nat.not_lt.mpr z)
  · rcases new b u q with z | ⟨_, z⟩
    · exact (I.hok b u z).stay (fun d v _ y => k d v y) (fun d y => low d _ y) fun d xs y => low d _ y
    · exact z
/-- list(zip(xs, ys)): a new list of new pairs -/
def tListZip (K : PySem.W.Frag) (t : TA) : TE := fun σ H Q => t σ H fun vs H1 => ∃ (a b : Addr) (xs ys : List V), vs = [.ref a, .ref b] ∧ SqL K H1 a xs ∧ SqL K H1 b ys ∧
  ∀ (p : Addr) (ts : List Addr) H2, (∀ c o, H1 c = some o → H2 c = some o) → H1 p = none → H2 p = some (.lst (ts.map V.ref)) → ts.length = min xs.length ys.length →
    (∀ (j : Nat) (u : Addr) (x y : V), ts[j]? = some u → xs[j]? = some x → ys[j]? = some y → H2 u = some (.tup [x, y])) → (∀ u ∈ ts, H1 u = none) → Q (.ref p) H2
theorem pe_listZip {e1 e2 : Expr} {t : TA} {p p2 q pos : Pos} (hc : X.calm = true) (hg : Gl X "list") (hm : X.mg "list" = none) (hg2 : Gl X "zip") (hm2 : X.mg "zip" = none) (ha : PA X [e1, e2] t)
    (ho : starEach [.Call (.Name "zip" p2) [e1, e2] [] q] X.env = (false, eval (.Call (.Name "zip" p2) [e1, e2] [] q) X.env) :: starEach [] X.env := by rfl)
    (hs : starEach [e1, e2] X.env = (false, eval e1 X.env) :: starEach [e2] X.env := by rfl) (hpl : (backTo q (starEach [e2] X.env)).any (·.1) = false := by rfl) :
    PE X (.Call (.Name "list" p) [.Call (.Name "zip" p2) [e1, e2] [] q] [] pos) (tListZip X.K t) := by
  refine ⟨fun pins s σ H Q I h => ?_⟩
  have run := ha.run q pins s σ H _ I h
  refine Call_ (ld_blt I hg hm (u := .type "list") (by rfl) ?_)
  refine callWith_type1 (args_cons ?_ ho) ho rfl
  refine Call_ (ld_blt I hg2 hm2 boot_zip (callWith_type1 (thn run fun us s1 r => ?_) hs hpl))
  obtain ⟨vs, H1, I1, rv, a, b, xs, ys, rfl, ka, kb, fin⟩ := r
  obtain ⟨u1, u2, rfl, ru1, ru2⟩ := vals2 rv
  cases (show u1 = Value.ref a from ru1)
  cases (show u2 = Value.ref b from ru2)
  obtain ⟨js, ra, pa, za⟩ := I1.list ka
  obtain ⟨ks, rb, pb, zb⟩ := I1.list kb
  refine call_zip_2 pa.isList pb.isList fun h1 hz hti hto hi1 hi2 sz1 k1 => args_nil ?_
  have ea : js.toArray.size = xs.length := by rw [List.size_toArray, ra.length]
  have eb : ks.toArray.size = ys.length := by rw [List.size_toArray, rb.length]
  refine z_list (s := { s1 with heap := h1 }) (n := min xs.length ys.length) (I1.ok.hd hc) (PySem.W.ktu_apart s1.heap.objs.size a b pa.lt pb.lt) hz hti hto hi1 hi2 (pa.isList.at fun o e => k1 a o e) (pb.isList.at fun o e => k1 b o e) (by rw [ea, eb]) (by omega) fun h2 acc c ts k2 hS hacc hlen G => ?_
  dsimp only at k2 hS G ⊢
  have kk : ∀ d u, s1.heap.get? d = some u → h2.get? d = some u := fun d u e => by
    have lt := Heap.lt_size e
    exact k2 d u (Nat.ne_of_lt (Nat.lt_of_lt_of_le lt (Nat.le_add_right _ 4))) (Nat.ne_of_lt (Nat.lt_of_lt_of_le lt (Nat.le_add_right _ 3))) (Nat.ne_of_lt lt) (Nat.ne_of_lt (Nat.lt_of_lt_of_le lt (Nat.le_add_right _ 1))) (k1 d u e)
  have hge : ∀ u ∈ ts, h1.objs.size < u := fun u hu => by
    obtain ⟨j, hj⟩ := List.mem_iff_getElem?.mp hu
    exact (G.2 j u hj).1
  have fresh : ∀ d, s1.heap.objs.size ≤ d → H1 d = none := fun d hd => I1.hok.fresh hd
  have hS0 : H1 h1.objs.size = none := fresh _ (by omega)
  have hts0 : ∀ u ∈ ts, H1 u = none := fun u hu => fresh _ (by have := hge u hu; omega)
  let H2 : Hp := fun d => if d = h1.objs.size then some (.lst (ts.map V.ref)) else if d ∈ ts then some (.tup [xs.getD (ts.idxOf d) .non, ys.getD (ts.idxOf d) .non]) else H1 d
  have at_S : H2 h1.objs.size = some (.lst (ts.map V.ref)) := if_pos rfl
  have low : ∀ d o, H1 d = some o → H2 d = some o := fun d o e => by
    have n1 : d ≠ h1.objs.size := ne_of_none e hS0
    have n2 : d ∉ ts := fun z => by
      rw [hts0 d z] at e
      cases e
    show (if d = h1.objs.size then _ else if d ∈ ts then _ else H1 d) = some o
    rw [if_neg n1, if_neg n2]
    exact e
  have at_t : ∀ (j : Nat) (u : Addr) (x y : V), ts[j]? = some u → xs[j]? = some x → ys[j]? = some y → H2 u = some (.tup [x, y]) := fun j u x y hu hx hy => by
    have hm := List.mem_of_getElem? hu
    have n1 : u ≠ h1.objs.size := Nat.ne_of_gt (hge u hm)
    have hj := (List.getElem?_eq_some_iff.mp hu).1
    have ej : ts.idxOf u = j := by
      obtain ⟨_, e⟩ := List.getElem?_eq_some_iff.mp hu
      rw [← e]
      exact G.1.idxOf_getElem j hj
    show (if u = h1.objs.size then _ else if u ∈ ts then _ else H1 u) = _
    rw [if_neg n1, if_pos hm, ej, List.getD_eq_getElem?_getD, List.getD_eq_getElem?_getD, hx, hy] <;> rfl
  refine ⟨.ref h1.objs.size, H2, inv_lays (t2 := s1.toks) I1 kk low fun d o e => ?_, rfl, fin h1.objs.size ts H2 low hS0 at_S hlen at_t hts0⟩
  by_cases n1 : d = h1.objs.size
  · subst n1
    rw [at_S] at e
    cases e
    refine .inr ⟨by omega, ?_, acc.toList, c, ?_, ?_⟩
    · rw [List.length_map]
      omega
    · rw [hacc]
      exact refs_vals ts
    · rw [Array.toArray_toList]
      exact hS
  · by_cases n2 : d ∈ ts
    · obtain ⟨j, hj⟩ := List.mem_iff_getElem?.mp n2
      obtain ⟨_, x, y, g1, g2, g3⟩ := G.2 j d hj
      have hjl := (List.getElem?_eq_some_iff.mp hj).1
      have hx : xs[j]? = some xs[j] := List.getElem?_eq_getElem (by omega)
      have hy : ys[j]? = some ys[j] := List.getElem?_eq_getElem (by omega)
      rw [at_t j d _ _ hj hx hy] at e
      cases e
      obtain ⟨v1, hv1, rv1⟩ := ra.get hx
      obtain ⟨v2, hv2, rv2⟩ := rb.get hy
      have e1 : x = v1 := by
        have g1 : js[j]? = some x := by simpa using g1
        rw [hv1] at g1
        exact (Option.some.inj g1).symm
      have e2 : y = v2 := by
        have g2 : ks[j]? = some y := by simpa using g2
        rw [hv2] at g2
        exact (Option.some.inj g2).symm
      subst e1 e2
      exact .inr ⟨by have := hge d n2; omega, by show 2 ≤ sizeLine; decide, [x, y], .cons rv1 (.cons rv2 .nil), ⟨_, g3, rfl, _, rfl⟩⟩
    · refine .inl ?_
      have e : (if d = h1.objs.size then _ else if d ∈ ts then _ else H1 d) = some o := e
      rw [if_neg n1, if_neg n2] at e
      exact e
end
end Sb

/-! ## W132 -/
/-! Drawn webs: names drawn, ways, ties named anew. -/
namespace Sb
open PySem PySem.Spec PyProof.Rows L2
abbrev sNames : Stmt := top 34
abbrev sWays : Stmt := top 36
abbrev sRenamed : Stmt := top 35
section
variable {X : Cx}
theorem ix_lK {K : PySem.W.Frag} (hK : X.K = K := by rfl) : IxR X (rIxL K) := hK ▸ ix_list
end
structure WTxt (mg : Str → Option Value) : Prop where
  len : mg "len" = none
  range : mg "range" = none
  list : mg "list" = none
  zip : mg "zip" = none
  sorted : mg "sorted" = none
  tuple : mg "tuple" = none
  min : mg "min" = none
  max : mg "max" = none
  sum : mg "sum" = none
theorem ge_same_but {p : Addr} {H H1 H2 : Hp} (b : But p H H1) (s : Same H1 H2) : But p H H2 := b.trans (sameBut s)
/-- the numbers below n -/
def upto (n : Nat) : List Int := (List.range n).map fun (i : Nat) => (i : Int)
theorem rg0 (n : Nat) : rgV 0 (n : Int) = (upto n).map V.int := by
  unfold rgV upto
  rw [List.map_map]
  have e : ((n : Int) - 0).toNat = n := by omega
  rw [e]
  refine List.map_congr_left fun i _ => ?_
  show V.int (0 + (i : Nat)) = V.int (i : Int)
  rw [Int.zero_add]
def spNames : Sp := fun vs H Q _ => ∃ (p c : Addr) (k n : Nat), vs = [.ref p, .int (n : Int)] ∧ Pen H p c k ∧ k < 900000 ∧ n ≤ 1000 ∧
  ∀ (l : Addr) H' (ns : List Int) k', But p H H' → H l = none → H' l = some (.lst (ns.map V.int)) → ns.Perm (upto n) → k' ≤ k + n → Pen H' p c k' → Q (.ref l) H'
theorem perm_erase {rs : List Int} {j : Nat} (h : j < rs.length) : ([rs[j]] ++ rs.eraseIdx j).Perm rs := by
  show (rs[j] :: rs.eraseIdx j).Perm rs
  rw [List.eraseIdx_eq_take_drop_succ]
  have e : rs = rs.take j ++ rs[j] :: rs.drop (j + 1) := by
    rw [← List.drop_eq_getElem_cons h, List.take_append_drop]
  refine List.Perm.trans (List.perm_middle (l₁ := rs.take j)).symm ?_
  rw [← e]
/-! ### pairs in a list -/
def PrsAt (H : Hp) (qs : List Addr) (ts : List (Int × Int)) : Prop := qs.length = ts.length ∧ ∀ (i : Nat) (q : Addr) (a b : Int), qs[i]? = some q → ts[i]? = some (a, b) → H q = some (.tup [.int a, .int b])
def PrsL (H : Hp) (l : Addr) (ts : List (Int × Int)) : Prop := ∃ qs : List Addr, H l = some (.lst (qs.map V.ref)) ∧ PrsAt H qs ts
theorem PrsAt.mono {H H' : Hp} {qs : List Addr} {ts : List (Int × Int)} (h : PrsAt H qs ts) (k : ∀ q xs, H q = some (.tup xs) → H' q = some (.tup xs)) : PrsAt H' qs ts := ⟨h.1, fun i q a b e1 e2 => k _ _ (h.2 i q a b e1 e2)⟩
theorem PrsAt.nil {H : Hp} : PrsAt H [] [] := ⟨rfl, fun i q a b e _ => by simp at e⟩
theorem PrsAt.app {H : Hp} {qs rs : List Addr} {ts us : List (Int × Int)} (h : PrsAt H qs ts) (g : PrsAt H rs us) : PrsAt H (qs ++ rs) (ts ++ us) := by
  refine ⟨by rw [List.length_append, List.length_append, h.1, g.1], fun i q a b e1 e2 => ?_⟩
  rcases Nat.lt_or_ge i qs.length with hi | hi
  · rw [List.getElem?_append_left hi] at e1
    rw [List.getElem?_append_left (by rw [← h.1]; exact hi)] at e2
    exact h.2 i q a b e1 e2
  · rw [List.getElem?_append_right hi] at e1
    rw [List.getElem?_append_right (by rw [← h.1]; exact hi), ← h.1] at e2
    exact g.2 _ q a b e1 e2
theorem PrsL.same {H H' : Hp} {l : Addr} {ts : List (Int × Int)} (h : PrsL H l ts) (s : Same H H') : PrsL H' l ts := by
  obtain ⟨qs, e, g⟩ := h
  exact ⟨qs, s _ _ e, g.mono fun q xs e => s _ _ e⟩
theorem PrsL.but {H H' : Hp} {l p : Addr} {ts : List (Int × Int)} (h : PrsL H l ts) (b : But p H H') (n : l ≠ p) {xs : List V} (hp : H p = some (.lst xs)) : PrsL H' l ts := by
  obtain ⟨qs, e, g⟩ := h
  refine ⟨qs, b _ _ n e, g.mono fun q zs e => b _ _ (fun z => ?_) e⟩
  rw [z, hp] at e
  cases e
def rowOf (x y : Int) (f : Int) (m : Nat) : List Int := x :: ((List.range m).map fun (i : Nat) => f + (i : Int)) ++ [y]
def legs (l : List Int) : List (Int × Int) := l.zip l.tail
def waysOf (x y : Int) : List Nat → Int → List (Int × Int)
  | [], _ => []
  | m :: r, f => legs (rowOf x y f m) ++ waysOf x y r (f + m)
theorem ways_snoc (x y : Int) : ∀ (a : List Nat) (m : Nat) (f : Int), waysOf x y (a ++ [m]) f = waysOf x y a f ++ legs (rowOf x y (f + (a.sum : Nat)) m)
  | [], m, f => by
    show legs (rowOf x y f m) ++ [] = [] ++ legs (rowOf x y (f + ((0 : Nat) : Int)) m)
    rw [List.append_nil, List.nil_append]
    congr 2
    omega
  | b :: a, m, f => by
    show legs (rowOf x y f b) ++ waysOf x y (a ++ [m]) (f + b) = legs (rowOf x y f b) ++ waysOf x y a (f + b) ++ _
    rw [ways_snoc x y a m (f + b), List.append_assoc, List.sum_cons]
    have e : f + (b : Int) + ((a.sum : Nat) : Int) = f + ((b + a.sum : Nat) : Int) := by omega
    rw [e]
theorem rowOf_len (x y f : Int) (m : Nat) : (rowOf x y f m).length = m + 2 := by
  unfold rowOf
  rw [List.length_append, List.length_cons, List.length_map, List.length_range]
  rfl
theorem legs_len (x y f : Int) (m : Nat) : (legs (rowOf x y f m)).length = m + 1 := by
  unfold legs
  rw [List.length_zip, List.length_tail, rowOf_len]
  omega
theorem ways_len (x y : Int) : ∀ (a : List Nat) (f : Int), (waysOf x y a f).length = a.sum + a.length
  | [], _ => rfl
  | m :: a, f => by
    show (legs (rowOf x y f m) ++ waysOf x y a (f + m)).length = _
    rw [List.length_append, legs_len, ways_len x y a, List.sum_cons, List.length_cons]
    omega
theorem cut1 (x : Int) (l : List Int) : cutV ((x :: l).map V.int) (some 1) none = l.map V.int := by
  unfold cutV
  rw [HT.sIx_none, show ((1 : Int)) = ((1 : Nat) : Int) from rfl, HT.sIx_nat, List.map_cons, List.length_cons, Nat.min_eq_left (by omega), List.drop_succ_cons, List.drop_zero]
  exact List.take_of_length_le (by omega)
def spWays (K : PySem.W.Frag) : Sp := fun vs H Q _ => ∃ (e l : Addr) (x y f : Int) (ls : List Nat), vs = [.ref e, .ref l, .int f] ∧ SqT K H e [.int x, .int y] ∧ SqL K H l (ls.map fun (m : Nat) => V.int (m : Int)) ∧ 0 ≤ f ∧ f ≤ 1000 ∧ ls.length ≤ 20 ∧ (∀ m ∈ ls, m ≤ 50) ∧
  ∀ fd H', Same H H' → H fd = none → PrsL H' fd (waysOf x y ls f) → Q (.ref fd) H'
theorem sum_take {ls : List Nat} {B i m : Nat} (h : ∀ m ∈ ls, m ≤ B) (hi : ls[i]? = some m) : (ls.take (i + 1)).sum = (ls.take i).sum + m := by
  rw [List.take_add_one, hi, List.sum_append]
  simp
theorem sum_le {B : Nat} : ∀ {ls : List Nat}, (∀ m ∈ ls, m ≤ B) → ls.sum ≤ B * ls.length
  | [], _ => Nat.zero_le _
  | m :: r, h => by
    have h1 := h m List.mem_cons_self
    have h2 := sum_le (ls := r) fun k hk => h k (List.mem_cons_of_mem _ hk)
    rw [List.sum_cons, List.length_cons, Nat.mul_succ]
    omega
/-! ### ties named anew -/
def nmTie (ns : List Int) (t : Int × Int) : Int × Int := (if ns.getD t.2.toNat 0 < ns.getD t.1.toNat 0 then ns.getD t.2.toNat 0 else ns.getD t.1.toNat 0, if ns.getD t.1.toNat 0 < ns.getD t.2.toNat 0 then ns.getD t.2.toNat 0 else ns.getD t.1.toNat 0)
/-- pairs in a tuple -/
def PrsT (H : Hp) (t : Addr) (ts : List (Int × Int)) : Prop := ∃ qs : List Addr, H t = some (.tup (qs.map V.ref)) ∧ PrsAt H qs ts
/-- no later one before an earlier one -/
def Asc (ts : List (Int × Int)) : Prop := ts.Pairwise fun s t => SrtO.lexB t s = false
def spRenamed : Sp := fun vs H Q _ => ∃ (l nl : Addr) (ts : List (Int × Int)) (ns : List Int), vs = [.ref l, .ref nl] ∧ PrsL H l ts ∧ H nl = some (.lst (ns.map V.int)) ∧ ts.length ≤ 100000 ∧ (∀ t ∈ ts, 0 ≤ t.1 ∧ t.1 < ns.length ∧ 0 ≤ t.2 ∧ t.2 < ns.length) ∧
  ∀ (t : Addr) (us : List (Int × Int)) H', Same H H' → us.Perm (ts.map (nmTie ns)) → Asc us → PrsT H' t us → Q (.ref t) H'
theorem getMapA {l : List Addr} {i : Nat} {y : V} (h : (l.map V.ref)[i]? = some y) : ∃ q, l[i]? = some q ∧ y = .ref q := by
  rw [List.getElem?_map] at h
  obtain ⟨q, h1, h2⟩ := Option.map_eq_some_iff.mp h
  exact ⟨q, h1, h2.symm⟩
def unref : V → Addr
  | .ref q => q
  | _ => 0
theorem refs_perm {ys : List V} {rs : List Addr} (h : ys.Perm (rs.map V.ref)) : ∃ zs : List Addr, ys = zs.map V.ref ∧ zs.Perm rs := by
  refine ⟨ys.map unref, ?_, ?_⟩
  · rw [List.map_map]
    have e : ∀ y ∈ ys, (V.ref ∘ unref) y = y := fun y hy => by
      obtain ⟨q, _, rfl⟩ := List.mem_map.mp (h.mem_iff.mp hy)
      rfl
    exact ((List.map_congr_left e).trans (List.map_id _)).symm
  · have z := h.map unref
    rw [List.map_map] at z
    exact z.trans (List.Perm.of_eq (List.map_id _))
def pairAt (H : Hp) (v : V) : Int × Int := match v with
  | .ref q => match H q with
    | some (.tup [.int a, .int b]) => (a, b)
    | _ => (0, 0)
  | _ => (0, 0)
section
variable {P : Program} {w : World} {K : PySem.W.Frag} {mg : Str → Option Value} {base : Heap} {C : Nat → Addr}
theorem scNames : FnScope ["pen", "n", "left", "found", "turn"] ["pen", "n"] (defScope sNames) := ⟨rfl, rfl, rfl, by decide +kernel, rfl, by decide +kernel, by decide +kernel⟩
theorem ok_names {f fT : Addr} {fd fdT : FuncData} (F : FnP K "_law_any_names" sNames f fd) (T : WTxt mg) (FT : FnP K "_law_take" sTake fT fdT) (gT : mg "_law_take" = some (.ref fT)) (GT : FnOk P w K mg base CX0 2 fT fdT ["pen", "many"] spTake) : FnOk P w K mg base CX0 3 f fd ["pen", "n"] spNames := by
  have bT : Binds K fdT ["pen", "many"] [] := FT.bindsN fun _ _ _ _ _ _ us hl => match us, hl with | [_, _], _ => rfl
  refine ok0 F scNames (fun vs H Q E h => ?_) (fun cdv A outer s H vs Q E hr h => ?_)
  · obtain ⟨p, c, k, n, rfl, _⟩ := h
    rfl
  · obtain ⟨p, c, k, n, rfl, hp, hk, hn, q⟩ := h
    refine ⟨_, (pss_cons (ps_par (i := 2) (j := 3) (by rfl) scNames.nd rfl rfl (by decide) rfl rfl (pa_cons (pe_listRg rfl rfl T.list (prg_1 rfl T.range (pv 1))) (pa_cons (pe_lstL pa_nil) pa_nil)) (by rfl))
    (pss_cons (ps_for PassesOwn.never rfl (pi_range1 (by rfl) T.range (pa_cons (pv 1) pa_nil)) (pg_name (i := 4) scNames.nd rfl (Or.inl rfl))
      (pss_one (ps_expr (pe_bm PySem.F.plainAttrs_list PySem.F.slot_list_append PySem.F.type_list_append mt_appendL (pv 3) (pa_cons (pe_bm PySem.F.plainAttrs_list PySem.F.slot_list_pop PySem.F.type_list_pop mt_popAt (pv 2) (pa_cons (pe_call GT hr rfl gT FT.kp bT .nil pass0 (pa_cons (pv 0) (pa_cons (pe_callB (id := "len") call_len_seq (by rfl) T.len (by decide +kernel) (pa_cons (pv 2) pa_nil)) pa_nil))) pa_nil)) pa_nil)))))
    (pss_one (ps_ret (pv 3))))), ?_⟩
    obtain ⟨⟨op, hop⟩, ⟨oc, hoc⟩⟩ := hp.there
    refine ⟨_, rfl, _, rfl, RgOk.of_le (by decide) (by omega) (by decide) (by omega), fun lf nlf => ?_⟩
    have hlf : (upd H lf (.lst (rgV 0 (n : Int)))) lf = some (.lst ((upto n).map V.int)) := by rw [upd_same, rg0]
    have Sf : Same H (upd H lf (.lst (rgV 0 (n : Int)))) := same_upd nlf
    generalize upd H lf (.lst (rgV 0 (n : Int))) = H1 at hlf Sf
    refine ⟨by show 0 ≤ sizeLine; decide, fun fd0 H2 n2 S2 h2 => ?_⟩
    have h2 : H2 fd0 = some (.lst ([] : List V)) := h2
    have S02 := Sf.trans S2
    have npl : p ≠ lf := ne_of_none hop nlf
    have npf : p ≠ fd0 := ne_of_none (Sf _ _ hop) n2
    have ncl : c ≠ lf := ne_of_none hoc nlf
    have ncf : c ≠ fd0 := ne_of_none (Sf _ _ hoc) n2
    have nlf2 : lf ≠ fd0 := ne_of_none hlf n2
    refine ⟨_, _, rfl, _, rfl, n, rfl, by omega, by omega, for_range (lo := 0) (n := (n : Int).toNat) (fun i σ H' => (∃ x, σ = [some (.ref p), some (.int (n : Int)), some (.ref lf), some (.ref fd0), x]) ∧ But p H H' ∧ ∃ (rs fs : List Int) (k' : Nat), H' lf = some (.lst (rs.map V.int)) ∧ H' fd0 = some (.lst (fs.map V.int)) ∧ fs.length = i ∧ (fs ++ rs).Perm (upto n) ∧ k' ≤ k + i ∧ Pen H' p c k')
      ⟨⟨none, rfl⟩, sameBut S02, upto n, [], k, S2 _ _ hlf, h2, rfl, List.Perm.refl _, Nat.le_refl _, hp.same S02⟩ ?_ ?_⟩
    · rintro i σ H' hi ⟨⟨x, rfl⟩, B, rs, fs, k', hl, hf, hfl, hpm, hk', hpn⟩
      have hi : i < n := by omega
      have ul : (upto n).length = n := by unfold upto; rw [List.length_map, List.length_range]
      have hrl : rs.length = n - i := by
        have z := hpm.length_eq
        rw [List.length_append, ul] at z
        omega
      refine ⟨_, rfl, .inl ⟨rfl, _, SqL.of hf⟩, _, rfl, .inl ⟨rfl, _, SqL.of hl⟩, _, rfl, _, rfl, lf, _, rfl, .inl (SqL.of hl), p, c, k', _, rfl, hpn, by rw [List.length_map]; omega, by rw [List.length_map]; omega, by omega, fun r H4 k4 r0 r1 B4 hk4 hp4 => ?_⟩
      rw [List.length_map] at r1
      have hr : r.toNat < rs.length := by omega
      have hl4 := B4 _ _ npl.symm hl
      have hf4 := B4 _ _ npf.symm hf
      refine ⟨lf, _, r, r.toNat, .int rs[r.toNat], rfl, rfl, hl4, by omega, by omega, seqIndex_of r0 (by rw [List.length_map]; exact r1), by rw [List.getElem?_map, List.getElem?_eq_getElem hr]; rfl, ?_⟩
      have ge : ((rs.map V.int).eraseIdx r.toNat) = (rs.eraseIdx r.toNat).map V.int := erase_mapI rs r.toNat
      refine ⟨fd0, _, _, rfl, rfl, (by rw [upd_ne nlf2.symm]; exact hf4), ?_, fun H5 B5 h5 => ?_⟩
      · rw [List.length_map]
        exact small1000 (by omega)
      refine ⟨⟨_, rfl⟩, fun b o nb hb => ?_, rs.eraseIdx r.toNat, fs ++ [rs[r.toNat]], k4, ?_, ?_, ?_, ?_, by omega, ?_⟩
      · have e1 : b ≠ fd0 := ne_of_none (Sf _ _ hb) n2
        have e2 : b ≠ lf := ne_of_none hb nlf
        refine B5 _ _ e1 ?_
        rw [upd_ne e2]
        exact B4 _ _ nb (B _ _ nb hb)
      · refine B5 _ _ nlf2 ?_
        rw [upd_same, ge]
      · rw [h5, List.map_append]
        rfl
      · rw [List.length_append, hfl]
        rfl
      · refine List.Perm.trans ?_ hpm
        rw [List.append_assoc]
        exact List.Perm.append_left fs (perm_erase hr)
      · refine hp4.at (fun o e => B5 _ _ npf ?_) (fun o e => B5 _ _ ncf ?_)
        · rw [upd_ne npl]
          exact e
        · rw [upd_ne ncl]
          exact e
    · rintro σ H' ⟨⟨x, rfl⟩, B, rs, fs, k', hl, hf, hfl, hpm, hk', hpn⟩
      have en : ((n : Int)).toNat = n := by omega
      rw [en] at hfl hk'
      have ul : (upto n).length = n := by unfold upto; rw [List.length_map, List.length_range]
      have hr0 : rs = [] := by
        have z := hpm.length_eq
        rw [List.length_append, ul] at z
        exact List.eq_nil_of_length_eq_zero (by omega)
      rw [hr0, List.append_nil] at hpm
      exact ⟨_, rfl, q fd0 H' fs k' B (Sf.free n2) hf hpm hk' hpn⟩
theorem scWays : FnScope ["ends", "lengths", "first", "found", "many", "row"] ["ends", "lengths", "first"] (defScope sWays) := ⟨rfl, rfl, rfl, by decide +kernel, rfl, by decide +kernel, by decide +kernel⟩
theorem ok_ways {f : Addr} {fd : FuncData} (F : FnP K "_law_ways" sWays f fd) (T : WTxt mg) : FnOk P w K mg base CX0 1 f fd ["ends", "lengths", "first"] (spWays K) := by
  refine ok0 F scWays (fun vs H Q E h => ?_) (fun cdv A outer s H vs Q E hr h => ?_)
  · obtain ⟨e, l, x, y, f, ls, rfl, _⟩ := h
    rfl
  · obtain ⟨e, l, x, y, fi, ls, rfl, he, hl, f0, f1, hn, hm, q⟩ := h
    refine ⟨_, (pss_cons (ps_set (i := 3) scWays.nd rfl (Or.inl rfl) (pe_lstL pa_nil))
    (pss_cons (ps_for PassesOwn.never rfl (pi_list (pv 1)) (pg_name (i := 4) scWays.nd rfl (Or.inl rfl))
      (pss_cons (ps_set (i := 5) scWays.nd rfl (Or.inl rfl) (pe_op op_catL (pe_op op_catL (pe_lstL (pa_cons (pe_ix ix_tup (pv 0) pe_int (fun _ _ => rfl)) pa_nil)) (pe_listRg rfl rfl T.list (prg_2 rfl T.range (pv 2) (pe_op op_add (pv 2) (pv 4))))) (pe_lstL (pa_cons (pe_ix ix_tup (pv 0) pe_int (fun _ _ => rfl)) pa_nil))))
    (pss_one (ps_par (i := 3) (j := 2) (by rfl) scWays.nd rfl rfl (by decide) rfl rfl (pa_cons (pe_op op_catL (pv 3) (pe_listZip rfl rfl T.list rfl T.zip (pa_cons (pv 5) (pa_cons (pe_slice sl_listL (pv 5) (po_some pe_int) po_none) pa_nil)))) (pa_cons (pe_op op_add (pv 2) (pv 4)) pa_nil)) (by rfl)))))
    (pss_one (ps_ret (pv 3))))), ?_⟩
    refine ⟨by show 0 ≤ sizeLine; decide, fun fd0 H1 n1 S1 h1 => ?_⟩
    have e0 : fi + (((ls.take 0).sum : Nat) : Int) = fi := by
      rw [List.take_zero, List.sum_nil]
      omega
    refine ⟨_, rfl, l, rfl, ⟨_, S1.seq hl⟩, for_list (K := K) (a := l) (xs := ls.map fun (m : Nat) => V.int (m : Int)) (fun i σ H' => ∃ (fd : Addr) (u v : Option V), σ = [some (.ref e), some (.ref l), some (.int (fi + ((ls.take i).sum : Nat))), some (.ref fd), u, v] ∧ Same H H' ∧ H fd = none ∧ PrsL H' fd (waysOf x y (ls.take i) fi))
      ⟨fd0, none, none, by rw [e0]; rfl, S1, n1, [], h1, PrsAt.nil⟩ (fun i σ H' _ ⟨_, _, _, _, S, _⟩ => S.seq hl) ?_ ?_⟩
    · rintro i y0 σ H' hi ⟨fd, u, v, rfl, S, nf, qs, hf, hq⟩
      rw [List.getElem?_map] at hi
      obtain ⟨m, hmi, rfl⟩ := Option.map_eq_some_iff.mp hi
      have hm50 := hm m (List.mem_of_getElem? hmi)
      have hil := (List.getElem?_eq_some_iff.mp hmi).1
      have hst : (ls.take i).sum ≤ 50 * 20 := by
        refine Nat.le_trans (sum_le (B := 50) fun k hk => hm k (List.mem_of_mem_take hk)) ?_
        rw [List.length_take]
        exact Nat.mul_le_mul_left 50 (by omega)
      have ss := sum_take hm hmi
      have sn := ways_snoc x y (ls.take i) m fi
      have et : ls.take i ++ [m] = ls.take (i + 1) := (take_more hmi).symm
      rw [et] at sn
      generalize hG : fi + (((ls.take i).sum : Nat) : Int) = g at sn ⊢
      have g0 : 0 ≤ g := by omega
      have g1 : g ≤ 2000 := by omega
      -- row
      refine ⟨_, rfl, e, _, _, _, rfl, rfl, sqT_same S he, rfl, by show 1 ≤ sizeLine; decide, fun a1 H2 n2 S2 h2 => ?_⟩
      refine ⟨_, rfl, _, rfl, _, rfl, _, _, rfl, rfl, _, _, rfl, rfl, RgOk.of_le g0 (by omega) (by omega) (by omega), fun a2 n3 => ?_⟩
      have erg : rgV g (g + (m : Int)) = ((List.range m).map fun (i : Nat) => g + (i : Int)).map V.int := by
        unfold rgV
        rw [List.map_map, show (g + (m : Int) - g).toNat = m by omega]
        rfl
      have S3 : Same H2 (upd H2 a2 (.lst (rgV g (g + (m : Int))))) := same_upd n3
      have h3 : (upd H2 a2 (.lst (rgV g (g + (m : Int))))) a2 = some (.lst (((List.range m).map fun (i : Nat) => g + (i : Int)).map V.int)) := by rw [upd_same, erg]
      generalize upd H2 a2 (.lst (rgV g (g + (m : Int)))) = H3 at S3 h3
      refine ⟨a1, a2, _, _, rfl, rfl, S3 _ _ h2, h3, by rw [List.length_map, List.length_map, List.length_range, sizeLine_eq]; show 1 + m ≤ _; omega, fun a3 H4 n4 S4 h4 => ?_⟩
      have S04 : Same H' H4 := (S2.trans S3).trans S4
      refine ⟨_, rfl, e, _, _, _, rfl, rfl, sqT_same (S.trans S04) he, rfl, by show 1 ≤ sizeLine; decide, fun a4 H5 n5 S5 h5 => ?_⟩
      refine ⟨a3, a4, _, _, rfl, rfl, S5 _ _ h4, h5, by rw [List.length_append, List.length_map, List.length_map, List.length_range, sizeLine_eq]; show 1 + m + 1 ≤ _; omega, fun rw0 H6 n6 S6 h6 => ?_⟩
      have er : [V.int x] ++ ((List.range m).map fun (i : Nat) => g + (i : Int)).map V.int ++ [V.int y] = (rowOf x y g m).map V.int := by
        unfold rowOf
        rw [List.map_append, List.map_cons]
        rfl
      rw [er] at h6
      have S06 : Same H' H6 := (S04.trans S5).trans S6
      -- found + list(zip(row, row[1:]))
      have ec : cutV ((rowOf x y g m).map V.int) (some 1) none = (rowOf x y g m).tail.map V.int := cut1 _ _
      refine ⟨_, rfl, _, rfl, _, rfl, 1, rfl, rw0, _, rfl, SqL.of h6, fun tl H7 n7 S7 h7 => ?_⟩
      rw [ec] at h7
      refine ⟨rw0, tl, _, _, rfl, SqL.of (S7 _ _ h6), SqL.of h7, fun zp ts H8 S8 n8 h8 hlen hat hnew => ?_⟩
      have S8 : Same H7 H8 := S8
      have S08 : Same H' H8 := (S06.trans S7).trans S8
      have rl := rowOf_len x y g m
      have tsl : ts.length = m + 1 := by
        rw [hlen, List.length_map, List.length_map, List.length_tail, rl]
        omega
      have zl : (legs (rowOf x y g m)).length = m + 1 := by
        unfold legs
        rw [List.length_zip, List.length_tail, rl]
        omega
      have hP : PrsAt H8 ts (legs (rowOf x y g m)) := by
        refine ⟨by rw [tsl, zl], fun i2 q2 a b e1 e2 => ?_⟩
        obtain ⟨ea, eb⟩ := List.getElem?_zip_eq_some.mp e2
        exact hat i2 q2 _ _ e1 (by rw [List.getElem?_map, ea]; rfl) (by rw [List.getElem?_map, eb]; rfl)
      have hf8 := S08 _ _ hf
      have wl : (waysOf x y (ls.take i) fi).length ≤ 2000 := by
        have z := ways_len x y (ls.take i) fi
        have tl := List.length_take (i := i) (l := ls)
        omega
      refine ⟨fd, zp, _, _, rfl, rfl, hf8, h8, by rw [List.length_map, List.length_map, hq.1, tsl, sizeLine_eq]; omega, fun nf2 H9 n9 S9 h9 => ?_⟩
      have eg : g + (m : Int) = fi + (((ls.take (i + 1)).sum : Nat) : Int) := by omega
      refine ⟨_, rfl, _, rfl, _, _, rfl, rfl, _, _, rfl, nf2, some (.int (m : Int)), some (.ref rw0), by rw [← eg]; rfl, (S.trans S08).trans S9, (S.trans S08).free n9, qs ++ ts, ?_, ?_⟩
      · rw [h9, List.map_append]
      · rw [sn]
        exact (hq.mono fun q xs e => S9 _ _ (S08 _ _ e)).app (hP.mono fun q xs e => S9 _ _ e)
    · rintro σ H' ⟨fd, u, v, rfl, S, nf, hp⟩
      have en : ls.take (ls.map fun (m : Nat) => V.int (m : Int)).length = ls := List.take_of_length_le (by rw [List.length_map]; exact Nat.le_refl _)
      rw [en] at hp
      exact ⟨_, rfl, q fd H' S nf hp⟩
abbrev scRenamedN : List Str := ["ties", "names", "a", "b"]
abbrev scRenamedS : Scope := defScope sRenamed
theorem scRenamed : FnScope ["ties", "names", "a", "b"] ["ties", "names"] (defScope sRenamed) := ⟨rfl, rfl, rfl, by decide +kernel, rfl, by decide +kernel, by decide +kernel⟩
theorem ok_renamed {f : Addr} {fd : FuncData} (F : FnP K "_law_renamed" sRenamed f fd) (T : WTxt mg) : FnOk P w K mg base CX0 1 f fd ["ties", "names"] spRenamed := by
  refine ok0 F scRenamed (fun vs H Q E h => ?_) (fun cdv A outer s H vs Q E hr h => ?_)
  · obtain ⟨l, nl, ts, ns, rfl, _⟩ := h
    rfl
  · obtain ⟨l, nl, ts, ns, rfl, ⟨qs, hl, hq⟩, hn, hz, hin, q⟩ := h
    refine ⟨_, (pss_one (ps_ret (pe_callTy (T := "tuple") call_tuple_of (by rfl) T.tuple (by decide +kernel) (pa_cons (pe_callB (id := "sorted") cr_sortedPO (by rfl) T.sorted (by decide +kernel) (pa_cons (pe_lc (own := [("a", 2), ("b", 3)]) (g := gTup K 2 (gCons (gName 2) (gCons (gName 3) gNil))) (by rfl) scRenamed.nd (pi_list (pv 0)) (blkOk_by (own := [("a", 2), ("b", 3)]) (N := scRenamedN) (sc := scRenamedS) (by decide +kernel)) (fun _ _ _ _ _ => pg_tup (by rfl) (pgs_cons (pg_name (i := 2) scRenamed.nd rfl (Or.inl rfl)) (pgs_cons (pg_name (i := 3) scRenamed.nd rfl (Or.inl rfl)) pgs_nil))) (fun _ _ _ _ _ => pts_nil) (fun _ _ _ _ _ => (pe_tupL (pa_cons (pe_callB (id := "min") (call_min2 rfl) (by rfl) T.min (by decide +kernel) (pa_cons (pe_ix (ix_lK (K := K)) (pv 1) (pv 2) (fun _ _ => rfl)) (pa_cons (pe_ix (ix_lK (K := K)) (pv 1) (pv 3) (fun _ _ => rfl)) pa_nil))) (pa_cons (pe_callB (id := "max") (call_max2 rfl) (by rfl) T.max (by decide +kernel) (pa_cons (pe_ix (ix_lK (K := K)) (pv 1) (pv 2) (fun _ _ => rfl)) (pa_cons (pe_ix (ix_lK (K := K)) (pv 1) (pv 3) (fun _ _ => rfl)) pa_nil))) pa_nil))))) pa_nil)) pa_nil)))), ?_⟩
    refine ⟨_, rfl, l, rfl, ⟨_, SqL.of hl⟩, fun D hD => lc_list (K := K) (a := l) (xs := qs.map V.ref) (fun i H' => Same H H' ∧ ∃ rs : List Addr, H' D = some (.lst (rs.map V.ref)) ∧ PrsAt H' rs ((ts.take i).map (nmTie ns))) ⟨same_upd hD, [], upd_same, PrsAt.nil⟩ (fun i H' _ ⟨S, _⟩ => SqL.of (S _ _ hl)) ?_ ?_⟩
    · rintro i y H1 hi ⟨S, rs, hd, hr⟩
      obtain ⟨qd, hqi, rfl⟩ := getMapA hi
      have hil : i < ts.length := by
        rw [← hq.1]
        exact (List.getElem?_eq_some_iff.mp hqi).1
      have hti : ts[i]? = some ts[i] := List.getElem?_eq_getElem hil
      generalize ts[i] = tt at hti
      obtain ⟨a, b⟩ := tt
      have hqd := hq.2 i qd a b hqi hti
      obtain ⟨a0, a1, b0, b1⟩ := hin _ (List.mem_of_getElem? hti)
      have hn1 := S _ _ hn
      have ea : atI (ns.map V.int) a = some (.int (ns.getD a.toNat 0)) := atI_map a0 a1
      have eb : atI (ns.map V.int) b = some (.int (ns.getD b.toNat 0)) := atI_map b0 b1
      refine ⟨qd, _, rfl, .inl (.inl (S _ _ hqd)), rfl, _, _, rfl, _, _, rfl, rfl, rfl, ?_⟩
      refine ⟨_, rfl, _, rfl, nl, _, _, _, rfl, rfl, SqL.of hn1, ea, _, rfl, _, rfl, nl, _, _, _, rfl, rfl, SqL.of hn1, eb, _, _, rfl, ?_⟩
      refine ⟨_, rfl, _, rfl, nl, _, _, _, rfl, rfl, SqL.of hn1, ea, _, rfl, _, rfl, nl, _, _, _, rfl, rfl, SqL.of hn1, eb, _, _, rfl, ?_⟩
      refine ⟨by show 2 ≤ sizeLine; decide, fun tq H2 n2 S2 h2 => ⟨rs.map V.ref, S2 _ _ hd, ?_, fun c o hc => ?_, rs ++ [tq], ?_, ?_⟩⟩
      · rw [List.length_map, hr.1, List.length_map, List.length_take, sizeLine_eq]
        omega
      · rw [upd_ne (ne_of_none hc hD)]
        exact S2 _ _ (S _ _ hc)
      · rw [upd_same, List.map_append]
        rfl
      · have et : (ts.take (i + 1)).map (nmTie ns) = (ts.take i).map (nmTie ns) ++ [nmTie ns (a, b)] := by
          rw [take_more hti, List.map_append]
          rfl
        rw [et]
        have keep : ∀ u xs, H2 u = some (.tup xs) → (upd H2 D (.lst (rs.map V.ref ++ [V.ref tq]))) u = some (.tup xs) := fun u xs e => by
          have hd2 := S2 _ _ hd
          rw [upd_ne (fun z => by
            rw [z, hd2] at e
            cases e)]
          exact e
        refine PrsAt.app (hr.mono fun u xs e => keep u xs (S2 _ _ e)) ⟨rfl, fun j u c d e1 e2 => ?_⟩
        have j0 : j = 0 := by
          have z := (List.getElem?_eq_some_iff.mp e1).1
          rw [List.length_singleton] at z
          omega
        subst j0
        cases e1
        have e3 : nmTie ns (a, b) = (c, d) := Option.some.inj e2
        unfold nmTie at e3
        cases e3
        exact keep _ _ h2
    rintro H1 ⟨S, rs, hd, hr⟩
    have en : ts.take (qs.map V.ref).length = ts := List.take_of_length_le (by rw [List.length_map, hq.1]; exact Nat.le_refl _)
    rw [en] at hr
    have hk : ∀ (j : Nat) (u : Addr), rs[j]? = some u → H1 u = some (.tup [.int (pairAt H1 (.ref u)).1, .int (pairAt H1 (.ref u)).2]) ∧ (ts.map (nmTie ns))[j]? = some (pairAt H1 (.ref u)) := fun j u hj => by
      have hjl : j < (ts.map (nmTie ns)).length := by
        rw [← hr.1]
        exact (List.getElem?_eq_some_iff.mp hj).1
      have e := List.getElem?_eq_getElem hjl
      generalize (ts.map (nmTie ns))[j] = pr at e
      obtain ⟨a, b⟩ := pr
      have hu := hr.2 j u a b hj e
      have ep : pairAt H1 (.ref u) = (a, b) := by
        unfold pairAt
        simp only [hu]
      rw [ep]
      exact ⟨hu, e⟩
    refine ⟨D, rs.map V.ref, pairAt H1, rfl, SqL.of hd, fun x hx => ?_, fun ys sp hsrt hstb nsp => ?_⟩
    · obtain ⟨u, hu, rfl⟩ := List.mem_map.mp hx
      obtain ⟨j, hj⟩ := List.mem_iff_getElem?.mp hu
      exact ⟨u, rfl, (hk j u hj).1⟩
    obtain ⟨zs, rfl, hzp⟩ := refs_perm hstb.perm
    have Ss : Same H1 (upd H1 sp (.lst (zs.map V.ref))) := same_upd nsp
    have hs : (upd H1 sp (.lst (zs.map V.ref))) sp = some (.lst (zs.map V.ref)) := upd_same
    generalize upd H1 sp (.lst (zs.map V.ref)) = H2 at Ss hs
    refine ⟨sp, _, rfl, .inl ⟨SqL.of hs, fun t nt => ?_⟩⟩
    have St : Same H2 (upd H2 t (.tup (zs.map V.ref))) := same_upd nt
    have S2 := Ss.trans St
    refine q t (zs.map fun u => pairAt H1 (.ref u)) _ (S.trans S2) ?_ ?_ ⟨zs, upd_same, by rw [List.length_map], fun j u a b e1 e2 => ?_⟩
    · refine (hzp.map _).trans (List.Perm.of_eq (List.ext_getElem? fun j => ?_))
      rw [List.getElem?_map]
      cases e : rs[j]? with
      | none =>
        have z := List.getElem?_eq_none_iff.mp e
        rw [hr.1] at z
        rw [List.getElem?_eq_none_iff.mpr z]
        rfl
      | some u => exact (hk j u e).2.symm
    · have z : (zs.map V.ref).Pairwise fun x y => SrtO.lexB (pairAt H1 y) (pairAt H1 x) = false := hsrt
      rw [List.pairwise_map] at z
      unfold Asc
      rw [List.pairwise_map]
      exact z
    · rw [List.getElem?_map, e1] at e2
      have e2 : pairAt H1 (.ref u) = (a, b) := Option.some.inj e2
      obtain ⟨j2, hj2⟩ := List.mem_iff_getElem?.mp (hzp.mem_iff.mp (List.mem_of_getElem? e1))
      have z := (hk j2 u hj2).1
      rw [e2] at z
      exact S2 _ _ z
end
end Sb

/-! ## W232 -/
/-! Drawn webs: a piece. -/
namespace Sb
open PySem PySem.Spec PyProof.Rows L2
abbrev sPiece : Stmt := top 37
/-- the ways of a piece with two forks -/
def someWays : List (List Nat) := [[1, 1], [1, 1, 1], [0, 1, 1], [0, 2, 2], [1, 1, 2], [1, 1, 1, 1], [0, 2, 1], [0, 3, 1], [1, 2, 1], [0, 1, 1, 1], [1, 2, 2], [1, 2, 2]]
def chordsTo (n a j : Nat) : List (Int × Int) := ((List.range j).map fun (j : Nat) => ((a : Int), (((a + 2 + j : Nat)) : Int))).filter fun t => decide (t ≠ (0, (n : Int) - 1))
/-- the ties that a ring of n bays may have over it, from the bay a to later ones -/
def chordsOf (n a : Nat) : List (Int × Int) := chordsTo n a (n - (a + 2))
def chords (n : Nat) : Nat → List (Int × Int)
  | 0 => []
  | a + 1 => chords n a ++ chordsOf n a
theorem chordsTo_eq (n a j : Nat) : chordsTo n a (j + 1) = chordsTo n a j ++ (if ((a : Int), ((a + 2 + j : Nat) : Int)) ≠ (0, (n : Int) - 1) then [((a : Int), ((a + 2 + j : Nat) : Int))] else []) := by
  unfold chordsTo
  rw [List.range_succ, List.map_append, List.filter_append]
  congr 1
  by_cases h : ((a : Int), ((a + 2 + j : Nat) : Int)) ≠ (0, (n : Int) - 1)
  · rw [if_pos h]
    exact List.filter_cons_of_pos (decide_eq_true h)
  · rw [if_neg h]
    exact List.filter_cons_of_neg (by rw [decide_eq_false h]; exact Bool.false_ne_true)
theorem chordsTo_sub (n a j : Nat) : (chordsTo n a j).Sublist (chordsTo n a (j + 1)) := by
  rw [chordsTo_eq]
  exact List.sublist_append_left _ _
theorem chordsTo_add {n a j : Nat} (h : ((a : Int), ((a + 2 + j : Nat) : Int)) ≠ (0, (n : Int) - 1)) : chordsTo n a (j + 1) = chordsTo n a j ++ [((a : Int), ((a + 2 + j : Nat) : Int))] := by
  rw [chordsTo_eq, if_pos h]
theorem chordsTo_len (n a j : Nat) : (chordsTo n a j).length ≤ j := by
  unfold chordsTo
  refine Nat.le_trans (List.length_filter_le _ _) ?_
  rw [List.length_map, List.length_range]
  exact Nat.le_refl _
theorem chords_len (n : Nat) : ∀ k, (chords n k).length ≤ k * n
  | 0 => Nat.zero_le _
  | k + 1 => by
    have h1 := chords_len n k
    have h2 := chordsTo_len n k (n - (k + 2))
    show (chords n k ++ chordsTo n k (n - (k + 2))).length ≤ (k + 1) * n
    rw [List.length_append, Nat.succ_mul]
    omega
inductive PieceOf (size : Int) : Nat → List (Int × Int) → Prop
  | edge : PieceOf size 2 [(0, 1)]
  | ring {n : Nat} : 3 ≤ n → (n : Int) ≤ size → PieceOf size n (waysOf 0 0 [n - 1] 1)
  | forks {ls : List Nat} : ls ∈ someWays → ((ls.sum + 2 : Nat) : Int) ≤ size → PieceOf size (ls.sum + 2) (waysOf 0 1 ls 2)
  | more {n : Nat} {cs : List (Int × Int)} : 3 ≤ n → n ≤ 5 → (n : Int) ≤ size → cs.Sublist (chords n n) → PieceOf size n (waysOf 0 0 [n - 1] 1 ++ cs)
def spPiece : Sp := fun vs H Q _ => ∃ (p c : Addr) (k : Nat) (size : Int), vs = [.ref p, .int size] ∧ Pen H p c k ∧ k < 900000 ∧ size ≤ 20 ∧
  ∀ (r l : Addr) H' (n : Nat) (ts : List (Int × Int)) k', But p H H' → H' r = some (.tup [.ref l, .int (n : Int)]) → PrsL H' l ts → l ≠ p → PieceOf size n ts → k' ≤ k + 40 → Pen H' p c k' → Q (.ref r) H'
theorem sum_cast : ∀ ls : List Nat, (ls.map fun (m : Nat) => (m : Int)).sum = ((ls.sum : Nat) : Int)
  | [] => rfl
  | m :: r => by
    rw [List.map_cons, List.sum_cons, List.sum_cons, sum_cast r]
    omega
theorem some_ok : ∀ ls ∈ someWays, ls.length ≤ 20 ∧ ∀ m ∈ ls, m ≤ 50 := by decide
section
variable {X : Cx}
theorem op_neDK {K : PySem.W.Frag} (hu : X.A.units + 64 < cLine) (hK : X.K = K := by rfl) : OpR X (compareOp .NotEq) (rNeD K) := hK ▸ op_neD hu
theorem cr_sumK {K : PySem.W.Frag} (hc : X.calm = true) (hK : X.K = K := by rfl) : CallR X (.builtin "sum") (rSum K) := hK ▸ cr_sum hc
end
section
variable {P : Program} {w : World} {K : PySem.W.Frag} {mg : Str → Option Value} {base : Heap} {C : Nat → Addr}
abbrev scPieceN : List Str := ["pen", "size", "form", "n", "some", "lengths", "ties", "a", "row", "b"]
abbrev scPieceS : Scope := defScope sPiece
theorem scPiece : FnScope ["pen", "size", "form", "n", "some", "lengths", "ties", "a", "row", "b"] ["pen", "size"] (defScope sPiece) := ⟨rfl, rfl, rfl, by decide +kernel, rfl, by decide +kernel, by decide +kernel⟩
theorem ok_piece {f fT fO fW : Addr} {fd fdT fdO fdW : FuncData} (F : FnP K "_law_piece" sPiece f fd) (T : WTxt mg) (FT : FnP K "_law_take" sTake fT fdT) (gT : mg "_law_take" = some (.ref fT)) (GT : FnOk P w K mg base CX0 2 fT fdT ["pen", "many"] spTake)
    (FO : FnP K "_law_one_of" sOneOf fO fdO) (gO : mg "_law_one_of" = some (.ref fO)) (GO : FnOk P w K mg base CX0 3 fO fdO ["pen", "some"] (spOneOf K)) (FW : FnP K "_law_ways" sWays fW fdW) (gW : mg "_law_ways" = some (.ref fW)) (GW : FnOk P w K mg base CX0 1 fW fdW ["ends", "lengths", "first"] (spWays K)) :
    FnOk P w K mg base CX0 4 f fd ["pen", "size"] spPiece := by
  have bT : Binds K fdT ["pen", "many"] [] := FT.bindsN fun _ _ _ _ _ _ us hl => match us, hl with | [_, _], _ => rfl
  have bO : Binds K fdO ["pen", "some"] [] := FO.bindsN fun _ _ _ _ _ _ us hl => match us, hl with | [_, _], _ => rfl
  have bW : Binds K fdW ["ends", "lengths", "first"] [] := FW.bindsN fun _ _ _ _ _ _ us hl => match us, hl with | [_, _, _], _ => rfl
  refine ok0 F scPiece (fun vs H Q E h => ?_) (fun cdv A outer s H vs Q E hr h => ?_)
  · obtain ⟨p, c, k, size, rfl, _⟩ := h
    rfl
  · obtain ⟨p, c, k, size, rfl, hp, hk, hsz, q⟩ := h
    have hr1 : Room 1 _ := hr.mono (by decide)
    have hr2 : Room 2 _ := hr.mono (by decide)
    refine ⟨_, (pss_cons (ps_set (i := 2) scPiece.nd rfl (Or.inl rfl) (pe_call GT hr2 rfl gT FT.kp bT .nil pass0 (pa_cons (pv 0) (pa_cons pe_int pa_nil))))
    (pss_cons (ps_if (PW.pt (pw_or (pt_cmpR op_eq (pv 2) pe_int (nomark _)) (pw_or1 (pt_cmpR op_lt (pv 1) pe_int (nomark _)))))
      (pss_one (ps_ret (pe_tupL (pa_cons (pe_lstL (pa_cons (pe_tupL (pa_cons pe_int (pa_cons pe_int pa_nil))) pa_nil)) (pa_cons pe_int pa_nil)))))
      pss_nil)
    (pss_cons (ps_if (pt_cmpR op_eq (pv 2) pe_int (nomark _))
      (pss_cons (ps_set (i := 3) scPiece.nd rfl (Or.inr rfl) (pe_op op_add pe_int (pe_call GT hr2 rfl gT FT.kp bT .nil pass0 (pa_cons (pv 0) (pa_cons (pe_op op_sub (pv 1) pe_int) pa_nil)))))
    (pss_one (ps_ret (pe_tupL (pa_cons (pe_call GW hr1 rfl gW FW.kp bW .nil pass0 (pa_cons (pe_tupL (pa_cons pe_int (pa_cons pe_int pa_nil))) (pa_cons (pe_lstL (pa_cons (pe_op op_sub (pv 3) pe_int) pa_nil)) (pa_cons pe_int pa_nil)))) (pa_cons (pv 3) pa_nil))))))
      pss_nil)
    (pss_cons (ps_set (i := 3) scPiece.nd rfl (Or.inr rfl) (pe_op op_add pe_int (pe_call GT hr2 rfl gT FT.kp bT .nil pass0 (pa_cons (pv 0) (pa_cons (pe_op op_sub (pv 1) pe_int) pa_nil)))))
    (C8.pss_cut (ps_if (PW.pt (pw_and (pt_cmpR op_eq (pv 2) pe_int (nomark _)) (pw_and1 (pt_cmpR op_gt (pv 3) pe_int (nomark _)))))
      (pss_cons (ps_set (i := 4) scPiece.nd rfl (Or.inl rfl) (pe_lstL (pa_cons (pe_lstL (pa_cons pe_int (pa_cons pe_int pa_nil))) (pa_cons (pe_lstL (pa_cons pe_int (pa_cons pe_int (pa_cons pe_int pa_nil)))) (pa_cons (pe_lstL (pa_cons pe_int (pa_cons pe_int (pa_cons pe_int pa_nil)))) (pa_cons (pe_lstL (pa_cons pe_int (pa_cons pe_int (pa_cons pe_int pa_nil)))) (pa_cons (pe_lstL (pa_cons pe_int (pa_cons pe_int (pa_cons pe_int pa_nil)))) (pa_cons (pe_lstL (pa_cons pe_int (pa_cons pe_int (pa_cons pe_int (pa_cons pe_int pa_nil))))) (pa_cons (pe_lstL (pa_cons pe_int (pa_cons pe_int (pa_cons pe_int pa_nil)))) (pa_cons (pe_lstL (pa_cons pe_int (pa_cons pe_int (pa_cons pe_int pa_nil)))) pa_nil))))))))))
    (pss_cons (ps_set (i := 4) scPiece.nd rfl (Or.inl rfl) (pe_op op_catL (pv 4) (pe_lstL (pa_cons (pe_lstL (pa_cons pe_int (pa_cons pe_int (pa_cons pe_int pa_nil)))) (pa_cons (pe_lstL (pa_cons pe_int (pa_cons pe_int (pa_cons pe_int (pa_cons pe_int pa_nil))))) (pa_cons (pe_lstL (pa_cons pe_int (pa_cons pe_int (pa_cons pe_int pa_nil)))) (pa_cons (pe_lstL (pa_cons pe_int (pa_cons pe_int (pa_cons pe_int pa_nil)))) pa_nil)))))))
    (pss_cons (ps_set (i := 5) scPiece.nd rfl (Or.inl rfl) (pe_call GO hr rfl gO FO.kp bO .nil pass0 (pa_cons (pv 0) (pa_cons (pe_lc (own := [("row", 8)]) (g := gName 8) (by rfl) scPiece.nd (pi_list (pv 4)) (blkOk_by (own := [("row", 8)]) (N := scPieceN) (sc := scPieceS) (by decide +kernel)) (fun _ _ _ _ _ => pg_name (i := 8) scPiece.nd rfl (Or.inl rfl)) (fun _ _ _ _ _ => pts_one (pt_cmpR op_le (pe_op op_add (pe_callB (id := "sum") (cr_sumK (K := K) rfl) (by rfl) T.sum (by decide +kernel) (pa_cons (pv 8) pa_nil)) pe_int) (pv 3) (nomark _))) (fun _ _ _ _ _ => (pv 8))) pa_nil))))
    (pss_one (ps_ret (pe_tupL (pa_cons (pe_call GW hr1 rfl gW FW.kp bW .nil pass0 (pa_cons (pe_tupL (pa_cons pe_int (pa_cons pe_int pa_nil))) (pa_cons (pv 5) (pa_cons pe_int pa_nil)))) (pa_cons (pe_op op_add (pe_callB (id := "sum") (cr_sum rfl) (by rfl) T.sum (by decide +kernel) (pa_cons (pv 5) pa_nil)) pe_int) pa_nil))))))))
      pss_nil)
    (pss_cons (ps_set (i := 3) scPiece.nd rfl (Or.inr rfl) (pe_callB (id := "min") (cr_min rfl) (by rfl) T.min (by decide +kernel) (pa_cons (pe_lstL (pa_cons (pv 3) (pa_cons pe_int pa_nil))) pa_nil)))
    (pss_cons (ps_set (i := 6) scPiece.nd rfl (Or.inl rfl) (pe_call GW hr1 rfl gW FW.kp bW .nil pass0 (pa_cons (pe_tupL (pa_cons pe_int (pa_cons pe_int pa_nil))) (pa_cons (pe_lstL (pa_cons (pe_op op_sub (pv 3) pe_int) pa_nil)) (pa_cons pe_int pa_nil)))))
    (pss_cons (ps_for PassesOwn.never rfl (pi_range1 (by rfl) T.range (pa_cons (pv 3) pa_nil)) (pg_name (i := 7) scPiece.nd rfl (Or.inr rfl))
      (pss_one (ps_set (i := 6) scPiece.nd rfl (Or.inl rfl) (pe_op op_catL (pv 6) (pe_lc (own := [("b", 9)]) (g := gName 9) (by rfl) scPiece.nd (pi_range2 (by rfl) T.range (pa_cons (pe_op op_add (pv 7) pe_int) (pa_cons (pv 3) pa_nil))) (blkOk_by (own := [("b", 9)]) (N := scPieceN) (sc := scPieceS) (by decide +kernel)) (fun _ _ _ _ _ => pg_name (i := 9) scPiece.nd rfl (Or.inl rfl)) (fun _ _ _ _ _ => pts_one (PW.pt (pw_and (pt_cmpR (op_neDK (K := K) hr.units) (pe_tupL (pa_cons (pv 7) (pa_cons (pv 9) pa_nil))) (pe_tupL (pa_cons pe_int (pa_cons (pe_op op_sub (pv 3) pe_int) pa_nil))) (nomark _)) (pw_and1 (pt_cmpR op_eq (pe_call GT hr2 rfl gT FT.kp bT .nil pass0 (pa_cons (pv 0) (pa_cons pe_int pa_nil))) pe_int (nomark _)))))) (fun _ _ _ _ _ => (pe_tupL (pa_cons (pv 7) (pa_cons (pv 9) pa_nil)))))))))
    (pss_one (ps_ret (pe_tupL (pa_cons (pv 6) (pa_cons (pv 3) pa_nil))))))))))))), ?_⟩
    refine ⟨_, rfl, p, c, k, 6, rfl, hp, by decide, by decide, by omega, fun form H1 k1 r0 r1 B1 hk1 hp1 => ?_⟩
    -- an edge
    refine ⟨_, rfl, rfl, _, rfl, ite2 (fun _ => ?_) (fun _ => ?_)⟩
    · refine ⟨by show 2 ≤ sizeLine; decide, fun t H2 n2 S2 h2 => ⟨by show 1 ≤ sizeLine; decide, fun l H3 n3 S3 h3 => ⟨by show 2 ≤ sizeLine; decide, fun rr H4 n4 S4 h4 => ?_⟩⟩⟩
      have S14 : Same H1 H4 := (S2.trans S3).trans S4
      have npl : p ≠ l := (hp1.same S2).new n3 |>.1
      exact q rr l H4 2 [(0, 1)] k1 (B1.trans (sameBut S14)) h4 ⟨[t], S4 _ _ h3, rfl, fun i u a b e1 e2 => by
        cases i with
        | zero =>
          cases e1
          cases e2
          exact S4 _ _ (S3 _ _ h2)
        | succ i => simp at e1⟩ npl.symm .edge (by omega) (hp1.same S14)
    refine ⟨_, rfl, _, _, rfl, rfl, _, rfl, ite2 (fun _ => ?_) (fun hz => ?_)⟩
    · refine ⟨by show 2 ≤ sizeLine; decide, fun t H2 n2 S2 h2 => ⟨by show 1 ≤ sizeLine; decide, fun l H3 n3 S3 h3 => ⟨by show 2 ≤ sizeLine; decide, fun rr H4 n4 S4 h4 => ?_⟩⟩⟩
      have S14 : Same H1 H4 := (S2.trans S3).trans S4
      have npl : p ≠ l := (hp1.same S2).new n3 |>.1
      exact q rr l H4 2 [(0, 1)] k1 (B1.trans (sameBut S14)) h4 ⟨[t], S4 _ _ h3, rfl, fun i u a b e1 e2 => by
        cases i with
        | zero =>
          cases e1
          cases e2
          exact S4 _ _ (S3 _ _ h2)
        | succ i => simp at e1⟩ npl.symm .edge (by omega) (hp1.same S14)
    have h3 : 3 ≤ size := by
      have z : ¬ size < 3 := fun z => hz (decide_eq_true z)
      omega
    -- a ring
    refine ⟨_, rfl, rfl, _, rfl, ite2 (fun _ => ?_) (fun _ => ?_)⟩
    · refine ⟨_, rfl, _, rfl, _, _, rfl, rfl, p, c, k1, size - 2, rfl, hp1, by omega, by omega, by omega, fun r2 H2 k2 r20 r21 B2 hk2 hp2 => ⟨_, _, rfl, rfl, ?_⟩⟩
      obtain ⟨N, hN⟩ : ∃ N : Nat, (3 : Int) + r2 = (N : Int) := ⟨(3 + r2).toNat, by omega⟩
      have e1 : (3 : Int) + r2 - 1 = ((N - 1 : Nat) : Int) := by omega
      refine ⟨by show 2 ≤ sizeLine; decide, fun e H3 n3 S3 h3 => ⟨_, rfl, _, _, rfl, rfl, by show 1 ≤ sizeLine; decide, fun ll H4 n4 S4 h4 => ?_⟩⟩
      refine ⟨e, ll, 0, 0, 1, [N - 1], rfl, SqT.of (S4 _ _ h3), SqL.of ((show H4 ll = some (.lst [V.int (3 + r2 - 1)]) from h4).trans (by rw [e1]; rfl)), by decide, by decide, by show 1 ≤ 20; decide, (fun m hm => by rw [List.mem_singleton.mp hm]; omega), fun wl H5 S5 n5 hP => ⟨_, rfl, by show 2 ≤ sizeLine; decide, fun rr H6 n6 S6 h6 => ?_⟩⟩
      have S26 : Same H2 H6 := ((S3.trans S4).trans S5).trans S6
      have nl : p ≠ wl := (hp2.same (S3.trans S4)).new n5 |>.1
      have h6 : H6 rr = some (.tup [.ref wl, .int (3 + r2)]) := h6
      rw [hN] at h6
      exact q rr wl H6 N _ k2 (((B1.trans B2)).trans (sameBut S26)) h6 (hP.same S6) nl.symm (.ring (by omega) (by omega)) (by omega) (hp2.same S26)
    -- forks or more
    refine ⟨_, rfl, _, rfl, _, _, rfl, rfl, p, c, k1, size - 2, rfl, hp1, by omega, by omega, by omega, fun r2 H2 k2 r20 r21 B2 hk2 hp2 => ⟨_, _, rfl, rfl, ?_⟩⟩
    obtain ⟨N, hN⟩ : ∃ N : Nat, (3 : Int) + r2 = (N : Int) := ⟨(3 + r2).toNat, by omega⟩
    show _
    have N3 : 3 ≤ N := by omega
    have N20 : (N : Int) ≤ size := by omega
    have B02 : But p H H2 := B1.trans B2
    refine ⟨fun σ' H' => σ' = [some (.ref p), some (.int size), some (.int form), some (.int (3 + r2)), none, none, none, none, none, none] ∧ H' = H2, ?_, ?_⟩
    · refine ⟨_, rfl, rfl, _, rfl, ite2 (fun _ => ?_) (fun _ => ⟨rfl, rfl⟩)⟩
      refine ⟨_, rfl, _, _, rfl, rfl, _, rfl, ite2 (fun h4 => ?_) (fun _ => ⟨rfl, rfl⟩)⟩
      have N4 : 4 ≤ N := by
        have z : (3 : Int) < 3 + r2 := of_decide_eq_true h4
        omega
      refine ⟨by show 2 ≤ sizeLine; decide, fun w0 G1 m1 T1 g1 => ?_⟩
      refine ⟨by show 3 ≤ sizeLine; decide, fun w1 G2 m2 T2 g2 => ?_⟩
      refine ⟨by show 3 ≤ sizeLine; decide, fun w2 G3 m3 T3 g3 => ?_⟩
      refine ⟨by show 3 ≤ sizeLine; decide, fun w3 G4 m4 T4 g4 => ?_⟩
      refine ⟨by show 3 ≤ sizeLine; decide, fun w4 G5 m5 T5 g5 => ?_⟩
      refine ⟨by show 4 ≤ sizeLine; decide, fun w5 G6 m6 T6 g6 => ?_⟩
      refine ⟨by show 3 ≤ sizeLine; decide, fun w6 G7 m7 T7 g7 => ?_⟩
      refine ⟨by show 3 ≤ sizeLine; decide, fun w7 G8 m8 T8 g8 => ?_⟩
      refine ⟨by show 8 ≤ sizeLine; decide, fun s1 G9 m9 T9 g9 => ?_⟩
      refine ⟨_, rfl, ?_⟩
      refine ⟨by show 3 ≤ sizeLine; decide, fun w8 G10 m10 T10 g10 => ?_⟩
      refine ⟨by show 4 ≤ sizeLine; decide, fun w9 G11 m11 T11 g11 => ?_⟩
      refine ⟨by show 3 ≤ sizeLine; decide, fun w10 G12 m12 T12 g12 => ?_⟩
      refine ⟨by show 3 ≤ sizeLine; decide, fun w11 G13 m13 T13 g13 => ?_⟩
      refine ⟨by show 4 ≤ sizeLine; decide, fun s2 G14 m14 T14 g14 => ?_⟩
      refine ⟨s1, s2, _, _, rfl, rfl, T14 _ _ (T13 _ _ ( T12 _ _ ( T11 _ _ ( T10 _ _ (g9))))), g14, by show 8 + 4 ≤ sizeLine; decide, fun sm G15 m15 T15 g15 => ?_⟩
      have cw0 : G15 w0 = _ := T15 _ _ (T14 _ _ (T13 _ _ (T12 _ _ (T11 _ _ (T10 _ _ (T9 _ _ (T8 _ _ (T7 _ _ (T6 _ _ (T5 _ _ (T4 _ _ (T3 _ _ (T2 _ _ (g1))))))))))))))
      have cw1 : G15 w1 = _ := T15 _ _ (T14 _ _ (T13 _ _ (T12 _ _ (T11 _ _ (T10 _ _ (T9 _ _ (T8 _ _ (T7 _ _ (T6 _ _ (T5 _ _ (T4 _ _ (T3 _ _ (g2)))))))))))))
      have cw2 : G15 w2 = _ := T15 _ _ (T14 _ _ (T13 _ _ (T12 _ _ (T11 _ _ (T10 _ _ (T9 _ _ (T8 _ _ (T7 _ _ (T6 _ _ (T5 _ _ (T4 _ _ (g3))))))))))))
      have cw3 : G15 w3 = _ := T15 _ _ (T14 _ _ (T13 _ _ (T12 _ _ (T11 _ _ (T10 _ _ (T9 _ _ (T8 _ _ (T7 _ _ (T6 _ _ (T5 _ _ (g4)))))))))))
      have cw4 : G15 w4 = _ := T15 _ _ (T14 _ _ (T13 _ _ (T12 _ _ (T11 _ _ (T10 _ _ (T9 _ _ (T8 _ _ (T7 _ _ (T6 _ _ (g5))))))))))
      have cw5 : G15 w5 = _ := T15 _ _ (T14 _ _ (T13 _ _ (T12 _ _ (T11 _ _ (T10 _ _ (T9 _ _ (T8 _ _ (T7 _ _ (g6)))))))))
      have cw6 : G15 w6 = _ := T15 _ _ (T14 _ _ (T13 _ _ (T12 _ _ (T11 _ _ (T10 _ _ (T9 _ _ (T8 _ _ (g7))))))))
      have cw7 : G15 w7 = _ := T15 _ _ (T14 _ _ (T13 _ _ (T12 _ _ (T11 _ _ (T10 _ _ (T9 _ _ (g8)))))))
      have cw8 : G15 w8 = _ := T15 _ _ (T14 _ _ (T13 _ _ (T12 _ _ (T11 _ _ (g10)))))
      have cw9 : G15 w9 = _ := T15 _ _ (T14 _ _ (T13 _ _ (T12 _ _ (g11))))
      have cw10 : G15 w10 = _ := T15 _ _ (T14 _ _ (T13 _ _ (g12)))
      have cw11 : G15 w11 = _ := T15 _ _ (T14 _ _ (g13))
      have TT : Same H2 G15 := ((((((((((((((T1).trans T2).trans T3).trans T4).trans T5).trans T6).trans T7).trans T8).trans T9).trans T10).trans T11).trans T12).trans T13).trans T14).trans T15
      have hsm : G15 sm = some (.lst (([w0, w1, w2, w3, w4, w5, w6, w7, w8, w9, w10, w11] : List Addr).map V.ref)) := g15
      have hall : ∀ (i : Nat) (u : Addr), ([w0, w1, w2, w3, w4, w5, w6, w7, w8, w9, w10, w11] : List Addr)[i]? = some u → ∃ ls : List Nat, someWays[i]? = some ls ∧ G15 u = some (.lst (ls.map fun (m : Nat) => V.int (m : Int))) := fun i u hu => by
        match i, hu with
        | 0, hu =>
          cases hu
          exact ⟨_, rfl, cw0⟩
        | 1, hu =>
          cases hu
          exact ⟨_, rfl, cw1⟩
        | 2, hu =>
          cases hu
          exact ⟨_, rfl, cw2⟩
        | 3, hu =>
          cases hu
          exact ⟨_, rfl, cw3⟩
        | 4, hu =>
          cases hu
          exact ⟨_, rfl, cw4⟩
        | 5, hu =>
          cases hu
          exact ⟨_, rfl, cw5⟩
        | 6, hu =>
          cases hu
          exact ⟨_, rfl, cw6⟩
        | 7, hu =>
          cases hu
          exact ⟨_, rfl, cw7⟩
        | 8, hu =>
          cases hu
          exact ⟨_, rfl, cw8⟩
        | 9, hu =>
          cases hu
          exact ⟨_, rfl, cw9⟩
        | 10, hu =>
          cases hu
          exact ⟨_, rfl, cw10⟩
        | 11, hu =>
          cases hu
          exact ⟨_, rfl, cw11⟩
        | i + 12, hu => simp at hu
      have wl : ([w0, w1, w2, w3, w4, w5, w6, w7, w8, w9, w10, w11] : List Addr).length = 12 := rfl
      generalize ([w0, w1, w2, w3, w4, w5, w6, w7, w8, w9, w10, w11] : List Addr) = ws at hsm hall wl
      generalize G15 = HS at hsm hall TT ⊢
      have hpS := hp2.same TT
      refine ⟨_, rfl, _, rfl, sm, rfl, ⟨_, SqL.of hsm⟩, fun D hD => lc_list (K := K) (a := sm) (xs := ws.map V.ref) (fun i H' => Same HS H' ∧ ∃ rs : List Addr, H' D = some (.lst (rs.map V.ref)) ∧ rs.length ≤ i ∧ (1 ≤ i → 0 < rs.length) ∧ ∀ r ∈ rs, ∃ ls : List Nat, ls ∈ someWays ∧ HS r = some (.lst (ls.map fun (m : Nat) => V.int (m : Int))) ∧ ls.sum + 2 ≤ N)
        ⟨same_upd hD, [], upd_same, Nat.le_refl _, fun z => absurd z (by decide), fun r hr => by cases hr⟩ (fun i H' _ ⟨S, _⟩ => SqL.of (S _ _ hsm)) ?_ ?_⟩
      · rintro i y H3 hi ⟨S3, rs, hd, hlen, h1, hrs⟩
        obtain ⟨u, hu, rfl⟩ := getMapA hi
        obtain ⟨ls, hls, hcu⟩ := hall i u hu
        have hi12 : i < 12 := by
          rw [← wl]
          exact (List.getElem?_eq_some_iff.mp hu).1
        have hcu3 := S3 _ _ hcu
        have ec : (ls.map fun (m : Nat) => V.int (m : Int)) = (ls.map fun (m : Nat) => (m : Int)).map V.int := by
          rw [List.map_map]
          rfl
        refine ⟨rfl, _, rfl, u, _, rfl, SqL.of (by rw [← ec]; exact hcu3), _, _, rfl, rfl, _, rfl, _, _, rfl, rfl, _, rfl, ite2 (fun hc => ?_) (fun hc => ?_)⟩
        · have hc : (ls.map fun (m : Nat) => (m : Int)).sum + 2 ≤ 3 + r2 := of_decide_eq_true hc
          rw [sum_cast] at hc
          refine ⟨_, rfl, rs.map V.ref, hd, ?_, fun b o hb => ?_, rs ++ [u], ?_, ?_, fun _ => ?_, fun r hr => ?_⟩
          · rw [List.length_map]
            exact small1000 (by omega)
          · rw [upd_ne (ne_of_none hb hD)]
            exact S3 _ _ hb
          · rw [upd_same, List.map_append]
            rfl
          · rw [List.length_append, List.length_singleton]
            omega
          · rw [List.length_append, List.length_singleton]
            omega
          · rcases List.mem_append.mp hr with z | z
            · exact hrs r z
            · rw [List.mem_singleton.mp z]
              exact ⟨ls, List.mem_of_getElem? hls, hcu, by omega⟩
        · have hc : ¬ ((ls.map fun (m : Nat) => (m : Int)).sum + 2 ≤ 3 + r2) := fun z => hc (decide_eq_true z)
          rw [sum_cast] at hc
          refine ⟨S3, rs, hd, by omega, fun _ => ?_, hrs⟩
          rcases Nat.lt_or_ge i 1 with z | z
          · have e0 : i = 0 := by omega
            subst e0
            cases hls
            exact absurd hc (by show ¬ ¬ (((([1, 1] : List Nat).sum : Nat) : Int) + 2 ≤ 3 + r2); have : (([1, 1] : List Nat).sum : Nat) = 2 := rfl; omega)
          · exact h1 z
      rintro H3 ⟨S3, rs, hd, hlen, h1, hrs⟩
      rw [List.length_map, wl] at hlen h1
      have nD : D ≠ p := (hpS.new hD).1.symm
      refine ⟨p, c, D, k2, rs.map V.ref, rfl, hpS.same S3, SqL.of hd, nD, by rw [List.length_map]; exact h1 (by decide), by rw [List.length_map]; omega, by omega, fun i v H4 k4 hiv B4 hk4 hp4 => ?_⟩
      obtain ⟨u, hu, rfl⟩ := getMapA hiv
      obtain ⟨ls, hls, hcu, hsum⟩ := hrs u (List.mem_of_getElem? hu)
      have ec : (ls.map fun (m : Nat) => V.int (m : Int)) = (ls.map fun (m : Nat) => (m : Int)).map V.int := by
        rw [List.map_map]
        rfl
      have nu : u ≠ p := fun z => by
        obtain ⟨cells, x, e1, _⟩ := hpS
        rw [z, e1, ec] at hcu
        exact pen_ne (Option.some.inj hcu)
      have hcu4 := B4 _ _ nu (S3 _ _ hcu)
      obtain ⟨b1, b2⟩ := some_ok ls hls
      refine ⟨by show 2 ≤ sizeLine; decide, fun e H5 n5 S5 h5 => ⟨_, rfl, ?_⟩⟩
      refine ⟨e, u, 0, 1, 2, ls, rfl, SqT.of h5, SqL.of (S5 _ _ hcu4), by decide, by decide, b1, b2, fun wl H6 S6 n6 hP => ?_⟩
      refine ⟨_, rfl, u, _, rfl, SqL.of (by rw [← ec]; exact S6 _ _ (S5 _ _ hcu4)), _, _, rfl, rfl, by show 2 ≤ sizeLine; decide, fun rr H7 n7 S7 h7 => ?_⟩
      have h7 : H7 rr = some (.tup [.ref wl, .int ((ls.map fun (m : Nat) => (m : Int)).sum + 2)]) := h7
      have e7 : (ls.map fun (m : Nat) => (m : Int)).sum + 2 = ((ls.sum + 2 : Nat) : Int) := by
        rw [sum_cast]
        omega
      rw [e7] at h7
      have S47 : Same H4 H7 := (S5.trans S6).trans S7
      have B07 : But p H H7 := ((B02.trans (sameBut (TT.trans S3))).trans B4).trans (sameBut S47)
      exact q rr wl H7 _ _ k4 B07 h7 (hP.same S7) ((hp4.same S5).new n6).1.symm (.forks hls (by omega)) (by omega) (hp4.same S47)
    · rintro σ' H' ⟨rfl, eH⟩
      rw [eH]
      clear eH
      -- n = min([n, 5])
      refine ⟨_, rfl, by show 2 ≤ sizeLine; decide, fun ml H3 n3 S3 h3 => ⟨ml, [3 + r2, 5], rfl, SqL.of h3, by show 0 < 2; decide, fun mn hmn hle => ?_⟩⟩
      obtain ⟨M, hM⟩ : ∃ M : Nat, mn = (M : Int) := by
        refine ⟨mn.toNat, ?_⟩
        simp only [List.mem_cons, List.not_mem_nil, or_false] at hmn
        omega
      have M5 : M ≤ 5 := by
        have z := hle 5 (by simp)
        omega
      have MN : (M : Int) ≤ 3 + r2 := by
        have z := hle (3 + r2) (by simp)
        omega
      have M3 : 3 ≤ M := by
        simp only [List.mem_cons, List.not_mem_nil, or_false] at hmn
        omega
      subst hM
      have hp3 := hp2.same S3
      have e1 : (M : Int) - 1 = ((M - 1 : Nat) : Int) := by omega
      refine ⟨by show 2 ≤ sizeLine; decide, fun e H4 n4 S4 h4 => ⟨_, rfl, _, _, rfl, rfl, by show 1 ≤ sizeLine; decide, fun ll H5 n5 S5 h5 => ?_⟩⟩
      refine ⟨e, ll, 0, 0, 1, [M - 1], rfl, SqT.of (S5 _ _ h4), SqL.of ((show H5 ll = some (.lst [V.int ((M : Int) - 1)]) from h5).trans (by rw [e1]; rfl)), by decide, by decide, by show 1 ≤ 20; decide, (fun m hm => by rw [List.mem_singleton.mp hm]; omega), fun wl H6 S6 n6 hP => ?_⟩
      have S26 : Same H2 H6 := ((S3.trans S4).trans S5).trans S6
      have hp6 := hp2.same S26
      have B06 : But p H H6 := B02.trans (sameBut S26)
      have nwl : wl ≠ p := ((hp3.same (S4.trans S5)).new n6).1.symm
      refine ⟨_, rfl, (M : Int), rfl, by omega, by omega, for_range (lo := 0) (n := (M : Int).toNat) (fun i σ H' => (∃ (tl : Addr) (x : Option V), σ = [some (.ref p), some (.int size), some (.int form), some (.int (M : Int)), none, none, some (.ref tl), x, none, none] ∧ tl ≠ p ∧ ∃ cs : List (Int × Int), cs.Sublist (chords M i) ∧ PrsL H' tl (waysOf 0 0 [M - 1] 1 ++ cs)) ∧ But p H H' ∧ ∃ k', k' ≤ k2 + 5 * i ∧ Pen H' p c k')
        ⟨⟨wl, none, rfl, nwl, [], List.Sublist.refl _, by rw [List.append_nil]; exact hP⟩, B06, k2, by omega, hp6⟩ ?_ ?_⟩
      · rintro i σ H7 hi ⟨⟨tl, x, rfl, ntl, cs, hcs, hPt⟩, B7, k7, hk7, hp7⟩
        have hiM : i < M := by omega
        have ea : (0 : Int) + (i : Nat) = (i : Int) := by omega
        rw [ea]
        -- ties + [..]
        refine ⟨_, rfl, _, rfl, _, _, rfl, rfl, _, rfl, _, _, rfl, ⟨by omega, by omega, by omega, by omega⟩, fun D hD => lc_range (lo := (i : Int) + 2) (n := ((M : Int) - ((i : Int) + 2)).toNat)
          (fun j H8 => But p H7 H8 ∧ ∃ (rs : List Addr) (us : List (Int × Int)) (k8 : Nat), H8 D = some (.lst (rs.map V.ref)) ∧ PrsAt H8 rs us ∧ us.Sublist (chordsTo M i j) ∧ rs.length ≤ j ∧ k8 ≤ k7 + j ∧ Pen H8 p c k8) ⟨sameBut (same_upd hD), [], [], k7, upd_same, PrsAt.nil, List.Sublist.refl _, Nat.le_refl _, Nat.le_refl _, hp7.same (same_upd hD)⟩ ?_ ?_⟩
        · rintro j H8 hj ⟨B8, rs, us, k8, hd, hrs, hus, hlen, hk8, hp8⟩
          have hj5 : i + 2 + j < M := by omega
          have eb : (i : Int) + 2 + (j : Nat) = ((i + 2 + j : Nat) : Int) := by omega
          rw [eb]
          have nDp : D ≠ p := (hp7.new hD).1.symm
          have nDc : D ≠ c := (hp7.new hD).2.symm
          have up := chordsTo_sub M i j
          refine ⟨rfl, _, rfl, _, rfl, by show 2 ≤ sizeLine; decide, fun t1 G1 m1 T1 g1 => ?_⟩
          refine ⟨_, rfl, _, _, rfl, rfl, by show 2 ≤ sizeLine; decide, fun t2 G2 m2 T2 g2 => ?_⟩
          have T12 := T1.trans T2
          have hd2 := T12 _ _ hd
          have hp82 := hp8.same T12
          refine ⟨.tuple [.int (i : Int), .int ((i + 2 + j : Nat) : Int)], .tuple [.int 0, .int ((M : Int) - 1)], .tup (SqT.of (T2 _ _ g1)) (.cons (.int _) (.cons (.int _) .nil)), .tup (SqT.of g2) (.cons (.int _) (.cons (.int _) .nil)), rfl, rfl, _, rfl, ite2 (fun h1 => ?_) (fun _ => ?_)⟩
          · have ht : ((i : Int), ((i + 2 + j : Nat) : Int)) ≠ ((0 : Int), (M : Int) - 1) := fun z => by
              rw [Prod.mk.injEq] at z
              rw [z.1, z.2] at h1
              simp [PyData.eqv, PyData.eqvAll] at h1
            refine ⟨_, rfl, p, c, k8, 3, rfl, hp82, by decide, by decide, by omega, fun r G3 k3 _ _ B3 hk3 hp3 => ⟨rfl, _, rfl, ite2 (fun _ => ?_) (fun _ => ?_)⟩⟩
            · refine ⟨_, rfl, _, rfl, by show 2 ≤ sizeLine; decide, fun t3 G4 m4 T4 g4 => ?_⟩
              have hd4 := T4 _ _ (B3 _ _ nDp hd2)
              have keep : ∀ u xs, G4 u = some (.tup xs) → (upd G4 D (.lst (rs.map V.ref ++ [V.ref t3]))) u = some (.tup xs) := fun u xs e => by
                rw [upd_ne (fun z => by
                  rw [z, hd4] at e
                  cases e)]
                exact e
              have tup8 : ∀ u xs, H8 u = some (.tup xs) → G4 u = some (.tup xs) := fun u xs e => by
                refine T4 _ _ (B3 _ _ (fun z => ?_) (T12 _ _ e))
                obtain ⟨cells, x, e1, _⟩ := hp8
                rw [z, e1] at e
                cases e
              refine ⟨rs.map V.ref, hd4, by rw [List.length_map]; exact small1000 (by omega), fun b o nb hb => ?_, rs ++ [t3], us ++ [((i : Int), ((i + 2 + j : Nat) : Int))], k3, by rw [upd_same, List.map_append]; rfl, ?_, ?_, by rw [List.length_append, List.length_singleton]; omega, by omega, ?_⟩
              · rw [upd_ne (ne_of_none hb hD)]
                exact T4 _ _ (B3 _ _ nb (T12 _ _ (B8 _ _ nb hb)))
              · refine (hrs.mono fun u xs e => keep u xs (tup8 u xs e)).app ⟨rfl, fun m u a b e1 e2 => ?_⟩
                have m0 : m = 0 := by
                  have z := (List.getElem?_eq_some_iff.mp e1).1
                  rw [List.length_singleton] at z
                  omega
                subst m0
                cases e1
                cases e2
                exact keep _ _ g4
              · rw [chordsTo_add ht]
                exact hus.append (List.Sublist.refl _)
              · refine (hp3.same T4).at (fun o e => ?_) (fun o e => ?_)
                · rw [upd_ne nDp.symm]
                  exact e
                · rw [upd_ne nDc.symm]
                  exact e
            · exact ⟨fun b o nb hb => B3 _ _ nb (T12 _ _ (B8 _ _ nb hb)), rs, us, k3, B3 _ _ nDp hd2, hrs.mono (fun u xs e => B3 _ _ (fun z => by
                obtain ⟨cells, x, e1, _⟩ := hp8
                rw [z, e1] at e
                cases e) (T12 _ _ e)), hus.trans up, by omega, by omega, hp3⟩
          · exact ⟨fun b o nb hb => T12 _ _ (B8 _ _ nb hb), rs, us, k8, hd2, hrs.mono (fun u xs e => T12 _ _ e), hus.trans up, by omega, by omega, hp82⟩
        · rintro H8 ⟨B8, rs, us, k8, hd, hrs, hus, hlen, hk8, hp8⟩
          obtain ⟨cells7, x7, e7, _⟩ := id hp7
          obtain ⟨qs, hq1, hq2⟩ := hPt.but B8 ntl e7
          have ej : ((M : Int) - ((i : Int) + 2)).toNat = M - (i + 2) := by omega
          rw [ej] at hus hlen hk8
          have ql : qs.length ≤ 100 := by
            rw [hq2.1, List.length_append, ways_len]
            have z1 := hcs.length_le
            have z2 := chords_len M i
            have z3 : i * M ≤ 5 * 5 := Nat.mul_le_mul (by omega) M5
            have z4 : ([M - 1] : List Nat).sum + ([M - 1] : List Nat).length = M - 1 + 1 := rfl
            omega
          refine ⟨tl, D, _, _, rfl, rfl, hq1, hd, by rw [List.length_map, List.length_map, sizeLine_eq]; omega, fun t9 H9 n9 S9 h9 => ?_⟩
          refine ⟨⟨t9, _, rfl, (hp8.new n9).1.symm, cs ++ us, hcs.append hus, qs ++ rs, by rw [h9, List.map_append], ?_⟩, (B7.trans B8).trans (sameBut S9), k8, ?_, hp8.same S9⟩
          · rw [← List.append_assoc]
            exact (hq2.mono fun u xs e => S9 _ _ e).app (hrs.mono fun u xs e => S9 _ _ e)
          · omega
      · rintro σ H7 ⟨⟨tl, x, rfl, ntl, cs, hcs, hPt⟩, B7, k7, hk7, hp7⟩
        have eM : ((M : Int)).toNat = M := by omega
        rw [eM] at hcs hk7
        refine ⟨_, rfl, _, rfl, by show 2 ≤ sizeLine; decide, fun rr H8 n8 S8 h8 => ?_⟩
        exact q rr tl H8 M _ k7 (B7.trans (sameBut S8)) h8 (hPt.same S8) ntl (.more M3 M5 (by omega) hcs) (by omega) (hp7.same S8)
end
end Sb

/-! ## W432 -/
/-! Drawn webs are webs: the ties alone. -/
namespace Sb
open PySem PySem.Spec PyProof.Rows L2
/-- tied, one by one -/
inductive Lk (ts : List (Int × Int)) : Int → Int → Prop
  | refl (a : Int) : Lk ts a a
  | step {a b c : Int} : Lk ts a b → ((b, c) ∈ ts ∨ (c, b) ∈ ts) → Lk ts a c
theorem Lk.trans {ts : List (Int × Int)} {a b c : Int} (h : Lk ts a b) (g : Lk ts b c) : Lk ts a c := by
  induction g with
  | refl => exact h
  | step _ e ih => exact .step ih e
theorem Lk.one {ts : List (Int × Int)} {a b : Int} (e : (a, b) ∈ ts ∨ (b, a) ∈ ts) : Lk ts a b := .step (.refl a) e
theorem Lk.symm {ts : List (Int × Int)} {a b : Int} (h : Lk ts a b) : Lk ts b a := by
  induction h with
  | refl => exact .refl _
  | step _ e ih => exact (Lk.one e.symm).trans ih
theorem Lk.mono {ts us : List (Int × Int)} {a b : Int} (s : ∀ t ∈ ts, t ∈ us) (h : Lk ts a b) : Lk us a b := by
  induction h with
  | refl => exact .refl _
  | step _ e ih => exact .step ih (e.imp (s _) (s _))
theorem Lk.map {ts us : List (Int × Int)} {f : Int → Int} (s : ∀ a b, (a, b) ∈ ts → (f a, f b) ∈ us ∨ (f b, f a) ∈ us) {a b : Int} (h : Lk ts a b) : Lk us (f a) (f b) := by
  induction h with
  | refl => exact .refl _
  | step _ e ih =>
    refine .step ih ?_
    rcases e with e | e
    · exact s _ _ e
    · exact (s _ _ e).symm
/-- told apart, also turned about -/
def Apart (s t : Int × Int) : Prop := s ≠ t ∧ s ≠ (t.2, t.1)
theorem Apart.symm {s t : Int × Int} (h : Apart s t) : Apart t s := ⟨h.1.symm, fun z => h.2 (by rw [z])⟩
structure Good (n : Nat) (ts : List (Int × Int)) : Prop where
  inn : ∀ t ∈ ts, 0 ≤ t.1 ∧ t.1 < (n : Int) ∧ 0 ≤ t.2 ∧ t.2 < (n : Int) ∧ t.1 ≠ t.2
  dis : ts.Pairwise Apart
  con : ∀ v : Int, 0 ≤ v → v < (n : Int) → Lk ts 0 v
/-! ### looked at -/
def grow (ts : List (Int × Int)) (S : List Int) : List Int := S ++ (ts.flatMap fun t => (if S.contains t.1 then [t.2] else []) ++ (if S.contains t.2 then [t.1] else []))
def growN (ts : List (Int × Int)) : Nat → List Int
  | 0 => [0]
  | k + 1 => grow ts (growN ts k)
theorem grow_lk {ts : List (Int × Int)} {S : List Int} (h : ∀ v ∈ S, Lk ts 0 v) : ∀ v ∈ grow ts S, Lk ts 0 v := fun v hv => by
  unfold grow at hv
  rcases List.mem_append.mp hv with z | z
  · exact h v z
  · obtain ⟨⟨a, b⟩, ht, hv⟩ := List.mem_flatMap.mp z
    rcases List.mem_append.mp hv with z | z
    · split at z
      · rename_i c
        rw [List.mem_singleton.mp z]
        exact .step (h _ (List.contains_iff_mem.mp c)) (.inl ht)
      · cases z
    · split at z
      · rename_i c
        rw [List.mem_singleton.mp z]
        exact .step (h _ (List.contains_iff_mem.mp c)) (.inr ht)
      · cases z
theorem growN_lk (ts : List (Int × Int)) : ∀ k, ∀ v ∈ growN ts k, Lk ts 0 v
  | 0, v, hv => by
    rw [List.mem_singleton.mp hv]
    exact .refl _
  | k + 1, v, hv => grow_lk (growN_lk ts k) v hv
def apartB (s t : Int × Int) : Bool := !decide (s = t) && !decide (s = (t.2, t.1))
def goodB (n : Nat) (ts : List (Int × Int)) : Bool :=
  (ts.all fun t => decide (0 ≤ t.1) && decide (t.1 < (n : Int)) && decide (0 ≤ t.2) && decide (t.2 < (n : Int)) && decide (t.1 ≠ t.2)) && (decide (ts.Pairwise fun s t => apartB s t = true) && (List.range n).all fun v => (growN ts n).contains (v : Int))
theorem good_of {n : Nat} {ts : List (Int × Int)} (h : goodB n ts = true) : Good n ts := by
  unfold goodB at h
  rw [Bool.and_eq_true, Bool.and_eq_true] at h
  obtain ⟨h1, h2, h3⟩ := h
  refine ⟨fun t ht => ?_, ?_, fun v v0 v1 => ?_⟩
  · have z := List.all_eq_true.mp h1 t ht
    simp only [Bool.and_eq_true, decide_eq_true_eq] at z
    obtain ⟨⟨⟨⟨a, b⟩, c⟩, d⟩, e⟩ := z
    exact ⟨a, b, c, d, e⟩
  · refine List.Pairwise.imp (fun {s t} z => ?_) (of_decide_eq_true h2)
    unfold apartB at z
    simp only [Bool.and_eq_true, Bool.not_eq_true', decide_eq_false_iff_not] at z
    exact z
  · have z := List.all_eq_true.mp h3 v.toNat (List.mem_range.mpr (by omega))
    have e : ((v.toNat : Nat) : Int) = v := by omega
    rw [e] at z
    exact growN_lk ts n v (List.contains_iff_mem.mp z)
/-! ### pieces -/
def subs {α : Type} : List α → List (List α)
  | [] => [[]]
  | a :: l => subs l ++ (subs l).map (a :: ·)
theorem mem_subs {α : Type} {c l : List α} (h : c.Sublist l) : c ∈ subs l := by
  induction h with
  | slnil => exact List.mem_singleton.mpr rfl
  | cons a _ ih => exact List.mem_append_left _ ih
  | cons_cons a _ ih => exact List.mem_append_right _ (List.mem_map.mpr ⟨_, ih, rfl⟩)
theorem rings_good : ∀ n ∈ List.range 21, 3 ≤ n → goodB n (waysOf 0 0 [n - 1] 1) = true := by decide +kernel
theorem forks_good : ∀ ls ∈ someWays, goodB (ls.sum + 2) (waysOf 0 1 ls 2) = true := by decide +kernel
theorem more_good : ∀ n ∈ [3, 4, 5], ∀ cs ∈ subs (chords n n), goodB n (waysOf 0 0 [n - 1] 1 ++ cs) = true := by decide +kernel
theorem piece_good {size : Int} {n : Nat} {ts : List (Int × Int)} (h : PieceOf size n ts) (hs : size ≤ 20) : Good n ts := by
  cases h with
  | edge => exact good_of (by decide +kernel)
  | ring h1 h2 => exact good_of (rings_good n (List.mem_range.mpr (by omega)) h1)
  | forks h1 h2 => exact good_of (forks_good _ h1)
  | more h1 h2 h3 h4 => exact good_of (more_good n (by simp; omega) _ (mem_subs h4))
theorem piece_n {size : Int} {n : Nat} {ts : List (Int × Int)} (h : PieceOf size n ts) (hs : 2 ≤ size) : 2 ≤ n ∧ (n : Int) ≤ size := by
  cases h with
  | edge => exact ⟨Nat.le_refl _, hs⟩
  | ring h1 h2 => exact ⟨by omega, h2⟩
  | forks h1 h2 => exact ⟨by omega, h2⟩
  | more h1 h2 h3 h4 => exact ⟨by omega, h3⟩
theorem piece_len {size : Int} {n : Nat} {ts : List (Int × Int)} (h : PieceOf size n ts) (hs : size ≤ 20) : ts.length ≤ 100 := by
  cases h with
  | edge => decide
  | ring h1 h2 =>
    rw [ways_len]
    show n - 1 + 0 + 1 ≤ 100
    omega
  | @forks ls h1 h2 =>
    rw [ways_len]
    have z := (some_ok ls h1).1
    omega
  | @more n cs h1 h2 h3 h4 =>
    rw [List.length_append, ways_len]
    have z1 := h4.length_le
    have z2 := chords_len n n
    have z3 : n * n ≤ 5 * 5 := Nat.mul_le_mul h2 h2
    show n - 1 + 0 + 1 + cs.length ≤ 100
    omega
/-! ### put together at a bay -/
def glN (n : Nat) (at_ a : Int) : Int := if a = 0 then at_ else (n : Int) + a - 1
def glT (n : Nat) (at_ : Int) (t : Int × Int) : Int × Int := (glN n at_ t.1, glN n at_ t.2)
theorem glN_inj {n : Nat} {at_ a b : Int} (h1 : at_ < (n : Int)) (a0 : 0 ≤ a) (b0 : 0 ≤ b) (e : glN n at_ a = glN n at_ b) : a = b := by
  unfold glN at e
  split at e <;> split at e <;> omega
theorem glue_good {n m : Nat} {ts us : List (Int × Int)} {at_ : Int} (g : Good n ts) (k : Good m us) (h0 : 0 ≤ at_) (h1 : at_ < (n : Int)) (hm : 1 ≤ m) : Good (n + m - 1) (ts ++ us.map (glT n at_)) := by
  have rng : ∀ a : Int, 0 ≤ a → a < (m : Int) → 0 ≤ glN n at_ a ∧ glN n at_ a < ((n + m - 1 : Nat) : Int) := fun a a0 a1 => by
    unfold glN
    split <;> omega
  have inj : ∀ s ∈ us, ∀ t ∈ us, Apart s t → Apart (glT n at_ s) (glT n at_ t) := fun s hs t ht h => by
    obtain ⟨a0, _, a2, _, _⟩ := k.inn s hs
    obtain ⟨b0, _, b2, _, _⟩ := k.inn t ht
    refine ⟨fun z => h.1 ?_, fun z => h.2 ?_⟩
    · have z1 := glN_inj h1 a0 b0 (congrArg Prod.fst z)
      have z2 := glN_inj h1 a2 b2 (congrArg Prod.snd z)
      exact Prod.ext z1 z2
    · have z1 := glN_inj h1 a0 b2 (congrArg Prod.fst z)
      have z2 := glN_inj h1 a2 b0 (congrArg Prod.snd z)
      exact Prod.ext z1 z2
  refine ⟨fun t ht => ?_, ?_, fun v v0 v1 => ?_⟩
  · rcases List.mem_append.mp ht with z | z
    · obtain ⟨a, b, c, d, e⟩ := g.inn t z
      exact ⟨a, by omega, c, by omega, e⟩
    · obtain ⟨s, hs, rfl⟩ := List.mem_map.mp z
      obtain ⟨a, b, c, d, e⟩ := k.inn s hs
      obtain ⟨r1, r2⟩ := rng _ a b
      obtain ⟨r3, r4⟩ := rng _ c d
      exact ⟨r1, r2, r3, r4, fun z => e (glN_inj h1 a c z)⟩
  · refine List.pairwise_append.mpr ⟨g.dis, ?_, fun s hs t ht => ?_⟩
    · rw [List.pairwise_map]
      refine List.Pairwise.imp_of_mem (fun {s t} hs ht h => inj s hs t ht h) k.dis
    · obtain ⟨u, hu, rfl⟩ := List.mem_map.mp ht
      obtain ⟨a, b, c, d, e⟩ := g.inn s hs
      obtain ⟨a', b', c', d', e'⟩ := k.inn u hu
      -- one end of the later tie is a new bay
      have far : (n : Int) ≤ glN n at_ u.1 ∨ (n : Int) ≤ glN n at_ u.2 := by
        unfold glN
        by_cases z : u.1 = 0
        · right
          rw [if_neg (fun y => e' (by rw [z, y]))]
          omega
        · left
          rw [if_neg z]
          omega
      refine ⟨fun z => ?_, fun z => ?_⟩
      · have z1 : s.1 = glN n at_ u.1 := congrArg Prod.fst z
        have z2 : s.2 = glN n at_ u.2 := congrArg Prod.snd z
        omega
      · have z1 : s.1 = glN n at_ u.2 := congrArg Prod.fst z
        have z2 : s.2 = glN n at_ u.1 := congrArg Prod.snd z
        omega
  · have low : ∀ u : Int, 0 ≤ u → u < (n : Int) → Lk (ts ++ us.map (glT n at_)) 0 u := fun u u0 u1 => (g.con u u0 u1).mono fun t ht => List.mem_append_left _ ht
    rcases Int.lt_or_le v n with z | z
    · exact low v v0 z
    · have hv := k.con (v - n + 1) (by omega) (by omega)
      have hm := Lk.map (f := glN n at_) (us := ts ++ us.map (glT n at_)) (fun a b e => .inl (List.mem_append_right _ (List.mem_map.mpr ⟨(a, b), e, rfl⟩))) hv
      have e1 : glN n at_ 0 = at_ := if_pos rfl
      have e2 : glN n at_ (v - n + 1) = v := by
        unfold glN
        rw [if_neg (by omega)]
        omega
      rw [e1, e2] at hm
      exact (low at_ h0 h1).trans hm
/-! ### named anew -/
theorem upto_get {n : Nat} {ns : List Int} (h : ns.Perm (upto n)) : ns.length = n ∧ ns.Nodup ∧ (∀ x ∈ ns, 0 ≤ x ∧ x < (n : Int)) ∧ ∀ x : Int, 0 ≤ x → x < (n : Int) → x ∈ ns := by
  have ml : ∀ x : Int, x ∈ upto n ↔ 0 ≤ x ∧ x < (n : Int) := fun x => by
    unfold upto
    rw [List.mem_map]
    constructor
    · rintro ⟨i, hi, rfl⟩
      have := List.mem_range.mp hi
      omega
    · intro h
      exact ⟨x.toNat, List.mem_range.mpr (by omega), by omega⟩
  refine ⟨?_, ?_, fun x hx => (ml x).mp (h.mem_iff.mp hx), fun x a b => h.mem_iff.mpr ((ml x).mpr ⟨a, b⟩)⟩
  · rw [h.length_eq]
    unfold upto
    rw [List.length_map, List.length_range]
  · rw [h.nodup_iff]
    unfold upto
    refine List.pairwise_map.mpr (List.Pairwise.imp (fun {a b} (z : a ≠ b) => ?_) List.nodup_range)
    omega
theorem nd_get {ns : List Int} (h : ns.Nodup) {a b : Int} (a0 : 0 ≤ a) (a1 : a < (ns.length : Int)) (b0 : 0 ≤ b) (b1 : b < (ns.length : Int)) (e : ns.getD a.toNat 0 = ns.getD b.toNat 0) : a = b := by
  have ha : a.toNat < ns.length := by omega
  have hb : b.toNat < ns.length := by omega
  rw [List.getD_eq_getElem?_getD, List.getD_eq_getElem?_getD, List.getElem?_eq_getElem ha, List.getElem?_eq_getElem hb] at e
  have e3 : ns[a.toNat] = ns[b.toNat] := e
  have e2 : a.toNat = b.toNat := nd_ix h (List.getElem?_eq_getElem ha) (by rw [List.getElem?_eq_getElem hb, e3])
  omega
theorem named_good {n : Nat} {ts us : List (Int × Int)} {ns : List Int} (g : Good n ts) (hn : ns.Perm (upto n)) (hu : us.Perm (ts.map (nmTie ns))) : Good n us ∧ ∀ t ∈ us, t.1 < t.2 := by
  obtain ⟨hl, hd, hr, hm⟩ := upto_get hn
  have at_ : ∀ a : Int, 0 ≤ a → a < (n : Int) → 0 ≤ ns.getD a.toNat 0 ∧ ns.getD a.toNat 0 < (n : Int) := fun a a0 a1 => by
    have ha : a.toNat < ns.length := by omega
    rw [List.getD_eq_getElem?_getD, List.getElem?_eq_getElem ha]
    exact hr _ (List.getElem_mem ha)
  have one : ∀ t ∈ ts, ns.getD t.1.toNat 0 ≠ ns.getD t.2.toNat 0 := fun t ht z => by
    obtain ⟨a, b, c, d, e⟩ := g.inn t ht
    exact e (nd_get hd a (by omega) c (by omega) z)
  have nm : ∀ t ∈ ts, (nmTie ns t = (ns.getD t.1.toNat 0, ns.getD t.2.toNat 0) ∨ nmTie ns t = (ns.getD t.2.toNat 0, ns.getD t.1.toNat 0)) ∧ (nmTie ns t).1 < (nmTie ns t).2 := fun t ht => by
    have z := one t ht
    unfold nmTie
    by_cases c : ns.getD t.2.toNat 0 < ns.getD t.1.toNat 0
    · have c2 : ¬ ns.getD t.1.toNat 0 < ns.getD t.2.toNat 0 := by omega
      rw [if_pos c, if_neg c2]
      exact ⟨.inr rfl, c⟩
    · have c2 : ns.getD t.1.toNat 0 < ns.getD t.2.toNat 0 := by omega
      rw [if_neg c, if_pos c2]
      exact ⟨.inl rfl, c2⟩
  have mem : ∀ t, t ∈ us ↔ ∃ s ∈ ts, nmTie ns s = t := fun t => by rw [hu.mem_iff, List.mem_map]
  refine ⟨⟨fun t ht => ?_, ?_, fun v v0 v1 => ?_⟩, fun t ht => ?_⟩
  · obtain ⟨s, hs, rfl⟩ := (mem t).mp ht
    obtain ⟨a, b, c, d, e⟩ := g.inn s hs
    obtain ⟨h1, h2⟩ := nm s hs
    obtain ⟨a1, a2⟩ := at_ _ a b
    obtain ⟨b1, b2⟩ := at_ _ c d
    rcases h1 with z | z <;> rw [z] at h2 ⊢
    · exact ⟨a1, a2, b1, b2, fun y => by have : ns.getD s.1.toNat 0 < ns.getD s.2.toNat 0 := h2; have y : ns.getD s.1.toNat 0 = ns.getD s.2.toNat 0 := y; omega⟩
    · exact ⟨b1, b2, a1, a2, fun y => by have : ns.getD s.2.toNat 0 < ns.getD s.1.toNat 0 := h2; have y : ns.getD s.2.toNat 0 = ns.getD s.1.toNat 0 := y; omega⟩
  · refine hu.symm.pairwise ?_ (fun {s t} h => Apart.symm h)
    rw [List.pairwise_map]
    refine List.Pairwise.imp_of_mem (fun {s t} hs ht h => ?_) g.dis
    obtain ⟨a, b, c, d, e⟩ := g.inn s hs
    obtain ⟨a', b', c', d', e'⟩ := g.inn t ht
    obtain ⟨h1, _⟩ := nm s hs
    obtain ⟨h2, _⟩ := nm t ht
    have inj : ∀ x y : Int, 0 ≤ x → x < (n : Int) → 0 ≤ y → y < (n : Int) → ns.getD x.toNat 0 = ns.getD y.toNat 0 → x = y := fun x y x0 x1 y0 y1 z => nd_get hd x0 (by omega) y0 (by omega) z
    have key : ∀ z : (ns.getD s.1.toNat 0 = ns.getD t.1.toNat 0 ∧ ns.getD s.2.toNat 0 = ns.getD t.2.toNat 0) ∨ (ns.getD s.1.toNat 0 = ns.getD t.2.toNat 0 ∧ ns.getD s.2.toNat 0 = ns.getD t.1.toNat 0), False := fun z => by
      rcases z with ⟨z1, z2⟩ | ⟨z1, z2⟩
      · exact h.1 (Prod.ext (inj _ _ a b a' b' z1) (inj _ _ c d c' d' z2))
      · exact h.2 (Prod.ext (inj _ _ a b c' d' z1) (inj _ _ c d a' b' z2))
    constructor
    · intro z
      rcases h1 with e1 | e1 <;> rcases h2 with e2 | e2 <;> rw [e1, e2, Prod.mk.injEq] at z
      · exact key (.inl z)
      · exact key (.inr z)
      · exact key (.inr ⟨z.2, z.1⟩)
      · exact key (.inl ⟨z.2, z.1⟩)
    · intro z
      rcases h1 with e1 | e1 <;> rcases h2 with e2 | e2 <;> rw [e1, e2, Prod.mk.injEq] at z
      · exact key (.inr z)
      · exact key (.inl z)
      · exact key (.inl ⟨z.2, z.1⟩)
      · exact key (.inr ⟨z.2, z.1⟩)
  · -- connected
    have mp : ∀ {a b : Int}, Lk ts a b → Lk us (ns.getD a.toNat 0) (ns.getD b.toNat 0) := fun {a b} h => Lk.map (f := fun a => ns.getD a.toNat 0) (fun a b e => by
      obtain ⟨h1, _⟩ := nm (a, b) e
      have hu1 : nmTie ns (a, b) ∈ us := (mem _).mpr ⟨(a, b), e, rfl⟩
      rcases h1 with z | z <;> rw [z] at hu1
      · exact .inl hu1
      · exact .inr hu1) h
    have back : ∀ x : Int, 0 ≤ x → x < (n : Int) → ∃ i : Int, 0 ≤ i ∧ i < (n : Int) ∧ ns.getD i.toNat 0 = x := fun x x0 x1 => by
      obtain ⟨j, hj⟩ := List.mem_iff_getElem?.mp (hm x x0 x1)
      have hjl := (List.getElem?_eq_some_iff.mp hj).1
      refine ⟨(j : Int), by omega, by omega, ?_⟩
      rw [List.getD_eq_getElem?_getD, show ((j : Int)).toNat = j by omega, hj]
      rfl
    obtain ⟨i, i0, i1, ei⟩ := back 0 (Int.le_refl 0) (by omega)
    obtain ⟨j, j0, j1, ej⟩ := back v v0 v1
    have z := mp ((g.con i i0 i1).symm.trans (g.con j j0 j1))
    rw [ei, ej] at z
    exact z
  · obtain ⟨s, hs, rfl⟩ := (mem t).mp ht
    exact (nm s hs).2
end Sb

/-! ## W532 -/
/-! Good ties are a web's: steps_from finds every bay. -/
namespace Sb
open PySem PySem.Spec PyProof.Rows L2
/-! ### who stands in whose row -/
theorem app_keep {r : List (List Int)} {i k : Nat} {x z : Int} (h : z ∈ r.getD k []) : z ∈ (app r i x).getD k [] := by
  unfold app
  by_cases hk : i = k
  · subst hk
    by_cases hl : i < r.length
    · rw [setD_self hl]
      exact List.mem_append_left _ h
    · rw [List.getD_eq_getElem?_getD, List.getElem?_eq_none (by omega)] at h
      cases h
  · rw [setD_ne hk]
    exact h
theorem app_new {r : List (List Int)} {i : Nat} {x : Int} (h : i < r.length) : x ∈ (app r i x).getD i [] := by
  unfold app
  rw [setD_self h]
  exact List.mem_append_right _ List.mem_cons_self
theorem fold_keep {k : Nat} {z : Int} : ∀ {ts : List (Int × Int)} {r : List (List Int)}, z ∈ r.getD k [] → z ∈ (ts.foldl addTie r).getD k []
  | [], _, h => h
  | t :: ts, r, h => fold_keep (ts := ts) (app_keep (app_keep h))
theorem fold_new {n : Nat} : ∀ {ts : List (Int × Int)} {r : List (List Int)}, r.length = n → (∀ t ∈ ts, tieIn n t) → ∀ t ∈ ts, t.2 ∈ (ts.foldl addTie r).getD t.1.toNat [] ∧ t.1 ∈ (ts.foldl addTie r).getD t.2.toNat []
  | [], _, _, _, t, ht => by cases ht
  | s :: ts, r, hl, hin, t, ht => by
    obtain ⟨a0, a1, b0, b1⟩ := hin s List.mem_cons_self
    have hl2 : (addTie r s).length = n := by
      unfold addTie
      rw [app_len, app_len]
      exact hl
    rcases List.mem_cons.mp ht with e | e
    · subst e
      refine ⟨fold_keep (ts := ts) ?_, fold_keep (ts := ts) ?_⟩
      · exact app_keep (app_new (by omega))
      · exact app_new (by rw [app_len]; omega)
    · exact fold_new (ts := ts) hl2 (fun z hz => hin z (List.mem_cons_of_mem _ hz)) t e
theorem rows_has {n : Nat} {ts : List (Int × Int)} (hin : ∀ t ∈ ts, tieIn n t) : ∀ t ∈ ts, t.2 ∈ (rowsOf n ts).getD t.1.toNat [] ∧ t.1 ∈ (rowsOf n ts).getD t.2.toNat [] := fold_new List.length_replicate hin
/-! ### steps_from marks what is tied -/
def Mk (away : List Int) (z : Int) : Prop := 0 ≤ away.getD z.toNat 0
/-- marks are kept; what is new stands in the second list; the second list is marked -/
structure Grown (away : List Int) (st : List Int × List Int) : Prop where
  len : st.1.length = away.length
  keep : ∀ z : Int, 0 ≤ z → z < (away.length : Int) → Mk away z → Mk st.1 z
  new : ∀ z : Int, 0 ≤ z → z < (away.length : Int) → Mk st.1 z → Mk away z ∨ z ∈ st.2
theorem bstep_grown {away : List Int} {n bay : Nat} {st : List Int × List Int} {near : Int} (hn : away.length = n) (g : Grown away st) (hlow : ∀ z ∈ st.1, -1 ≤ z) (h0 : 0 ≤ near) (h1 : near < (n : Int)) : Grown away (bstep bay st near) ∧ Mk (bstep bay st near).1 near := by
  unfold bstep
  have hl : near.toNat < st.1.length := by rw [g.len]; omega
  split
  · rename_i c
    have hx : 0 ≤ st.1.getD bay 0 + 1 := by
      have := getD_low hlow bay
      omega
    refine ⟨⟨by rw [List.length_set]; exact g.len, fun z z0 z1 hz => ?_, fun z z0 z1 hz => ?_⟩, ?_⟩
    · have k := g.keep z z0 z1 hz
      unfold Mk at k ⊢
      by_cases e : near.toNat = z.toNat
      · rw [e, setD_self (by rw [← e]; exact hl)]
        exact hx
      · rw [setD_ne e]
        exact k
    · by_cases e : near.toNat = z.toNat
      · have ez : z = near := by omega
        right
        rw [ez]
        exact List.mem_append_right _ List.mem_cons_self
      · have hz2 : Mk st.1 z := by
          unfold Mk at hz ⊢
          rw [setD_ne e] at hz
          exact hz
        rcases g.new z z0 z1 hz2 with k | k
        · exact .inl k
        · exact .inr (List.mem_append_left _ k)
    · show 0 ≤ (st.1.set near.toNat (st.1.getD bay 0 + 1)).getD near.toNat 0
      rw [setD_self hl]
      exact hx
  · rename_i c
    refine ⟨g, ?_⟩
    show 0 ≤ st.1.getD near.toNat 0
    omega
theorem row_grown {away : List Int} {n m bay : Nat} (hn : away.length = n) : ∀ {l : List Int} {st : List Int × List Int}, (∀ z ∈ l, 0 ≤ z ∧ z < (n : Int)) → BOk n m st → Grown away st → Grown away (l.foldl (bstep bay) st) ∧ (∀ z : Int, 0 ≤ z → z < (n : Int) → Mk st.1 z → Mk (l.foldl (bstep bay) st).1 z) ∧ ∀ z ∈ l, Mk (l.foldl (bstep bay) st).1 z
  | [], st, _, _, g => ⟨g, fun z _ _ h => h, fun z hz => by cases hz⟩
  | x :: l, st, hl, b, g => by
    obtain ⟨x0, x1⟩ := hl x List.mem_cons_self
    obtain ⟨g1, m1⟩ := bstep_grown (bay := bay) hn g b.low x0 x1
    have b1 := bstep_ok (bay := bay) b x0 x1
    -- one step keeps the marks
    have k1 : ∀ z : Int, 0 ≤ z → z < (n : Int) → Mk st.1 z → Mk (bstep bay st x).1 z := fun z z0 z1 h => by
      have gs : Grown st.1 st := ⟨rfl, fun _ _ _ h => h, fun _ _ _ h => .inl h⟩
      exact (bstep_grown (bay := bay) (n := n) b.len gs b.low x0 x1).1.keep z z0 (by rw [b.len]; exact z1) h
    obtain ⟨g2, k2, a2⟩ := row_grown hn (l := l) (fun z hz => hl z (List.mem_cons_of_mem _ hz)) b1 g1
    refine ⟨g2, fun z z0 z1 h => k2 z z0 z1 (k1 z z0 z1 h), fun z hz => ?_⟩
    rcases List.mem_cons.mp hz with e | e
    · rw [e]
      exact k2 x x0 x1 m1
    · exact a2 z e
theorem level_grown {away : List Int} {n m : Nat} {rss : List (List Int)} (hn : away.length = n) (hr : RowsIn n rss) : ∀ {l : List Int} {st : List Int × List Int}, BOk n m st → Grown away st → Grown away (l.foldl (brow rss) st) ∧ (∀ z : Int, 0 ≤ z → z < (n : Int) → Mk st.1 z → Mk (l.foldl (brow rss) st).1 z) ∧ ∀ x ∈ l, ∀ z ∈ rss.getD x.toNat [], Mk (l.foldl (brow rss) st).1 z
  | [], st, _, g => ⟨g, fun z _ _ h => h, fun z hz => by cases hz⟩
  | x :: l, st, b, g => by
    obtain ⟨g1, k1, a1⟩ := row_grown (bay := x.toNat) hn (hr x.toNat) b g
    have b1 : BOk n m (brow rss st x) := fold_ok (hr x.toNat) b
    obtain ⟨g2, k2, a2⟩ := level_grown hn hr (l := l) b1 g1
    refine ⟨g2, fun z z0 z1 h => k2 z z0 z1 (k1 z z0 z1 h), fun y hy z hz => ?_⟩
    rcases List.mem_cons.mp hy with e | e
    · subst e
      obtain ⟨z0, z1⟩ := hr _ z hz
      exact k2 z z0 z1 (a1 z hz)
    · exact a2 y e z hz
/-- what is marked and not in the front has marked neighbours only -/
def Shut (n : Nat) (rss : List (List Int)) (away front : List Int) : Prop := ∀ u : Int, 0 ≤ u → u < (n : Int) → Mk away u → u ∉ front → ∀ z ∈ rss.getD u.toNat [], Mk away z
theorem bfs_shut {n : Nat} {rss : List (List Int)} (hr : RowsIn n rss) : ∀ (k : Nat) (away front : List Int), away.length = n → (∀ z ∈ away, -1 ≤ z) → Shut n rss away front → (front = [] ∨ neg away < k) →
    (bfs rss k away front).length = n ∧ (∀ z : Int, 0 ≤ z → z < (n : Int) → Mk away z → Mk (bfs rss k away front) z) ∧ Shut n rss (bfs rss k away front) []
  | 0, away, front, hl, hlow, sh, hk => by
    have e : front = [] := hk.resolve_right (by omega)
    subst e
    exact ⟨hl, fun z _ _ h => h, sh⟩
  | k + 1, away, front, hl, hlow, sh, hk => by
    unfold bfs
    by_cases e : front = []
    · rw [if_pos e]
      subst e
      exact ⟨hl, fun z _ _ h => h, sh⟩
    · rw [if_neg e]
      have b0 : BOk n (neg away) (away, ([] : List Int)) := ⟨hl, hlow, fun z hz => (by cases hz), Nat.le_refl _⟩
      have g0 : Grown away (away, ([] : List Int)) := ⟨rfl, fun _ _ _ h => h, fun _ _ _ h => .inl h⟩
      obtain ⟨g1, k1, a1⟩ := level_grown hl hr (l := front) b0 g0
      have b1 : BOk n (neg away) (level rss away front) := front_ok hr b0
      have sh1 : Shut n rss (level rss away front).1 (level rss away front).2 := fun u u0 u1 hu hnu z hz => by
        obtain ⟨z0, z1⟩ := hr _ z hz
        rcases g1.new u u0 (by rw [hl]; exact u1) hu with h | h
        · by_cases hf : u ∈ front
          · exact a1 u hf z hz
          · exact k1 z z0 z1 (sh u u0 u1 h hf z hz)
        · exact absurd h hnu
      have hk1 : (level rss away front).2 = [] ∨ neg (level rss away front).1 < k := by
        rcases Nat.eq_zero_or_pos (level rss away front).2.length with z | z
        · exact .inl (List.eq_nil_of_length_eq_zero z)
        · have m := b1.mes
          have hk2 := hk.resolve_left e
          exact .inr (by omega)
      obtain ⟨c1, c2, c3⟩ := bfs_shut hr k _ _ b1.len b1.low sh1 hk1
      exact ⟨c1, fun z z0 z1 h => c2 z z0 z1 (k1 z z0 z1 h), c3⟩
theorem neg_le (l : List Int) : neg l ≤ l.length := List.countP_le_length
theorem steps_shut {n s : Nat} {rss : List (List Int)} (hl : rss.length = n) (hs : s < n) (hr : RowsIn n rss) : (stepsOf rss s).length = n ∧ Mk (stepsOf rss s) (s : Int) ∧ Shut n rss (stepsOf rss s) [] := by
  unfold stepsOf
  rw [hl]
  have h1 : ((List.replicate n (-1 : Int)).set s 0).length = n := by rw [List.length_set, List.length_replicate]
  have h2 : ∀ z ∈ (List.replicate n (-1 : Int)).set s 0, -1 ≤ z := fun z hz => by
    rcases List.mem_or_eq_of_mem_set hz with q | q
    · rw [List.eq_of_mem_replicate q]
      omega
    · omega
  have ms : Mk ((List.replicate n (-1 : Int)).set s 0) (s : Int) := by
    unfold Mk
    rw [show ((s : Int)).toNat = s by omega, setD_self (by rw [List.length_replicate]; exact hs)]
    omega
  have h3 : Shut n rss ((List.replicate n (-1 : Int)).set s 0) [(s : Int)] := fun u u0 u1 hu hnu => by
    exfalso
    have e : s ≠ u.toNat := fun z => hnu (List.mem_singleton.mpr (by omega))
    unfold Mk at hu
    rw [setD_ne e, List.getD_eq_getElem?_getD, List.getElem?_replicate, if_pos (by omega)] at hu
    exact absurd hu (by decide)
  have h4 : neg ((List.replicate n (-1 : Int)).set s 0) < 2 * n + 1 := by
    have z := neg_le ((List.replicate n (-1 : Int)).set s 0)
    rw [h1] at z
    omega
  obtain ⟨c1, c2, c3⟩ := bfs_shut hr (2 * n + 1) _ [(s : Int)] h1 h2 h3 (.inr h4)
  exact ⟨c1, c2 _ (by omega) (by omega) ms, c3⟩
theorem lk_marked {n : Nat} {ts : List (Int × Int)} {away : List Int} (hin : ∀ t ∈ ts, tieIn n t) (sh : Shut n (rowsOf n ts) away []) {a b : Int} (h : Lk ts a b) (a0 : 0 ≤ a) (a1 : a < (n : Int)) (ma : Mk away a) : 0 ≤ b ∧ b < (n : Int) ∧ Mk away b := by
  induction h with
  | refl => exact ⟨a0, a1, ma⟩
  | @step c d _ e ih =>
    obtain ⟨c0, c1, mc⟩ := ih
    rcases e with e | e
    · obtain ⟨_, _, d0, d1⟩ := hin _ e
      exact ⟨d0, d1, sh c c0 c1 mc List.not_mem_nil d (rows_has hin _ e).1⟩
    · obtain ⟨d0, d1, _, _⟩ := hin _ e
      exact ⟨d0, d1, sh c c0 c1 mc List.not_mem_nil d (rows_has hin _ e).2⟩
theorem good_reach {n : Nat} {ts : List (Int × Int)} (g : Good n ts) (hn : 1 ≤ n) : reach n ts = true := by
  have hin : ∀ t ∈ ts, tieIn n t := fun t ht => by
    obtain ⟨a, b, c, d, _⟩ := g.inn t ht
    exact ⟨a, b, c, d⟩
  obtain ⟨s1, s2, s3⟩ := steps_shut (n := n) (s := 0) (rowsOf_len n ts) (by omega) (rowsOf_in hin)
  refine List.all_eq_true.mpr fun z hz => decide_eq_true ?_
  obtain ⟨j, hj⟩ := List.mem_iff_getElem?.mp hz
  have hjl := (List.getElem?_eq_some_iff.mp hj).1
  have k := (lk_marked hin s3 (g.con (j : Int) (by omega) (by omega)) (by omega) (by omega) s2).2.2
  unfold Mk at k
  rw [show ((j : Int)).toNat = j by omega, List.getD_eq_getElem?_getD, hj] at k
  exact k
theorem lt2_of {s t : Int × Int} (h : SrtO.lexB t s = false) (hne : s ≠ t) : lt2 s t = true := by
  have z := SrtO.lexB_no.mp h
  show (if s.1 = t.1 then (if s.2 = t.2 then false else decide (s.2 < t.2)) else decide (s.1 < t.1)) = true
  by_cases h1 : s.1 = t.1
  · rw [if_pos h1]
    by_cases h2 : s.2 = t.2
    · exact absurd (Prod.ext h1 h2) hne
    · rw [if_neg h2]
      exact decide_eq_true (by omega)
  · rw [if_neg h1]
    exact decide_eq_true (by omega)
theorem good_web {n : Nat} {ts : List (Int × Int)} (g : Good n ts) (hlt : ∀ t ∈ ts, t.1 < t.2) (ha : Asc ts) (h2 : 2 ≤ n) (h40 : n ≤ 40) : webOK n ts = true := by
  unfold webOK
  rw [Bool.and_eq_true, Bool.and_eq_true, Bool.and_eq_true, Bool.and_eq_true]
  refine ⟨⟨decide_eq_true (by omega), decide_eq_true (by omega)⟩, List.all_eq_true.mpr fun t ht => ?_, ?_, by rw [show ((n : Int)).toNat = n by omega]; exact good_reach g (by omega)⟩
  · obtain ⟨a, b, c, d, _⟩ := g.inn t ht
    unfold tieOK
    rw [Bool.and_eq_true, Bool.and_eq_true]
    exact ⟨decide_eq_true a, decide_eq_true (hlt t ht), decide_eq_true d⟩
  · unfold asc
    refine List.all_eq_true.mpr fun k hk => ?_
    have hk := List.mem_range.mp hk
    have h1 : k < ts.length := by omega
    have h2 : k + 1 < ts.length := by omega
    rw [List.getD_eq_getElem?_getD, List.getD_eq_getElem?_getD, List.getElem?_eq_getElem h1, List.getElem?_eq_getElem h2]
    exact lt2_of (List.pairwise_iff_getElem.mp ha k (k + 1) h1 h2 (by omega)) (List.pairwise_iff_getElem.mp g.dis k (k + 1) h1 h2 (by omega)).1
end Sb

/-! ## A132 -/
/-! Steps are distances; rows are sorted. -/
namespace Sb
open PySem PySem.Spec PyProof.Rows L2
abbrev gI (aw : List Int) (v : Int) : Int := aw.getD v.toNat 0
abbrev gR (rss : List (List Int)) (v : Int) : List Int := rss.getD v.toNat []
structure Lv (n : Nat) (rss : List (List Int)) (s : Nat) (L : Int) (aw front : List Int) : Prop where
  len : aw.length = n
  low : ∀ z ∈ aw, -1 ≤ z
  l0 : 0 ≤ L
  src : gI aw s = 0
  zero : ∀ v : Int, 0 ≤ v → v < (n : Int) → gI aw v = 0 → v = s
  top : ∀ v : Int, 0 ≤ v → v < (n : Int) → gI aw v ≤ L
  fr1 : ∀ v ∈ front, 0 ≤ v ∧ v < (n : Int) ∧ gI aw v = L
  fr2 : ∀ v : Int, 0 ≤ v → v < (n : Int) → gI aw v = L → v ∈ front
  pre : ∀ v : Int, 0 ≤ v → v < (n : Int) → 0 < gI aw v → ∃ u : Int, 0 ≤ u ∧ u < (n : Int) ∧ v ∈ gR rss u ∧ gI aw u + 1 = gI aw v
  edge : ∀ u : Int, 0 ≤ u → u < (n : Int) → 0 ≤ gI aw u → gI aw u < L → ∀ z ∈ gR rss u, 0 ≤ gI aw z ∧ gI aw z ≤ gI aw u + 1
/-- within a level -/
structure Mid (n : Nat) (rss : List (List Int)) (L : Int) (aw front : List Int) (st : List Int × List Int) : Prop where
  len : st.1.length = n
  low : ∀ z ∈ st.1, -1 ≤ z
  keep : ∀ v : Int, 0 ≤ v → v < (n : Int) → 0 ≤ gI aw v → gI st.1 v = gI aw v
  new : ∀ v : Int, 0 ≤ v → v < (n : Int) → gI aw v < 0 → gI st.1 v < 0 ∨ (gI st.1 v = L + 1 ∧ v ∈ st.2 ∧ ∃ u ∈ front, v ∈ gR rss u)
  fol : ∀ v ∈ st.2, 0 ≤ v ∧ v < (n : Int) ∧ gI st.1 v = L + 1
theorem bstep_mid {n : Nat} {rss : List (List Int)} {L : Int} {aw front : List Int} {st : List Int × List Int} {bay near : Int} (hL : 0 ≤ L) (h : Mid n rss L aw front st) (b0 : 0 ≤ bay) (b1 : bay < (n : Int)) (hb : bay ∈ front) (hL2 : gI aw bay = L) (hn : near ∈ gR rss bay) (n0 : 0 ≤ near) (n1 : near < (n : Int)) :
    Mid n rss L aw front (bstep bay.toNat st near) ∧ 0 ≤ gI (bstep bay.toNat st near).1 near ∧ ∀ v : Int, 0 ≤ v → v < (n : Int) → 0 ≤ gI st.1 v → gI (bstep bay.toNat st near).1 v = gI st.1 v := by
  have hbay : st.1.getD bay.toNat 0 = L := by
    have q := h.keep bay b0 b1 (by omega)
    exact q.trans hL2
  unfold bstep
  split
  · rename_i c
    have hl : near.toNat < st.1.length := by rw [h.len]; omega
    have self : (st.1.set near.toNat (st.1.getD bay.toNat 0 + 1)).getD near.toNat 0 = L + 1 := by
      rw [setD_self hl]
      omega
    have other : ∀ v : Int, 0 ≤ v → v ≠ near → gI (st.1.set near.toNat (st.1.getD bay.toNat 0 + 1)) v = gI st.1 v := fun v v0 ne => setD_ne (by omega)
    have ne_of : ∀ v : Int, 0 ≤ gI st.1 v → v ≠ near := fun v hv z => by
      rw [z] at hv
      have hv : 0 ≤ st.1.getD near.toNat 0 := hv
      exact absurd hv (by omega)
    refine ⟨⟨by rw [List.length_set]; exact h.len, fun z hz => ?_, fun v v0 v1 hv => ?_, fun v v0 v1 hv => ?_, fun v hv => ?_⟩, ?_, fun v v0 v1 hv => other v v0 (ne_of v hv)⟩
    · rcases List.mem_or_eq_of_mem_set hz with q | q
      · exact h.low z q
      · rw [q]
        omega
    · have k := h.keep v v0 v1 hv
      rw [← k]
      exact other v v0 (ne_of v (by omega))
    · by_cases e : v = near
      · subst e
        exact .inr ⟨self, List.mem_append_right _ List.mem_cons_self, bay, hb, hn⟩
      · have o := other v v0 e
        rcases h.new v v0 v1 hv with k | ⟨k1, k2, k3⟩
        · exact .inl (by rw [o]; exact k)
        · exact .inr ⟨by rw [o]; exact k1, List.mem_append_left _ k2, k3⟩
    · rcases List.mem_append.mp hv with q | q
      · obtain ⟨v0, v1, k⟩ := h.fol v q
        exact ⟨v0, v1, by rw [other v v0 (ne_of v (by omega))]; exact k⟩
      · have e : v = near := List.mem_singleton.mp q
        subst e
        exact ⟨n0, n1, self⟩
    · show 0 ≤ (st.1.set near.toNat (st.1.getD bay.toNat 0 + 1)).getD near.toNat 0
      rw [self]
      omega
  · rename_i c
    exact ⟨h, by show 0 ≤ st.1.getD near.toNat 0; omega, fun v _ _ _ => rfl⟩
theorem row_mid {n : Nat} {rss : List (List Int)} {L : Int} {aw front : List Int} {bay : Int} (hL : 0 ≤ L) (b0 : 0 ≤ bay) (b1 : bay < (n : Int)) (hb : bay ∈ front) (hL2 : gI aw bay = L) : ∀ {l : List Int} {st : List Int × List Int}, (∀ z ∈ l, z ∈ gR rss bay ∧ 0 ≤ z ∧ z < (n : Int)) → Mid n rss L aw front st →
    Mid n rss L aw front (l.foldl (bstep bay.toNat) st) ∧ (∀ z ∈ l, 0 ≤ gI (l.foldl (bstep bay.toNat) st).1 z) ∧ ∀ v : Int, 0 ≤ v → v < (n : Int) → 0 ≤ gI st.1 v → gI (l.foldl (bstep bay.toNat) st).1 v = gI st.1 v
  | [], st, _, h => ⟨h, fun z hz => (by cases hz), fun v _ _ _ => rfl⟩
  | x :: l, st, hl, h => by
    obtain ⟨x1, x2, x3⟩ := hl x List.mem_cons_self
    obtain ⟨m1, p1, k1⟩ := bstep_mid hL h b0 b1 hb hL2 x1 x2 x3
    obtain ⟨m2, p2, k2⟩ := row_mid hL b0 b1 hb hL2 (l := l) (fun z hz => hl z (List.mem_cons_of_mem _ hz)) m1
    refine ⟨m2, fun z hz => ?_, fun v v0 v1 hv => ?_⟩
    · rcases List.mem_cons.mp hz with e | e
      · subst e
        have q := k2 z x2 x3 p1
        exact q ▸ p1
      · exact p2 z e
    · have q := k1 v v0 v1 hv
      exact (k2 v v0 v1 (by rw [q]; exact hv)).trans q
theorem front_mid {n : Nat} {rss : List (List Int)} {L : Int} {aw front : List Int} (hr : RowsIn n rss) (hL : 0 ≤ L) : ∀ {l : List Int} {st : List Int × List Int}, (∀ z ∈ l, z ∈ front ∧ 0 ≤ z ∧ z < (n : Int) ∧ gI aw z = L) → Mid n rss L aw front st →
    Mid n rss L aw front (l.foldl (brow rss) st) ∧ (∀ u ∈ l, ∀ z ∈ gR rss u, 0 ≤ gI (l.foldl (brow rss) st).1 z) ∧ ∀ v : Int, 0 ≤ v → v < (n : Int) → 0 ≤ gI st.1 v → gI (l.foldl (brow rss) st).1 v = gI st.1 v
  | [], st, _, h => ⟨h, fun z hz => (by cases hz), fun v _ _ _ => rfl⟩
  | x :: l, st, hl, h => by
    obtain ⟨x1, x2, x3, x4⟩ := hl x List.mem_cons_self
    obtain ⟨m1, p1, k1⟩ := row_mid hL x2 x3 x1 x4 (l := gR rss x) (fun z hz => ⟨hz, hr _ z hz⟩) h
    obtain ⟨m2, p2, k2⟩ := front_mid hr hL (l := l) (fun z hz => hl z (List.mem_cons_of_mem _ hz)) m1
    refine ⟨m2, fun u hu z hz => ?_, fun v v0 v1 hv => ?_⟩
    · rcases List.mem_cons.mp hu with e | e
      · subst e
        obtain ⟨z0, z1⟩ := hr _ z hz
        have q0 := p1 z hz
        have q := k2 z z0 z1 q0
        exact q ▸ q0
      · exact p2 u e z hz
    · have q := k1 v v0 v1 hv
      exact (k2 v v0 v1 (by rw [q]; exact hv)).trans q
theorem level_lv {n s : Nat} {rss : List (List Int)} {L : Int} {aw front : List Int} (hr : RowsIn n rss) (h : Lv n rss s L aw front) (hs : s < n) : Lv n rss s (L + 1) (level rss aw front).1 (level rss aw front).2 := by
  have m0 : Mid n rss L aw front (aw, []) := ⟨h.len, h.low, fun _ _ _ _ => rfl, fun v _ _ hv => .inl hv, fun v hv => (by cases hv)⟩
  obtain ⟨m, p, k⟩ := front_mid hr h.l0 (l := front) (fun z hz => ⟨hz, h.fr1 z hz⟩) m0
  show Lv n rss s (L + 1) (front.foldl (brow rss) (aw, [])).1 (front.foldl (brow rss) (aw, [])).2
  generalize front.foldl (brow rss) (aw, []) = st at m p k
  have hL := h.l0
  have old : ∀ v : Int, 0 ≤ v → v < (n : Int) → 0 ≤ gI st.1 v → gI st.1 v < L + 1 → 0 ≤ gI aw v ∧ gI st.1 v = gI aw v := fun v v0 v1 hv hv2 => by
    rcases Int.lt_or_le (gI aw v) 0 with z | z
    · rcases m.new v v0 v1 z with q | ⟨q, _⟩
      · exact absurd hv (by omega)
      · exact absurd hv2 (by omega)
    · exact ⟨z, m.keep v v0 v1 z⟩
  have top : ∀ v : Int, 0 ≤ v → v < (n : Int) → gI st.1 v ≤ L + 1 := fun v v0 v1 => by
    rcases Int.lt_or_le (gI aw v) 0 with z | z
    · rcases m.new v v0 v1 z with q | ⟨q, _⟩ <;> omega
    · rw [m.keep v v0 v1 z]
      have := h.top v v0 v1
      omega
  refine ⟨m.len, m.low, by omega, ?_, fun v v0 v1 hv => ?_, top, m.fol, fun v v0 v1 hv => ?_, fun v v0 v1 hv => ?_, fun u u0 u1 hu hu2 z hz => ?_⟩
  · rw [m.keep s (by omega) (by omega) (by rw [h.src]; exact Int.le_refl 0)]
    exact h.src
  · obtain ⟨q1, q2⟩ := old v v0 v1 (by omega) (by omega)
    exact h.zero v v0 v1 (by omega)
  · rcases Int.lt_or_le (gI aw v) 0 with z | z
    · rcases m.new v v0 v1 z with q | ⟨_, q, _⟩
      · exact absurd hv (by omega)
      · exact q
    · have q := m.keep v v0 v1 z
      have := h.top v v0 v1
      exact absurd hv (by omega)
  · rcases Int.lt_or_le (gI aw v) 0 with z | z
    · rcases m.new v v0 v1 z with q | ⟨q, _, u, hu, hvu⟩
      · exact absurd hv (by omega)
      · obtain ⟨u0, u1, eu⟩ := h.fr1 u hu
        refine ⟨u, u0, u1, hvu, ?_⟩
        rw [m.keep u u0 u1 (by omega), q, eu]
    · have q := m.keep v v0 v1 z
      obtain ⟨u, u0, u1, h1, h2⟩ := h.pre v v0 v1 (by omega)
      refine ⟨u, u0, u1, h1, ?_⟩
      rw [m.keep u u0 u1 (by omega), q, h2]
  · obtain ⟨q1, q2⟩ := old u u0 u1 hu hu2
    obtain ⟨z0, z1⟩ := hr _ z hz
    rcases Int.lt_or_le (gI aw u) L with c | c
    · obtain ⟨e1, e2⟩ := h.edge u u0 u1 q1 c z hz
      rw [m.keep z z0 z1 e1, q2]
      exact ⟨e1, e2⟩
    · have eu : gI aw u = L := Int.le_antisymm (h.top u u0 u1) c
      have hf := h.fr2 u u0 u1 eu
      refine ⟨p u hf z hz, ?_⟩
      rw [q2, eu]
      exact top z z0 z1
theorem bfs_lv {n s : Nat} {rss : List (List Int)} (hr : RowsIn n rss) (hs : s < n) : ∀ (k : Nat) (L : Int) (aw front : List Int), Lv n rss s L aw front → (front = [] ∨ neg aw < k) → ∃ L', Lv n rss s L' (bfs rss k aw front) []
  | 0, L, aw, front, h, hk => by
    have e : front = [] := hk.resolve_right (by omega)
    subst e
    exact ⟨L, h⟩
  | k + 1, L, aw, front, h, hk => by
    unfold bfs
    by_cases e : front = []
    · rw [if_pos e]
      subst e
      exact ⟨L, h⟩
    · rw [if_neg e]
      have b0 : BOk n (neg aw) (aw, ([] : List Int)) := ⟨h.len, h.low, fun z hz => (by cases hz), Nat.le_refl _⟩
      have b1 : BOk n (neg aw) (level rss aw front) := front_ok hr b0
      have hk1 : (level rss aw front).2 = [] ∨ neg (level rss aw front).1 < k := by
        rcases Nat.eq_zero_or_pos (level rss aw front).2.length with z | z
        · exact .inl (List.eq_nil_of_length_eq_zero z)
        · have m := b1.mes
          have hk2 := hk.resolve_left e
          exact .inr (by omega)
      exact bfs_lv hr hs k _ _ _ (level_lv hr h hs) hk1
theorem start_lv {n s : Nat} (rss : List (List Int)) (hs : s < n) : Lv n rss s 0 ((List.replicate n (-1)).set s 0) [(s : Int)] := by
  have hl : s < (List.replicate n (-1 : Int)).length := by rw [List.length_replicate]; exact hs
  have e0 : gI ((List.replicate n (-1)).set s 0) s = 0 := by
    show List.getD _ (s : Int).toNat 0 = 0
    rw [Int.toNat_natCast, setD_self hl]
  have e1 : ∀ v : Int, 0 ≤ v → v < (n : Int) → v ≠ s → gI ((List.replicate n (-1)).set s 0) v = -1 := fun v v0 v1 ne => by
    show List.getD _ v.toNat 0 = -1
    rw [setD_ne (by omega), List.getD_eq_getElem?_getD, List.getElem?_replicate, if_pos (by omega)]
    rfl
  refine ⟨by rw [List.length_set, List.length_replicate], fun z hz => ?_, Int.le_refl 0, e0, fun v v0 v1 hv => ?_, fun v v0 v1 => ?_, fun v hv => ?_, fun v v0 v1 hv => ?_, fun v v0 v1 hv => ?_, fun u u0 u1 hu hu2 => ?_⟩
  · rcases List.mem_or_eq_of_mem_set hz with q | q
    · rw [List.eq_of_mem_replicate q]
      omega
    · omega
  · exact Decidable.byContradiction fun ne => by
      rw [e1 v v0 v1 ne] at hv
      cases hv
  · by_cases ne : v = s
    · rw [ne, e0]
      exact Int.le_refl 0
    · rw [e1 v v0 v1 ne]
      decide
  · rw [List.mem_singleton.mp hv]
    exact ⟨by omega, by omega, e0⟩
  · exact Decidable.byContradiction fun z => by
      have ne : v ≠ s := fun e => z (by rw [e]; exact List.mem_cons_self)
      rw [e1 v v0 v1 ne] at hv
      cases hv
  · exfalso
    by_cases ne : v = s
    · rw [ne, e0] at hv
      omega
    · rw [e1 v v0 v1 ne] at hv
      omega
  · exfalso
    omega
/-- how far each bay is -/
structure Dist (n : Nat) (rss : List (List Int)) (s : Nat) (d : List Int) : Prop where
  len : d.length = n
  low : ∀ z ∈ d, -1 ≤ z
  src : gI d s = 0
  zero : ∀ v : Int, 0 ≤ v → v < (n : Int) → gI d v = 0 → v = s
  pre : ∀ v : Int, 0 ≤ v → v < (n : Int) → 0 < gI d v → ∃ u : Int, 0 ≤ u ∧ u < (n : Int) ∧ v ∈ gR rss u ∧ gI d u + 1 = gI d v
  edge : ∀ u : Int, 0 ≤ u → u < (n : Int) → 0 ≤ gI d u → ∀ z ∈ gR rss u, 0 ≤ gI d z ∧ gI d z ≤ gI d u + 1
theorem Lv.dist {n s : Nat} {rss : List (List Int)} {L : Int} {aw : List Int} (h : Lv n rss s L aw []) : Dist n rss s aw := by
  refine ⟨h.len, h.low, h.src, h.zero, h.pre, fun u u0 u1 hu z hz => h.edge u u0 u1 hu ?_ z hz⟩
  have t := h.top u u0 u1
  rcases Int.lt_or_eq_of_le t with c | c
  · exact c
  · exact absurd (h.fr2 u u0 u1 c) List.not_mem_nil
theorem steps_dist {n s : Nat} {rss : List (List Int)} (hl : rss.length = n) (hs : s < n) (hr : RowsIn n rss) : Dist n rss s (stepsOf rss s) := by
  unfold stepsOf
  rw [hl]
  have h4 : neg ((List.replicate n (-1 : Int)).set s 0) < 2 * n + 1 := by
    have z := neg_le ((List.replicate n (-1 : Int)).set s 0)
    rw [List.length_set, List.length_replicate] at z
    omega
  obtain ⟨L', h⟩ := bfs_lv hr hs (2 * n + 1) 0 _ _ (start_lv rss hs) (.inr h4)
  exact h.dist
/-! ### rows, as they stand -/
def endOf (k : Nat) (t : Int × Int) : Option Int := if t.1.toNat = k then some t.2 else if t.2.toNat = k then some t.1 else none
theorem add_row {r : List (List Int)} {t : Int × Int} {k : Nat} (h1 : t.1.toNat < r.length) (h2 : t.2.toNat < r.length) (ne : t.1.toNat ≠ t.2.toNat) : (addTie r t).getD k [] = r.getD k [] ++ (endOf k t).toList := by
  unfold addTie app endOf
  by_cases e2 : t.2.toNat = k
  · subst e2
    rw [setD_self (by rw [List.length_set]; exact h2), setD_ne ne, if_neg ne, if_pos rfl]
    rfl
  · rw [setD_ne e2]
    by_cases e1 : t.1.toNat = k
    · subst e1
      rw [setD_self h1, if_pos rfl]
      rfl
    · rw [setD_ne e1, if_neg e1, if_neg e2]
      exact (List.append_nil _).symm
theorem fold_row {n k : Nat} : ∀ {ts : List (Int × Int)} {r : List (List Int)}, r.length = n → (∀ t ∈ ts, tieIn n t ∧ t.1 ≠ t.2) → (ts.foldl addTie r).getD k [] = r.getD k [] ++ ts.filterMap (endOf k)
  | [], r, _, _ => (List.append_nil _).symm
  | t :: ts, r, hl, h => by
    obtain ⟨⟨a0, a1, b0, b1⟩, ne⟩ := h t List.mem_cons_self
    have hl2 : (addTie r t).length = n := by
      unfold addTie
      rw [app_len, app_len]
      exact hl
    rw [List.foldl_cons, fold_row (k := k) hl2 fun z hz => h z (List.mem_cons_of_mem _ hz), add_row (by omega) (by omega) (by omega), List.append_assoc]
    congr 1
    rw [List.filterMap_cons]
    cases endOf k t <;> rfl
theorem rows_row {n k : Nat} {ts : List (Int × Int)} (h : ∀ t ∈ ts, tieIn n t ∧ t.1 ≠ t.2) : (rowsOf n ts).getD k [] = ts.filterMap (endOf k) := by
  unfold rowsOf
  rw [fold_row (n := n) List.length_replicate h]
  have e : (List.replicate n ([] : List Int)).getD k [] = [] := by
    rw [List.getD_eq_getElem?_getD, List.getElem?_replicate]
    split <;> rfl
  rw [e]
  rfl
theorem rows_iff {n : Nat} {ts : List (Int × Int)} (h : ∀ t ∈ ts, tieIn n t ∧ t.1 ≠ t.2) {u z : Int} (u0 : 0 ≤ u) : z ∈ gR (rowsOf n ts) u ↔ ((u, z) ∈ ts ∨ (z, u) ∈ ts) := by
  show z ∈ (rowsOf n ts).getD u.toNat [] ↔ _
  rw [rows_row h, List.mem_filterMap]
  constructor
  · rintro ⟨⟨a, b⟩, ht, e⟩
    obtain ⟨⟨a0, _, b0, _⟩, _⟩ := h _ ht
    unfold endOf at e
    dsimp only at e a0 b0
    split at e
    · rename_i c
      cases e
      have : a = u := by omega
      subst this
      exact .inl ht
    · split at e
      · rename_i c
        cases e
        have : b = u := by omega
        subst this
        exact .inr ht
      · cases e
  · rintro (ht | ht)
    · refine ⟨_, ht, ?_⟩
      unfold endOf
      rw [if_pos rfl]
    · refine ⟨_, ht, ?_⟩
      obtain ⟨⟨a0, _, b0, _⟩, ne⟩ := h _ ht
      dsimp only at a0 b0 ne
      unfold endOf
      dsimp only
      rw [if_neg (by omega), if_pos rfl]
/-- ties in their order -/
def AscL (ts : List (Int × Int)) : Prop := ts.Pairwise fun s t => s.1 < t.1 ∨ (s.1 = t.1 ∧ s.2 < t.2)
theorem lt2_iff {s t : Int × Int} (h : lt2 s t = true) : s.1 < t.1 ∨ (s.1 = t.1 ∧ s.2 < t.2) := by
  have h : (if s.1 = t.1 then (if s.2 = t.2 then false else decide (s.2 < t.2)) else decide (s.1 < t.1)) = true := h
  split at h
  · rename_i e
    split at h
    · cases h
    · exact .inr ⟨e, of_decide_eq_true h⟩
  · exact .inl (of_decide_eq_true h)
theorem asc_pair {ts : List (Int × Int)} (h : asc ts = true) : AscL ts := by
  have step : ∀ k, k + 1 < ts.length → lt2 (ts.getD k (0, 0)) (ts.getD (k + 1) (0, 0)) = true := fun k hk => by
    unfold asc at h
    exact List.all_eq_true.mp h k (List.mem_range.mpr (by omega))
  have far : ∀ j i, i < j → j < ts.length → (ts.getD i (0, 0)).1 < (ts.getD j (0, 0)).1 ∨ ((ts.getD i (0, 0)).1 = (ts.getD j (0, 0)).1 ∧ (ts.getD i (0, 0)).2 < (ts.getD j (0, 0)).2) := by
    intro j
    induction j with
    | zero => intro i hi _; omega
    | succ j ih =>
      intro i hi hj
      have s := lt2_iff (step j hj)
      by_cases e : i = j
      · subst e
        exact s
      · have q := ih i (by omega) (by omega)
        omega
  refine List.pairwise_iff_getElem.mpr fun i j hi hj hij => ?_
  have q := far j i hij hj
  rw [List.getD_eq_getElem?_getD, List.getD_eq_getElem?_getD, List.getElem?_eq_getElem hi, List.getElem?_eq_getElem hj] at q
  exact q
theorem row_sorted {ts : List (Int × Int)} (k : Nat) (ha : AscL ts) (h : ∀ t ∈ ts, 0 ≤ t.1 ∧ t.1 < t.2) : (ts.filterMap (endOf k)).Pairwise (· < ·) := by
  refine List.pairwise_filterMap.mpr (List.Pairwise.imp_of_mem ?_ ha)
  intro s t hs ht hlt b hb c hc
  obtain ⟨s0, s1⟩ := h s hs
  obtain ⟨t0, t1⟩ := h t ht
  unfold endOf at hb hc
  split at hb
  · cases hb
    split at hc
    · cases hc
      omega
    · split at hc
      · cases hc
        omega
      · cases hc
  · split at hb
    · cases hb
      split at hc
      · cases hc
        omega
      · split at hc
        · cases hc
          omega
        · cases hc
    · cases hb
/-- the law's own look at who is near -/
def nearA (k : Int) (ts : List (Int × Int)) : List Int := ts.filterMap fun t => if t.2 = k then some t.1 else none
def nearB (k : Int) (ts : List (Int × Int)) : List Int := ts.filterMap fun t => if t.1 = k then some t.2 else none
theorem near_perm {k : Int} (k0 : 0 ≤ k) : ∀ {ts : List (Int × Int)}, (∀ t ∈ ts, 0 ≤ t.1 ∧ t.1 < t.2) → (nearA k ts ++ nearB k ts).Perm (ts.filterMap (endOf k.toNat))
  | [], _ => .nil
  | t :: ts, h => by
    obtain ⟨t0, t1⟩ := h t List.mem_cons_self
    have ih := near_perm k0 (ts := ts) fun z hz => h z (List.mem_cons_of_mem _ hz)
    unfold nearA nearB at ih ⊢
    rw [List.filterMap_cons, List.filterMap_cons, List.filterMap_cons]
    unfold endOf
    by_cases e1 : t.1 = k
    · have n2 : ¬ t.2 = k := by omega
      have n3 : t.1.toNat = k.toNat := by omega
      rw [if_neg n2, if_pos e1, if_pos n3]
      exact List.perm_middle.trans (ih.cons _)
    · have n3 : ¬ t.1.toNat = k.toNat := by omega
      by_cases e2 : t.2 = k
      · have n4 : t.2.toNat = k.toNat := by omega
        rw [if_pos e2, if_neg e1, if_neg n3, if_pos n4]
        exact ih.cons _
      · have n4 : ¬ t.2.toNat = k.toNat := by omega
        rw [if_neg e2, if_neg e1, if_neg n3, if_neg n4]
        exact ih
theorem sorted_eq {xs ys : List Int} (p : xs.Perm ys) (hx : xs.Pairwise (· ≤ ·)) (hy : ys.Pairwise (· < ·)) : xs = ys :=
  p.eq_of_pairwise (fun a b _ _ h1 h2 => Int.le_antisymm h1 h2) hx (hy.imp fun h => Int.le_of_lt h)
theorem near_row {n : Nat} {ts : List (Int × Int)} {k : Int} {out : List Int} (k0 : 0 ≤ k) (ha : AscL ts) (h : ∀ t ∈ ts, 0 ≤ t.1 ∧ t.1 < t.2 ∧ t.2 < (n : Int)) (p : out.Perm (nearA k ts ++ nearB k ts)) (ho : out.Pairwise (· ≤ ·)) : out = gR (rowsOf n ts) k := by
  have h2 : ∀ t ∈ ts, tieIn n t ∧ t.1 ≠ t.2 := fun t ht => by
    obtain ⟨a, b, c⟩ := h t ht
    exact ⟨⟨a, by omega, by omega, c⟩, by omega⟩
  have h3 : ∀ t ∈ ts, 0 ≤ t.1 ∧ t.1 < t.2 := fun t ht => ⟨(h t ht).1, (h t ht).2.1⟩
  show out = (rowsOf n ts).getD k.toNat []
  rw [rows_row h2]
  exact sorted_eq (p.trans (near_perm k0 h3)) ho (row_sorted _ ha h3)
end Sb

/-! ## A232 -/
/-! What a web's ties give: ways, sides, who is reached. -/
namespace Sb
open PySem PySem.Spec PyProof.Rows L2
structure WebP (n : Nat) (ts : List (Int × Int)) : Prop where
  n2 : 2 ≤ n
  n40 : n ≤ 40
  inn : ∀ t ∈ ts, 0 ≤ t.1 ∧ t.1 < t.2 ∧ t.2 < (n : Int)
  asc : AscL ts
  con : ∀ v : Int, 0 ≤ v → v < (n : Int) → Lk ts 0 v
theorem WebP.ti {n : Nat} {ts : List (Int × Int)} (W : WebP n ts) : ∀ t ∈ ts, tieIn n t ∧ t.1 ≠ t.2 := fun t ht => by
  obtain ⟨a, b, c⟩ := W.inn t ht
  exact ⟨⟨a, by omega, by omega, c⟩, by omega⟩
theorem WebP.rin {n : Nat} {ts : List (Int × Int)} (W : WebP n ts) : RowsIn n (rowsOf n ts) := rowsOf_in fun t ht => (W.ti t ht).1
theorem lk_dist {n s : Nat} {ts : List (Int × Int)} {d : List Int} (h : ∀ t ∈ ts, tieIn n t ∧ t.1 ≠ t.2) (D : Dist n (rowsOf n ts) s d) : ∀ (m : Nat) (v : Int), 0 ≤ v → v < (n : Int) → gI d v = (m : Int) → Lk ts s v
  | 0, v, v0, v1, e => by
    rw [D.zero v v0 v1 e]
    exact .refl _
  | m + 1, v, v0, v1, e => by
    obtain ⟨u, u0, u1, hu, eu⟩ := D.pre v v0 v1 (by omega)
    exact .step (lk_dist h D m u u0 u1 (by omega)) ((rows_iff h u0).mp hu)
theorem WebP.of {m : Int} {ts : List (Int × Int)} (h : webOK m ts = true) : WebP m.toNat ts ∧ ((m.toNat : Nat) : Int) = m := by
  unfold webOK at h
  simp only [Bool.and_eq_true, decide_eq_true_eq] at h
  obtain ⟨⟨h1, h2⟩, h3, h4, h5⟩ := h
  have em : ((m.toNat : Nat) : Int) = m := by omega
  have inn : ∀ t ∈ ts, 0 ≤ t.1 ∧ t.1 < t.2 ∧ t.2 < ((m.toNat : Nat) : Int) := fun t ht => by
    obtain ⟨a, b, c⟩ := tieIn_of (List.all_eq_true.mp h3 t ht)
    exact ⟨a, b, by omega⟩
  have ti : ∀ t ∈ ts, tieIn (m.toNat : Nat) t ∧ t.1 ≠ t.2 := fun t ht => by
    obtain ⟨a, b, c⟩ := inn t ht
    exact ⟨⟨a, by omega, by omega, c⟩, by omega⟩
  refine ⟨⟨by omega, by omega, inn, asc_pair h4, fun v v0 v1 => ?_⟩, em⟩
  have D := steps_dist (n := m.toNat) (s := 0) (rowsOf_len m.toNat ts) (by omega) (rowsOf_in fun t ht => (ti t ht).1)
  have z : 0 ≤ gI (stepsOf (rowsOf m.toNat ts) 0) v := by
    have hl : v.toNat < (stepsOf (rowsOf m.toNat ts) 0).length := by rw [D.len]; omega
    have q := List.all_eq_true.mp h5 _ (List.getElem_mem hl)
    show 0 ≤ List.getD _ v.toNat 0
    rw [List.getD_eq_getElem?_getD, List.getElem?_eq_getElem hl]
    exact of_decide_eq_true q
  have q := lk_dist ti D (gI (stepsOf (rowsOf m.toNat ts) 0) v).toNat v v0 v1 (by omega)
  exact q
theorem con_reach {n : Nat} {ts : List (Int × Int)} (hn : 1 ≤ n) (h : ∀ t ∈ ts, tieIn n t) (c : ∀ v : Int, 0 ≤ v → v < (n : Int) → Lk ts 0 v) : reach n ts = true := by
  obtain ⟨s1, s2, s3⟩ := steps_shut (n := n) (s := 0) (rowsOf_len n ts) (by omega) (rowsOf_in h)
  refine List.all_eq_true.mpr fun z hz => decide_eq_true ?_
  obtain ⟨j, hj⟩ := List.mem_iff_getElem?.mp hz
  have hjl := (List.getElem?_eq_some_iff.mp hj).1
  have k := (lk_marked h s3 (c (j : Int) (by omega) (by omega)) (by omega) (by omega) s2).2.2
  unfold Mk at k
  rw [show ((j : Int)).toNat = j by omega, List.getD_eq_getElem?_getD, hj] at k
  exact k
/-! ### distances in a web -/
structure Far (n : Nat) (rss : List (List Int)) (b : Int) (d : List Int) : Prop where
  len : d.length = n
  nn : ∀ v : Int, 0 ≤ v → v < (n : Int) → 0 ≤ gI d v
  small : ∀ v : Int, 0 ≤ v → v < (n : Int) → gI d v < (n : Int)
  z : ∀ v : Int, 0 ≤ v → v < (n : Int) → (gI d v = 0 ↔ v = b)
  lt : ∀ v : Int, 0 ≤ v → v < (n : Int) → ∀ u ∈ gR rss v, (gI d u < gI d v ↔ gI d u + 1 = gI d v)
  ex : ∀ v : Int, 0 ≤ v → v < (n : Int) → v ≠ b → ∃ u ∈ gR rss v, gI d u < gI d v
theorem dist_vals {n s : Nat} {rss : List (List Int)} {d : List Int} (D : Dist n rss s d) : ∀ (m : Nat) (v : Int), 0 ≤ v → v < (n : Int) → gI d v = (m : Int) → ∀ k, k ≤ m → ∃ u : Int, 0 ≤ u ∧ u < (n : Int) ∧ gI d u = (k : Int)
  | 0, v, v0, v1, e, k, hk => ⟨v, v0, v1, by rw [e]; congr 1; omega⟩
  | m + 1, v, v0, v1, e, k, hk => by
    by_cases c : k = m + 1
    · exact ⟨v, v0, v1, by rw [e, c]⟩
    · obtain ⟨u, u0, u1, _, eu⟩ := D.pre v v0 v1 (by omega)
      exact dist_vals D m u u0 u1 (by omega) k (by omega)
theorem web_far {n : Nat} {ts : List (Int × Int)} (W : WebP n ts) {b : Int} (b0 : 0 ≤ b) (b1 : b < (n : Int)) : Far n (rowsOf n ts) b (stepsOf (rowsOf n ts) b.toNat) := by
  have D := steps_dist (n := n) (s := b.toNat) (rowsOf_len n ts) (by omega) W.rin
  obtain ⟨_, s2, s3⟩ := steps_shut (n := n) (s := b.toNat) (rowsOf_len n ts) (by omega) W.rin
  generalize stepsOf (rowsOf n ts) b.toNat = d at D s2 s3
  have eb : ((b.toNat : Nat) : Int) = b := by omega
  have nn : ∀ v : Int, 0 ≤ v → v < (n : Int) → 0 ≤ gI d v := fun v v0 v1 =>
    (lk_marked (fun t ht => (W.ti t ht).1) s3 ((W.con _ (by omega) (by omega)).symm.trans (W.con v v0 v1)) (by omega) (by omega) s2).2.2
  refine ⟨D.len, nn, fun v v0 v1 => ?_, fun v v0 v1 => ⟨fun e => (D.zero v v0 v1 e).trans eb, fun e => ?_⟩, fun v v0 v1 u hu => ?_, fun v v0 v1 ne => ?_⟩
  · have hv := nn v v0 v1
    have q := L2.nat_nodup_len (List.range ((gI d v).toNat + 1)) (d.map Int.toNat) List.nodup_range fun k hk => by
      obtain ⟨u, u0, u1, eu⟩ := dist_vals D (gI d v).toNat v v0 v1 (by omega) k (by have := List.mem_range.mp hk; omega)
      have hl : u.toNat < d.length := by rw [D.len]; omega
      refine List.mem_map.mpr ⟨d[u.toNat], List.getElem_mem hl, ?_⟩
      have eu : d.getD u.toNat 0 = (k : Int) := eu
      rw [List.getD_eq_getElem?_getD, List.getElem?_eq_getElem hl] at eu
      have eu : d[u.toNat] = (k : Int) := eu
      rw [eu]
      exact Int.toNat_natCast k
    rw [List.length_range, List.length_map, D.len] at q
    omega
  · have q := D.src
    rw [eb] at q
    rw [e]
    exact q
  · obtain ⟨u0, u1⟩ := W.rin _ u hu
    have hv : v ∈ gR (rowsOf n ts) u := (rows_iff W.ti u0).mpr ((rows_iff W.ti v0).mp hu).symm
    have e1 := (D.edge u u0 u1 (nn u u0 u1) v hv).2
    constructor
    · intro h
      omega
    · intro h
      omega
  · have hv := nn v v0 v1
    have nz : gI d v ≠ 0 := fun e => ne ((D.zero v v0 v1 e).trans eb)
    obtain ⟨u, u0, u1, hu, eu⟩ := D.pre v v0 v1 (by omega)
    exact ⟨u, (rows_iff W.ti v0).mpr ((rows_iff W.ti u0).mp hu).symm, by omega⟩
/-! ### first shortest ways -/
def nxtL (rss : List (List Int)) (d : List Int) (v : Int) : List Int := (gR rss v).filter fun z => decide (gI d z < gI d v)
def nxt (rss : List (List Int)) (d : List Int) (v : Int) : Int := (nxtL rss d v).headD 0
def pathP (rss : List (List Int)) (d : List Int) : Nat → Int → List Int
  | 0, _ => []
  | k + 1, v => nxt rss d v :: pathP rss d k (nxt rss d v)
def pathOf (n : Nat) (ts : List (Int × Int)) (a b : Int) : List Int := pathP (rowsOf n ts) (stepsOf (rowsOf n ts) b.toNat) (gI (stepsOf (rowsOf n ts) b.toNat) a).toNat a
theorem web_sorted {n : Nat} {ts : List (Int × Int)} (W : WebP n ts) (v : Int) : (gR (rowsOf n ts) v).Pairwise (· < ·) := by
  show ((rowsOf n ts).getD v.toNat []).Pairwise (· < ·)
  rw [rows_row W.ti]
  exact row_sorted _ W.asc fun t ht => ⟨(W.inn t ht).1, (W.inn t ht).2.1⟩
theorem nxt_facts {n : Nat} {ts : List (Int × Int)} (W : WebP n ts) {b : Int} {d : List Int} (F : Far n (rowsOf n ts) b d) {v : Int} (v0 : 0 ≤ v) (v1 : v < (n : Int)) (ne : v ≠ b) :
    ∃ r, nxtL (rowsOf n ts) d v = nxt (rowsOf n ts) d v :: r ∧ 0 ≤ nxt (rowsOf n ts) d v ∧ nxt (rowsOf n ts) d v < (n : Int) ∧ gI d (nxt (rowsOf n ts) d v) + 1 = gI d v ∧ ∀ y ∈ nxtL (rowsOf n ts) d v, nxt (rowsOf n ts) d v ≤ y := by
  obtain ⟨u, hu, hlt⟩ := F.ex v v0 v1 ne
  have hm : u ∈ nxtL (rowsOf n ts) d v := List.mem_filter.mpr ⟨hu, decide_eq_true hlt⟩
  have hs : (nxtL (rowsOf n ts) d v).Pairwise (· < ·) := (web_sorted W v).filter _
  unfold nxt
  cases e : nxtL (rowsOf n ts) d v with
  | nil =>
    rw [e] at hm
    cases hm
  | cons x r =>
    have hx : x ∈ nxtL (rowsOf n ts) d v := by
      rw [e]
      exact List.mem_cons_self
    obtain ⟨x1, x2⟩ := List.mem_filter.mp hx
    obtain ⟨x3, x4⟩ := W.rin _ x x1
    rw [e] at hs
    refine ⟨r, rfl, x3, x4, (F.lt v v0 v1 x x1).mp (of_decide_eq_true x2), fun y hy => ?_⟩
    rcases List.mem_cons.mp hy with z | z
    · rw [z]
      exact Int.le_refl _
    · exact Int.le_of_lt ((List.pairwise_cons.mp hs).1 y z)
theorem nxt_far {n : Nat} {ts : List (Int × Int)} (W : WebP n ts) {b : Int} {d : List Int} (F : Far n (rowsOf n ts) b d) {v : Int} (v0 : 0 ≤ v) (v1 : v < (n : Int)) :
    (gR (rowsOf n ts) v).filter (fun z => decide (gI d z + 1 = gI d v)) = nxtL (rowsOf n ts) d v :=
  List.filter_congr fun u hu => by
    have q := F.lt v v0 v1 u hu
    by_cases c : gI d u < gI d v
    · rw [decide_eq_true c, decide_eq_true (q.mp c)]
    · rw [decide_eq_false c, decide_eq_false fun z => c (q.mpr z)]
theorem pathP_len (rss : List (List Int)) (d : List Int) : ∀ (k : Nat) (v : Int), (pathP rss d k v).length = k
  | 0, _ => rfl
  | k + 1, v => by
    show (pathP rss d k _).length + 1 = k + 1
    rw [pathP_len]
/-! ### sides -/
def par (d : List Int) : List Int := d.map fun z => z % 2
def oddR (n : Nat) (rss : List (List Int)) (m : List Int) : Bool := (List.range n).any fun i => (rss.getD i []).any fun z => decide (gI m z = gI m i)
def oddT (ts : List (Int × Int)) (d : List Int) : Bool := ts.any fun t => decide ((gI d t.1 + gI d t.2) % 2 = 0)
theorem par_at {n : Nat} {d : List Int} (h : d.length = n) {v : Int} (v0 : 0 ≤ v) (v1 : v < (n : Int)) : gI (par d) v = gI d v % 2 := by
  have hl : v.toNat < d.length := by omega
  show List.getD _ v.toNat 0 = List.getD _ v.toNat 0 % 2
  rw [List.getD_eq_getElem?_getD, List.getD_eq_getElem?_getD]
  unfold par
  rw [List.getElem?_map, List.getElem?_eq_getElem hl]
  rfl
theorem odd_eq {n : Nat} {ts : List (Int × Int)} (W : WebP n ts) {d : List Int} (hl : d.length = n) : oddR n (rowsOf n ts) (par d) = oddT ts d := by
  refine Bool.eq_iff_iff.mpr ⟨fun h => ?_, fun h => ?_⟩
  · obtain ⟨i, hi, h⟩ := List.any_eq_true.mp h
    obtain ⟨z, hz, h⟩ := List.any_eq_true.mp h
    have hi := List.mem_range.mp hi
    have hz2 : z ∈ gR (rowsOf n ts) (i : Int) := by
      show z ∈ (rowsOf n ts).getD (i : Int).toNat []
      rw [Int.toNat_natCast]
      exact hz
    obtain ⟨z0, z1⟩ := W.rin _ z hz
    have h := of_decide_eq_true h
    rw [par_at hl z0 z1, par_at hl (by omega) (by omega)] at h
    rcases (rows_iff W.ti (by omega)).mp hz2 with t | t
    · exact List.any_eq_true.mpr ⟨_, t, decide_eq_true (by show (gI d (i : Int) + gI d z) % 2 = 0; omega)⟩
    · exact List.any_eq_true.mpr ⟨_, t, decide_eq_true (by show (gI d z + gI d (i : Int)) % 2 = 0; omega)⟩
  · obtain ⟨⟨a, b⟩, ht, h⟩ := List.any_eq_true.mp h
    obtain ⟨a0, ab, b1⟩ := W.inn _ ht
    dsimp only at a0 ab b1
    have h : (gI d a + gI d b) % 2 = 0 := of_decide_eq_true h
    have hb : b ∈ gR (rowsOf n ts) a := (rows_iff W.ti a0).mpr (.inl ht)
    refine List.any_eq_true.mpr ⟨a.toNat, List.mem_range.mpr (by omega), List.any_eq_true.mpr ⟨b, hb, decide_eq_true ?_⟩⟩
    have ea : ((a.toNat : Nat) : Int) = a := by omega
    rw [ea, par_at hl (by omega) b1, par_at hl a0 (by omega)]
    omega
/-! ### who is reached, one bay barred -/
inductive Rx (ts : List (Int × Int)) (ok : Int → Prop) (a : Int) : Int → Prop
  | refl : Rx ts ok a a
  | step {b c : Int} : Rx ts ok a b → ((b, c) ∈ ts ∨ (c, b) ∈ ts) → ok c → Rx ts ok a c
theorem Rx.lk {ts : List (Int × Int)} {ok : Int → Prop} {a b : Int} (h : Rx ts ok a b) : Lk ts a b := by
  induction h with
  | refl => exact .refl _
  | step _ e _ ih => exact .step ih e
structure Found (n : Nat) (ts : List (Int × Int)) (ok : Int → Prop) (a : Int) (ks : List Int) : Prop where
  nd : ks.Nodup
  inn : ∀ k ∈ ks, 0 ≤ k ∧ k < (n : Int)
  from_ : ∀ k ∈ ks, Rx ts ok a k
  has : a ∈ ks
  shut : ∀ k ∈ ks, ∀ z ∈ gR (rowsOf n ts) k, ok z → z ∈ ks
theorem Found.all {n : Nat} {ts : List (Int × Int)} {ok : Int → Prop} {a : Int} {ks : List Int} (hti : ∀ t ∈ ts, tieIn n t ∧ t.1 ≠ t.2) (h : Found n ts ok a ks) {b : Int} (r : Rx ts ok a b) : b ∈ ks := by
  induction r with
  | refl => exact h.has
  | @step c e _ t o ih =>
    obtain ⟨c0, c1⟩ := h.inn _ ih
    exact h.shut _ ih _ ((rows_iff hti c0).mpr t) o
theorem nd_toNat {ks : List Int} (nd : ks.Nodup) (h : ∀ k ∈ ks, 0 ≤ k) : (ks.map Int.toNat).Nodup := by
  refine List.pairwise_map.mpr (List.Pairwise.imp_of_mem ?_ nd)
  intro a b ha hb ne e
  have := h a ha
  have := h b hb
  exact ne (by omega)
theorem found_count {n : Nat} {ks : List Int} (nd : ks.Nodup) (h : ∀ k ∈ ks, 0 ≤ k ∧ k < (n : Int)) : ks.length ≤ n ∧ (ks.length = n → ∀ v : Int, 0 ≤ v → v < (n : Int) → v ∈ ks) := by
  have nd2 := nd_toNat nd fun k hk => (h k hk).1
  have q := L2.nat_nodup_len (ks.map Int.toNat) (List.range n) nd2 fun x hx => by
    obtain ⟨k, hk, rfl⟩ := List.mem_map.mp hx
    have := h k hk
    exact List.mem_range.mpr (by omega)
  rw [List.length_map, List.length_range] at q
  refine ⟨q, fun e v v0 v1 => Decidable.byContradiction fun nv => ?_⟩
  have q2 := L2.nat_nodup_len (v.toNat :: ks.map Int.toNat) (List.range n) (List.nodup_cons.mpr ⟨fun z => ?_, nd2⟩) fun x hx => ?_
  · rw [List.length_cons, List.length_map, List.length_range] at q2
    omega
  · obtain ⟨k, hk, ek⟩ := List.mem_map.mp z
    have := h k hk
    have : k = v := by omega
    exact nv (this ▸ hk)
  · rcases List.mem_cons.mp hx with z | z
    · rw [z]
      exact List.mem_range.mpr (by omega)
    · obtain ⟨k, hk, rfl⟩ := List.mem_map.mp z
      have := h k hk
      exact List.mem_range.mpr (by omega)
/-- all are found: just if the ties hold together -/
theorem found_reach {n : Nat} {ts : List (Int × Int)} {ok : Int → Prop} {ks : List Int} (hn : 1 ≤ n) (hti : ∀ t ∈ ts, tieIn n t ∧ t.1 ≠ t.2) (hok : ∀ z, ok z) (h : Found n ts ok 0 ks) : decide (ks.length = n) = reach n ts := by
  obtain ⟨c1, c2⟩ := found_count h.nd h.inn
  cases e : reach n ts with
  | true =>
    have D := steps_dist (n := n) (s := 0) (rowsOf_len n ts) (by omega) (rowsOf_in fun t ht => (hti t ht).1)
    have lk : ∀ v : Int, 0 ≤ v → v < (n : Int) → Lk ts 0 v := fun v v0 v1 => by
      have z : 0 ≤ gI (stepsOf (rowsOf n ts) 0) v := by
        have hl : v.toNat < (stepsOf (rowsOf n ts) 0).length := by rw [D.len]; omega
        have q := List.all_eq_true.mp e _ (List.getElem_mem hl)
        show 0 ≤ List.getD _ v.toNat 0
        rw [List.getD_eq_getElem?_getD, List.getElem?_eq_getElem hl]
        exact of_decide_eq_true q
      have q := lk_dist hti D (gI (stepsOf (rowsOf n ts) 0) v).toNat v v0 v1 (by omega)
      exact q
    have rx : ∀ v, Lk ts 0 v → Rx ts ok 0 v := fun v l => by
      induction l with
      | refl => exact .refl
      | step _ t ih => exact .step ih t (hok _)
    refine decide_eq_true (Nat.le_antisymm c1 ?_)
    have q := L2.nat_nodup_len (List.range n) (ks.map Int.toNat) List.nodup_range fun x hx => by
      have hx := List.mem_range.mp hx
      refine List.mem_map.mpr ⟨(x : Int), h.all hti (rx _ (lk x (by omega) (by omega))), Int.toNat_natCast x⟩
    rw [List.length_map, List.length_range] at q
    exact q
  | false =>
    refine decide_eq_false fun z => ?_
    have q := con_reach hn (fun t ht => (hti t ht).1) fun v v0 v1 => (h.from_ v (c2 z v v0 v1)).lk
    rw [e] at q
    cases q
end Sb

/-! ## B32 -/
/-! Blocks: bays_above, bays_climbed. -/
namespace Sb
open PySem PySem.Spec PyProof.Rows L2
abbrev sAbove : Stmt := top 8
abbrev sClimb : Stmt := top 9
/-- the bays nearer to bay 0 among those tied to a bay -/
def nearer (rss : List (List Int)) (away : List Int) (b : Nat) : List Int := (rss.getD b []).filter fun z => decide (away.getD z.toNat 0 < away.getD b 0)
def aboveOf (rss : List (List Int)) (away : List Int) : List Int := 0 :: (List.range (rss.length - 1)).map fun i => (nearer rss away (i + 1)).headD 0
def spAbove : Sp := fun vs H Q _ => ∃ (l : Addr) (ps : List Addr) (rss : List (List Int)) (a : Addr) (away : List Int), vs = [.ref l, .ref a] ∧ RowsL H l ps rss ∧ H a = some (.lst (away.map V.int)) ∧ RowsIn rss.length rss ∧ away.length = rss.length ∧ 1 ≤ rss.length ∧ rss.length ≤ 1000 ∧
  (∀ k, (rss.getD k []).length ≤ 1000000) ∧ (∀ b, 1 ≤ b → b < rss.length → nearer rss away b ≠ []) ∧ ∀ p H', Same H H' → H p = none → H' p = some (.lst ((aboveOf rss away).map V.int)) → Q (.ref p) H'
section
variable {X : Cx}
theorem ix_listK {K : PySem.W.Frag} (hK : X.K = K := by rfl) : IxR X (rIxL K) := hK ▸ ix_list
end
section
variable {P : Program} {w : World} {K : PySem.W.Frag} {mg : Str → Option Value} {base : Heap} {C : Nat → Addr}
abbrev scAboveN : List Str := ["rows", "away", "above", "bay", "nearer", "near"]
abbrev scAboveS : Scope := defScope sAbove
theorem scAbove : FnScope ["rows", "away", "above", "bay", "nearer", "near"] ["rows", "away"] (defScope sAbove) := ⟨rfl, rfl, rfl, by decide +kernel, rfl, by decide +kernel, by decide +kernel⟩
theorem filter_more {α : Type} {l : List α} {p : α → Bool} {i : Nat} {x : α} (h : l[i]? = some x) : (l.take (i + 1)).filter p = (l.take i).filter p ++ (if p x = true then [x] else []) := by
  rw [take_more h, List.filter_append]
  congr 1
  cases e : p x with
  | true => rw [List.filter_cons_of_pos e]; rfl
  | false => rw [List.filter_cons_of_neg (by rw [e]; exact Bool.false_ne_true)]; rfl
theorem ok_above {f : Addr} {fd : FuncData} (F : FnP K "bays_above" sAbove f fd) (T : WebTxt mg) : FnOk P w K mg base CX0 1 f fd ["rows", "away"] spAbove := by
  refine ok0 F scAbove (fun vs H Q E h => ?_) (fun cdv A outer s H vs Q E hr h => ?_)
  · obtain ⟨l, ps, rss, a, away, rfl, _⟩ := h
    rfl
  · obtain ⟨l, ps, rss, a, away, rfl, R, ha, hR, hal, h1, hn, hsz, hne, q⟩ := h
    refine ⟨_, (pss_cons (ps_set (i := 2) scAbove.nd rfl (Or.inl rfl) (pe_lstL (pa_cons pe_int pa_nil)))
    (pss_cons (ps_for PassesOwn.never rfl (pi_range2 (by rfl) T.range (pa_cons pe_int (pa_cons (pe_callB (id := "len") call_len_seq (by rfl) T.len (by decide +kernel) (pa_cons (pv 0) pa_nil)) pa_nil))) (pg_name (i := 3) scAbove.nd rfl (Or.inr rfl))
      (pss_cons (ps_setLc (i := 4) (own := [("near", 5)]) (g := gName 5) (by rfl) scAbove.nd rfl rfl (sw_true rfl rfl rfl (by decide +kernel)) (pi_list (pe_ix ix_list (pv 0) (pv 3) (fun _ _ => rfl))) (blkOk_by (own := [("near", 5)]) (N := scAboveN) (sc := scAboveS) (by decide +kernel)) (fun _ _ _ _ _ => pg_name (i := 5) scAbove.nd rfl (Or.inl rfl)) (fun _ _ _ _ _ => pts_one (pt_cmpR op_lt (pe_ix (ix_listK (K := K)) (pv 1) (pv 5) (fun _ _ => rfl)) (pe_ix (ix_listK (K := K)) (pv 1) (pv 3) (fun _ _ => rfl)) (nomark _))) (fun _ _ _ _ _ => (pv 5)))
    (pss_one (ps_expr (pe_bm PySem.F.plainAttrs_list PySem.F.slot_list_append PySem.F.type_list_append mt_appendL (pv 2) (pa_cons (pe_ix ix_list (pv 4) pe_int (fun _ _ => rfl)) pa_nil))))))
    (pss_one (ps_ret (pv 2))))), ?_⟩
    refine ⟨by show 1 ≤ sizeLine; decide, fun ab H1 n1 s1 h1' => ?_⟩
    have hlen : (ps.map V.ref).length = rss.length := by rw [List.length_map, R.len]
    refine ⟨_, rfl, l, _, rfl, .inl (SqL.of (s1 _ _ R.at_)), _, _, rfl, ⟨by omega, by omega, by omega, by omega⟩, for_range (lo := 1) (n := (((ps.map V.ref).length : Int) - 1).toNat) (fun i σ H' => (∃ u v x, σ = [some (.ref l), some (.ref a), some (.ref ab), u, v, x]) ∧ Same H H' ∧ H' ab = some (.lst ((0 :: (List.range i).map fun j => (nearer rss away (j + 1)).headD 0).map V.int)))
      ⟨⟨none, none, none, rfl⟩, s1, h1'⟩ ?_ ?_⟩
    · rintro i σ H' hi ⟨⟨u, v, x, rfl⟩, S, hab⟩
      rw [List.length_map, R.len] at hi
      have hi2 : i + 1 < rss.length := by omega
      have bt : ((1 : Int) + (i : Nat)).toNat = i + 1 := by omega
      obtain ⟨p, gp, xp⟩ := R.get (i := 1 + (i : Nat)) (by omega) (by omega)
      rw [bt] at gp
      have rp := R.row _ _ gp
      have ea : atI (away.map V.int) (1 + (i : Nat)) = some (.int (away.getD (i + 1) 0)) := by
        have z := atI_map (l := away) (i := 1 + (i : Nat)) (by omega) (by rw [hal]; omega)
        rw [bt] at z
        exact z
      refine ⟨_, rfl, _, rfl, l, _, _, _, rfl, rfl, SqL.of (S _ _ R.at_), xp, p, rfl, ⟨_, SqL.of (S _ _ rp)⟩, fun D hD => lc_list (K := K) (a := p) (xs := (rss.getD (i + 1) []).map V.int) (fun j H2 => Same H' H2 ∧ H2 D = some (.lst ((((rss.getD (i + 1) []).take j).filter fun z => decide (away.getD z.toNat 0 < away.getD (i + 1) 0)).map V.int)))
        ⟨same_upd hD, by rw [upd_same, List.take_zero]; rfl⟩ (fun j H2 _ ⟨S2, _⟩ => SqL.of (S2 _ _ (S _ _ rp))) ?_ ?_⟩
      · rintro j y H2 hj ⟨S2, e2⟩
        obtain ⟨z, hz, rfl⟩ := getMap hj
        obtain ⟨z0, z1⟩ := hR (i + 1) z (List.mem_of_getElem? hz)
        have S3 := S.trans S2
        refine ⟨rfl, _, rfl, _, rfl, a, _, _, _, rfl, rfl, SqL.of (S3 _ _ ha), atI_map z0 (by rw [hal]; exact z1), _, rfl, _, rfl, a, _, _, _, rfl, rfl, SqL.of (S3 _ _ ha), ea, _, _, rfl, rfl, _, rfl, ?_⟩
        have fm := filter_more (p := fun z => decide (away.getD z.toNat 0 < away.getD (i + 1) 0)) hz
        refine ite2 (fun hc => ?_) (fun hc => ?_)
        · rw [if_pos hc] at fm
          refine ⟨_, rfl, _, e2, ?_, fun b o hb => by rw [upd_ne (ne_of_none hb hD)]; exact S2 _ _ hb, ?_⟩
          · rw [List.length_map]
            refine Nat.lt_of_le_of_lt (List.length_filter_le _ _) ?_
            have hz := hsz (i + 1)
            rw [List.length_take, sizeLine_eq]
            omega
          · rw [upd_same, fm, List.map_append]
            rfl
        · rw [if_neg hc, List.append_nil] at fm
          exact ⟨S2, by rw [e2, fm]⟩
      rintro H2 ⟨S2, e2⟩
      rw [List.length_map, List.take_length] at e2
      have e2 : H2 D = some (.lst ((nearer rss away (i + 1)).map V.int)) := e2
      have hne' := hne (i + 1) (by omega) hi2
      have hd : ∃ z r, nearer rss away (i + 1) = z :: r := by
        cases e : nearer rss away (i + 1) with
        | nil => exact absurd e hne'
        | cons z r => exact ⟨z, r, rfl⟩
      obtain ⟨z, r, ez⟩ := hd
      rw [ez] at e2
      have hab2 := S2 _ _ hab
      refine ⟨_, rfl, .inl ⟨rfl, _, SqL.of hab2⟩, _, rfl, D, _, _, .int z, rfl, rfl, SqL.of e2, at_of (j := 0) rfl rfl, ab, _, _, rfl, rfl, hab2, ?_, fun H3 B3 h3 => ⟨⟨_, _, _, rfl⟩, same_but (S.trans S2) n1 B3, ?_⟩⟩
      · rw [List.length_map, List.length_cons, List.length_map, List.length_range]
        exact small1000 (by omega)
      · rw [h3, List.range_succ, List.map_append, ← List.cons_append, List.map_append]
        show some (HO.lst (_ ++ [V.int z])) = some (HO.lst (_ ++ [V.int ((nearer rss away (i + 1)).headD 0)]))
        rw [ez]
        rfl
    · rintro σ H' ⟨⟨u, v, x, rfl⟩, S, hab⟩
      refine ⟨_, rfl, q ab H' S n1 ?_⟩
      have e : (((ps.map V.ref).length : Int) - 1).toNat = rss.length - 1 := by rw [List.length_map, R.len]; omega
      rw [e] at hab
      exact hab
end
/-! ### bays_climbed -/
/-- the bays' steps and the bays above them, as a tree of n bays -/
structure Tree (n : Nat) (above away : List Int) : Prop where
  la : above.length = n
  lw : away.length = n
  ra : ∀ z ∈ above, 0 ≤ z ∧ z < (n : Int)
  low : ∀ i, 0 ≤ away.getD i 0
  zero : ∀ i, i < n → away.getD i 0 = 0 → i = 0
  root : away.getD 0 0 = 0
  less : ∀ i, i < n → i ≠ 0 → away.getD (above.getD i 0).toNat 0 < away.getD i 0
def spClimb : Sp := fun vs H Q _ => ∃ (l m : Addr) (above away : List Int) (n : Nat) (a b : Int), vs = [.ref l, .ref m, .int a, .int b] ∧ H l = some (.lst (above.map V.int)) ∧ H m = some (.lst (away.map V.int)) ∧ Tree n above away ∧ 0 ≤ a ∧ a < (n : Int) ∧ 0 ≤ b ∧ b < (n : Int) ∧
  (away.getD a.toNat 0).toNat + (away.getD b.toNat 0).toNat ≤ 1000000 ∧
  ∀ p H', Same H H' → H p = none → H' p = some (.lst ((climb above away ((away.getD a.toNat 0).toNat + (away.getD b.toNat 0).toNat) a b).map V.int)) → Q (.ref p) H'
theorem getD_mem {l : List Int} {i : Nat} (h : i < l.length) : l.getD i 0 ∈ l := by
  rw [List.getD_eq_getElem?_getD, List.getElem?_eq_getElem h]
  exact List.getElem_mem h
theorem Tree.up {n : Nat} {above away : List Int} (T : Tree n above away) {a b : Int} (a0 : 0 ≤ a) (a1 : a < (n : Int)) (b0 : 0 ≤ b) (b1 : b < (n : Int)) (hab : a ≠ b) (hw : away.getD b.toNat 0 ≤ away.getD a.toNat 0) :
    (0 ≤ above.getD a.toNat 0 ∧ above.getD a.toNat 0 < (n : Int)) ∧ (away.getD (above.getD a.toNat 0).toNat 0).toNat < (away.getD a.toNat 0).toNat := by
  have an : a.toNat ≠ 0 := fun z => by
    rw [z, T.root] at hw
    have h1 := T.low b.toNat
    have h2 := T.zero b.toNat (by omega) (by omega)
    omega
  have hl := T.less a.toNat (by omega) an
  have lo := T.low (above.getD a.toNat 0).toNat
  exact ⟨T.ra _ (getD_mem (by rw [T.la]; omega)), by omega⟩
def ClimbInv (H : Hp) (l m p : Addr) (above away : List Int) (n : Nat) (R : List Int) (k : Nat) (σ : L2.St) (H' : Hp) : Prop :=
  ∃ (a b : Int) (acc : List Int), σ = [some (.ref l), some (.ref m), some (.int a), some (.int b), some (.ref p)] ∧ Same H H' ∧ H' p = some (.lst (acc.map V.int)) ∧ 0 ≤ a ∧ a < (n : Int) ∧ 0 ≤ b ∧ b < (n : Int) ∧
    (away.getD a.toNat 0).toNat + (away.getD b.toNat 0).toNat ≤ k ∧ acc.length + k ≤ 1000000 ∧ acc ++ climb above away k a b = R
theorem climb_eq {above away : List Int} {a : Int} : ∀ k, climb above away k a a = []
  | 0 => rfl
  | _ + 1 => if_pos rfl
section
variable {P : Program} {w : World} {K : PySem.W.Frag} {mg : Str → Option Value} {base : Heap} {C : Nat → Addr}
theorem scClimb : FnScope ["above", "away", "a", "b", "climbed"] ["above", "away", "a", "b"] (defScope sClimb) := ⟨rfl, rfl, rfl, by decide +kernel, rfl, by decide +kernel, by decide +kernel⟩
theorem ok_climb {f : Addr} {fd : FuncData} (F : FnP K "bays_climbed" sClimb f fd) : FnOk P w K mg base CX0 1 f fd ["above", "away", "a", "b"] spClimb := by
  refine ok0 F scClimb (fun vs H Q E h => ?_) (fun cdv A outer s H vs Q E hr h => ?_)
  · obtain ⟨l, m, above, away, n, a, b, rfl, _⟩ := h
    rfl
  · obtain ⟨l, m, above, away, n, a, b, rfl, hl, hm, T, a0, a1, b0, b1, hk, q⟩ := h
    refine ⟨_, (pss_cons (ps_set (i := 4) scClimb.nd rfl (Or.inl rfl) (pe_lstL pa_nil))
    (pss_cons (ps_while PassesOwn.never (pt_cmpR op_ne (pv 2) (pv 3) (nomark _))
      (pss_cons (ps_if (pt_cmpR op_lt (pe_ix ix_list (pv 1) (pv 2) (fun _ _ => rfl)) (pe_ix ix_list (pv 1) (pv 3) (fun _ _ => rfl)) (nomark _))
      (pss_one (ps_par (i := 2) (j := 3) (by rfl) scClimb.nd rfl rfl (by decide) rfl rfl (pa_cons (pv 3) (pa_cons (pv 2) pa_nil)) (by rfl)))
      pss_nil)
    (pss_cons (ps_expr (pe_bm PySem.F.plainAttrs_list PySem.F.slot_list_append PySem.F.type_list_append mt_appendL (pv 4) (pa_cons (pv 2) pa_nil)))
    (pss_one (ps_set (i := 2) scClimb.nd rfl (Or.inl rfl) (pe_ix ix_list (pv 0) (pv 2) (fun _ _ => rfl)))))))
    (pss_one (ps_ret (pv 4))))), ?_⟩
    refine ⟨by show 0 ≤ sizeLine; decide, fun p H1 n1 s1 h1 => ?_⟩
    refine ⟨ClimbInv H l m p above away n (climb above away ((away.getD a.toNat 0).toNat + (away.getD b.toNat 0).toNat) a b), ⟨_, a, b, [], rfl, s1, h1, a0, a1, b0, b1, Nat.le_refl _, by rw [List.length_nil]; omega, rfl⟩, ?_⟩
    rintro k σ H' ⟨a, b, acc, rfl, S, hp, a0, a1, b0, b1, hk, hz, hR⟩
    refine ⟨_, rfl, _, rfl, rfl, _, rfl, ?_⟩
    by_cases hab : a = b
    · subst hab
      rw [climb_eq, List.append_nil] at hR
      rw [hR] at hp
      exact iteC (by rw [decide_eq_true rfl]; rfl) ⟨_, rfl, q p H' S n1 hp⟩
    · have hne : (!decide (V.int a = V.int b)) = true := by
        rw [decide_eq_false (fun z => hab (V.int.inj z))]
        rfl
      have hm' : H' m = some (.lst (away.map V.int)) := S _ _ hm
      have ea := atI_map (l := away) a0 (by rw [T.lw]; exact a1)
      have eb := atI_map (l := away) b0 (by rw [T.lw]; exact b1)
      have hk0 : k ≠ 0 := fun z => by
        have h1 := T.low a.toNat
        have h2 := T.low b.toNat
        have h3 := T.zero a.toNat (by omega) (by omega)
        have h4 := T.zero b.toNat (by omega) (by omega)
        omega
      obtain ⟨k', rfl⟩ : ∃ k', k = k' + 1 := ⟨k - 1, by omega⟩
      refine iteD hne ⟨ClimbInv H l m p above away n _ k', fun σ' H'' h => ⟨k', Nat.lt_succ_self _, h⟩, ?_⟩
      refine ⟨_, rfl, _, rfl, m, _, _, _, rfl, rfl, SqL.of hm', ea, _, rfl, _, rfl, m, _, _, _, rfl, rfl, SqL.of hm', eb, _, _, rfl, rfl, _, rfl, ?_⟩
      refine ite2 (fun hc => ?_) (fun hc => ?_)
      · have hc : away.getD a.toNat 0 < away.getD b.toNat 0 := of_decide_eq_true hc
        obtain ⟨⟨u0, u1⟩, ul⟩ := T.up b0 b1 a0 a1 (fun z => hab z.symm) (by omega)
        have eR : acc ++ climb above away (k' + 1) a b = (acc ++ [b]) ++ climb above away k' (above.getD b.toNat 0) a := by
          show acc ++ (if a = b then [] else if away.getD a.toNat 0 < away.getD b.toNat 0 then b :: climb above away k' (above.getD b.toNat 0) a else a :: climb above away k' (above.getD a.toNat 0) b) = _
          rw [if_neg hab, if_pos hc, List.append_assoc]
          rfl
        rw [eR] at hR
        refine ⟨_, rfl, _, rfl, _, _, rfl, ?_⟩
        refine ⟨_, rfl, .inl ⟨rfl, _, SqL.of hp⟩, _, rfl, p, _, _, rfl, rfl, hp, by rw [List.length_map, sizeLine_eq]; omega, fun H2 B2 h2 => ?_⟩
        have S2 := same_but S n1 B2
        refine ⟨_, rfl, _, rfl, l, _, _, _, rfl, rfl, SqL.of (S2 _ _ hl), atI_map b0 (by rw [T.la]; exact b1), ?_⟩
        exact ⟨_, _, acc ++ [b], rfl, S2, by rw [h2, List.map_append]; rfl, u0, u1, a0, a1, by omega, by rw [List.length_append, List.length_singleton]; omega, hR⟩
      · have hc : ¬ away.getD a.toNat 0 < away.getD b.toNat 0 := fun z => hc (decide_eq_true z)
        obtain ⟨⟨u0, u1⟩, ul⟩ := T.up a0 a1 b0 b1 hab (by omega)
        have eR : acc ++ climb above away (k' + 1) a b = (acc ++ [a]) ++ climb above away k' (above.getD a.toNat 0) b := by
          show acc ++ (if a = b then [] else if away.getD a.toNat 0 < away.getD b.toNat 0 then b :: climb above away k' (above.getD b.toNat 0) a else a :: climb above away k' (above.getD a.toNat 0) b) = _
          rw [if_neg hab, if_neg hc, List.append_assoc]
          rfl
        rw [eR] at hR
        refine ⟨_, rfl, .inl ⟨rfl, _, SqL.of hp⟩, _, rfl, p, _, _, rfl, rfl, hp, by rw [List.length_map, sizeLine_eq]; omega, fun H2 B2 h2 => ?_⟩
        have S2 := same_but S n1 B2
        refine ⟨_, rfl, _, rfl, l, _, _, _, rfl, rfl, SqL.of (S2 _ _ hl), atI_map a0 (by rw [T.la]; exact a1), ?_⟩
        exact ⟨_, _, acc ++ [a], rfl, S2, by rw [h2, List.map_append]; rfl, u0, u1, b0, b1, by omega, by rw [List.length_append, List.length_singleton]; omega, hR⟩
end
end Sb

/-! ## BQ32 -/
/-! bays_passed. -/
namespace Sb
open PySem PySem.Spec PyProof.Rows L2
abbrev sPassed : Stmt := top 26
def spPassed : Sp := fun vs H Q _ => ∃ (l : Addr) (ps : List Addr) (rss : List (List Int)) (fork near : Int), vs = [.ref l, .int fork, .int near] ∧ RowsL H l ps rss ∧ RowsIn rss.length rss ∧ (∀ v z : Int, Bay rss.length v → z ∈ gR rss v → v ∈ gR rss z) ∧ (∀ v : Int, (gR rss v).Nodup) ∧ (∀ v : Int, (gR rss v).length ≤ 1000) ∧ rss.length < 64 ∧
  Bay rss.length fork ∧ near ∈ gR rss fork ∧ (gR rss fork).length ≠ 2 ∧ ∀ (e : Int × Int) (es : List (Int × Int)) p H', Same H H' → H p = none → H' p = some (.lst ((es.map Prod.snd).reverse.map V.int)) → Orb (gR rss) (fork, near) (e :: es) → (gR rss e.2).length ≠ 2 → Q (.ref p) H'
theorem len2_ahead {r : List Int} {b : Int} (h : r.length = 2) (nd : r.Nodup) : ∃ c t, r.filter (fun z => !decide (z = b)) = c :: t ∧ c ∈ r ∧ c ≠ b := by
  have key : ∃ c, c ∈ r.filter fun z => !decide (z = b) := by
    match r, h, nd with
    | [x, y], _, nd =>
      have ne : x ≠ y := fun e => (List.nodup_cons.mp nd).1 (e ▸ List.mem_cons_self)
      by_cases e : x = b
      · exact ⟨y, List.mem_filter.mpr ⟨by simp, by simp; exact fun z => ne (e.trans z.symm)⟩⟩
      · exact ⟨x, List.mem_filter.mpr ⟨by simp, by simp [e]⟩⟩
  obtain ⟨c, hc⟩ := key
  cases e : r.filter fun z => !decide (z = b) with
  | nil =>
    rw [e] at hc
    cases hc
  | cons d t =>
    have hd : d ∈ r.filter fun z => !decide (z = b) := by
      rw [e]
      exact List.mem_cons_self
    obtain ⟨h1, h2⟩ := List.mem_filter.mp hd
    exact ⟨d, t, rfl, h1, by simpa using h2⟩
section
variable {P : Program} {w : World} {K : PySem.W.Frag} {mg : Str → Option Value} {base : Heap} {C : Nat → Addr}
abbrev scPassedN : List Str := ["inner", "fork", "near", "passed", "behind", "at", "ahead", "bay"]
abbrev scPassedS : Scope := defScope sPassed
theorem scPassed : FnScope ["inner", "fork", "near", "passed", "behind", "at", "ahead", "bay"] ["inner", "fork", "near"] (defScope sPassed) := ⟨rfl, rfl, rfl, by decide +kernel, rfl, by decide +kernel, by decide +kernel⟩
def PassInv (H : Hp) (l : Addr) (rss : List (List Int)) (fork near : Int) (p : Addr) (k : Nat) (σ : L2.St) (H' : Hp) : Prop :=
  ∃ (e : Int × Int) (es : List (Int × Int)) (u : Option V), σ = [some (.ref l), some (.int fork), some (.int near), some (.ref p), some (.int e.1), some (.int e.2), u, none] ∧ Same H H' ∧ H' p = some (.lst ((es.map Prod.snd).reverse.map V.int)) ∧ Orb (gR rss) (fork, near) (e :: es) ∧ (∀ x ∈ e :: es, Bay rss.length x.1 ∧ Bay rss.length x.2) ∧ e.1 ∈ gR rss e.2 ∧ k + es.length = rss.length * rss.length
theorem ok_passed {f : Addr} {fd : FuncData} (F : FnP K "bays_passed" sPassed f fd) (hl : mg "len" = none) : FnOk P w K mg base CX0 1 f fd ["inner", "fork", "near"] spPassed := by
  have T : WebTxt mg → True := fun _ => trivial
  refine ok0 F scPassed (fun vs H Q E h => ?_) (fun cdv A outer s H vs Q E hr h => ?_)
  · obtain ⟨l, ps, rss, fork, near, rfl, _⟩ := h
    rfl
  · obtain ⟨l, ps, rss, fork, near, rfl, R, hR, sym, nd, hlen, hfew, hfork, hnear, h2, q⟩ := h
    refine ⟨_, (pss_cons (ps_set (i := 3) scPassed.nd rfl (Or.inl rfl) (pe_lstL pa_nil))
    (pss_cons (ps_set (i := 4) scPassed.nd rfl (Or.inr rfl) (pv 1))
    (pss_cons (ps_set (i := 5) scPassed.nd rfl (Or.inl rfl) (pv 2))
    (pss_cons (ps_while PassesOwn.never (pt_cmpR op_eq (pe_callB (id := "len") call_len_seq (by rfl) hl (by decide +kernel) (pa_cons (pe_ix ix_list (pv 0) (pv 5) (fun _ _ => rfl)) pa_nil)) pe_int (nomark _))
      (pss_cons (ps_expr (pe_bm PySem.F.plainAttrs_list PySem.F.slot_list_append PySem.F.type_list_append mt_appendL (pv 3) (pa_cons (pv 5) pa_nil)))
    (pss_cons (ps_setLc (i := 6) (own := [("bay", 7)]) (g := gName 7) (by rfl) scPassed.nd rfl rfl (sw_true rfl rfl rfl (by decide +kernel)) (pi_list (pe_ix ix_list (pv 0) (pv 5) (fun _ _ => rfl))) (blkOk_by (own := [("bay", 7)]) (N := scPassedN) (sc := scPassedS) (by decide +kernel)) (fun _ _ _ _ _ => pg_name (i := 7) scPassed.nd rfl (Or.inl rfl)) (fun _ _ _ _ _ => pts_one (pt_cmpR op_ne (pv 7) (pv 4) (nomark _))) (fun _ _ _ _ _ => (pv 7)))
    (pss_cons (ps_set (i := 4) scPassed.nd rfl (Or.inr rfl) (pv 5))
    (pss_one (ps_set (i := 5) scPassed.nd rfl (Or.inl rfl) (pe_ix ix_list (pv 6) pe_int (fun _ _ => rfl))))))))
    (pss_one (ps_ret (pv 3))))))), ?_⟩
    have hs0 : Bay rss.length near := hR _ near hnear
    have o1 : 1 ≤ rss.length * rss.length := by
      have := hfork.1
      have := hfork.2
      exact Nat.mul_pos (by omega) (by omega)
    have o2 : rss.length * rss.length ≤ 64 * 64 := Nat.mul_le_mul (by omega) (by omega)
    refine ⟨by show 0 ≤ sizeLine; decide, fun p0 H5 n5 S5 h5 => ?_⟩
    refine ⟨_, rfl, _, rfl, PassInv H l rss fork near p0, ⟨rss.length * rss.length, (fork, near), [], none, rfl, S5, h5, .one, fun x hx => ?_, sym _ _ hfork hnear, rfl⟩, ?_⟩
    · rw [List.mem_singleton.mp hx]
      exact ⟨hfork, hs0⟩
    rintro k σ H0 ⟨e, es, u, rfl, S0, hp0, orb, hin, hback, hk⟩
    obtain ⟨e1, e2⟩ := hin e List.mem_cons_self
    obtain ⟨p, gp, xp⟩ := R.get e2.1 e2.2
    have rp0 := S0 _ _ (R.row _ _ gp)
    refine ⟨_, rfl, _, rfl, l, _, _, _, rfl, rfl, SqL.of (S0 _ _ R.at_), xp, p, _, rfl, .inl (SqL.of rp0), rfl, _, rfl, ?_⟩
    by_cases h : (gR rss e.2).length = 2
    · have hd : decide (V.int ((((rss.getD e.2.toNat []).map V.int).length : Nat) : Int) = V.int 2) = true := decide_eq_true (by rw [List.length_map]; exact congrArg (fun z : Nat => V.int (z : Int)) h)
      obtain ⟨c, tl, hf, hc, nc⟩ := len2_ahead (b := e.1) h (nd e.2)
      have hcb : Bay rss.length c := hR _ c hc
      have orb2 : Orb (gR rss) (fork, near) ((e.2, c) :: e :: es) := .more orb ⟨rfl, h, hback, hc, nc⟩
      have hin2 : ∀ x ∈ (e.2, c) :: e :: es, Bay rss.length x.1 ∧ Bay rss.length x.2 := fun x hx => by
        rcases List.mem_cons.mp hx with z | z
        · rw [z]
          exact ⟨e2, hcb⟩
        · exact hin x z
      have ln := orb_len h2 orb2 hin2
      simp only [List.length_cons] at ln
      obtain ⟨k', rfl⟩ : ∃ k', k = k' + 1 := ⟨k - 1, by omega⟩
      refine iteD hd ⟨PassInv H l rss fork near p0 k', fun σ' H'' h => ⟨k', Nat.lt_succ_self _, h⟩, ?_⟩
      refine ⟨_, rfl, .inl ⟨rfl, _, SqL.of hp0⟩, _, rfl, p0, _, _, rfl, rfl, hp0, by rw [List.length_map, List.length_reverse, List.length_map, sizeLine_eq]; omega, fun H1 B1 h1 => ?_⟩
      have S1 : Same H H1 := same_but S0 n5 B1
      have rp := S1 _ _ (R.row _ _ gp)
      refine ⟨_, rfl, _, rfl, l, _, _, _, rfl, rfl, SqL.of (S1 _ _ R.at_), xp, p, rfl, ⟨_, SqL.of rp⟩, fun D hD => lc_list (K := K) (a := p) (xs := (rss.getD e.2.toNat []).map V.int) (fun j H' => Same H1 H' ∧ H' D = some (.lst ((((rss.getD e.2.toNat []).take j).filter fun z => !decide (z = e.1)).map V.int))) ⟨same_upd hD, by rw [upd_same, List.take_zero]; rfl⟩ (fun j H' _ ⟨S, _⟩ => SqL.of (S _ _ rp)) ?_ ?_⟩
      · rintro j y H2 hj ⟨S2, hd2⟩
        obtain ⟨z, hz, rfl⟩ := getMap hj
        have fm := filter_more (p := fun z => !decide (z = e.1)) hz
        refine ⟨rfl, _, rfl, _, rfl, rfl, _, rfl, ?_⟩
        by_cases hze : z = e.1
        · rw [if_neg (by simp [hze]), List.append_nil] at fm
          exact iteC (by rw [hze, decide_eq_true rfl]; rfl) ⟨S2, by rw [hd2, fm]⟩
        · rw [if_pos (by simp [hze])] at fm
          refine iteD (by rw [decide_eq_false fun q => hze (V.int.inj q)]; rfl) ⟨_, rfl, _, hd2, ?_, fun b o hb => by rw [upd_ne (ne_of_none hb hD)]; exact S2 _ _ hb, ?_⟩
          · rw [List.length_map]
            have h1 := List.length_filter_le (fun z => !decide (z = e.1)) ((rss.getD e.2.toNat []).take j)
            rw [List.length_take] at h1
            have h3 := hlen e.2
            have h3 : (rss.getD e.2.toNat []).length ≤ 1000 := h3
            unfold sizeLine
            omega
          · rw [upd_same, fm, List.map_append]
            rfl
      rintro H2 ⟨S2, hd2⟩
      rw [List.length_map, List.take_length] at hd2
      have hf : ((rss.getD e.2.toNat []).filter fun z => !decide (z = e.1)) = c :: tl := hf
      rw [hf] at hd2
      refine ⟨_, rfl, _, rfl, D, _, _, .int c, rfl, rfl, SqL.of hd2, at_of (j := 0) rfl rfl, ?_⟩
      refine ⟨(e.2, c), e :: es, _, rfl, S1.trans S2, ?_, orb2, hin2, ?_, ?_⟩
      · rw [S2 _ _ h1, List.map_cons, List.reverse_cons, List.map_append]
        rfl
      · exact sym _ _ e2 hc
      · simp only [List.length_cons]
        omega
    · have hd : decide (V.int ((((rss.getD e.2.toNat []).map V.int).length : Nat) : Int) = V.int 2) = false := decide_eq_false fun z => h (by
        have := V.int.inj z
        rw [List.length_map] at this
        show (rss.getD e.2.toNat []).length = 2
        omega)
      exact iteC hd ⟨_, rfl, q e es p0 H0 S0 n5 hp0 orb h⟩
end
end Sb

/-! ## GD -/
/-! repr of nested things: it asks that nothing is being shown; defs called where that is known. -/
namespace Sb
open PySem PySem.Spec PyProof.Rows L2
/-! ### things as data -/
mutual
/-- a thing: what it is, down to its leaves; a dict is empty -/
inductive Th (H : Hp) : V → PyData → Prop
  | non : Th H .non .none
  | bl (b : Bool) : Th H (.bl b) (.bool b)
  | int (i : Int) : Th H (.int i) (.int i)
  | str (x : Str) : Th H (.str x) (.str x)
  | lst {a : Addr} {xs : List V} {ds : List PyData} : H a = some (.lst xs) → ThAll H xs ds → Th H (.ref a) (.list ds)
  | tup {a : Addr} {xs : List V} {ds : List PyData} : H a = some (.tup xs) → ThAll H xs ds → Th H (.ref a) (.tuple ds)
  | dct {a : Addr} : H a = some (.dK []) → Th H (.ref a) (.dict [])
inductive ThAll (H : Hp) : List V → List PyData → Prop
  | nil : ThAll H [] []
  | cons {v : V} {vs : List V} {d : PyData} {ds : List PyData} : Th H v d → ThAll H vs ds → ThAll H (v :: vs) (d :: ds)
end
mutual
theorem Th.mono {H H2 : Hp} (k : ∀ b o, H b = some o → H2 b = some o) : ∀ {v : V} {d : PyData}, Th H v d → Th H2 v d
  | _, _, .non => .non
  | _, _, .bl b => .bl b
  | _, _, .int i => .int i
  | _, _, .str x => .str x
  | _, _, .lst e h => .lst (k _ _ e) (ThAll.mono k h)
  | _, _, .tup e h => .tup (k _ _ e) (ThAll.mono k h)
  | _, _, .dct e => .dct (k _ _ e)
theorem ThAll.mono {H H2 : Hp} (k : ∀ b o, H b = some o → H2 b = some o) : ∀ {vs : List V} {ds : List PyData}, ThAll H vs ds → ThAll H2 vs ds
  | _, _, .nil => .nil
  | _, _, .cons h g => .cons (Th.mono k h) (ThAll.mono k g)
end
mutual
def noList : PyData → Bool
  | .none | .bool _ | .int _ | .str _ => true
  | .list _ => false
  | .tuple xs => noLists xs
  | .dict _ => true
def noLists : List PyData → Bool
  | [] => true
  | x :: xs => noList x && noLists xs
end
section
variable {X : Cx} {pins : List (Addr × Obj)} {σ : L2.St} {H : Hp} {s : Shared}
mutual
theorem Th.reads (I : Inv X pins σ H s) : ∀ (d : PyData) (v : V) (u : Value), Th H v d → RelV v u → ∃ as, Reads s.heap u d as ∧ (noList d = true → sysModules ∉ as)
  | .none, _, _, h, r => by
    cases h
    cases r
    exact ⟨[], .none, fun _ => List.not_mem_nil⟩
  | .bool b, _, _, h, r => by
    cases h
    cases r
    exact ⟨[], .bool b, fun _ => List.not_mem_nil⟩
  | .int i, _, _, h, r => by
    cases h
    obtain ⟨t, rfl⟩ := r
    exact ⟨[], .int i t, fun _ => List.not_mem_nil⟩
  | .str x, _, _, h, r => by
    cases h
    obtain ⟨t, rfl⟩ := r
    exact ⟨[], .str x t, fun _ => List.not_mem_nil⟩
  | .list ds, _, _, h, r => by
    cases h with
    | lst hs ha =>
      cases r
      obtain ⟨its, rv, ⟨o, n, ho, hc, _, hd⟩, _⟩ := I.list (SqL.of (K := X.K) hs)
      obtain ⟨as, hr, _⟩ := Th.readsAll I ds _ its ha rv
      exact ⟨_, .list ho hc hd hr, fun z => Bool.noConfusion z⟩
  | .tuple ds, _, _, h, r => by
    cases h with
    | tup hs ha =>
      cases r
      obtain ⟨its, rv, ⟨o, ho, hc, n, hd⟩, _⟩ := I.tuple (SqT.of (K := X.K) hs)
      obtain ⟨as, hr, hn⟩ := Th.readsAll I ds _ its ha rv
      exact ⟨_, .tuple ho hc hd hr, fun z => hn (by simpa [noList] using z)⟩
  | .dict kvs, _, _, h, r => by
    cases h with
    | @dct a hk =>
      cases r
      obtain ⟨_, hs, vs, kv, hd⟩ := I.hok a _ hk
      have hv : vs = [] := by
        have z := Paired.length kv
        exact List.eq_nil_of_length_eq_zero z.symm
      subst hv
      obtain ⟨o, es, ep, ho, hx, hdt, _, hp, _⟩ := hd
      have he : es.toList = [] := by
        cases e : es.toList with
        | nil => rfl
        | cons b l =>
          rw [e] at hp
          cases hp
      refine ⟨_, .dict (as := []) (bs := []) ho hx.1 hdt (by rw [he]; exact .nil) (by rw [he]; exact .nil), fun _ z => ?_⟩
      rcases List.mem_cons.mp z with e | e
      · rw [← e] at hs
        simp at hs
      · cases e
theorem Th.readsAll (I : Inv X pins σ H s) : ∀ (ds : List PyData) (vs : List V) (us : List Value), ThAll H vs ds → Vals vs us → ∃ as, ReadsAll s.heap us ds as ∧ (noLists ds = true → sysModules ∉ as)
  | [], _, _, h, r => by
    cases h
    cases r
    exact ⟨[], .nil, fun _ => List.not_mem_nil⟩
  | d :: ds, _, _, h, r => by
    cases h with
    | cons h1 h2 =>
      cases r with
      | cons r1 r2 =>
        obtain ⟨as, q1, n1⟩ := Th.reads I d _ _ h1 r1
        obtain ⟨bs, q2, n2⟩ := Th.readsAll I ds _ _ h2 r2
        refine ⟨_, .cons q1 q2, fun z m => ?_⟩
        unfold noLists at z
        rw [Bool.and_eq_true] at z
        rcases List.mem_append.mp m with m | m
        · exact n1 z.1 m
        · exact n2 z.2 m
end
end
/-! ### repr -/
def rRepr : List V → Hp → VK → Prop := fun vs H Q => ∃ (v : V) (d : PyData), vs = [v] ∧ Th H v d ∧ d.showable = true ∧ (d.hasDict = true → noList d = true) ∧ d.depth ≤ 50 ∧ d.shown.length ≤ sizeLine ∧ Q (.str d.shown) H
theorem cr_repr {X : Cx} (hg : X.A.guards = some []) (hu : X.A.units + 64 < cLine) : CallR X (.builtin "repr") rRepr := by
  intro pins s σ H vs us Q I r h
  obtain ⟨v, d, rfl, hv, hs, hd, hdp, hz, q⟩ := h
  obtain ⟨u, rfl, ru⟩ := vals1 r
  obtain ⟨as, hr, hn⟩ := Th.reads I d v u hv ru
  have hm : d.hasDict = true → sysModules ∉ as := fun z => hn (hd z)
  have done : ∀ (h2 : Heap) (tk u2 : Nat), (∀ b o, s.heap.get? b = some o → h2.get? b = some o) → EP X pins σ Q (.str d.shown u2) { s with heap := h2, toks := tk } := fun h2 tk u2 k => ⟨.str d.shown, H, I.kept (t' := tk) k, ⟨u2, rfl⟩, q⟩
  cases hv with
  | lst _ _ => 
    cases ru
    exact repr_of_reads' hr hs hm hg (by omega) (fun _ _ e => e) (fun h2 u2 tk k => done h2 tk u2 k) hz
  | tup _ _ => 
    cases ru
    exact repr_of_reads' hr hs hm hg (by omega) (fun _ _ e => e) (fun h2 u2 tk k => done h2 tk u2 k) hz
  | dct _ => 
    cases ru
    exact repr_of_reads' hr hs hm hg (by omega) (fun _ _ e => e) (fun h2 u2 tk k => done h2 tk u2 k) hz
  | non =>
    cases ru
    exact P.repr_of_none (done s.heap _ _ fun _ _ e => e)
  | bl b =>
    cases ru
    exact P.repr_of_bool (done s.heap _ _ fun _ _ e => e)
  | int i =>
    obtain ⟨t, rfl⟩ := ru
    exact P.repr_of_int (by simpa [PyData.showable] using hs) (done s.heap _ _ fun _ _ e => e)
  | str x =>
    obtain ⟨t, rfl⟩ := ru
    exact P.repr_of_str (done s.heap _ _ fun _ _ e => e) (by simpa only [PyData.shown] using hz)
/-! ### defs called where nothing is being shown -/
structure FnOkG (P : Program) (w : World) (K : PySem.W.Frag) (mg : Str → Option Value) (base : Heap) (CX : CXT) (k : Nat) (f : Addr) (fd : FuncData) (ps : List Str) (sp : Sp) : Prop where
  len : ∀ vs H Q E, sp vs H Q E → vs.length = ps.length
  run : ∀ (A : Around) (outer : List Env) (s : Shared) (H : Hp) (args : Args) (us : List Value) (vs : List V) (Q : VK) (E : XK), A.guards = some [] → Room k A → Env0 P w K mg base A outer s H → BindsTo s fd args (ps.zip us) → Vals vs us → sp vs H Q E →
    codeAny (model P w) A (.call (.ref f) args) (CR CX outer P w H s Q E) s
section
variable {P : Program} {w : World} {K : PySem.W.Frag} {mg : Str → Option Value} {base : Heap} {CX : CXT} {k : Nat} {f : Addr} {qual : Str} {params : Arguments} {body : List Stmt} {scope : Scope} {dV kV doc pm cdv ct oc : Value} {an od : Option Addr} {osl : Array (Option Value)} {N ps : List Str} {sp : Sp}
theorem okG_of {name : Str} (lk : K.lookup f = some ⟨oc, od, .func (PySem.W.fnOf name qual params body scope dV kV doc pm an cdv ct), osl⟩) (hcd : PySem.W.codeIn K cdv qual = true) (S : FnScope N ps scope) (len : ∀ vs H Q E, sp vs H Q E → vs.length = ps.length)
    (hbody : ∀ (A : Around) (outer : List Env) (s : Shared) (H : Hp) (vs : List V) (Q : VK) (E : XK), (A.deeper (envOfC qual scope s.heap.objs.size f cdv)).guards = some [] → Room k (A.deeper (envOfC qual scope s.heap.objs.size f cdv)) → sp vs H Q E →
      ∃ t, PSs (cxOf CX P w K mg base N qual scope f cdv A outer s H E) body t ∧ t { nx := fun _ H' => Q .non H', rt := Q } (L2.start N vs) H) :
    FnOkG P w K mg base CX (k + 1) f (PySem.W.fnOf name qual params body scope dV kV doc pm an cdv ct) ps sp where
  len := len
  run := fun A outer s H args us vs Q E hg hr e0 hb r h => LamX.run_ofS lk hcd S hr e0 hb r (len _ _ _ _ h) fun hr2 => hbody A outer s H vs Q E hg hr2 h
end
section
variable {X : Cx} {CX : CXT} {k : Nat} {f : Addr} {fd : FuncData} {ps : List Str} {ds : List Value} {dvs : List V} {sp : Sp} {E : XK} {x : Str} {e : Expr} {es : List Expr} {t : TA} {p pos : Pos}
theorem pe_callG (F : FnOkG X.prog X.w X.K X.mg X.base CX k f fd ps sp) (hgd : X.A.guards = some []) (hr : Room k X.A) (hg : Gl X x) (hm : X.mg x = some (.ref f)) (hk : PySem.W.keepIn X.K (.ref f) = true) (hb : Binds X.K fd ps ds) (hd : Vals dvs ds) (hx : Passes CX X E) (ha : PA X (e :: es) t)
    (hdb : (x == ("__debug__" : Str)) = false := by decide) (he : starEach (e :: es) X.env = (false, eval e X.env) :: starEach es X.env := by rfl) (hpl : (backTo pos (starEach es X.env)).any (·.1) = false := by rfl) : PE X (.Call (.Name x p) (e :: es) [] pos) (tCall sp dvs E t) := by
  refine ⟨fun pins s σ H Q I h => wpAny_Call_Name_kw (ld_glob I hg hm (PySem.W.callWith_K (h₀ := X.base) I.ok.mod.kin hk (thn (ha.run pos pins s σ H _ I h) fun us s1 z => ?_) he hpl) hdb)⟩
  obtain ⟨vs, H1, I1, r, q⟩ := z
  have r2 := r.append hd
  have hl : (us ++ ds).length = ps.length := by rw [← r2.length, F.len _ _ _ _ q]
  have go := F.run X.A X.stack s1 H1 ⟨us, []⟩ (us ++ ds) (vs ++ dvs) Q E hgd hr I1.env0 (hb s1 us I1.kIn hl) r2 q
  refine ⟨I1.kIn, wpAny_call (codeAny_mono go fun res s2 hq => ?_)⟩
  rcases res with e2 | fl
  · exact hx pins σ H1 s1 e2 s2 I1 hq
  cases fl with
  | ret u => exact I1.after hq
  | next => exact hq.elim
  | brk => exact hq.elim
  | cont => exact hq.elim
end
/-! ### the law's own call -/
section
variable {P : Program} {w : World} {K : PySem.W.Frag} {mg mb : Str → Option Value} {CX : CXT} {k : Nat} {fa a : Addr} {cs : List (Addr × Addr)} {fd : FuncData} {x : Str} {sp : Sp} {s : Shared} {vs : List Value} {ns : List Int}
abbrev emptyTab : Obj := { cls := .none, data := .fields #[] }
abbrev scriptObj (vs : List Value) : Obj := { cls := .type "list", data := .seq vs.toArray }
/-- what is known when the law is called: its tables, all empty, and the script where no fact of the head knows it -/
def hp0 (K : PySem.W.Frag) (cs : List (Addr × Addr)) (a : Addr) (vs : List Value) (ns : List Int) : Hp := fun b => if b ∈ cs.map (·.2) then some (.tbl #[]) else if b = a ∧ K.lookup a = none then some (.frz (scriptObj vs) (.lst (ns.map V.int))) else none
theorem lawG (KX : K.In s.heap) (hns : s.heap.Ns mainGlobals mg) (hb : s.heap.Ns builtinsNs mb) (hbb : ∀ x : Str, x ≠ "__name__" → mb x = bootBuiltins x) (hlim : s.heap.NoLimit) (hg : s.gens = #[]) (hT : ∀ p ∈ cs, s.heap.get? p.2 = some emptyTab) (nT : ∀ p ∈ cs, K.lookup p.2 = none)
    (C : ∀ p ∈ cs, PySem.W.CodeHd s.heap p.1 p.2) (hbm : ∃ (bm : Addr) (ob : Obj), mg "__builtins__" = some (.ref bm) ∧ bm ≠ builtinsNs ∧ s.heap.get? bm = some ob ∧ ob.cls = .type "module" ∧ ob.dict = some builtinsNs ∧ ob.data = .plain)
    (ha : s.heap.get? a = some (scriptObj vs)) (hi : IntsAre vs ns) (hl : ns.length ≤ sizeLine) (hr : Room k callerA)
    (F : ∀ base : Heap, K.In base → base.Ns mainGlobals mg → (∀ p ∈ cs, LamX.TabB base mg p.1 p.2) → FnOkG P w K mg base CX k fa fd [x] sp) (hbind : ∀ (s : Shared) (u : Value), BindsTo s fd ⟨[u], []⟩ [(x, u)])
    (hsp : ∀ H : Hp, (∀ p ∈ cs, H p.2 = some (.tbl #[])) → SqL K H a (ns.map V.int) → sp [.ref a] H (fun v _ => v = .bl true) fun _ _ _ => False) (hCX : ∀ H e s', CX [] H s (fun _ _ _ => False) e s' → False) :
    codeAny (model P w) callerA (.call (.ref fa) ⟨[.ref a], []⟩) (fun r s' => r = .ok (.ret (.bool true)) ∧ OldK s.heap s'.heap ∧ s'.os = s.os ∧ AllBare s'.gens) s := by
  have tabOf : ∀ b ∈ cs.map (·.2), ∃ p ∈ cs, p.2 = b := fun b hb => List.mem_map.mp hb
  have isT : ∀ b ∈ cs.map (·.2), s.heap.get? b = some emptyTab := fun b hb => by
    obtain ⟨p, hp, rfl⟩ := tabOf b hb
    exact hT p hp
  have notA : a ∉ cs.map (·.2) := fun z => by
    have q := (isT a z).symm.trans ha
    cases q
  have inT : ∀ p ∈ cs, hp0 K cs a vs ns p.2 = some (.tbl #[]) := fun p hp => if_pos (List.mem_map.mpr ⟨p, hp, rfl⟩)
  -- what stands at a known place
  have known : ∀ b u, hp0 K cs a vs ns b = some u → (b ∈ cs.map (·.2) ∧ u = .tbl #[]) ∨ (b = a ∧ K.lookup a = none ∧ u = .frz (scriptObj vs) (.lst (ns.map V.int))) := fun b u z => by
    unfold hp0 at z
    by_cases h1 : b ∈ cs.map (·.2)
    · rw [if_pos h1] at z
      exact .inl ⟨h1, (Option.some.inj z).symm⟩
    · rw [if_neg h1] at z
      by_cases h2 : b = a ∧ K.lookup a = none
      · rw [if_pos h2] at z
        exact .inr ⟨h2.1, h2.2, (Option.some.inj z).symm⟩
      · rw [if_neg h2] at z
        cases z
  have plain : ∀ (b : Addr) (o : Obj), s.heap.get? b = some o → (∀ xs n, o.data ≠ .seq xs n) → o.data ≠ .fields #[] → hp0 K cs a vs ns b = none := fun b o e n1 n2 => by
    cases q : hp0 K cs a vs ns b with
    | none => rfl
    | some u =>
      rcases known b u q with ⟨z, _⟩ | ⟨z, _⟩
      · rw [isT b z] at e
        cases e
        exact absurd rfl n2
      · rw [z, ha] at e
        cases e
        exact absurd rfl (n1 _ _)
  have low : ∀ {b : Addr} {o : Obj}, s.heap.get? b = some o → hp0 K cs a vs ns b = none → (hidT s.heap (hp0 K cs a vs ns)).get? b = some o := fun e n => hidT_get e n
  have lowNs : ∀ {b : Addr} {m : Str → Option Value}, s.heap.Ns b m → (hidT s.heap (hp0 K cs a vs ns)).Ns b m := fun {b m} h => by
    obtain ⟨o, es, ep, e, d, r⟩ := h
    exact ⟨o, es, ep, low e (plain b o e (fun xs n z => by rw [d] at z; cases z) fun z => by rw [d] at z; cases z), d, r⟩
  have hK : K.In (hidT s.heap (hp0 K cs a vs ns)) := fun b o e => low (KX b o e) (by
    cases q : hp0 K cs a vs ns b with
    | none => rfl
    | some u =>
      rcases known b u q with ⟨z, _⟩ | ⟨z, z2, _⟩
      · obtain ⟨p, hp, rfl⟩ := tabOf b z
        rw [nT p hp] at e
        cases e
      · rw [z, z2] at e
        cases e)
  have M : L2.Mod K mg (hidT s.heap (hp0 K cs a vs ns)) := ⟨hK, lowNs hns, ⟨mb, lowNs hb, hbb⟩, by
    obtain ⟨mc, h1, h2⟩ := hlim
    exact ⟨mc, lowNs h1, h2⟩⟩
  have TB : ∀ p ∈ cs, LamX.TabB (hidT s.heap (hp0 K cs a vs ns)) mg p.1 p.2 := fun p hp => by
    refine ⟨?_, ?_, fun z => ?_⟩
    · obtain ⟨o, us, file, tf, flags, tg, inF, text, tt, e1, r1, r2, r3, rest⟩ := C p hp
      exact ⟨o, us, file, tf, flags, tg, inF, text, tt, low e1 (plain _ o e1 (fun xs n z => by rw [r2] at z; cases z) fun z => by
        rw [r2] at z
        cases z
        simp at r3), r1, r2, r3, rest⟩
    · obtain ⟨bm, ob, b1, b2, b3, b4, b5, b6⟩ := hbm
      refine ⟨bm, ob, b1, b2, fun q => ?_, fun q => ?_, low b3 (plain _ ob b3 (fun xs n z => by rw [b6] at z; cases z) fun z => by rw [b6] at z; cases z), b4, b5, b6⟩
      · obtain ⟨o, es, ep, e, hd, _⟩ := hns
        rw [q, e] at b3
        cases b3
        rw [hd] at b6
        cases b6
      · rw [q, hT p hp] at b3
        cases b3
        cases b6
    · obtain ⟨o, es, ep, e, hd, _⟩ := hns
      rw [z, hT p hp] at e
      cases e
      cases hd
  have ok : HOk P w (hp0 K cs a vs ns) s.heap := fun b u z => by
    rcases known b u z with ⟨h, rfl⟩ | ⟨rfl, _, rfl⟩
    · exact isT b h
    · exact ⟨ha, by rw [List.length_map]; exact hl, vs, _, vals_ints hi, ha⟩
  have hS : SqL K (hp0 K cs a vs ns) a (ns.map V.int) := by
    cases e : K.lookup a with
    | none => exact .inl (.inr ⟨scriptObj vs, (if_neg notA).trans (if_pos ⟨rfl, e⟩)⟩)
    | some o =>
      have eo := (KX a o e).symm.trans ha
      cases eo
      exact .inr ⟨_, vs.toArray, _, e, rfl, rfl, rfl, by rw [List.size_toArray, hi.length]; exact hl, by simpa using vals_ints hi⟩
  have e0 : Env0 P w K mg (hidT s.heap (hp0 K cs a vs ns)) callerA [] s (hp0 K cs a vs ns) := ⟨rfl, M, fun b o e => of_hidT e, Nat.le_of_eq (hidT_size _ _), trivial, fun b z => absurd (show b ∈ ([] : List Addr) from z) (by simp), ok, .of_eq hg⟩
  have go := (F _ hK (lowNs hns) TB).run callerA [] s (hp0 K cs a vs ns) ⟨[.ref a], []⟩ [.ref a] [.ref a] _ _ rfl hr e0 (hbind s (.ref a)) (.cons rfl .nil) (hsp _ inT hS)
  refine codeAny_mono go fun r s2 h => ?_
  rcases r with e | fl
  · exact (hCX _ e s2 h).elim
  cases fl with
  | next => exact h.elim
  | brk => exact h.elim
  | cont => exact h.elim
  | ret u =>
    obtain ⟨v, H2, os, bare, un, ok2, rv, q⟩ := h
    have q : v = .bl true := q
    subst q
    obtain rfl : u = Value.bool true := rv
    have stay : ∀ b o, b ∉ cs.map (·.2) → s.heap.get? b = some o → s2.heap.get? b = some o := fun b o nb e => by
      cases z : hp0 K cs a vs ns b with
      | none => exact un.keep b o e z (fun y => absurd (show b ∈ ([] : List Addr) from y) (by simp)) (by simp)
      | some u =>
        rcases known b u z with ⟨y, _⟩ | ⟨_, _, rfl⟩
        · exact absurd y nb
        · obtain ⟨e1, _⟩ := ok b _ z
          obtain ⟨e2, _⟩ := ok2 b _ (un.frzs b _ _ z)
          rw [e1] at e
          cases e
          exact e2
    have grew : ∀ p ∈ cs, ∃ more : Array Value, s2.heap.get? p.2 = some { cls := .none, data := .fields more } := fun p hp => by
      obtain ⟨more, z⟩ := un.tbls p.2 #[] (inT p hp)
      exact ⟨_, ok2 p.2 _ z⟩
    refine ⟨rfl, ⟨fun b o e => ?_, fun b o e => ?_⟩, os, bare⟩ <;> by_cases hb2 : b ∈ cs.map (·.2)
    · obtain ⟨p, hp, rfl⟩ := tabOf b hb2
      obtain ⟨more, hm⟩ := grew p hp
      have e3 := (hT p hp).symm.trans e
      cases e3
      exact .inr (.inl ⟨((C p hp).tab (hT p hp)).isCodeTable, rfl, #[], more, rfl, by rw [Array.empty_append]; exact hm⟩)
    · exact .inl (stay b o hb2 e)
    · obtain ⟨p, hp, rfl⟩ := tabOf b hb2
      obtain ⟨more, hm⟩ := grew p hp
      exact ⟨_, hm⟩
    · exact ⟨o, stay b o hb2 e⟩
end
def LawG (l : PySem.W.OpenLaw) (w : World) (K : PySem.W.Frag) (CX : CXT) (k n : Nat) (x : Str) (mg : Str → Option Value) (fa : Addr) (h : Heap) : Prop :=
  ∃ (fd : FuncData) (cs : List (Addr × Addr)) (sp : Sp), (∀ p ∈ cs, h.get? p.2 = some emptyTab) ∧ (∀ p ∈ cs, K.lookup p.2 = none) ∧ (∀ p ∈ cs, PySem.W.CodeHd h p.1 p.2) ∧ (∀ (s : Shared) (u : Value), BindsTo s fd ⟨[u], []⟩ [(x, u)]) ∧
    (∀ (H : Hp) (a : Addr) (ns : List Int), ns.length ≤ n → (∀ z ∈ ns, Builtin.Int.intBits z ≤ 1048576) → (∀ p ∈ cs, H p.2 = some (.tbl #[])) → SqL K H a (ns.map V.int) → sp [.ref a] H (fun v _ => v = .bl true) fun _ _ _ => False) ∧
    ∀ base : Heap, K.In base → base.Ns mainGlobals mg → (∀ p ∈ cs, LamX.TabB base mg p.1 p.2) → FnOkG l.prog w K mg base CX k fa fd [x] sp
theorem walkG {l : PySem.W.OpenLaw} {n k : Nat} {q : Program} {loose : List Str} {XP : (Str → Option Value) → Heap → Prop} {YP : World → Heap → Prop} {d : DefRec} {CX : World → CXT} {x : Str} (hn : l.most = some n) (hn2 : n ≤ sizeLine) (hdf : d.params.defaults = []) (hr : Room k callerA)
    (F : ∀ (w : World) (mg : Str → Option Value) (fa : Addr) (h : Heap), YP w h → h.Ns mainGlobals mg → mg d.name = some (.ref fa) → ∃ K : PySem.W.Frag, K.In h ∧ LawG l w K (CX w) k n x mg fa h)
    (hCX : ∀ (w : World) (H : Hp) (s : Shared) (e : Value) (s' : Shared), CX w [] H s (fun _ _ _ => False) e s' → False) : PySem.W.WalkO q loose XP YP l.row.toRowW d [] (fun f vs => PySem.call f vs) := by
  refine Att.attach_callB hn hdf fun w s0 s1 mg mb fa o pm cd doc a vs ns G Y ho hd hcd hmg hobj hints hlen hbits hg => ?_
  obtain ⟨K, KX, fd, cs, sp, h1, h2, h3, h4, h5, h6⟩ := F w mg fa _ Y G.T.g hmg
  exact lawG KX G.T.g G.T.b G.T.builtins G.T.nolimit hg h1 h2 h3 G.T.bmain hobj hints (Nat.le_trans hlen hn2) hr h6 h4 (fun H hH hS => h5 H a ns hlen hbits hH hS) fun H e s2 => hCX w H s1 e s2
end Sb

/-! ## Y132 -/
/-! is_whole, is_tie, is_web of any thing. -/
namespace Sb
open PySem PySem.Spec PyProof.Rows L2
def tnD : PyData → String
  | .none => "NoneType"
  | .bool _ => "bool"
  | .int _ => "int"
  | .str _ => "str"
  | .list _ => "list"
  | .tuple _ => "tuple"
  | .dict _ => "dict"
theorem ty_th {K : PySem.W.Frag} {H : Hp} {v : V} {d : PyData} (h : Th H v d) : TyX K H v (.type (tnD d)) := by
  cases h with
  | non => exact .base .non
  | bl b => exact .base (.bl b)
  | int i => exact .base (.int i)
  | str x => exact .base (.str x)
  | lst e _ => exact .base (.lst e)
  | tup e _ => exact .base (.tup e)
  | dct e => exact .base (.dK e)
def isaN (T n : String) : Bool := decide (n = T) || (decide (T = "int") && decide (n = "bool"))
abbrev isaD (T : String) (d : PyData) : Bool := isaN T (tnD d)
theorem kit_all : ∀ n ∈ ["NoneType", "bool", "int", "str", "list", "tuple", "dict"], ∀ T ∈ ["int", "bool", "tuple", "str", "list"], kitB n T = some (isaN T n) := by decide +kernel
theorem kit_th {K : PySem.W.Frag} {T : String} (hT : T ∈ ["int", "bool", "tuple", "str", "list"]) (d : PyData) : PySem.W.kitOne K (.type (tnD d)) (.type T) = some (isaD T d) := by
  refine kit_ty (kit_all (tnD d) ?_ T hT)
  cases d <;> simp [tnD]
/-- isinstance(x, T), x any thing -/
def rIsaD : List V → Hp → VK → Prop := fun xs H Q => ∃ (v : V) (d : PyData) (T : String), xs = [v, .ty T] ∧ Th H v d ∧ T ∈ ["int", "bool", "tuple", "str", "list"] ∧ Q (.bl (isaD T d)) H
theorem cr_isaD {X : Cx} : CallR X (.builtin "isinstance") rIsaD := by
  intro pins s σ H xs us Q I r h
  obtain ⟨v, d, T, rfl, hv, hT, q⟩ := h
  exact call_isi pins s σ H _ us Q I r ⟨v, .ty T, .type (tnD d), .type T, _, rfl, .ty T, ty_th hv, kit_th hT d, q⟩
def wholeD : PyData → Bool
  | .int _ => true
  | _ => false
theorem whole_isa (d : PyData) : (isaD "int" d && !isaD "bool" d) = wholeD d := by cases d <;> rfl
def spWholeT : Sp := fun vs H Q _ => ∃ v d, vs = [v] ∧ Th H v d ∧ Q (.bl (wholeD d)) H
def tieD (n : Int) : PyData → Bool
  | .tuple [.int a, .int b] => tieOK n (a, b)
  | _ => false
def spTieT : Sp := fun vs H Q _ => ∃ (n : Int) (v : V) (d : PyData), vs = [.int n, v] ∧ Th H v d ∧ Q (.bl (tieD n d)) H
theorem thAll_len {H : Hp} : ∀ {vs : List V} {ds : List PyData}, ThAll H vs ds → vs.length = ds.length
  | _, _, .nil => rfl
  | _, _, .cons _ h => by rw [List.length_cons, List.length_cons, thAll_len h]
theorem thAll_get {H : Hp} : ∀ {vs : List V} {ds : List PyData}, ThAll H vs ds → ∀ {i : Nat} {v : V}, vs[i]? = some v → ∃ d, ds[i]? = some d ∧ Th H v d
  | _, _, .nil, i, v, h => by simp at h
  | _, _, .cons h _, 0, v, e => by
    cases e
    exact ⟨_, rfl, h⟩
  | _, _, .cons _ h, i + 1, v, e => thAll_get h (i := i) e
theorem two_th {H : Hp} {xs : List V} {ds : List PyData} (h : ThAll H xs ds) (hl : xs.length = 2) : ∃ v1 v2 d1 d2, xs = [v1, v2] ∧ ds = [d1, d2] ∧ Th H v1 d1 ∧ Th H v2 d2 := by
  cases h with
  | nil => cases hl
  | cons h1 h =>
    cases h with
    | nil => cases hl
    | cons h2 h =>
      cases h with
      | nil => exact ⟨_, _, _, _, rfl, rfl, h1, h2⟩
      | cons _ _ => simp at hl
theorem tieD_len {n : Int} : ∀ ds : List PyData, ds.length ≠ 2 → tieD n (.tuple ds) = false
  | [], _ => rfl
  | [d], _ => by cases d <;> rfl
  | [_, _], h => absurd rfl h
  | a :: b :: _ :: _, _ => by cases a <;> cases b <;> rfl
def isPairD : PyData → Bool
  | .tuple [.int _, .int _] => true
  | _ => false
def pairD : PyData → Int × Int
  | .tuple [.int a, .int b] => (a, b)
  | _ => (0, 0)
/-- what is like a web: its bays, its ties -/
def shapeD : PyData → Option (Int × List (Int × Int))
  | .tuple [.int n, .tuple ts] => if ts.all isPairD = true then some (n, ts.map pairD) else none
  | _ => none
def webD (d : PyData) : Bool := match shapeD d with
  | some (n, ts) => webOK n ts
  | none => false
/-- the ties of a thing, if it is a row of them -/
def tiesOf : PyData → Nat
  | .tuple [_, .tuple ts] => ts.length
  | _ => 0
def spWebN : Sp := fun vs H Q _ => ∃ v d, vs = [v] ∧ Th H v d ∧ shapeD d = none ∧ tiesOf d ≤ 100000 ∧ ∀ H', Same H H' → Q (.bl false) H'
theorem tieD_pair {n : Int} {d : PyData} (h : isPairD d = false) : tieD n d = false := by
  unfold tieD
  split
  · cases h
  · rfl
section
variable {P : Program} {w : World} {K : PySem.W.Frag} {mg : Str → Option Value} {base : Heap}
theorem ok_wholeT {f : Addr} {fd : FuncData} (F : FnP K "is_whole" sWhole f fd) (T : WebTxt mg) : FnOk P w K mg base CX0 1 f fd ["thing"] spWholeT := by
  refine ok0 F scWhole (fun vs H Q E h => ?_) (fun cdv A outer s H vs Q E hr h => ?_)
  · obtain ⟨v, d, rfl, _⟩ := h
    rfl
  · obtain ⟨v, d, rfl, hv, q⟩ := h
    refine ⟨_, (pss_one (ps_ret (pe_and (pe_callB (id := "isinstance") cr_isaD (by rfl) T.isinstance (by decide +kernel) (pa_cons (pv 0) (pa_cons (pe_bltn (v := .ty "int") rfl T.int (by decide +kernel) rfl) pa_nil))) (pe_one (pe_not (pe_callB (id := "isinstance") cr_isaD (by rfl) T.isinstance (by decide +kernel) (pa_cons (pv 0) (pa_cons (pe_bltn (v := .ty "bool") rfl T.bool (by decide +kernel) rfl) pa_nil)))))))), ?_⟩
    rw [← whole_isa] at q
    refine ⟨_, rfl, v, d, "int", rfl, hv, by simp, _, rfl, ?_⟩
    cases e : isaD "int" d with
    | false =>
      rw [e] at q
      exact iteC rfl q
    | true =>
      rw [e] at q
      exact iteD rfl ⟨_, rfl, v, d, "bool", rfl, hv, by simp, _, rfl, q⟩
theorem ok_tieT {f fW : Addr} {fd fdW : FuncData} (F : FnP K "is_tie" sTie f fd) (T : WebTxt mg) (FW : FnP K "is_whole" sWhole fW fdW) (gW : mg "is_whole" = some (.ref fW)) : FnOk P w K mg base CX0 2 f fd ["n", "thing"] spTieT := by
  have GW : FnOk P w K mg base CX0 1 fW fdW ["thing"] spWholeT := ok_wholeT FW T
  have bW : Binds K fdW ["thing"] [] := FW.bindsN fun _ _ _ _ _ _ us hl => match us, hl with | [_], _ => rfl
  refine ok0 F scTie (fun vs H Q E h => ?_) (fun cdv A outer s H vs Q E hr h => ?_)
  · obtain ⟨n, v, d, rfl, _⟩ := h
    rfl
  · obtain ⟨n, v, d, rfl, hv, q⟩ := h
    refine ⟨_, (pss_cons (ps_if (PW.pt (pw_or (pt_not (pt_val (pe_callB (id := "isinstance") cr_isaD (by rfl) T.isinstance (by decide +kernel) (pa_cons (pv 1) (pa_cons (pe_bltn (v := .ty "tuple") rfl T.tuple (by decide +kernel) rfl) pa_nil))))) (pw_or1 (pt_cmpR op_ne (pe_callB (id := "len") call_len_seq (by rfl) T.len (by decide +kernel) (pa_cons (pv 1) pa_nil)) pe_int (nomark _)))))
      (pss_one (ps_ret pe_bl))
      pss_nil)
    (pss_cons (ps_asg (pv 1) (pg_tup (by rfl) (pgs_cons (pg_name (i := 2) scTie.nd rfl (Or.inl rfl)) (pgs_cons (pg_name (i := 3) scTie.nd rfl (Or.inl rfl)) pgs_nil))))
    (pss_one (ps_ret (pe_and (pe_call GW hr rfl gW FW.kp bW .nil pass0 (pa_cons (pv 2) pa_nil)) (pe_and (pe_call GW hr rfl gW FW.kp bW .nil pass0 (pa_cons (pv 3) pa_nil)) (pe_one (pe_chain3 op_le op_lt op_lt pe_int (pv 2) (pv 3) (pv 0))))))))), ?_⟩
    refine ⟨_, rfl, v, d, "tuple", rfl, hv, by simp, _, rfl, ?_⟩
    cases hv with
    | non => exact iteD rfl q
    | bl b => exact iteD rfl q
    | int i => exact iteD rfl q
    | str x => exact iteD rfl q
    | lst _ _ => exact iteD rfl q
    | dct _ => exact iteD rfl q
    | @tup p xs ds hp hds =>
      refine iteC rfl ?_
      have hl := thAll_len hds
      refine ⟨_, rfl, p, _, rfl, .inr (SqT.of hp), rfl, _, rfl, ?_⟩
      by_cases h2 : xs.length = 2
      · obtain ⟨v1, v2, d1, d2, rfl, rfl, g1, g2⟩ := two_th hds h2
        refine iteC rfl ?_
        refine ⟨_, rfl, p, _, rfl, SqT.of hp, rfl, _, _, rfl, _, _, rfl, rfl, ?_⟩
        refine ⟨_, rfl, v1, d1, rfl, g1, _, rfl, ?_⟩
        cases g1 with
        | int a =>
          refine iteD rfl ⟨_, rfl, v2, d2, rfl, g2, _, rfl, ?_⟩
          cases g2 with
          | int b =>
            refine iteD rfl ?_
            refine ⟨_, rfl, _, _, rfl, rfl, _, rfl, ?_⟩
            have q : Q (.bl (decide (0 ≤ a) && (decide (a < b) && decide (b < n)))) H := q
            refine ite2 (fun h1 => ?_) (fun h1 => ?_)
            · rw [h1] at q
              refine ⟨_, rfl, _, _, rfl, rfl, _, rfl, ite2 (fun h3 => ?_) (fun h3 => ?_)⟩
              · rw [h3] at q
                exact ⟨_, rfl, _, _, rfl, rfl, q⟩
              · rw [Bool.eq_false_iff.mpr h3] at q
                exact q
            · rw [Bool.eq_false_iff.mpr h1] at q
              exact q
          | non => exact iteC rfl q
          | bl b => exact iteC rfl q
          | str x => exact iteC rfl q
          | lst _ _ => exact iteC rfl q
          | tup _ _ => exact iteC rfl q
          | dct _ => exact iteC rfl q
        | non => exact iteC rfl q
        | bl b => exact iteC rfl q
        | str x => exact iteC rfl q
        | lst _ _ => exact iteC rfl q
        | tup _ _ => exact iteC rfl q
        | dct _ => exact iteC rfl q
      · rw [tieD_len ds (by rw [← hl]; exact h2)] at q
        refine iteD ?_ q
        rw [decide_eq_false fun z => h2 (by have z := V.int.inj z; omega)]
        rfl
theorem ok_webN {f fW fT : Addr} {fd fdW fdT : FuncData} (F : FnP K "is_web" sWeb f fd) (T : WebTxt mg) (T2 : WebTxt2 mg) (FW : FnP K "is_whole" sWhole fW fdW) (gW : mg "is_whole" = some (.ref fW)) (FT : FnP K "is_tie" sTie fT fdT) (gT : mg "is_tie" = some (.ref fT)) : FnOk P w K mg base CX0 3 f fd ["thing"] spWebN := by
  have GW : FnOk P w K mg base CX0 1 fW fdW ["thing"] spWholeT := ok_wholeT FW T
  have bW : Binds K fdW ["thing"] [] := FW.bindsN fun _ _ _ _ _ _ us hl => match us, hl with | [_], _ => rfl
  have GT : FnOk P w K mg base CX0 2 fT fdT ["n", "thing"] spTieT := ok_tieT FT T FW gW
  have bT : Binds K fdT ["n", "thing"] [] := FT.bindsN fun _ _ _ _ _ _ us hl => match us, hl with | [_, _], _ => rfl
  obtain ⟨tf, hfew⟩ := T2.few
  obtain ⟨tm, hmost⟩ := T2.most
  refine ok0 F scWeb (fun vs H Q E h => ?_) (fun cdv A outer s H vs Q E hr h => ?_)
  · obtain ⟨v, d, rfl, _⟩ := h
    rfl
  · have hr1 : Room 1 _ := hr.mono (by decide)
    obtain ⟨v, d, rfl, hv, hsh, hmany, q⟩ := h
    have q0 := q H (Same.refl H)
    refine ⟨_, (pss_cons (ps_if (PW.pt (pw_or (pt_not (pt_val (pe_callB (id := "isinstance") cr_isaD (by rfl) T.isinstance (by decide +kernel) (pa_cons (pv 0) (pa_cons (pe_bltn (v := .ty "tuple") rfl T.tuple (by decide +kernel) rfl) pa_nil))))) (pw_or1 (pt_cmpR op_ne (pe_callB (id := "len") call_len_seq (by rfl) T.len (by decide +kernel) (pa_cons (pv 0) pa_nil)) pe_int (nomark _)))))
      (pss_one (ps_ret pe_bl))
      pss_nil)
    (pss_cons (ps_asg (pv 0) (pg_tup (by rfl) (pgs_cons (pg_name (i := 1) scWeb.nd rfl (Or.inr rfl)) (pgs_cons (pg_name (i := 2) scWeb.nd rfl (Or.inr rfl)) pgs_nil))))
    (pss_cons (ps_if (PW.pt (pw_or (pt_not (pt_val (pe_call GW hr1 rfl gW FW.kp bW .nil pass0 (pa_cons (pv 1) pa_nil)))) (pw_or1 (pt_not (pt_chain op_le op_le (pe_glob (v := .int 2) rfl hfew ⟨_, rfl⟩) (pv 1) (pe_glob (v := .int 40) rfl hmost ⟨_, rfl⟩))))))
      (pss_one (ps_ret pe_bl))
      pss_nil)
    (pss_cons (ps_if (PW.pt (pw_or (pt_not (pt_val (pe_callB (id := "isinstance") cr_isaD (by rfl) T.isinstance (by decide +kernel) (pa_cons (pv 2) (pa_cons (pe_bltn (v := .ty "tuple") rfl T.tuple (by decide +kernel) rfl) pa_nil))))) (pw_or1 (pt_not (pt_val (pe_callB (id := "all") (cr_all rfl) (by rfl) T.all (by decide +kernel) (pa_cons (pe_lc (own := [("tie", 3)]) (g := gName 3) (by rfl) scWeb.nd (pi_tup (pv 2)) (blkOk_by (own := [("tie", 3)]) (N := scWebN) (sc := scWebS) (by decide +kernel)) (fun _ _ _ _ _ => pg_name (i := 3) scWeb.nd rfl (Or.inl rfl)) (fun _ _ _ _ _ => pts_nil) (fun _ _ _ _ _ => (pe_call GT hr rfl gT FT.kp bT .nil pass0 (pa_cons (pv 1) (pa_cons (pv 3) pa_nil))))) pa_nil)))))))
      (pss_one (ps_ret pe_bl))
      pss_nil)
    (pss_cons ps_never
    (pss_one ps_never)))))), ?_⟩
    refine ⟨_, rfl, v, d, "tuple", rfl, hv, by simp, _, rfl, ?_⟩
    cases hv with
    | non => exact iteD rfl (iteD rfl q0)
    | bl b => exact iteD rfl (iteD rfl q0)
    | int i => exact iteD rfl (iteD rfl q0)
    | str x => exact iteD rfl (iteD rfl q0)
    | lst _ _ => exact iteD rfl (iteD rfl q0)
    | dct _ => exact iteD rfl (iteD rfl q0)
    | @tup p xs ds hp hds =>
      refine iteC rfl ?_
      have hl := thAll_len hds
      refine ⟨_, rfl, p, _, rfl, .inr (SqT.of hp), rfl, _, rfl, ?_⟩
      by_cases h2 : xs.length = 2
      · obtain ⟨v1, v2, d1, d2, rfl, rfl, g1, g2⟩ := two_th hds h2
        refine iteC rfl ?_
        refine ⟨_, rfl, p, _, rfl, SqT.of hp, rfl, _, _, rfl, _, _, rfl, rfl, ?_⟩
        refine ⟨_, rfl, v1, d1, rfl, g1, _, rfl, ?_⟩
        cases g1 with
        | int n =>
          refine iteC rfl ⟨_, rfl, _, _, rfl, rfl, _, rfl, ite2 (fun h1 => ?_) (fun h1 => ⟨_, rfl, iteD rfl q0⟩)⟩
          refine ⟨_, _, rfl, rfl, _, rfl, ite2 (fun _ => q0) (fun _ => ?_)⟩
          refine ⟨_, rfl, v2, d2, "tuple", rfl, g2, by simp, _, rfl, ?_⟩
          cases g2 with
          | non => exact iteD rfl q0
          | bl b => exact iteD rfl q0
          | int i => exact iteD rfl q0
          | str x => exact iteD rfl q0
          | lst _ _ => exact iteD rfl q0
          | dct _ => exact iteD rfl q0
          | @tup t ys es ht hes =>
            refine iteC rfl ?_
            have hyl := thAll_len hes
            have hmany : es.length ≤ 100000 := hmany
            refine ⟨_, rfl, t, rfl, ⟨_, SqT.of ht⟩, fun D hD => lc_tup (K := K) (a := t) (xs := ys) (fun i H' => Same H H' ∧ H' D = some (.lst (((es.take i).map (tieD n)).map V.bl))) ⟨same_upd hD, by rw [upd_same, List.take_zero]; rfl⟩ (fun i H' _ ⟨S, _⟩ => SqT.of (S _ _ ht)) ?_ ?_⟩
            · rintro i y H' hi ⟨S, e⟩
              obtain ⟨dy, hdy, hy⟩ := thAll_get hes hi
              refine ⟨rfl, _, rfl, _, rfl, n, y, dy, rfl, hy.mono S, _, e, ?_, fun c o hc => by rw [upd_ne (ne_of_none hc hD)]; exact S _ _ hc, ?_⟩
              · rw [List.length_map, List.length_map, List.length_take, sizeLine_eq]
                omega
              · rw [upd_same, take_more hdy, List.map_append, List.map_append]
                rfl
            rintro H1 ⟨S1, e1⟩
            rw [hyl, List.take_length] at e1
            refine ⟨D, _, rfl, SqL.of e1, _, rfl, ?_⟩
            have ea : ((es.map (tieD n)).all id) = false := by
              have hno : es.all isPairD = false := by
                cases e : es.all isPairD with
                | false => rfl
                | true =>
                  have z : shapeD (.tuple [.int n, .tuple es]) = some (n, es.map pairD) := if_pos e
                  rw [z] at hsh
                  cases hsh
              obtain ⟨d0, hd0, hf⟩ : ∃ d0 ∈ es, ¬ isPairD d0 = true := by
                refine Decidable.byContradiction fun z => ?_
                have y : es.all isPairD = true := List.all_eq_true.mpr fun d0 hd0 => Decidable.byContradiction fun y => z ⟨d0, hd0, y⟩
                rw [y] at hno
                cases hno
              cases e : (es.map (tieD n)).all id with
              | false => rfl
              | true =>
                have z := List.all_eq_true.mp e _ (List.mem_map.mpr ⟨d0, hd0, rfl⟩)
                have z : tieD n d0 = true := z
                rw [tieD_pair (Bool.eq_false_iff.mpr hf)] at z
                cases z
            rw [ea]
            exact iteD rfl (q H1 S1)
        | non => exact iteD rfl q0
        | bl b => exact iteD rfl q0
        | str x => exact iteD rfl q0
        | lst _ _ => exact iteD rfl q0
        | tup _ _ => exact iteD rfl q0
        | dct _ => exact iteD rfl q0
      · refine iteD ?_ q0
        rw [decide_eq_false fun z => h2 (by have z := V.int.inj z; omega)]
        rfl
end
end Sb

/-! ## Y232 -/
/-! is_web, need_web, need_bay of any thing. -/
namespace Sb
open PySem PySem.Spec PyProof.Rows L2
theorem FnOk.or {P : Program} {w : World} {K : PySem.W.Frag} {mg : Str → Option Value} {base : Heap} {CX : CXT} {k : Nat} {f : Addr} {fd : FuncData} {ps : List Str} {s1 s2 sp : Sp} (F1 : FnOk P w K mg base CX k f fd ps s1) (F2 : FnOk P w K mg base CX k f fd ps s2)
    (h : ∀ vs H Q E, sp vs H Q E → s1 vs H Q E ∨ s2 vs H Q E) : FnOk P w K mg base CX k f fd ps sp where
  len := fun vs H Q E z => (h vs H Q E z).elim (F1.len vs H Q E) (F2.len vs H Q E)
  run := fun A outer s H args us vs Q E hr e0 hb r z => (h vs H Q E z).elim (F1.run A outer s H args us vs Q E hr e0 hb r) (F2.run A outer s H args us vs Q E hr e0 hb r)
theorem shapeD_some {d : PyData} {n : Int} {ts : List (Int × Int)} (h : shapeD d = some (n, ts)) : ∃ es : List PyData, d = .tuple [.int n, .tuple es] ∧ es.all isPairD = true ∧ ts = es.map pairD := by
  unfold shapeD at h
  split at h
  · rename_i m es
    split at h
    · rename_i c
      cases h
      exact ⟨es, rfl, c, rfl⟩
    · cases h
  · cases h
theorem pairD_is {d : PyData} (h : isPairD d = true) : d = .tuple [.int (pairD d).1, .int (pairD d).2] := by
  unfold isPairD at h
  split at h
  · rfl
  · cases h
theorem th_two {H : Hp} {q : Addr} {a b : Int} (h : Th H (.ref q) (.tuple [.int a, .int b])) : H q = some (.tup [.int a, .int b]) := by
  cases h with
  | @tup _ xs _ e hs =>
    obtain ⟨v1, v2, d1, d2, rfl, e2, g1, g2⟩ := two_th hs (by rw [thAll_len hs]; rfl)
    cases e2
    cases g1
    cases g2
    exact e
/-- pairs in a tuple, as things -/
theorem prs_th {H : Hp} : ∀ {ys : List V} {es : List PyData}, ThAll H ys es → es.all isPairD = true → ∃ qs : List Addr, ys = qs.map V.ref ∧ qs.length = es.length ∧ ∀ (i : Nat) (q : Addr) (a b : Int), qs[i]? = some q → (es.map pairD)[i]? = some (a, b) → H q = some (.tup [.int a, .int b])
  | _, _, .nil, _ => ⟨[], rfl, rfl, fun i q a b e _ => by simp at e⟩
  | _, _, .cons (v := v) (d := d) h hs, ha => by
    rw [List.all_cons, Bool.and_eq_true] at ha
    obtain ⟨qs, e1, e2, e3⟩ := prs_th hs ha.2
    have hd := pairD_is ha.1
    rw [hd] at h
    cases h with
    | @tup q xs _ e hx =>
      refine ⟨q :: qs, by rw [e1]; rfl, by rw [List.length_cons, List.length_cons, e2], fun i r a b h1 h2 => ?_⟩
      cases i with
      | zero =>
        cases h1
        have h2 : pairD d = (a, b) := Option.some.inj h2
        have z := th_two (.tup e hx)
        rw [h2] at z
        exact z
      | succ i => exact e3 i r a b h1 h2
theorem th_web {K : PySem.W.Frag} {H : Hp} {v : V} {d : PyData} {n : Int} {ts : List (Int × Int)} (h : Th H v d) (e : shapeD d = some (n, ts)) : WebAt K H v n ts := by
  obtain ⟨es, rfl, ha, rfl⟩ := shapeD_some e
  cases h with
  | @tup r xs _ hr hs =>
    obtain ⟨v1, v2, d1, d2, rfl, e2, g1, g2⟩ := two_th hs (by rw [thAll_len hs]; rfl)
    cases e2
    cases g1
    cases g2 with
    | @tup t ys _ ht hes =>
      obtain ⟨qs, rfl, q2, q3⟩ := prs_th hes ha
      exact ⟨r, t, rfl, SqT.of hr, qs, SqT.of ht, by rw [q2, List.length_map], fun i q a b e1 e2 => SqT.of (q3 i q a b e1 e2)⟩
theorem shape_len {d : PyData} {n : Int} {ts : List (Int × Int)} (e : shapeD d = some (n, ts)) : ts.length = tiesOf d := by
  obtain ⟨es, rfl, _, rfl⟩ := shapeD_some e
  exact List.length_map _
def spWebT : Sp := fun vs H Q _ => ∃ v d, vs = [v] ∧ Th H v d ∧ tiesOf d ≤ 100000 ∧ ∀ H', Same H H' → Q (.bl (webD d)) H'
section
variable {P : Program} {w : World} {K : PySem.W.Frag} {mg : Str → Option Value} {base : Heap}
theorem ok_webT {f fW fT fR fS : Addr} {fd fdW fdT fdR fdS : FuncData} (F : FnP K "is_web" sWeb f fd) (T : WebTxt mg) (T2 : WebTxt2 mg) (FW : FnP K "is_whole" sWhole fW fdW) (gW : mg "is_whole" = some (.ref fW)) (FT : FnP K "is_tie" sTie fT fdT) (gT : mg "is_tie" = some (.ref fT))
    (FR : FnP K "rows_of" sRows fR fdR) (gR : mg "rows_of" = some (.ref fR)) (FS : FnP K "steps_from" sSteps fS fdS) (gS : mg "steps_from" = some (.ref fS)) : FnOk P w K mg base CX0 3 f fd ["thing"] spWebT := by
  refine FnOk.or (ok_web F T T2 FW gW FT gT FR gR FS gS) (ok_webN F T T2 FW gW FT gT) fun vs H Q E h => ?_
  obtain ⟨v, d, rfl, hv, hm, q⟩ := h
  unfold webD at q
  cases e : shapeD d with
  | none =>
    rw [e] at q
    exact .inr ⟨v, d, rfl, hv, e, hm, q⟩
  | some p =>
    obtain ⟨n, ts⟩ := p
    rw [e] at q
    exact .inl (.inr ⟨v, n, ts, rfl, th_web hv e, by rw [shape_len e]; exact hm, q⟩)
end
/-! ### an error's class, as the head tells it -/
structure ErrOne (K : PySem.W.Frag) (mg : Str → Option Value) (x : Str) (C : Addr) : Prop where
  gs : mg x = some (.ref C)
  kp : PySem.W.keepIn K (.ref C) = true
  ex : PySem.W.excIn K C He.veBase "ValueError.__new__" = true
end Sb

/-! ## TW32 -/
/-! two_sides of any rows. -/
namespace Sb
open PySem PySem.Spec PyProof.Rows L2
abbrev sTwo : Stmt := top 7
def spTwo : Sp := fun vs H Q _ => ∃ (l : Addr) (ps : List Addr) (rss : List (List Int)) (n : Nat), vs = [.ref l] ∧ RowsL H l ps rss ∧ RowsIn n rss ∧ (∀ k, (rss.getD k []).length ≤ 200000) ∧ rss.length = n ∧ 0 < n ∧ n ≤ 1000 ∧
  (oddR n rss (par (stepsOf rss 0)) = true → ∀ H', Same H H' → Q .non H') ∧ (oddR n rss (par (stepsOf rss 0)) = false → ∀ p H', Same H H' → H p = none → H' p = some (.tup ((par (stepsOf rss 0)).map V.int)) → Q (.ref p) H')
section
variable {P : Program} {w : World} {K : PySem.W.Frag} {mg : Str → Option Value} {base : Heap}
abbrev scTwoN : List Str := ["rows", "marks", "bay", "row", "steps", "near"]
abbrev scTwoS : Scope := defScope sTwo
theorem scTwo : FnScope ["rows", "marks", "bay", "row", "steps", "near"] ["rows"] (defScope sTwo) := ⟨rfl, rfl, rfl, by decide +kernel, rfl, by decide +kernel, by decide +kernel⟩
structure TwoTxt (mg : Str → Option Value) : Prop where
  enumerate : mg "enumerate" = none
  any : mg "any" = none
  tuple : mg "tuple" = none
theorem ok_two {f fS : Addr} {fd fdS : FuncData} (F : FnP K "two_sides" sTwo f fd) (T : TwoTxt mg) (FS : FnP K "steps_from" sSteps fS fdS) (gS : mg "steps_from" = some (.ref fS)) (GS : FnOk P w K mg base CX0 1 fS fdS ["rows", "start"] spSteps) : FnOk P w K mg base CX0 2 f fd ["rows"] spTwo := by
  have bS : Binds K fdS ["rows", "start"] [] := FS.bindsN fun _ _ _ _ _ _ us hl => match us, hl with | [_, _], _ => rfl
  refine ok0 F scTwo (fun vs H Q E h => ?_) (fun cdv A outer s H vs Q E hr h => ?_)
  · obtain ⟨l, ps, rss, n, rfl, _⟩ := h
    rfl
  · obtain ⟨l, ps, rss, n, rfl, R, hR, hbig, hl, hn0, hn, q1, q2⟩ := h
    refine ⟨_, (pss_cons (ps_set (i := 1) scTwo.nd rfl (Or.inr rfl) (pe_lc (own := [("steps", 4)]) (g := gName 4) (by rfl) scTwo.nd (pi_list (pe_call GS hr rfl gS FS.kp bS .nil pass0 (pa_cons (pv 0) (pa_cons pe_int pa_nil)))) (blkOk_by (own := [("steps", 4)]) (N := scTwoN) (sc := scTwoS) (by decide +kernel)) (fun _ _ _ _ _ => pg_name (i := 4) scTwo.nd rfl (Or.inl rfl)) (fun _ _ _ _ _ => pts_nil) (fun _ _ _ _ _ => (pe_op op_mod (pv 4) pe_int))))
    (pss_cons (ps_for PassesOwn.never rfl (pi_enum (by rfl) T.enumerate (pa_cons (pv 0) pa_nil)) (pg_tup (by rfl) (pgs_cons (pg_name (i := 2) scTwo.nd rfl (Or.inr rfl)) (pgs_cons (pg_name (i := 3) scTwo.nd rfl (Or.inl rfl)) pgs_nil)))
      (pss_one (ps_if (pt_val (pe_callB (id := "any") (cr_any rfl) (by rfl) T.any (by decide +kernel) (pa_cons (pe_lc (own := [("near", 5)]) (g := gName 5) (by rfl) scTwo.nd (pi_list (pv 3)) (blkOk_by (own := [("near", 5)]) (N := scTwoN) (sc := scTwoS) (by decide +kernel)) (fun _ _ _ _ _ => pg_name (i := 5) scTwo.nd rfl (Or.inl rfl)) (fun _ _ _ _ _ => pts_nil) (fun _ _ _ _ _ => (pe_cmpR op_eq (pe_ix (ix_lK (K := K)) (pv 1) (pv 5) (fun _ _ => rfl)) (pe_ix (ix_lK (K := K)) (pv 1) (pv 2) (fun _ _ => rfl)) (nomark _)))) pa_nil)))
      (pss_one (ps_ret pe_non))
      pss_nil)))
    (pss_one (ps_ret (pe_callTy (T := "tuple") call_tuple_of (by rfl) T.tuple (by decide +kernel) (pa_cons (pv 1) pa_nil)))))), ?_⟩
    refine ⟨_, rfl, l, ps, rss, 0, rfl, R, by rw [hl]; exact hR, by omega, by omega, fun D H1 S1 nD hD hlen => ?_⟩
    refine ⟨D, rfl, ⟨_, SqL.of hD⟩, fun M hM => lc_list (K := K) (a := D) (xs := (stepsOf rss 0).map V.int) (fun i H2 => Same H1 H2 ∧ H2 M = some (.lst ((((stepsOf rss 0).take i).map fun z => z % 2).map V.int))) ⟨same_upd hM, by rw [upd_same, List.take_zero]; rfl⟩ (fun i H2 _ ⟨S, _⟩ => SqL.of (S _ _ hD)) ?_ ?_⟩
    · rintro i y H2 hi ⟨S2, h2⟩
      obtain ⟨z, hz, rfl⟩ := getMap hi
      have il : i < (stepsOf rss 0).length := (List.getElem?_eq_some_iff.mp hz).1
      refine ⟨rfl, _, rfl, _, _, rfl, rfl, by show (0 : Int) < 2; decide, _, h2, ?_, fun c o hc2 => by rw [upd_ne (ne_of_none hc2 hM)]; exact S2 _ _ hc2, ?_⟩
      · rw [List.length_map, List.length_map, List.length_take, sizeLine_eq]
        omega
      · rw [upd_same, take_more hz, List.map_append, List.map_append]
        rfl
    rintro H2 ⟨S2, h2⟩
    rw [List.length_map, List.take_length] at h2
    have h2 : H2 M = some (.lst ((par (stepsOf rss 0)).map V.int)) := h2
    have S02 : Same H H2 := S1.trans S2
    have nM : H M = none := S1.free hM
    have R2 := R.same S02
    have hpl : (par (stepsOf rss 0)).length = n := by
      unfold par
      rw [List.length_map, hlen, hl]
    refine ⟨_, rfl, l, ps.map V.ref, rfl, SqL.of R2.at_, for_it walk_enum (fun i σ H' => (∃ u v x y, σ = [some (.ref l), some (.ref M), u, v, x, y]) ∧ Same H2 H' ∧ ∀ j, j < i → ((rss.getD j []).any fun z => decide (gI (par (stepsOf rss 0)) z = gI (par (stepsOf rss 0)) j)) = false) ⟨⟨none, none, none, none, rfl⟩, Same.refl _, fun j hj => absurd hj (by omega)⟩ (fun i σ H' _ ⟨_, S, _⟩ => S.seq (SqL.of R2.at_)) ?_ ?_⟩
    · rintro i x σ H3 H4 hi ⟨⟨u, v, x', y', rfl⟩, S3, hno⟩ ⟨t, y1, y2, rfl, nt, rfl, hx, hy⟩
      cases hx
      rw [List.length_map, R.len, hl] at hi
      obtain ⟨p, hp, rfl⟩ := getMapR (show (ps.map V.ref)[i]? = some y2 from hy)
      have St : Same H3 (upd H3 t (.tup [V.int (i : Nat), .ref p])) := same_upd nt
      have S4 := S3.trans St
      have rp := S4 _ _ (R2.row i p hp)
      have hm4 := S4 _ _ h2
      refine ⟨t, _, rfl, .inl (.inl upd_same), rfl, _, _, rfl, _, _, rfl, rfl, ?_⟩
      generalize upd H3 t (.tup [V.int (i : Nat), .ref p]) = H4 at S4 rp hm4
      refine ⟨_, rfl, p, rfl, ⟨_, SqL.of rp⟩, fun A1 hA1 => lc_list (K := K) (a := p) (xs := (rss.getD i []).map V.int) (fun j H5 => Same H4 H5 ∧ H5 A1 = some (.lst ((((rss.getD i []).take j).map fun z => decide (gI (par (stepsOf rss 0)) z = gI (par (stepsOf rss 0)) i)).map V.bl))) ⟨same_upd hA1, by rw [upd_same, List.take_zero]; rfl⟩ (fun j H5 _ ⟨S, _⟩ => SqL.of (S _ _ rp)) ?_ ?_⟩
      · rintro j y H5 hj ⟨S5, h5⟩
        obtain ⟨z, hz, rfl⟩ := getMap hj
        obtain ⟨z0, z1⟩ := hR i z (List.mem_of_getElem? hz)
        have hm5 := S5 _ _ hm4
        have jl : j < (rss.getD i []).length := (List.getElem?_eq_some_iff.mp hz).1
        refine ⟨rfl, _, rfl, _, rfl, M, _, _, _, rfl, rfl, SqL.of hm5, atI_map z0 (by rw [hpl]; exact z1), _, rfl, _, rfl, M, _, _, _, rfl, rfl, SqL.of hm5, atI_map (i := ((i : Nat) : Int)) (by omega) (by rw [hpl]; omega), rfl, _, h5, ?_, fun c o hc2 => by rw [upd_ne (ne_of_none hc2 hA1)]; exact S5 _ _ hc2, ?_⟩
        · rw [List.length_map, List.length_map, List.length_take, sizeLine_eq]
          have hb := hbig i
          omega
        · rw [upd_same, take_more hz, List.map_append, List.map_append]
          congr 4
          show V.bl (decide (V.int _ = V.int _)) = V.bl (decide (_ = _))
          congr 1
          exact decide_eq_decide.mpr ⟨fun e => V.int.inj e, fun e => congrArg V.int e⟩
      rintro H5 ⟨S5, h5⟩
      rw [List.length_map, List.take_length] at h5
      refine ⟨A1, _, rfl, SqL.of h5, _, rfl, ?_⟩
      have ea : (((rss.getD i []).map fun z => decide (gI (par (stepsOf rss 0)) z = gI (par (stepsOf rss 0)) i)).any id) = (rss.getD i []).any fun z => decide (gI (par (stepsOf rss 0)) z = gI (par (stepsOf rss 0)) i) := List.any_map
      rw [ea]
      have S45 := S4.trans S5
      refine ite2 (fun hc => ?_) (fun hc => ?_)
      · exact q1 (List.any_eq_true.mpr ⟨i, List.mem_range.mpr hi, hc⟩) H5 (S02.trans S45)
      · refine ⟨⟨_, _, _, _, rfl⟩, S45, fun j hj => ?_⟩
        by_cases e : j = i
        · rw [e]
          exact Bool.eq_false_iff.mpr hc
        · exact hno j (by omega)
    · rintro σ H3 ⟨⟨u, v, x, y, rfl⟩, S3, hno⟩
      rw [List.length_map, R.len, hl] at hno
      have eo : oddR n rss (par (stepsOf rss 0)) = false := by
        refine Bool.eq_false_iff.mpr fun z => ?_
        obtain ⟨j, hj, h⟩ := List.any_eq_true.mp z
        rw [hno j (List.mem_range.mp hj)] at h
        cases h
      exact ⟨_, rfl, M, _, rfl, .inl ⟨SqL.of (S3 _ _ h2), fun p np => q2 eo p _ ((S02.trans S3).trans (same_upd np)) ((S02.trans S3).free np) upd_same⟩⟩
end
end Sb

/-! ## N65 -/
/-! enumerate(t), t a tuple; dicts made over what is walked. -/
namespace Sb
open PySem PySem.Spec PyProof.Rows L2
/-! ### enumerate, begun over anything -/
theorem en_new {v : Value} {o : Obj} {G : Heap → Prop} (B : Begins v o G) : Meets (Builtin.«enumerate.__new__» ⟨[.type "enumerate", v], []⟩) (fun _ R s => G s.heap ∧
    R (.ok (.ret (.ref (s.heap.push o).objs.size))) { s with heap := (s.heap.push o).push { cls := .type "enumerate", data := .fields #[.none, .bool false, .ref s.heap.objs.size, rawInt 0, .none, .none] } }) := by
  refine .of_wp fun prog w A R s h => ?_
  obtain ⟨hp, g, d, tk, os⟩ := s
  obtain ⟨h1, h⟩ := h
  have sub0 := sub_enumerate
  have begun : ∀ {A2 : Around} {E Q : Value → Shared → Prop}, Q (.ref hp.objs.size) ⟨hp.push o, g, d, tk, os⟩ → wpAny (model prog w) A2 (pyIter v) Q E ⟨hp, g, d, tk, os⟩ := fun q => B.iter prog w _ _ ⟨hp, g, d, tk, os⟩ _ h1 q
  wp_walk using begun
  refine wpAny_stack_any fun st => wpAny_pure ?_
  split
  · rename_i c _ _ _ _ _
    cases (c == Value.type "enumerate") <;> (wp_walk using begun) <;> exact ⟨_, rfl, h⟩
  · wp_walk using begun
    exact ⟨_, rfl, h⟩
section
variable {P : Program} {w : World} {A : Around} {E : Value → Shared → Prop} {s : Shared}
theorem en_call {v : Value} {o : Obj} {G : Heap → Prop} {Q : Value → Shared → Prop} (B : Begins v o G) (h1 : G s.heap)
    (h : ∀ h2, IsEnum h2 (s.heap.objs.size + 1) s.heap.objs.size 0 .none → h2.get? s.heap.objs.size = some o → (∀ b u, s.heap.get? b = some u → h2.get? b = some u) → Q (.ref (s.heap.objs.size + 1)) { s with heap := h2 }) :
    wpAny (model P w) A (call (.type "enumerate") [v]) Q E s := by
  have z : (s.heap.push o).objs.size = s.heap.objs.size + 1 := Heap.size_push ..
  refine callType_new F.called_enumerate (by decide) (F.typeCall_enumerate_1 _) (F.newCall_enumerate_1 _) (fun u => F.args_object_init_2 u _) F.entry_enumerate_new (en_new B) ⟨h1, ?_⟩
  have at_ := Heap.get?_push_size (s.heap.push o) (o := { cls := .type "enumerate", data := .fields #[.none, .bool false, .ref s.heap.objs.size, rawInt 0, .none, .none] }) rfl
  show _ ∧ _
  rw [z] at at_ ⊢
  exact ⟨⟨_, at_, rfl⟩, h _ at_ (Heap.get?_push_of_some _ (Heap.get?_push_size _ B.free)) fun b u e => Heap.get?_push_of_some _ (Heap.get?_push_of_some _ e)⟩
end
/-! ### over a tuple -/
/-- the tuple at a, each item in a new pair -/
def ItEt (K : PySem.W.Frag) (a : Addr) : It where
  go := fun i H => ∃ (xs : List V) (x : V), SqT K H a xs ∧ xs[i]? = some x
  yld := fun i H v H2 => ∃ (T : Addr) (x : V), v = .ref T ∧ H T = none ∧ H2 = upd H T (.tup [.int (i : Nat), x]) ∧ ∀ xs, SqT K H a xs → xs[i]? = some x
  stop := fun i H => ∃ xs : List V, SqT K H a xs ∧ xs.length = i
theorem Inv.tup_inj {X : Cx} {pins : List (Addr × Obj)} {σ : L2.St} {H : Hp} {s : Shared} {a : Addr} {xs ys : List V} (I : Inv X pins σ H s) (h1 : SqT X.K H a xs) (h2 : SqT X.K H a ys) : xs = ys := by
  obtain ⟨us, r1, ⟨o1, e1, c1, n1, d1⟩, _⟩ := I.tuple h1
  obtain ⟨vs, r2, ⟨o2, e2, c2, n2, d2⟩, _⟩ := I.tuple h2
  rw [e1] at e2
  cases e2
  rw [d1] at d2
  injection d2 with d3 _
  have e : us = vs := by simpa using congrArg Array.toList d3
  subst e
  exact r1.inj r2
theorem turn_et {P : Program} {w : World} {K : PySem.W.Frag} {elts : List Expr} {kk : Nat} {tpos : Pos} (a e it : Addr) (its : Array Value) (hea : e ≠ a) (hia : a ≠ it) (hei : e ≠ it) :
    Turn P w K (.Tuple elts kk tpos) (ItEt K a) [e, it] e (fun i h => (∃ old, IsEnum h e it ((i : Nat) : Int) old) ∧ h.IsTupleIter it a i) where
  mem := List.mem_cons_self
  obj := fun i h st b hb => by
    obtain ⟨⟨old, he⟩, ⟨o, ho, hc, hd⟩⟩ := st
    rcases List.mem_cons.mp hb with z | z
    · rw [z]
      exact ⟨_, he, fun v q => nomatch q⟩
    · rw [List.mem_singleton.mp z]
      exact ⟨o, ho, fun v q => by rw [hd] at q; cases q⟩
  keep := fun i h h2 st k => by
    obtain ⟨⟨old, he⟩, hi⟩ := st
    exact ⟨⟨old, k e List.mem_cons_self _ he⟩, hi.at fun o q => k it (List.mem_cons_of_mem _ List.mem_cons_self) o q⟩
  item := by
    intro X hP hw hK hc i pins s σ H E I hf st hg
    subst hP hw hK
    obtain ⟨⟨old, he⟩, hit⟩ := st
    obtain ⟨xs, x, hq, hx⟩ := hg
    obtain ⟨us, rv, p, hz⟩ := I.tuple hq
    obtain ⟨u, hu, ru⟩ := rv.get hx
    have D := Draws.tuple (prog := X.prog) (w := X.w) (A := X.A.in1) (I.ok.hd hc) it a hia us.toArray
    have hlt : i < us.toArray.size := by
      rw [List.size_toArray]
      exact (List.getElem?_eq_some_iff.mp hu).1
    have hef : e ∉ [it, a] := fun z => by
      rcases List.mem_cons.mp z with z | z
      · exact hei z
      · exact hea (List.mem_singleton.mp z)
    have le : e < s.heap.objs.size := Heap.lt_size he
    have li : it < s.heap.objs.size := by
      obtain ⟨_, q, _⟩ := hit
      exact Heap.lt_size q
    refine wpAny_pyNext_enum_itemD D he ⟨hit, p⟩ hlt hei hef fun y h2 tk hy ho st2 hT hsz hk => ?_
    have ey : y = u := by
      have hy2 : us[i]? = some y := by simpa using hy
      rw [hu] at hy2
      exact (Option.some.inj hy2).symm
    subst ey
    refine ⟨_, rfl, wpAny_letOwnedTupleGo_enum (s := { s with heap := h2, toks := tk + 1 }) ho fun h3 he3 sb => ?_⟩
    have at_ := (sb.2 _ (Nat.ne_of_gt le)).trans hT
    have new : ObjOk X.prog X.w (upd H s.heap.objs.size (.tup [.int (i : Nat), x])) h3 s.heap.objs.size (.tup [.int (i : Nat), x]) := ⟨by show 2 ≤ sizeLine; decide, [.int i tk, y], .cons ⟨_, rfl⟩ (.cons ru .nil), ⟨_, at_, rfl, _, rfl⟩⟩
    have old2 : ∀ b ob, b ∉ [e, it] → s.heap.get? b = some ob → h3.get? b = some ob := fun b ob hb q => by
      have n1 : b ≠ e := fun z => hb (by simp [z])
      have n2 : b ≠ it := fun z => hb (by simp [z])
      exact (sb.2 b n1).trans (hk b ob n1 n2 q)
    have I1 := I.turnedNew (t' := tk + 1) old2 hf (Nat.le_refl _) new
    have st3 : h3.IsTupleIter it a (i + 1) := st2.1.at fun o q => (sb.2 it (Ne.symm hei)).trans q
    refine ⟨.ref s.heap.objs.size, _, I1, rfl, ⟨_, x, rfl, I.hok.fresh (Nat.le_refl _), rfl, fun ys hy => by rw [Inv.tup_inj I hy hq]; exact hx⟩, ⟨⟨y, ?_⟩, st3⟩, fun b hb => ?_⟩
    · have e1 : ((i + 1 : Nat) : Int) = (i : Int) + 1 := by omega
      rw [e1]
      exact he3
    · have lb : b < s.heap.objs.size := by
        rcases List.mem_cons.mp hb with z | z
        · rw [z]
          exact le
        · rw [List.mem_singleton.mp z]
          exact li
      rw [upd_ne (Nat.ne_of_lt lb)]
      exact (hf b hb).1
  done := by
    intro X hP hw hK hc i pins s σ H E I hf st hg
    subst hP hw hK
    obtain ⟨⟨old, he⟩, hit⟩ := st
    obtain ⟨xs, hq, hx⟩ := hg
    obtain ⟨us, rv, p, hz⟩ := I.tuple hq
    obtain ⟨f0, f1, f2, f3, f4, f5⟩ := hf it (List.mem_cons_of_mem _ List.mem_cons_self)
    have hl : us.toArray.size = i := by rw [List.size_toArray, ← rv.length, hx]
    have D := Draws.tuple (prog := X.prog) (w := X.w) (A := X.A.in1) (I.ok.hd hc) it a hia us.toArray
    refine wpAny_pyNext_enum_endD D he ⟨by rw [hl]; exact hit, p⟩ fun h2 eb => ⟨rfl, I.turned (t' := s.toks) (fun b o hb q => eb b o hb q) f0 f1 f3 f4 f5⟩
  self := fun A i s Q E st h => by
    obtain ⟨⟨_, he⟩, _⟩ := st
    exact wpAny_pyIter_enum he h
def iEt (K : PySem.W.Frag) (ta : TA) : TI := fun σ H R => ta σ H fun vs H1 => ∃ a xs, vs = [.ref a] ∧ SqT K H1 a xs ∧ R (ItEt K a) H1
theorem pi_et {X : Cx} {e : Expr} {ta : TA} {p pos tpos : Pos} {elts : List Expr} {kk : Nat} (hg : Gl X "enumerate") (hm : X.mg "enumerate" = none) (ha : PA X [e] ta) (hs : starEach [e] X.env = [(false, eval e X.env)] := by rfl) :
    PI X (.Tuple elts kk tpos) (.Call (.Name "enumerate" p) [e] [] pos) (iEt X.K ta) := by
  refine ⟨fun pins s σ H R I h => ?_⟩
  have go := ha.run pos pins s σ H _ I h
  refine Call_ (ld_blt I hg hm boot_enumerate (PyProof.Rows.callWith_type1 (thn go fun us s1 z => ?_) hs rfl))
  obtain ⟨vs, H1, I1, r1, a, xs, rfl, hq, q⟩ := z
  obtain rfl := Vals.ref1 r1
  obtain ⟨its, rv, p2, hz⟩ := I1.tuple hq
  have la : a < s1.heap.objs.size := by
    obtain ⟨_, ho, _⟩ := p2
    exact Heap.lt_size ho
  refine en_call (begins_tuple a its.toArray) p2 fun h2 he hit hk => wpAny_pyIter_enum he ?_
  have I2 : Inv X pins σ H1 { s1 with heap := h2 } := I1.kept (t' := s1.toks) hk
  refine ⟨s1.heap.objs.size + 1, [s1.heap.objs.size + 1, s1.heap.objs.size], _, _, H1, rfl, I2, turn_et a (s1.heap.objs.size + 1) s1.heap.objs.size its.toArray (Nat.ne_of_gt (Nat.lt_succ_of_lt la)) (Nat.ne_of_lt la) (Nat.succ_ne_self _), ⟨⟨.none, he⟩, ⟨_, hit, rfl, rfl⟩⟩, fun b hb => ?_, q⟩
  have hle : s1.heap.objs.size ≤ b := by
    rcases List.mem_cons.mp hb with z | z
    · rw [z]
      exact Nat.le_succ _
    · rw [List.mem_singleton.mp z]
      exact Nat.le_refl _
  exact I1.fpOk hle (I1.hok.fresh hle)
section
variable {K : PySem.W.Frag} {a : Addr} {xs : List V}
theorem walk_et : Walk (ItEt K a) xs.length (fun H => SqT K H a xs) (YPair (fun i => some (.int (i : Nat))) (fun i => xs[i]?)) where
  goes := fun i _ hi q => ⟨xs, xs[i], q, by simp [hi]⟩
  stops := fun _ q => ⟨xs, q, rfl⟩
  yields := fun i H v H2 _ q y => by
    obtain ⟨T, x, h1, h2, h3, h4⟩ := y
    exact ⟨T, _, x, h1, h2, h3, rfl, h4 xs q⟩
end
/-- a dict made over what is walked: Pv by the turn and the heap (the new dict at D within) -/
theorem dc_it {J : It} {n : Nat} {G : Hp → Prop} {Y : Nat → Hp → V → Hp → Prop} (w : Walk J n G Y) {g : TG} {tt : TT} {tk tv : TE} {vs : List Nat} {σ : L2.St} {H1 : Hp} {D : Addr} {Qd : Hp → Prop} (Pv : Nat → Hp → Prop) (h0 : Pv 0 (upd H1 D (.dK []))) (hG : ∀ i H, i ≤ n → Pv i H → G H)
    (hs : ∀ i x H H2, i < n → Pv i H → Y i H x H2 → g x (wipe σ vs) H2 fun σ2 H3 => wipe σ2 vs = wipe σ vs ∧ tt σ2 H3 fun b H4 =>
      if b = true then tk σ2 H4 fun y H5 => tv σ2 H5 fun z H6 => ∃ kvs k, y = kV k ∧ H6 D = some (.dK kvs) ∧ kvs.length < sizeLine ∧ Pv (i + 1) (upd H6 D (.dK (putK kvs k z))) else Pv (i + 1) H4) (hd : ∀ H, Pv n H → Qd H) :
    ∃ W : Nat → Nat → Hp → Prop, (∃ m, W 0 m (upd H1 D (.dK []))) ∧ ∀ i m H, W i m H →
      (J.stop i H ∧ Qd H) ∨ (J.go i H ∧ ∃ Nx : Hp → Prop, (∀ H', Nx H' → ∃ m', m' < m ∧ W (i + 1) m' H') ∧ ∀ x H', J.yld i H x H' → g x (wipe σ vs) H' fun σ2 H2 => wipe σ2 vs = wipe σ vs ∧ tt σ2 H2 fun b H3 =>
        if b = true then tk σ2 H3 fun y H4 => tv σ2 H4 fun z H5 => ∃ kvs k, y = kV k ∧ H5 D = some (.dK kvs) ∧ kvs.length < sizeLine ∧ Nx (upd H5 D (.dK (putK kvs k z))) else Nx H3) := by
  refine ⟨fun i m H => m + i = n ∧ Pv i H, ⟨n, rfl, h0⟩, fun i m H p => ?_⟩
  obtain ⟨hm, p⟩ := p
  have q := hG i H (by omega) p
  rcases Nat.lt_or_ge i n with hlt | hge
  · exact .inr ⟨w.goes i H hlt q, Pv (i + 1), fun H2 p2 => ⟨m - 1, by omega, by omega, p2⟩, fun x H2 y => hs i x H H2 hlt p (w.yields i H x H2 hlt q y)⟩
  · have e : i = n := by omega
    subst e
    exact .inl ⟨w.stops H q, hd H p⟩
end Sb

/-! ## RWN32 -/
/-! rows_within of any block. -/
namespace Sb
open PySem PySem.Spec PyProof.Rows L2
abbrev sWithin : Stmt := top 23
/-- the names of the outer block -/
abbrev scOut : Scope := { kind := .function, names := [(".0", .local), ("bay", .local), ("places", .cell), ("rows", .cell)], isGenerator := false, isCoroutine := false }
/-- a block's bays by their places -/
def plK (b : List Int) (i : Nat) : List (Key × V) := (List.range i).map fun j => (Sum.inl (b.getD j 0), V.int (j : Nat))
def inRow (rss : List (List Int)) (b : List Int) (v : Int) : List Int := ((rss.getD v.toNat []).filter fun z => decide (z ∈ b)).map fun z => ((b.idxOf z : Nat) : Int)
def innerOf (rss : List (List Int)) (b : List Int) : List (List Int) := b.map (inRow rss b)
theorem plK_val {b : List Int} (nd : b.Nodup) : ∀ (i : Nat), i ≤ b.length → ∀ z, valV (plK b i) (Sum.inl z) = if z ∈ b.take i then some (.int (b.idxOf z : Nat)) else none
  | 0, _, z => by
    rw [List.take_zero, if_neg (by simp)]
    rfl
  | i + 1, hi, z => by
    have ih := plK_val nd i (by omega) z
    have e : plK b (i + 1) = plK b i ++ [(Sum.inl (b.getD i 0), V.int (i : Nat))] := by
      unfold plK
      rw [List.range_succ, List.map_append]
      rfl
    have hb : b[i]? = some b[i] := List.getElem?_eq_getElem (by omega)
    have eb : b.getD i 0 = b[i] := by rw [List.getD_eq_getElem?_getD, hb]; rfl
    have ea : ∀ (xs : List (Key × V)) (p : Key × V) (k : Key), valV (xs ++ [p]) k = (valV xs k).or (valV [p] k) := fun xs p k => by
      unfold valV
      rw [List.find?_append]
      cases xs.find? fun kv => decide (kv.1 = k) <;> rfl
    rw [e, ea, ih, take_more hb, eb]
    by_cases h1 : z ∈ b.take i
    · rw [if_pos h1, if_pos (List.mem_append_left _ h1)]
      rfl
    · rw [if_neg h1]
      by_cases h2 : b[i] = z
      · rw [if_pos (List.mem_append_right _ (List.mem_singleton.mpr h2.symm)), ← h2, valV_pos rfl, nd.idxOf_getElem i (by omega)]
        rfl
      · rw [if_neg fun m => (List.mem_append.mp m).elim h1 fun m => h2 (List.mem_singleton.mp m).symm]
        unfold valV
        rw [List.find?_cons_of_neg (by
          rw [decide_eq_true_eq]
          exact fun q => h2 (Sum.inl.inj q))]
        rfl
theorem plK_put {b : List Int} (nd : b.Nodup) {i : Nat} (hi : i < b.length) : putK (plK b i) (Sum.inl (b.getD i 0)) (.int (i : Nat)) = plK b (i + 1) := by
  have hv := plK_val nd i (by omega) (b.getD i 0)
  have hb : b[i]? = some b[i] := List.getElem?_eq_getElem hi
  have eb : b.getD i 0 = b[i] := by rw [List.getD_eq_getElem?_getD, hb]; rfl
  have hn : b.getD i 0 ∉ b.take i := fun z => by
    rw [eb] at z
    obtain ⟨j, hj, ej⟩ := List.mem_take_iff_getElem.mp z
    exact absurd ej (List.pairwise_iff_getElem.mp nd j i (by omega) hi (by omega))
  rw [if_neg hn] at hv
  have hany : ((plK b i).any fun kv => decide (kv.1 = Sum.inl (b.getD i 0))) = false := by
    rw [valV_any, hv]
    rfl
  unfold putK
  rw [hany, if_neg Bool.false_ne_true]
  unfold plK
  rw [List.range_succ, List.map_append]
  rfl
def spWithin (K : PySem.W.Frag) : Sp := fun vs H Q _ => ∃ (l t : Addr) (ps : List Addr) (rss : List (List Int)) (b : List Int), vs = [.ref l, .ref t] ∧ RowsL H l ps rss ∧ SqT K H t (b.map V.int) ∧ b.Nodup ∧ (∀ v ∈ b, 0 ≤ v ∧ v < (rss.length : Int)) ∧ b.length ≤ 1000 ∧ (∀ k, (rss.getD k []).length ≤ 1000) ∧
  ∀ o ps' H', Same H H' → RowsL H' o ps' (innerOf rss b) → H o = none → (∀ p ∈ ps', H p = none) → Q (.ref o) H'
section
variable {X : Cx}
theorem pi_listK {K : PySem.W.Frag} {tg e : Expr} {te : TE} (h : PE X e te) (hK : X.K = K := by rfl) : PI X tg e (iList K te) := by
  subst hK
  exact pi_list h
end
section
variable {P : Program} {w : World} {K : PySem.W.Frag} {mg : Str → Option Value} {base : Heap} {C : Nat → Addr}
abbrev scWithinN : List Str := ["rows", "block", "places", "place", "bay", "near"]
abbrev scWithinS : Scope := defScope sWithin
theorem scWithin : FnScope ["rows", "block", "places", "place", "bay", "near"] ["rows", "block"] (defScope sWithin) := ⟨rfl, rfl, rfl, by decide +kernel, rfl, by decide +kernel, by decide +kernel⟩
theorem ok_within {f : Addr} {fd : FuncData} (F : FnP K "rows_within" sWithin f fd) (he : mg "enumerate" = none) : FnOk P w K mg base CX0 1 f fd ["rows", "block"] (spWithin K) := by
  refine ok0 F scWithin (fun vs H Q E h => ?_) (fun cdv A outer s H vs Q E hr h => ?_)
  · obtain ⟨l, t, ps, rss, b, rfl, _⟩ := h
    rfl
  · obtain ⟨l, t, ps, rss, b, rfl, R, ht, nd, hin, hbl, hrl, q⟩ := h
    have hu := hu_of hr
    refine ⟨_, pss_cons (ps_set (i := 2) scWithin.nd rfl (Or.inr rfl) (pe_dc (own := [("place", 3), ("bay", 4)]) (g := gTup K 2 (gCons (gName 3) (gCons (gName 4) gNil))) (by rfl) scWithin.nd (pi_et (by rfl) he (pa_cons (pv 1) pa_nil)) (blkOk_by (own := [("place", 3), ("bay", 4)]) (N := scWithinN) (sc := scWithinS) (by decide +kernel))
        (fun _ _ _ _ _ => pg_tup (by rfl) (pgs_cons (pg_name (i := 3) scWithin.nd rfl (Or.inl rfl)) (pgs_cons (pg_name (i := 4) scWithin.nd rfl (Or.inl rfl)) pgs_nil))) (fun _ _ _ _ _ => pts_nil) (fun _ _ _ _ _ => pv 4) (fun _ _ _ _ _ => pv 3)))
      (pss_one (ps_ret (pe_lc (own := [("bay", 4)]) (g := gName 4) (by rfl) scWithin.nd (pi_tup (pv 1)) (blkOk_by (own := [("bay", 4)]) (N := scWithinN) (sc := scWithinS) (by decide +kernel)) (fun _ _ _ _ _ => pg_name (i := 4) scWithin.nd rfl (Or.inl rfl)) (fun _ _ _ _ _ => pts_nil)
        (fun _ _ _ _ _ => pe_lc (own := [("near", 5)]) (g := gName 5) (by rfl) scWithin.nd (pi_listK (K := K) (pe_ix (ix_listK (K := K)) (pv 0) (pv 4) (fun _ _ => rfl))) (blkOk_by (own := [("near", 5)]) (N := scWithinN) (sc := scOut) (by decide +kernel)) (fun _ _ _ _ _ => pg_name (i := 5) scWithin.nd rfl (Or.inl rfl))
          (fun _ _ _ _ _ => pts_one (pt_cmp (pc_din hu (pv 5) (pv 2)))) (fun _ _ _ _ _ => pe_dget hu (pv 2) (pv 5) (fun _ _ => rfl)))))), ?_⟩
    -- places
    have lb : (b.map V.int).length = b.length := List.length_map _
    refine ⟨_, rfl, t, _, rfl, ht, fun D hD => dc_it walk_et (fun i H' => Same H H' ∧ H' D = some (.dK (plK b i))) ⟨same_upd hD, upd_same⟩ (fun i H' _ ⟨S, _⟩ => sqT_same S ht) ?_ ?_⟩
    · rintro i x H1 H2 hi ⟨S, hd⟩ ⟨T, y1, y2, rfl, nT, rfl, hx, hy⟩
      cases hx
      rw [lb] at hi
      have ST : Same H1 (upd H1 T (.tup [V.int (i : Nat), y2])) := same_upd nT
      have hT : (upd H1 T (.tup [V.int (i : Nat), y2])) T = some (.tup [V.int (i : Nat), y2]) := upd_same
      generalize upd H1 T (.tup [V.int (i : Nat), y2]) = H2 at ST hT
      have hd2 := ST _ _ hd
      have S2 : Same H H2 := S.trans ST
      obtain ⟨z, hz, rfl⟩ := getMap (show (b.map V.int)[i]? = some y2 from hy)
      have ez : b.getD i 0 = z := by
        rw [List.getD_eq_getElem?_getD, hz]
        rfl
      have lp : (plK b i).length = i := by
        unfold plK
        rw [List.length_map, List.length_range]
      refine ⟨T, _, rfl, .inl (.inl hT), rfl, _, _, rfl, _, _, rfl, rfl, rfl, _, rfl, _, rfl, _, .inl z, rfl, hd2, by rw [lp]; unfold sizeLine; omega, fun c o hc => ?_, ?_⟩
      · rw [upd_ne (ne_of_none hc hD)]
        exact S2 _ _ hc
      · rw [upd_same, ← ez, plK_put nd hi]
    rintro H1 ⟨S1, hd1⟩
    rw [lb] at hd1
    -- the rows
    refine ⟨_, rfl, t, rfl, ⟨_, sqT_same S1 ht⟩, fun D2 hD2 => lc_tup (K := K) (a := t) (xs := b.map V.int) (fun i H' => Same H1 H' ∧ ∃ qs, RowsL H' D2 qs ((b.take i).map (inRow rss b)) ∧ ∀ p ∈ qs, H1 p = none) ⟨same_upd hD2, [], ⟨upd_same, rfl, List.nodup_nil, (fun z => by cases z), (fun i p e => by simp at e)⟩, (fun p hp => by cases hp)⟩ (fun i H' _ ⟨S, _⟩ => sqT_same (S1.trans S) ht) ?_ ?_⟩
    · rintro i y H2 hi ⟨S2, qs, R2, nq⟩
      obtain ⟨v, hv, rfl⟩ := getMap hi
      obtain ⟨v0, v1⟩ := hin v (List.mem_of_getElem? hv)
      have S12 := S1.trans S2
      obtain ⟨p, gp, xp⟩ := R.get v0 v1
      have rp := R.row _ _ gp
      have hd2 := S2 _ _ hd1
      have val : ∀ z, valV (plK b b.length) (Sum.inl z) = if z ∈ b then some (.int (b.idxOf z : Nat)) else none := fun z => by
        have := plK_val nd b.length (Nat.le_refl _) z
        rw [List.take_length] at this
        exact this
      refine ⟨rfl, _, rfl, _, rfl, l, _, _, _, rfl, rfl, SqL.of (S12 _ _ R.at_), xp, p, rfl, ⟨_, SqL.of (S12 _ _ rp)⟩, fun D3 hD3 => lc_list (K := K) (a := p) (xs := (rss.getD v.toNat []).map V.int) (fun j H' => Same H2 H' ∧ H' D3 = some (.lst (((((rss.getD v.toNat []).take j).filter fun z => decide (z ∈ b)).map fun z => ((b.idxOf z : Nat) : Int)).map V.int))) ⟨same_upd hD3, by rw [upd_same, List.take_zero]; rfl⟩ (fun j H' _ ⟨S, _⟩ => SqL.of (S _ _ (S12 _ _ rp))) ?_ ?_⟩
      · rintro j z H3 hj ⟨S3, h3⟩
        obtain ⟨o, ho, rfl⟩ := getMap hj
        have hd3 := S3 _ _ hd2
        have fm := filter_more (p := fun z => decide (z ∈ b)) ho
        refine ⟨rfl, _, rfl, _, rfl, D, _, rfl, DGet.k (k := Sum.inl o) hd3, _, rfl, ?_⟩
        rw [val]
        by_cases hob : o ∈ b
        · rw [if_pos hob]
          rw [if_pos (decide_eq_true hob)] at fm
          refine iteD rfl ⟨_, rfl, _, rfl, D, .int (b.idxOf o : Nat), rfl, ?_, _, h3, ?_, fun c u hc => by rw [upd_ne (ne_of_none hc hD3)]; exact S3 _ _ hc, ?_⟩
          · have g := DGet.k (k := Sum.inl o) hd3
            rw [val, if_pos hob] at g
            exact g
          · rw [List.length_map, List.length_map]
            have h1 := List.length_filter_le (fun z => decide (z ∈ b)) ((rss.getD v.toNat []).take j)
            rw [List.length_take] at h1
            have h2 := hrl v.toNat
            unfold sizeLine
            omega
          · rw [upd_same, fm, List.map_append, List.map_append]
            rfl
        · rw [if_neg hob]
          rw [if_neg (by rw [decide_eq_false hob]; exact Bool.false_ne_true), List.append_nil] at fm
          exact iteC rfl ⟨S3, by rw [h3, fm]⟩
      rintro H3 ⟨S3, h3⟩
      rw [List.length_map, List.take_length] at h3
      have h3 : H3 D3 = some (.lst ((inRow rss b v).map V.int)) := h3
      have R3 := R2.same S3
      have lq : qs.length = i := by
        rw [R2.len, List.length_map, List.length_take]
        have := (List.getElem?_eq_some_iff.mp hv).1
        omega
      have nD23 : D3 ≠ D2 := (ne_of_none R2.at_ hD3).symm
      have n3q : D3 ∉ qs := fun z => by
        obtain ⟨k, hk⟩ := List.mem_iff_getElem?.mp z
        have := R2.row k D3 hk
        rw [hD3] at this
        cases this
      refine ⟨_, R3.at_, ?_, fun c o hc => by rw [upd_ne (ne_of_none hc hD2)]; exact S3 _ _ (S2 _ _ hc), qs ++ [D3], ⟨by rw [upd_same, List.map_append]; rfl, ?_, ?_, ?_, fun k p' hp' => ?_⟩, fun p' hp' => ?_⟩
      · rw [List.length_map, lq]
        have := (List.getElem?_eq_some_iff.mp hv).1
        unfold sizeLine
        omega
      · rw [take_more hv, List.map_append, List.length_append, List.length_append, R2.len]
        rfl
      · exact List.nodup_append.mpr ⟨R2.nd, List.nodup_cons.mpr ⟨(fun z => by cases z), List.nodup_nil⟩, fun x hx y hy e => n3q (by rw [← List.mem_singleton.mp hy, ← e]; exact hx)⟩
      · intro z
        rcases List.mem_append.mp z with z | z
        · exact R2.out z
        · exact nD23 (List.mem_singleton.mp z).symm
      · rw [take_more hv, List.map_append]
        have lm : ((b.take i).map (inRow rss b)).length = i := by rw [← R2.len, lq]
        rcases Nat.lt_or_ge k qs.length with hk | hk
        · rw [List.getElem?_append_left hk] at hp'
          have np : p' ≠ D2 := fun e => R2.out (e ▸ List.mem_of_getElem? hp')
          rw [upd_ne np, R3.row k p' hp', List.getD_eq_getElem?_getD, List.getD_eq_getElem?_getD, List.getElem?_append_left (by omega)]
        · rw [List.getElem?_append_right hk] at hp'
          have hk0 : k - qs.length = 0 := by
            have := (List.getElem?_eq_some_iff.mp hp').1
            rw [List.length_singleton] at this
            omega
          rw [hk0] at hp'
          cases hp'
          rw [upd_ne nD23, h3, List.getD_eq_getElem?_getD, List.getElem?_append_right (by omega), show k - ((b.take i).map (inRow rss b)).length = 0 by omega]
          rfl
      · rcases List.mem_append.mp hp' with z | z
        · exact nq p' z
        · rw [List.mem_singleton.mp z]
          exact S2.free hD3
    rintro H2 ⟨S2, qs, R2, nq⟩
    rw [lb, List.take_length] at R2
    exact q D2 qs H2 (S1.trans S2) R2 (S1.free hD2) fun p hp => S1.free (nq p hp)
end
end Sb

/-! ## ZN32 -/
/-! What the law tells of webs: near, far, path, sides. -/
namespace Sb
open PySem PySem.Spec PyProof.Rows L2
abbrev sNear : Stmt := top 32
/-! ### a list of ints against the empty one -/
theorem lay_ints : ∀ l : List Int, PyData.canLayAll0 (l.map PyData.int) = true ∧ PyData.depthAll (l.map PyData.int) ≤ 1
  | [] => ⟨by simp [PyData.canLayAll0], by simp [PyData.depthAll]⟩
  | x :: l => by
    obtain ⟨h1, h2⟩ := lay_ints l
    refine ⟨by simp [PyData.canLayAll0, PyData.canLay0, h1], ?_⟩
    simp only [List.map_cons, PyData.depthAll, PyData.depth]
    omega
theorem shaped_ints (l : List Int) : SeqAt.shaped (.list (l.map PyData.int)) = true := by
  obtain ⟨h1, h2⟩ := lay_ints l
  unfold SeqAt.shaped
  rw [Bool.and_eq_true]
  refine ⟨by simpa [PyData.canLay0] using h1, decide_eq_true ?_⟩
  simp only [PyData.depth]
  omega
theorem dp_ints {K : PySem.W.Frag} {H : Hp} : ∀ l : List Int, DpAll K H (l.map V.int) (l.map PyData.int)
  | [] => .nil
  | x :: l => .cons (.int x) (dp_ints l)
theorem eqv_nil : ∀ l : List Int, PyData.eqv (.list (l.map PyData.int)) (.list []) = l.isEmpty
  | [] => by simp [PyData.eqv, PyData.eqvAll]
  | x :: l => by simp [PyData.eqv, PyData.eqvAll]
def rNeE (K : PySem.W.Frag) : R2 := fun x y H Q => ∃ (l e : Addr) (xs : List Int), x = .ref l ∧ y = .ref e ∧ SqL K H l (xs.map V.int) ∧ SqL K H e [] ∧ Q (.bl (!xs.isEmpty)) H
theorem op_neE {X : Cx} (hu : X.A.units + 64 < cLine) : OpR X (compareOp .NotEq) (rNeE X.K) := OpR.weak (op_neD hu) fun _ _ _ _ ⟨l, e, xs, a, b, hl, he, q⟩ => ⟨.list (xs.map PyData.int), .list [], by rw [a]; exact .lst hl (dp_ints xs), by rw [b]; exact .lst he .nil, shaped_ints xs, rfl, by rw [eqv_nil]; exact q⟩
def spNear (K : PySem.W.Frag) : Sp := fun vs H Q _ => ∃ (t : Addr) (ts : List (Int × Int)) (k : Int), vs = [.ref t, .int k] ∧ Ties K H t ts ∧ ts.length ≤ 100000 ∧ ∀ (out : List Int) (p : Addr) (H' : Hp), out.Perm (nearA k ts ++ nearB k ts) → out.Pairwise (· ≤ ·) → Same H H' → H p = none → H' p = some (.lst (out.map V.int)) → Q (.ref p) H'
structure NearTxt (mg : Str → Option Value) : Prop where
  sorted : mg "sorted" = none
  int : mg "int" = none
  min : mg "min" = none
  tuple : mg "tuple" = none
  range : mg "range" = none
theorem fm_more {α β : Type} {f : α → Option β} {l : List α} {i : Nat} {x : α} (h : l[i]? = some x) : (l.take (i + 1)).filterMap f = (l.take i).filterMap f ++ (f x).toList := by
  rw [take_more h, List.filterMap_append]
  congr 1
theorem fm_len {α β : Type} (f : α → Option β) (l : List α) (i : Nat) : ((l.take i).filterMap f).length ≤ l.length := by
  refine Nat.le_trans (List.length_filterMap_le _ _) ?_
  rw [List.length_take]
  omega
section
variable {P : Program} {w : World} {K : PySem.W.Frag} {mg : Str → Option Value} {base : Heap}
abbrev scNearN : List Str := ["ties", "bay", "a", "b"]
abbrev scNearS : Scope := defScope sNear
theorem scNear : FnScope ["ties", "bay", "a", "b"] ["ties", "bay"] (defScope sNear) := ⟨rfl, rfl, rfl, by decide +kernel, rfl, by decide +kernel, by decide +kernel⟩
theorem ok_near {f : Addr} {fd : FuncData} (F : FnP K "_law_near" sNear f fd) (T : NearTxt mg) : FnOk P w K mg base CX0 1 f fd ["ties", "bay"] (spNear K) := by
  refine ok0 F scNear (fun vs H Q E h => ?_) (fun cdv A outer s H vs Q E hr h => ?_)
  · obtain ⟨t, ts, k, rfl, _⟩ := h
    rfl
  · obtain ⟨t, ts, k, rfl, ⟨qs, hq1, hq2, hq3⟩, hl, q⟩ := h
    refine ⟨_, (pss_one (ps_ret (pe_callB (id := "sorted") cr_sortedI (by rfl) T.sorted (by decide +kernel) (pa_cons (pe_op op_catL (pe_lc (own := [("a", 2), ("b", 3)]) (g := gTup K 2 (gCons (gName 2) (gCons (gName 3) gNil))) (by rfl) scNear.nd (pi_tup (pv 0)) (blkOk_by (own := [("a", 2), ("b", 3)]) (N := scNearN) (sc := scNearS) (by decide +kernel)) (fun _ _ _ _ _ => pg_tup (by rfl) (pgs_cons (pg_name (i := 2) scNear.nd rfl (Or.inl rfl)) (pgs_cons (pg_name (i := 3) scNear.nd rfl (Or.inl rfl)) pgs_nil))) (fun _ _ _ _ _ => pts_one (pt_cmpR op_eq (pv 3) (pv 1) (nomark _))) (fun _ _ _ _ _ => (pv 2))) (pe_lc (own := [("a", 2), ("b", 3)]) (g := gTup K 2 (gCons (gName 2) (gCons (gName 3) gNil))) (by rfl) scNear.nd (pi_tup (pv 0)) (blkOk_by (own := [("a", 2), ("b", 3)]) (N := scNearN) (sc := scNearS) (by decide +kernel)) (fun _ _ _ _ _ => pg_tup (by rfl) (pgs_cons (pg_name (i := 2) scNear.nd rfl (Or.inl rfl)) (pgs_cons (pg_name (i := 3) scNear.nd rfl (Or.inl rfl)) pgs_nil))) (fun _ _ _ _ _ => pts_one (pt_cmpR op_eq (pv 2) (pv 1) (nomark _))) (fun _ _ _ _ _ => (pv 3)))) pa_nil)))), ?_⟩
    have step : ∀ (sel : Int → Int → Option Int) (H0 : Hp) (D : Addr), Same H H0 → H0 D = none → True := fun _ _ _ _ _ => trivial
    refine ⟨_, rfl, t, rfl, ⟨_, hq1⟩, fun D hD => lc_tup (K := K) (a := t) (xs := qs.map V.ref) (fun i H' => Same H H' ∧ H' D = some (.lst ((nearA k (ts.take i)).map V.int))) ⟨same_upd hD, by rw [upd_same, List.take_zero]; rfl⟩ (fun i H' _ ⟨S, _⟩ => sqT_same S hq1) ?_ ?_⟩
    · rintro i y H1 hi ⟨S1, h1⟩
      obtain ⟨qa, hqa, rfl⟩ := getMapR hi
      have hit : i < ts.length := by rw [← hq2]; exact (List.getElem?_eq_some_iff.mp hqa).1
      obtain ⟨a, b, hab⟩ : ∃ a b, ts[i]? = some (a, b) := ⟨(ts[i]).1, (ts[i]).2, List.getElem?_eq_getElem hit⟩
      have hqt := sqT_same S1 (hq3 i qa a b hqa hab)
      have sz := fm_len (fun t : Int × Int => if t.2 = k then some t.1 else none) ts i
      refine ⟨qa, _, rfl, hqt, rfl, _, _, rfl, _, _, rfl, rfl, rfl, _, rfl, _, rfl, rfl, _, rfl, ite2 (fun hc => ?_) (fun hc => ⟨S1, ?_⟩)⟩
      · have hc : b = k := V.int.inj (of_decide_eq_true hc)
        refine ⟨_, rfl, _, h1, ?_, fun c o hc2 => by rw [upd_ne (ne_of_none hc2 hD)]; exact S1 _ _ hc2, ?_⟩
        · rw [List.length_map, sizeLine_eq]
          unfold nearA
          omega
        · rw [upd_same]
          unfold nearA
          rw [fm_more hab, if_pos hc, List.map_append]
          rfl
      · have hc : ¬ b = k := fun z => hc (decide_eq_true (congrArg V.int z))
        rw [h1]
        unfold nearA
        rw [fm_more hab, if_neg hc]
        exact congrArg (fun z => some (HO.lst (List.map V.int z))) (List.append_nil _).symm
    rintro H1 ⟨S1, h1⟩
    rw [List.length_map, hq2, List.take_length] at h1
    refine ⟨_, rfl, t, rfl, ⟨_, sqT_same S1 hq1⟩, fun D2 hD2 => lc_tup (K := K) (a := t) (xs := qs.map V.ref) (fun i H' => Same H1 H' ∧ H' D2 = some (.lst ((nearB k (ts.take i)).map V.int))) ⟨same_upd hD2, by rw [upd_same, List.take_zero]; rfl⟩ (fun i H' _ ⟨S, _⟩ => sqT_same (S1.trans S) hq1) ?_ ?_⟩
    · rintro i y H2 hi ⟨S2, h2⟩
      obtain ⟨qa, hqa, rfl⟩ := getMapR hi
      have hit : i < ts.length := by rw [← hq2]; exact (List.getElem?_eq_some_iff.mp hqa).1
      obtain ⟨a, b, hab⟩ : ∃ a b, ts[i]? = some (a, b) := ⟨(ts[i]).1, (ts[i]).2, List.getElem?_eq_getElem hit⟩
      have hqt := sqT_same (S1.trans S2) (hq3 i qa a b hqa hab)
      have sz := fm_len (fun t : Int × Int => if t.1 = k then some t.2 else none) ts i
      refine ⟨qa, _, rfl, hqt, rfl, _, _, rfl, _, _, rfl, rfl, rfl, _, rfl, _, rfl, rfl, _, rfl, ite2 (fun hc => ?_) (fun hc => ⟨S2, ?_⟩)⟩
      · have hc : a = k := V.int.inj (of_decide_eq_true hc)
        refine ⟨_, rfl, _, h2, ?_, fun c o hc2 => by rw [upd_ne (ne_of_none hc2 hD2)]; exact S2 _ _ hc2, ?_⟩
        · rw [List.length_map, sizeLine_eq]
          unfold nearB
          omega
        · rw [upd_same]
          unfold nearB
          rw [fm_more hab, if_pos hc, List.map_append]
          rfl
      · have hc : ¬ a = k := fun z => hc (decide_eq_true (congrArg V.int z))
        rw [h2]
        unfold nearB
        rw [fm_more hab, if_neg hc]
        exact congrArg (fun z => some (HO.lst (List.map V.int z))) (List.append_nil _).symm
    rintro H2 ⟨S2, h2⟩
    rw [List.length_map, hq2, List.take_length] at h2
    have z1 : (nearA k ts).length ≤ ts.length := List.length_filterMap_le _ _
    have z2 : (nearB k ts).length ≤ ts.length := List.length_filterMap_le _ _
    refine ⟨D, D2, _, _, rfl, rfl, S2 _ _ h1, h2, by rw [List.length_map, List.length_map, sizeLine_eq]; omega, fun L H3 n3 S3 h3 => ?_⟩
    refine ⟨L, nearA k ts ++ nearB k ts, rfl, SqL.of (by rw [h3, List.map_append]), fun out p hp hs np => q out p _ hp hs (((S1.trans S2).trans S3).trans (same_upd np)) (((S1.trans S2).trans S3).free np) upd_same⟩
/-! ### how far -/
end
end Sb

/-! ## SV32 -/
/-! ways_of_seven of any rows. -/
namespace Sb
open PySem PySem.Spec PyProof.Rows L2
open PySem.W (EachIs)
abbrev sSeven : Stmt := top 24
abbrev sForks : Stmt := top 25
/-- rows that are alike both ways -/
structure Gph (rss : List (List Int)) : Prop where
  rin : RowsIn rss.length rss
  sym : ∀ v z : Int, Bay rss.length v → z ∈ gR rss v → v ∈ gR rss z
  nd : ∀ v : Int, (gR rss v).Nodup
  short : ∀ v : Int, (gR rss v).length < 64
  few : rss.length < 64
def forksOf (rss : List (List Int)) (m : Nat) : List Int := ((List.range m).map fun i => (0 : Int) + (i : Nat)).filter fun v => decide (2 < (gR rss v).length)
/-- how many bays a way has up to a fork -/
def PassIs (rss : List (List Int)) (fork : Int) (k near : Int) : Prop := ∃ (e : Int × Int) (es : List (Int × Int)), Orb (gR rss) (fork, near) (e :: es) ∧ (gR rss e.2).length ≠ 2 ∧ k = (es.length : Int)
structure SevenP (rss : List (List Int)) (c : Bool) : Prop where
  no : rss.length ≠ 7 ∨ (rss.map List.length).sum ≠ 16 → c = false
  yes : rss.length = 7 → (rss.map List.length).sum = 16 → ∃ f ks, Bay rss.length f ∧ 2 < (gR rss f).length ∧ EachIs (PassIs rss f) ks (gR rss f) ∧ (c = true ↔ ks.Perm [1, 2, 2])
theorem sum_leC {c : Nat} : ∀ {l : List Nat}, (∀ x ∈ l, x ≤ c) → l.sum ≤ l.length * c
  | [], _ => by simp
  | x :: l, h => by
    have h1 := h x List.mem_cons_self
    have h2 := sum_leC (l := l) fun y hy => h y (List.mem_cons_of_mem _ hy)
    rw [List.sum_cons, List.length_cons, Nat.add_mul]
    omega
theorem fork_ex {rss : List (List Int)} (h7 : rss.length = 7) (h : (rss.map List.length).sum = 16) : ∃ f fs, forksOf rss rss.length = f :: fs ∧ Bay rss.length f ∧ 2 < (gR rss f).length := by
  have ex : ∃ r ∈ rss, 2 < r.length := by
    refine Classical.byContradiction fun no => ?_
    have := sum_leC (c := 2) (l := rss.map List.length) fun x hx => by
      obtain ⟨r, hr, rfl⟩ := List.mem_map.mp hx
      exact Nat.le_of_not_lt fun z => no ⟨r, hr, z⟩
    rw [h, List.length_map, h7] at this
    omega
  obtain ⟨r, hr, lr⟩ := ex
  obtain ⟨i, hi⟩ := List.mem_iff_getElem?.mp hr
  have hil := (List.getElem?_eq_some_iff.mp hi).1
  have hm : ((0 : Int) + (i : Nat)) ∈ forksOf rss rss.length := List.mem_filter.mpr ⟨List.mem_map.mpr ⟨i, List.mem_range.mpr hil, rfl⟩, decide_eq_true (by
    show 2 < (rss.getD ((0 : Int) + (i : Nat)).toNat []).length
    rw [show ((0 : Int) + (i : Nat)).toNat = i by omega, List.getD_eq_getElem?_getD, hi]
    exact lr)⟩
  cases e : forksOf rss rss.length with
  | nil =>
    rw [e] at hm
    cases hm
  | cons f fs =>
    have hf : f ∈ forksOf rss rss.length := by rw [e]; exact List.mem_cons_self
    obtain ⟨h1, h2⟩ := List.mem_filter.mp hf
    obtain ⟨j, hj, rfl⟩ := List.mem_map.mp h1
    have := List.mem_range.mp hj
    exact ⟨_, fs, rfl, ⟨by omega, by omega⟩, of_decide_eq_true h2⟩
theorem forks_more {rss : List (List Int)} {m : Nat} : forksOf rss (m + 1) = forksOf rss m ++ (if 2 < (gR rss ((0 : Int) + (m : Nat))).length then [(0 : Int) + (m : Nat)] else []) := by
  unfold forksOf
  rw [List.range_succ, List.map_append, List.filter_append, List.map_singleton]
  congr 1
  by_cases h : 2 < (gR rss ((0 : Int) + (m : Nat))).length
  · rw [if_pos h]
    exact List.filter_cons_of_pos (p := fun v : Int => decide (2 < (gR rss v).length)) (decide_eq_true h)
  · rw [if_neg h]
    exact List.filter_cons_of_neg (p := fun v : Int => decide (2 < (gR rss v).length)) (by rw [decide_eq_false h]; exact Bool.false_ne_true)
def spSeven : Sp := fun vs H Q _ => ∃ (l : Addr) (ps : List Addr) (rss : List (List Int)), vs = [.ref l] ∧ RowsL H l ps rss ∧ Gph rss ∧ ∀ c H', Same H H' → SevenP rss c → Q (.bl c) H'
structure SevTxt (mg : Str → Option Value) : Prop where
  len : mg "len" = none
  range : mg "range" = none
  sum : mg "sum" = none
  sorted : mg "sorted" = none
theorem call_lenK {X : Cx} {K : PySem.W.Frag} (hK : X.K = K := by rfl) : CallR X (.builtin "len") (fun xs H Q => ∃ (p : Addr) (ys : List V), xs = [V.ref p] ∧ (SqL K H p ys ∨ SqT K H p ys) ∧ Q (.int ys.length) H) := by
  subst hK
  exact call_len_seq
def spForks : Sp := fun vs H Q _ => ∃ (l : Addr) (ps : List Addr) (rss : List (List Int)), vs = [.ref l] ∧ RowsL H l ps rss ∧ rss.length < 64 ∧ ∀ D H', Same H H' → H D = none → H' D = some (.lst ((forksOf rss rss.length).map V.int)) → Q (.ref D) H'
section
variable {P : Program} {w : World} {K : PySem.W.Frag} {mg : Str → Option Value} {base : Heap}
abbrev scForksN : List Str := ["inner", "bay"]
abbrev scForksS : Scope := defScope sForks
theorem scForks : FnScope ["inner", "bay"] ["inner"] (defScope sForks) := ⟨rfl, rfl, rfl, by decide +kernel, rfl, by decide +kernel, by decide +kernel⟩
theorem ok_forks {f : Addr} {fd : FuncData} (F : FnP K "forks_of" sForks f fd) (T : SevTxt mg) : FnOk P w K mg base CX0 1 f fd ["inner"] spForks := by
  refine ok0 F scForks (fun vs H Q E h => ?_) (fun cdv A outer s H vs Q E hr h => ?_)
  · obtain ⟨l, ps, rss, rfl, _⟩ := h
    rfl
  · obtain ⟨l, ps, rss, rfl, R, lf, q⟩ := h
    refine ⟨_, (pss_one (ps_ret (pe_lc (own := [("bay", 1)]) (g := gName 1) (by rfl) scForks.nd (pi_range1 (by rfl) T.range (pa_cons (pe_callB (id := "len") call_len_seq (by rfl) T.len (by decide +kernel) (pa_cons (pv 0) pa_nil)) pa_nil)) (blkOk_by (own := [("bay", 1)]) (N := scForksN) (sc := scForksS) (by decide +kernel)) (fun _ _ _ _ _ => pg_name (i := 1) scForks.nd rfl (Or.inl rfl)) (fun _ _ _ _ _ => pts_one (pt_cmpR op_gt (pe_callB (id := "len") (call_lenK (K := K)) (by rfl) T.len (by decide +kernel) (pa_cons (pe_ix (ix_listK (K := K)) (pv 0) (pv 1) (fun _ _ => rfl)) pa_nil)) pe_int (nomark _))) (fun _ _ _ _ _ => (pv 1))))), ?_⟩
    have lp : ps.length = rss.length := R.len
    refine ⟨_, rfl, l, _, rfl, .inl (SqL.of R.at_), _, rfl, by omega, by rw [List.length_map, lp]; omega, fun Fk hFk => ?_⟩
    rw [List.length_map, lp]
    refine lc_range (lo := 0) (n := rss.length) (fun j H1 => Same H H1 ∧ H1 Fk = some (.lst ((forksOf rss j).map V.int))) ⟨same_upd hFk, upd_same⟩ ?_ ?_
    · rintro j H1 hj ⟨S1, h1⟩
      obtain ⟨p, gp, xp⟩ := R.get (i := 0 + (j : Nat)) (by omega) (by omega)
      have rp := S1 _ _ (R.row _ _ gp)
      have fl : (forksOf rss j).length ≤ j := by
        unfold forksOf
        refine Nat.le_trans (List.length_filter_le _ _) ?_
        rw [List.length_map, List.length_range]
        exact Nat.le_refl _
      have dd : ((((rss.getD ((0 : Int) + (j : Nat)).toNat []).map V.int).length : Nat) : Int) = ((gR rss ((0 : Int) + (j : Nat))).length : Nat) := by
        rw [List.length_map]
      refine ⟨rfl, _, rfl, _, rfl, l, _, _, _, rfl, rfl, SqL.of (S1 _ _ R.at_), xp, p, _, rfl, .inl (SqL.of rp), _, _, rfl, rfl, _, rfl, ite2 (fun hc => ?_) (fun hc => ?_)⟩
      · have hc : 2 < (gR rss ((0 : Int) + (j : Nat))).length := by
          have z := of_decide_eq_true hc
          rw [dd] at z
          omega
        refine ⟨_, rfl, _, h1, ?_, fun b o hb => by rw [upd_ne (ne_of_none hb hFk)]; exact S1 _ _ hb, ?_⟩
        · rw [List.length_map]
          unfold sizeLine
          omega
        · rw [upd_same, forks_more, if_pos hc, List.map_append]
          rfl
      · have hc : ¬ 2 < (gR rss ((0 : Int) + (j : Nat))).length := fun z => hc (decide_eq_true (by rw [dd]; omega))
        exact ⟨S1, by rw [h1, forks_more, if_neg hc, List.append_nil]⟩
    rintro H1 ⟨S1, h1⟩
    exact q Fk H1 S1 hFk h1
end
section
variable {P : Program} {w : World} {K : PySem.W.Frag} {mg : Str → Option Value} {base : Heap}
abbrev scSevenN : List Str := ["inner", "forks", "passed", "row", "near"]
abbrev scSevenS : Scope := defScope sSeven
theorem scSeven : FnScope ["inner", "forks", "passed", "row", "near"] ["inner"] (defScope sSeven) := ⟨rfl, rfl, rfl, by decide +kernel, rfl, by decide +kernel, by decide +kernel⟩
theorem ok_seven {f fP fK : Addr} {fd fdP fdK : FuncData} (F : FnP K "ways_of_seven" sSeven f fd) (T : SevTxt mg) (FK : FnP K "forks_of" sForks fK fdK) (gK : mg "forks_of" = some (.ref fK)) (FP : FnP K "bays_passed" sPassed fP fdP) (gP : mg "bays_passed" = some (.ref fP)) (GP : FnOk P w K mg base CX0 1 fP fdP ["inner", "fork", "near"] spPassed) : FnOk P w K mg base CX0 2 f fd ["inner"] spSeven := by
  have GK : FnOk P w K mg base CX0 1 fK fdK ["inner"] spForks := ok_forks FK T
  have bK : Binds K fdK ["inner"] [] := FK.bindsN fun _ _ _ _ _ _ us hl => match us, hl with | [_], _ => rfl
  have bP : Binds K fdP ["inner", "fork", "near"] [] := FP.bindsN fun _ _ _ _ _ _ us hl => match us, hl with | [_, _, _], _ => rfl
  refine ok0 F scSeven (fun vs H Q E h => ?_) (fun cdv A outer s H vs Q E hr h => ?_)
  · obtain ⟨l, ps, rss, rfl, _⟩ := h
    rfl
  · obtain ⟨l, ps, rss, rfl, R, G, q⟩ := h
    refine ⟨_, (pss_cons (ps_set (i := 1) scSeven.nd rfl (Or.inr rfl) (pe_call GK hr rfl gK FK.kp bK .nil pass0 (pa_cons (pv 0) pa_nil)))
    (pss_cons (ps_if (PW.pt (pw_or (pt_cmpR op_ne (pe_callB (id := "len") call_len_seq (by rfl) T.len (by decide +kernel) (pa_cons (pv 0) pa_nil)) pe_int (nomark _)) (pw_or1 (pt_cmpR op_ne (pe_callB (id := "sum") (cr_sum rfl) (by rfl) T.sum (by decide +kernel) (pa_cons (pe_lc (own := [("row", 3)]) (g := gName 3) (by rfl) scSeven.nd (pi_list (pv 0)) (blkOk_by (own := [("row", 3)]) (N := scSevenN) (sc := scSevenS) (by decide +kernel)) (fun _ _ _ _ _ => pg_name (i := 3) scSeven.nd rfl (Or.inl rfl)) (fun _ _ _ _ _ => pts_nil) (fun _ _ _ _ _ => (pe_callB (id := "len") (call_lenK (K := K)) (by rfl) T.len (by decide +kernel) (pa_cons (pv 3) pa_nil)))) pa_nil)) (pe_op op_mul pe_int pe_int) (nomark _)))))
      (pss_one (ps_ret pe_bl))
      pss_nil)
    (pss_cons (ps_setLc (i := 2) (own := [("near", 4)]) (g := gName 4) (by rfl) scSeven.nd rfl rfl (sw_true rfl rfl rfl (by decide +kernel)) (pi_list (pe_ix ix_list (pv 0) (pe_ix (ix_listK (K := K)) (pv 1) pe_int (fun _ _ => rfl)) (fun _ _ => rfl))) (blkOk_by (own := [("near", 4)]) (N := scSevenN) (sc := scSevenS) (by decide +kernel)) (fun _ _ _ _ _ => pg_name (i := 4) scSeven.nd rfl (Or.inl rfl)) (fun _ _ _ _ _ => pts_nil) (fun _ _ _ _ _ => (pe_callB (id := "len") (call_lenK (K := K)) (by rfl) T.len (by decide +kernel) (pa_cons (pe_call GP hr rfl gP FP.kp bP .nil pass0 (pa_cons (pv 0) (pa_cons (pe_ix (ix_listK (K := K)) (pv 1) pe_int (fun _ _ => rfl)) (pa_cons (pv 4) pa_nil)))) pa_nil))))
    (pss_one (ps_ret (pe_cmpR (op_eqD hr.units) (pe_callB (id := "sorted") cr_sorted (by rfl) T.sorted (by decide +kernel) (pa_cons (pv 2) pa_nil)) (pe_lstL (pa_cons pe_int (pa_cons pe_int (pa_cons pe_int pa_nil)))) (nomark _))))))), ?_⟩
    have lp : ps.length = rss.length := R.len
    have lf := G.few
    refine ⟨_, rfl, l, ps, rss, rfl, R, lf, fun Fk H1 S1 hFk h1 => ?_⟩
    have R1 := R.same S1
    have ll : (((ps.map V.ref).length : Nat) : Int) = (rss.length : Nat) := by rw [List.length_map, lp]
    refine ⟨_, rfl, l, _, rfl, .inl (SqL.of R1.at_), rfl, _, rfl, ?_⟩
    by_cases h7 : rss.length = 7
    rotate_left
    · refine iteD (by
        rw [decide_eq_false fun z => h7 (by
          have z := V.int.inj z
          rw [ll] at z
          omega)]
        rfl) (iteD rfl ?_)
      exact q false H1 S1 ⟨fun _ => rfl, fun z => absurd z h7⟩
    refine iteC (by
      rw [decide_eq_true (by rw [ll, h7]; rfl)]
      rfl) ?_
    have lpm : (ps.map V.ref).length = rss.length := by rw [List.length_map, lp]
    have rowAt : ∀ {i : Nat} {v : V}, (ps.map V.ref)[i]? = some v → ∃ p, v = .ref p ∧ H1 p = some (.lst ((rss.getD i []).map V.int)) ∧ rss[i]? = some (rss.getD i []) := fun {i v} hi => by
      obtain ⟨p, hp, rfl⟩ := getMapR hi
      have hil := (List.getElem?_eq_some_iff.mp hp).1
      refine ⟨p, rfl, R1.row i p hp, ?_⟩
      rw [List.getD_eq_getElem?_getD, List.getElem?_eq_getElem (by omega)]
      rfl
    refine ⟨_, rfl, l, rfl, ⟨_, SqL.of R1.at_⟩, fun D hD => lc_list (K := K) (a := l) (xs := ps.map V.ref) (fun i H2 => Same H1 H2 ∧ H2 D = some (.lst (((rss.take i).map fun r => ((r.length : Nat) : Int)).map V.int))) ⟨same_upd hD, by rw [upd_same, List.take_zero]; rfl⟩ (fun i H2 _ ⟨S, _⟩ => SqL.of (S _ _ R1.at_)) ?_ ?_⟩
    · rintro i y H2 hi ⟨S2, h2⟩
      obtain ⟨p, rfl, hp, hr2⟩ := rowAt hi
      refine ⟨rfl, _, rfl, p, _, rfl, .inl (SqL.of (S2 _ _ hp)), _, h2, ?_, fun b o hb => by rw [upd_ne (ne_of_none hb hD)]; exact S2 _ _ hb, ?_⟩
      · rw [List.length_map, List.length_map, List.length_take]
        unfold sizeLine
        omega
      · rw [upd_same, take_more hr2, List.map_append, List.map_append, List.length_map]
        rfl
    rintro H2 ⟨S2, h2⟩
    rw [lpm, List.take_length] at h2
    have esum : (rss.map fun r => ((r.length : Nat) : Int)).sum = (((rss.map List.length).sum : Nat) : Int) := by
      clear h2 q R R1 rowAt ll lpm lp lf G h1 h7
      induction rss with
      | nil => rfl
      | cons r l ih =>
        rw [List.map_cons, List.map_cons, List.sum_cons, List.sum_cons, ih]
        omega
    refine ⟨D, _, rfl, SqL.of h2, _, _, rfl, rfl, by unfold CMul; decide, rfl, _, rfl, ?_⟩
    rw [esum]
    have S02 := S1.trans S2
    by_cases h16 : (rss.map List.length).sum = 16
    rotate_left
    · refine iteD (by
        rw [decide_eq_false fun z => h16 (by
          have z := V.int.inj z
          omega)]
        rfl) ?_
      exact q false H2 S02 ⟨fun _ => rfl, fun _ z => absurd z h16⟩
    refine iteC (by
      rw [decide_eq_true (by rw [h16]; rfl)]
      rfl) ?_
    obtain ⟨f0, fs, ef, hf0, hf2⟩ := fork_ex h7 h16
    have hFk2 : H2 Fk = some (.lst ((f0 :: fs).map V.int)) := by rw [← ef]; exact S2 _ _ h1
    have R2 := R1.same S2
    obtain ⟨p, gp, xp⟩ := R2.get hf0.1 hf0.2
    have rp := R2.row _ _ gp
    refine ⟨_, rfl, _, rfl, Fk, _, _, .int f0, rfl, rfl, SqL.of hFk2, at_of (j := 0) rfl rfl, l, _, _, _, rfl, rfl, SqL.of R2.at_, xp, p, rfl, ⟨_, SqL.of rp⟩, fun D2 hD2 => lc_list (K := K) (a := p) (xs := (gR rss f0).map V.int) (fun i H3 => Same H2 H3 ∧ ∃ ks, H3 D2 = some (.lst (ks.map V.int)) ∧ EachIs (PassIs rss f0) ks ((gR rss f0).take i)) ⟨same_upd hD2, [], upd_same, by rw [List.take_zero]; exact .nil⟩ (fun i H3 _ ⟨S, _⟩ => SqL.of (S _ _ rp)) ?_ ?_⟩
    · rintro i y H3 hi ⟨S3, ks, h3, he⟩
      obtain ⟨z, hz, rfl⟩ := getMap hi
      have hF3 := S3 _ _ hFk2
      refine ⟨rfl, _, rfl, _, rfl, Fk, _, _, .int f0, rfl, rfl, SqL.of hF3, at_of (j := 0) rfl rfl, _, rfl, l, ps, rss, f0, z, rfl, R2.same S3, G.rin, G.sym, G.nd, fun v => Nat.le_of_lt (Nat.lt_trans (G.short v) (by decide)), lf, hf0, List.mem_of_getElem? hz, by omega, fun e es pq H4 S4 _ hpq orb h2e => ?_⟩
      refine ⟨pq, _, rfl, .inl (SqL.of hpq), ?_⟩
      rw [List.length_map, List.length_reverse, List.length_map]
      have hk4 := S4 _ _ h3
      have lk : ks.length = i := by
        rw [each_len he, List.length_take]
        have := (List.getElem?_eq_some_iff.mp hz).1
        omega
      have li := (List.getElem?_eq_some_iff.mp hz).1
      have lsh := G.short f0
      refine ⟨_, hk4, by rw [List.length_map, lk]; unfold sizeLine; omega, fun b o hb => by rw [upd_ne (ne_of_none hb hD2)]; exact S4 _ _ (S3 _ _ hb), ks ++ [(es.length : Int)], by rw [upd_same, List.map_append]; rfl, ?_⟩
      rw [take_more hz]
      exact each_snoc he ⟨e, es, orb, h2e, rfl⟩
    rintro H3 ⟨S3, ks, h3, he⟩
    rw [List.length_map, List.take_length] at he
    have lk : ks.length < 64 := by
      rw [each_len he]
      exact G.short f0
    refine ⟨_, rfl, D2, ks, rfl, SqL.of h3, lk, fun ns op hpm hps nop => ⟨by show 3 ≤ sizeLine; decide, fun E0 H4 n4 S4 h4 => ?_⟩⟩
    have hop := S4 _ _ (upd_same (H := H3) (a := op) (o := .lst (ns.map V.int)))
    refine ⟨.list (ns.map PyData.int), .list (([1, 2, 2] : List Int).map PyData.int), .lst (SqL.of hop) (dp_ints _), .lst (SqL.of (show H4 E0 = some (.lst (([1, 2, 2] : List Int).map V.int)) from h4)) (dp_ints _), shaped_ints _, shaped_ints _, ?_⟩
    have eq : PyData.eqv (.list (ns.map PyData.int)) (.list (([1, 2, 2] : List Int).map PyData.int)) = decide (ns = [1, 2, 2]) := by
      rw [← eqv_ints]
      simp only [PyData.eqv]
    rw [eq]
    refine q _ H4 (((S02.trans S3).trans (same_upd nop)).trans S4) ⟨fun z => ?_, fun _ _ => ⟨f0, ks, hf0, hf2, he, ?_⟩⟩
    · rcases z with z | z
      · exact absurd h7 z
      · exact absurd h16 z
    · rw [decide_eq_true_iff]
      constructor
      · intro e
        rw [← e]
        exact hpm.symm
      · intro h
        exact (hpm.trans h).eq_of_pairwise (fun a b _ _ h1 h2 => Int.le_antisymm h1 h2) hps (by decide)
end
end Sb

/-! ## M65 -/
/-! The least by a row of numbers: min(xs, key=lambda a: row[a]). -/
namespace Sb
open PySem PySem.Spec PyProof.Rows L2
section
variable {X : Cx}
/-- the frame's record may have been laid anew with the same names; all else stood -/
theorem inv_framed {pins : List (Addr × Obj)} {s : Shared} {σ : L2.St} {H : Hp} {h' : Heap} {m : Str → Option Value} {t' : Nat} (I : Inv X pins σ H s) (hm : s.heap.Ns X.env.locals m) (hm' : h'.Ns X.env.locals m) (k : ∀ b o, b ≠ X.env.locals → s.heap.get? b = some o → h'.get? b = some o) :
    Inv X pins σ H { s with heap := h', toks := t' } := by
  have ne : ∀ b u, H b = some u → b ≠ X.env.locals := fun b u e z => by
    rw [z, I.free] at e
    cases e
  refine I.step (g' := s.gens) (d' := s.drawn) (ch := []) (fun b hb => absurd hb (by simp)) (fun b o n _ _ e _ => k b o n e) (fun b o n _ _ e _ => ⟨o.slots, k b o n e⟩) (fun _ _ _ _ n => n) (fun b o _ e => ?_) (fun _ _ e => e) (fun _ _ _ e => e)
    (fun b ps e => ⟨#[], by simp [e]⟩) (fun m2 h2 => ?_) (fun b u e => ?_) I.bare
  · by_cases hb : b = X.env.locals
    · obtain ⟨o2, _, _, h2, _⟩ := hm'
      exact ⟨o2, by rw [hb]; exact h2⟩
    · exact ⟨o, k b o hb e⟩
  · rw [h2.eq_nsMap, ← hm.eq_nsMap]
    exact hm'
  · refine (I.hok b u e).stay (fun d v hd q => k d v ?_ q) (fun _ q => q) (fun _ _ q => q)
    rcases hd with z | z
    · rw [z]
      exact ne b u e
    · exact ne d _ z
/-- what is read of min(xs, key=lambda a: row[a]), row the i-th slot -/
def tMinBy (K : PySem.W.Frag) (T : List (Addr × Str)) (i : Nat) (te : TE) : TE := fun σ H Q => te σ H fun x H1 => ∃ (l d : Addr) (ns ds : List Int), x = .ref l ∧ σ[i]? = some (some (.ref d)) ∧ LamX.Tabs T H1 ∧ 0 < ns.length ∧ SqL K H1 l (ns.map V.int) ∧ SqL K H1 d (ds.map V.int) ∧
  (∀ n ∈ ns, 0 ≤ n ∧ n.toNat < ds.length) ∧ ds.length < 1000000 ∧ ∀ H2, LamX.ExtN H1 H2 → LamX.Tabs T H2 → ∀ M ∈ ns, (∀ b ∈ ns, ds.getD M.toNat 0 ≤ ds.getD b.toNat 0) → Q (.int M) H2
theorem sqL_ext {K : PySem.W.Frag} {H H' : Hp} {a : Addr} {xs : List V} (e : LamX.ExtN H H') (h : SqL K H a xs) : SqL K H' a xs := by
  rcases h with (h | ⟨o, h⟩) | h
  · exact .inl (.inl (e _ _ h (by intro ps z; cases z)))
  · exact .inl (.inr ⟨o, e _ _ h (by intro ps z; cases z)⟩)
  · exact .inr h
theorem pe_minBy {T : List (Addr × Str)} {e : Expr} {te : TE} {c P : Addr} {i k : Nat} {y a : Str} {params : Arguments} {scope : Scope} {p p1 p2 p3 lpos pos kpos : Pos}
    (hc : X.calm = true) (hg : Gl X "min") (hm : X.mg "min" = none) (he : PE X e te) (TB : LamX.TabB X.base X.mg c P) (hcode : X.env.code = .ref c) (hmT : (P, X.env.qual ++ "<lambda>") ∈ T) (hu : ∀ p ∈ T, p.1 = P → p.2 = X.env.qual ++ "<lambda>") (hr : Room (k + 2) X.A)
    (hN : X.N[i]? = some y) (hx : X.env.scope.names.lookup y = some .cell ∨ X.env.scope.names.lookup y = some .free) (hy : scope.names.lookup y = some .free) (ha : scope.names.lookup a = some .local)
    (hk : scope.kind = .function) (hco : scope.isCoroutine = false) (hgen : scope.isGenerator = false) (hcell : ∀ z ∈ scope.names, z.2 ≠ .cell) (hfree : ∀ z ∈ scope.names, z.2 = .free → z.1 = y)
    (hdef : defaultsOf params X.env = ([], []))
    (hbind : ∀ (q : Str) (cl : List (Str × Addr)) (pm cv ctv v : Value), bindArgs (PySem.W.kla_fn "<lambda>" q params (.Subscript (.Name y p1) (.Name a p2) p3) scope cl pm cv ctv) ⟨[v], []⟩ = pure [(a, v)])
    (d1 : (y == ("__debug__" : Str)) = false := by decide) (d2 : (y == ("__classdict__" : Str)) = false := by decide) (d3 : (a == ("__debug__" : Str)) = false := by decide)
    (na : starEach [e] X.env = (false, eval e X.env) :: starEach [] X.env := by rfl) (nb : backTo pos (starEach [e] X.env) = (false, eval e X.env) :: backTo pos (starEach [] X.env) := by rfl) (hpl : (backTo pos (starEach [e] X.env)).any (·.1) = false := by rfl) :
    PE X (.Call (.Name "min" p) [e] [⟨some "key", .Lambda params (.Subscript (.Name y p1) (.Name a p2) p3) scope lpos, kpos⟩] pos) (tMinBy X.K T i te) := by
  refine ⟨fun pins s σ H Q I h => ?_⟩
  refine wpAny_Call_Name_kw (ld_blt I hg hm (u := .builtin "min") (by rfl) ?_)
  refine callWith_kw (one_arg he I h (fun u s1 x H1 I1 r1 q1 => ?_) na) nb hpl (by rfl) (by rfl)
  obtain ⟨l, d, ns, ds, rfl, hd, hT, h0, hl, hdl, hb, hbig, q⟩ := q1
  cases (show u = Value.ref l from r1)
  show wpAny _ _ (evalAll [(do let v ← eval (.Lambda params (.Subscript (.Name y p1) (.Name a p2) p3) scope lpos) X.env; standAt pos; pure v)]) _ _ s1
  have hfc : ∀ z ∈ scope.names, z.2 = .free → ∃ c, X.env.cells.lookup z.1 = some c := fun z hz hzf => by
    rw [hfree z hz hzf]
    exact I1.ok.has _ hx
  refine wpAny_evalAll_cons (wpAny_bind (LamX.lam_make2 I1 TB hcode hmT hu hT hdef hfc fun f c' pm ctv H2 s2 I2 eN T2 hf hfn hfr hcc => wpAny_bind (wpAny_standAt (wpAny_pure ?_))))
  refine wpAny_evalAll_nil ?_
  have hl2 := sqL_ext eN hl
  have hd2 := sqL_ext eN hdl
  obtain ⟨its, rv, pl, hz⟩ := I2.list hl2
  obtain ⟨jts, rw', pd, hzd⟩ := I2.list hd2
  have hi := rv.ints
  have hj := rw'.ints
  obtain ⟨m, F⟩ := I2.fr
  have kall : ∀ {h : Heap} {m' : Str → Option Value}, Fr X.base X.env.locals h m' → News X.base X.env.locals h (allNews X.base s2.heap X.env.locals) → ∀ b o, b ≠ X.env.locals → s2.heap.get? b = some o → h.get? b = some o := fun {h m'} F' N' b o n e => by
    cases hq : X.base.get? b with
    | some v =>
      have e2 := I2.bk b v hq
      rw [e] at e2
      cases e2
      exact F'.keep b _ hq
    | none => exact (N' (b, o) (mem_allNews n hq e)).1
  have nel : ∀ {b : Addr} {xs : List V}, SqL X.K H2 b xs → b ≠ X.env.locals := fun {b xs} hs z => by
    obtain ⟨_, _, ⟨o, n, e, _, _, dd⟩, _⟩ := I2.list hs
    obtain ⟨o2, es, ep, e2, d2, _⟩ := F.ns
    rw [z, e2] at e
    cases e
    rw [d2] at dd
    cases dd
  have lst : ∀ {h : Heap} {b : Addr} {zs : List Value}, b ≠ X.env.locals → PlainL s2.heap b zs.toArray → (∀ b o, b ≠ X.env.locals → s2.heap.get? b = some o → h.get? b = some o) → h.IsList b zs.toArray := fun {h b zs} n pz kk => by
    obtain ⟨o, c0, e, e2, e3, e4⟩ := pz
    exact ⟨o, kk _ _ n e, e2, c0, e4⟩
  have hln : 0 < ns.length := h0
  refine kmk_min_letter (m := m) (L := X.env.locals) (h₀ := X.base) (news := allNews X.base s2.heap X.env.locals) (fun n => ds.getD n.toNat 0) (I2.ok.hd hc) F news_all (fun h F' N' => lst (nel hl2) pl (kall F' N')) hi hln (fun n t h tk own hn F' N' => ?_) (fun M t h' tk' F' N' hM hle => ?_)
  · have N1 : News X.base X.env.locals h (allNews X.base s2.heap X.env.locals) := fun z hz => N' z (List.mem_append_left _ hz)
    have kk := kall F' N1
    have nf : f ≠ X.env.locals := fun z => by
      obtain ⟨o2, es, ep, e2, d2, _⟩ := F.ns
      rw [z, e2] at hf
      cases hf
      cases d2
    have nc : c' ≠ X.env.locals := fun z => by
      rw [z, I2.free] at hcc
      cases hcc
    obtain ⟨⟨oc, vs, t0, hoc, hdc, hvc⟩, _, _⟩ := I2.hok c' _ hcc
    have hr1 : Room (k + 1) X.A.in1 := hr.in1
    refine wpAny_call ?_
    refine PySem.W.kla_callFunE hr1.depth (kk _ _ nf hf) rfl hco hgen rfl ⟨c', oc, vs, t0, rfl, kk _ _ nc hoc, hdc, hvc⟩ ?_
    rw [hbind]
    refine wpAny_pure (wpAny_newFunctionEnv hcell (fun z hz => ?_) (fun h₁ hns hsb => ⟨?_, ?_⟩) hk)
    · rw [List.mem_singleton.mp hz]
      exact ha
    · exact ((I2.ok.mod.nolimit.keeps F'.keep).fresh _ hsb)
    show codeAny _ _ (.expr (.Subscript (.Name y p1) (.Name a p2) p3) (LamX.lamEnv X scope h.objs.size f c')) _ _
    have kp : ∀ b o, h.get? b = some o → h₁.get? b = some o := fun b o e => hsb.extBut b o (Nat.ne_of_lt (Heap.lt_size e)) (Heap.get?_push_of_some _ e)
    have kp2 : ∀ b o, b ≠ X.env.locals → s2.heap.get? b = some o → h₁.get? b = some o := fun b o n e => kp b o (kk b o n e)
    -- the captured cell
    obtain ⟨c0, hc0⟩ := I2.ok.has _ hx
    have hcl : (cloFrom X.env.cells scope.names []).lookup y = some c0 := by
      have hin : (y, NameKind.free) ∈ scope.names := PySem.mem_of_lookup hy
      obtain ⟨c1, hc1⟩ := mem_lookup (cloFrom_has (cells := X.env.cells) (acc := []) hin)
      rw [hc1]
      rcases cloFrom_mem (PySem.mem_of_lookup hc1) with z | ⟨_, z⟩
      · cases z
      · rw [z, hc0] <;> rfl
    have hval : s2.heap.IsCell c0 (some (.ref d)) := by
      obtain ⟨m2, _, look⟩ := I2.loc
      obtain ⟨w', r, lk⟩ := look i y (.ref d) hN hd (hx.elim (fun z => .inr (.inl z)) (fun z => .inr (.inr z)))
      cases (show w' = Value.ref d from r)
      rcases lk with ⟨z, _⟩ | ⟨_, c2, e2, hv⟩
      · rcases hx with z2 | z2 <;> rw [show X.env.kindOf y = _ from z2] at z <;> cases z
      · rw [hc0] at e2
        cases e2
        exact hv
    have hcell1 : h₁.IsCell c0 (some (.ref d)) := by
      obtain ⟨o, e1, e2⟩ := hval
      exact ⟨o, kp2 _ _ (I2.cne y c0 hc0) e1, e2⟩
    obtain ⟨hn0, hn1⟩ := hb n hn
    refine PySem.W.kla_codeExpr (Subscript_ (wpAny_Name (wpAny_loadName_free hk hy hcl hcell1 ?_ d2) d1))
    refine wpAny_Name (wpAny_loadName_local (v := .int n t) hk ha hns (by simp [List.lookup]) ?_) d3
    refine item_list_intsR (vs := jts) (ns := ds) (lst (nel hd2) pd kp2) hj hn0 (by omega) (by omega) (fun t' => ?_)
    have F1 : Fr X.base X.env.locals h₁ m := ⟨F'.ns.keeps kp, fun b o e => kp b o (F'.keep b o e), F'.above⟩
    have N2 : News X.base X.env.locals h₁ (allNews X.base s2.heap X.env.locals ++ own) := fun z hz => ⟨kp _ _ (N' z hz).1, (N' z hz).2⟩
    exact ⟨h₁, _, t', rfl, rfl, F1, N2⟩
  · exact ⟨.int M, H2, inv_framed I2 F.ns F'.ns (kall F' N'), ⟨t, rfl⟩, q H2 eN T2 M hM hle⟩
end
end Sb

/-! ## MG -/
/-! A web's blocks: there is one ascending list of them. -/
namespace Sb
theorem asc_eq {α : Type} {r : α → α → Prop} (irr : ∀ a, ¬ r a a) (anti : ∀ a b, r a b → r b a → a = b) {l m : List α} (hl : l.Pairwise r) (hm : m.Pairwise r) (h : ∀ x, x ∈ l ↔ x ∈ m) : l = m := by
  have ndl : l.Nodup := hl.imp fun {a b} h (e : a = b) => irr a (by subst e; exact h)
  have ndm : m.Nodup := hm.imp fun {a b} h (e : a = b) => irr a (by subst e; exact h)
  have p : l.Perm m := (List.perm_ext_iff_of_nodup ndl ndm).mpr h
  exact p.eq_of_pairwise (fun a b _ _ h1 h2 => anti a b h1 h2) hl hm
theorem asc_int {l m : List Int} (hl : l.Pairwise (· < ·)) (hm : m.Pairwise (· < ·)) (h : ∀ x, x ∈ l ↔ x ∈ m) : l = m :=
  asc_eq (fun a => Int.lt_irrefl a) (fun a b h1 h2 => by have h1 : a < b := h1; have h2 : b < a := h2; omega) hl hm h
section
variable {n : Nat} {par : Int → Int} {dep : Int → Nat} {Ed : Int → Int → Prop}
theorem top_ex (G : GT n par dep Ed) : ∀ (k : Nat) (u : Int), dep u ≤ k → 0 ≤ u → u < (n : Int) → u ≠ 0 → ∃ t, Top n par dep Ed t ∧ Jc par Ed t u
  | 0, u, hk, u0, u1, nu => by
    have := (G.up u u0 u1 nu).2.2
    omega
  | k + 1, u, hk, u0, u1, nu => by
    by_cases c : ∃ y, Jc par Ed u y ∧ dep y < dep u
    · obtain ⟨y, hy, ly⟩ := c
      obtain ⟨y0, y1, ny⟩ := jc_in G hy u0 u1 nu
      obtain ⟨t, ht, jt⟩ := top_ex G k y (by omega) y0 y1 ny
      exact ⟨t, ht, jt.trans hy.symm⟩
    · exact ⟨u, ⟨u0, u1, nu, fun y hy => Nat.le_of_not_lt fun z => c ⟨y, hy, z⟩⟩, .refl⟩
theorem top_par (G : GT n par dep Ed) {t s : Int} (ht : Top n par dep Ed t) (hs : Top n par dep Ed s) (h : Jc par Ed t s) : par s = par t := by
  rcases class_par G ht h with k | k
  · exact absurd rfl (hs.out G (par s) (h.symm.trans k))
  · exact k
structure BlkS (n : Nat) (par : Int → Int) (dep : Int → Nat) (Ed : Int → Int → Prop) (b : List Int) (t : Int) : Prop where
  top : Top n par dep Ed t
  asc : b.Pairwise (· < ·)
  mem : ∀ x, x ∈ b ↔ Jc par Ed t x ∨ x = par t
theorem blk_same (G : GT n par dep Ed) {b c : List Int} {t s : Int} (hb : BlkS n par dep Ed b t) (hc : BlkS n par dep Ed c s) (h : Jc par Ed t s) : b = c :=
  asc_int hb.asc hc.asc fun x => by
    rw [hb.mem, hc.mem, top_par G hb.top hc.top h]
    exact or_congr ⟨fun k => h.symm.trans k, fun k => h.trans k⟩ Iff.rfl
theorem blk_class (G : GT n par dep Ed) {b : List Int} {t s : Int} (hb : BlkS n par dep Ed b t) (hc : BlkS n par dep Ed b s) : Jc par Ed t s := by
  have h1 := (hc.mem t).mp ((hb.mem t).mpr (.inl .refl))
  have h2 := (hb.mem s).mp ((hc.mem s).mpr (.inl .refl))
  rcases h1 with h1 | h1
  · exact h1.symm
  · rcases h2 with h2 | h2
    · exact h2
    · have e1 := (G.up t hb.top.t0 hb.top.t1 hb.top.nt).2.2
      have e2 := (G.up s hc.top.t0 hc.top.t1 hc.top.nt).2.2
      rw [← h2] at e1
      rw [← h1] at e2
      omega
structure Blks (n : Nat) (par : Int → Int) (dep : Int → Nat) (Ed : Int → Int → Prop) (D : List (List Int)) : Prop where
  each : ∀ b ∈ D, ∃ t, BlkS n par dep Ed b t
  all : ∀ u : Int, 0 ≤ u → u < (n : Int) → u ≠ 0 → ∃ b ∈ D, ∃ t, BlkS n par dep Ed b t ∧ Jc par Ed t u
  asc : D.Pairwise (fun b c => b < c)
theorem blks_mem (G : GT n par dep Ed) {D : List (List Int)} (h : Blks n par dep Ed D) {b : List Int} {t : Int} (hb : BlkS n par dep Ed b t) : b ∈ D := by
  obtain ⟨c, hc, s, hs, j⟩ := h.all t hb.top.t0 hb.top.t1 hb.top.nt
  rw [← blk_same G hs hb j]
  exact hc
theorem blks_eq (G : GT n par dep Ed) {D D' : List (List Int)} (h : Blks n par dep Ed D) (h' : Blks n par dep Ed D') : D = D' :=
  asc_eq (fun a => List.lt_irrefl a) (fun a b h1 h2 => absurd h2 (List.lt_asymm h1)) h.asc h'.asc fun b =>
    ⟨fun k => (h.each b k).elim fun _ z => blks_mem G h' z, fun k => (h'.each b k).elim fun _ z => blks_mem G h z⟩
/-! ### blocks of labels -/
/-- labels of bays: the bays with one label, and the bay above the least deep one -/
theorem blk_of_label (G : GT n par dep Ed) {f : Int → Int} (L : Lab (Bay n) f (Jn par Ed)) {b : List Int} {t : Int} (t0 : 0 ≤ t) (t1 : t < (n : Int)) (nt : t ≠ 0) (least : ∀ v : Int, 0 ≤ v → v < (n : Int) → v ≠ 0 → f v = f t → dep t ≤ dep v)
    (asc : b.Pairwise (· < ·)) (mem : ∀ x, x ∈ b ↔ (0 ≤ x ∧ x < (n : Int) ∧ x ≠ 0 ∧ f x = f t) ∨ x = par t) : BlkS n par dep Ed b t := by
  have iff : ∀ x, Jc par Ed t x ↔ 0 ≤ x ∧ x < (n : Int) ∧ x ≠ 0 ∧ f x = f t := fun x => by
    constructor
    · intro h
      obtain ⟨x0, x1, nx⟩ := jc_in G h t0 t1 nt
      exact ⟨x0, x1, nx, ((L.iff t x ⟨t0, t1⟩ ⟨x0, x1⟩).mpr h).symm⟩
    · rintro ⟨x0, x1, nx, e⟩
      exact (L.iff t x ⟨t0, t1⟩ ⟨x0, x1⟩).mp e.symm
  refine ⟨⟨t0, t1, nt, fun y hy => ?_⟩, asc, fun x => by rw [mem, iff]⟩
  obtain ⟨a, b, c, d⟩ := (iff y).mp hy
  exact least y a b c d
/-- labels of ties -/
theorem blk_of_ties (G : GT n par dep Ed) (z0 : par 0 = 0) {ts : List (Int × Int)} (hts : ∀ a b, Ed a b ↔ (a, b) ∈ ts ∨ (b, a) ∈ ts) (hlt : ∀ t ∈ ts, t.1 < t.2) {f : Int × Int → Int} {R : Int × Int → Int × Int → Prop} (L : Lab (· ∈ ts) f R) (hR : ∀ s t, s ∈ ts → t ∈ ts → (Cn R s t ↔ Cn (OnR Ed) s t))
    {k : Int} {s : Int × Int} (hs : s ∈ ts) (hk : f s = k) {v : Int} (hv : Path par s.1 s.2 v) {b : List Int} (asc : b.Pairwise (· < ·)) (mem : ∀ x, x ∈ b ↔ ∃ t ∈ ts, f t = k ∧ (x = t.1 ∨ x = t.2)) : ∃ t, BlkS n par dep Ed b t ∧ Jc par Ed t v := by
  have ed : ∀ {t : Int × Int}, t ∈ ts → Ed t.1 t.2 ∧ nrm t.1 t.2 = t := fun {t} ht => ⟨(hts _ _).mpr (.inl ht), nrm_lt (hlt t ht)⟩
  obtain ⟨⟨a0, a1⟩, ⟨b0, b1⟩, _⟩ := G.inn _ _ (ed hs).1
  obtain ⟨v0, v1, nv⟩ := path_in G.toTreeP a0 a1 b0 b1 hv
  obtain ⟨t, ht, jt⟩ := top_ex G _ v (Nat.le_refl _) v0 v1 nv
  refine ⟨t, ⟨ht, asc, fun x => ?_⟩, jt⟩
  rw [mem, ← class_bays G ht]
  have iff : ∀ {r : Int × Int}, r ∈ ts → ∀ {w}, Path par r.1 r.2 w → (f r = k ↔ Jc par Ed t w) := fun {r} hr {w} hw => by
    rw [← hk]
    refine Iff.trans ⟨fun e => ?_, fun e => ?_⟩ (Iff.intro (fun z => jt.trans z) (fun z => jt.symm.trans z))
    · exact (tie_class G z0 (ed hs).1 (ed hr).1 (ed hs).2 (ed hr).2 hv hw).mp ((hR s r hs hr).mp ((L.iff s r hs hr).mp e.symm))
    · exact ((L.iff s r hs hr).mpr ((hR s r hs hr).mpr ((tie_class G z0 (ed hs).1 (ed hr).1 (ed hs).2 (ed hr).2 hv hw).mpr e))).symm
  constructor
  · rintro ⟨r, hr, er, hx⟩
    obtain ⟨w, hw⟩ := ed_path G (ed hr).1
    exact ⟨r.1, r.2, w, (ed hr).1, hw, (iff hr hw).mp er, hx⟩
  · rintro ⟨a, c, w, e, hw, hj, hx⟩
    rcases (hts a c).mp e with z | z
    · exact ⟨_, z, (iff z hw).mpr hj, hx⟩
    · exact ⟨_, z, (iff z hw.symm).mpr hj, hx.symm⟩
/-! ### the rings that were found join what rings join -/
theorem found_on (G : GT n par dep Ed) {Js : List (List (Int × Int))} (I : RInv n Ed [] Js) {s t : Int × Int} : InOne Js s t ↔ OnR Ed s t := by
  constructor
  · rintro ⟨J, hJ, h1, h2⟩
    obtain ⟨row, R, rfl⟩ := I.sound J hJ
    have ne : row ≠ [] := fun e => by
      have := R.len
      rw [e] at this
      exact absurd this (by decide)
    exact ⟨row, R, (ringTies_mem ne).mp h1, (ringTies_mem ne).mp h2⟩
  · rintro ⟨row, R, h1, h2⟩
    obtain ⟨r, Rr, L, i⟩ := ring_least R
    have ne : r ≠ [] := fun e => by
      have := Rr.len
      rw [e] at this
      exact absurd this (by decide)
    rcases I.full r Rr L with z | ⟨w, hw, _⟩
    · exact ⟨_, z, (ringTies_mem ne).mpr ((i s).mpr h1), (ringTies_mem ne).mpr ((i t).mpr h2)⟩
    · cases hw
/-! ### held bays -/
theorem held_perm (G : GT n par dep Ed) {Q : List (List Int × Int)} (h : Blks n par dep Ed (Q.map Prod.fst)) (hg : ∀ p ∈ Q, ∀ t, BlkS n par dep Ed p.1 t → p.2 = par t) : (Q.flatMap fun p => p.1.filter fun x => decide (x ≠ p.2)).Nodup ∧ ∀ x, x ∈ (Q.flatMap fun p => p.1.filter fun x => decide (x ≠ p.2)) ↔ 0 ≤ x ∧ x < (n : Int) ∧ x ≠ 0 := by
  have mem : ∀ p ∈ Q, ∀ t, BlkS n par dep Ed p.1 t → ∀ x, x ∈ p.1.filter (fun x => decide (x ≠ p.2)) ↔ Jc par Ed t x := fun p hp t ht x => by
    rw [List.mem_filter, ht.mem, hg p hp t ht, decide_eq_true_iff]
    constructor
    · rintro ⟨a | a, b⟩
      · exact a
      · exact absurd a b
    · exact fun a => ⟨.inl a, ht.top.out G x a⟩
  constructor
  · refine List.pairwise_flatMap.mpr ⟨fun p hp => ?_, ?_⟩
    · obtain ⟨t, ht⟩ := h.each p.1 (List.mem_map.mpr ⟨p, hp, rfl⟩)
      exact (ht.asc.imp fun {a b} z e => by have z : a < b := z; omega).filter _
    · have k := List.pairwise_map.mp h.asc
      refine List.Pairwise.imp_of_mem (fun {p q} hp hq lt => ?_) k
      intro x hx y hy exy
      subst exy
      obtain ⟨t, ht⟩ := h.each p.1 (List.mem_map.mpr ⟨p, hp, rfl⟩)
      obtain ⟨s, hs⟩ := h.each q.1 (List.mem_map.mpr ⟨q, hq, rfl⟩)
      have j1 := (mem p hp t ht x).mp hx
      have j2 := (mem q hq s hs x).mp hy
      rw [blk_same G ht hs (j1.trans j2.symm)] at lt
      exact List.lt_irrefl _ lt
  · intro x
    rw [List.mem_flatMap]
    constructor
    · rintro ⟨p, hp, hx⟩
      obtain ⟨t, ht⟩ := h.each p.1 (List.mem_map.mpr ⟨p, hp, rfl⟩)
      exact jc_in G ((mem p hp t ht x).mp hx) ht.top.t0 ht.top.t1 ht.top.nt
    · rintro ⟨x0, x1, nx⟩
      obtain ⟨b, hb, t, ht, j⟩ := h.all x x0 x1 nx
      obtain ⟨p, hp, rfl⟩ := List.mem_map.mp hb
      exact ⟨p, hp, (mem p hp t ht x).mpr j⟩
end
end Sb

/-! ## S65 -/
/-! set(xs) of a list of whole numbers, as a set that is known from then on. -/
namespace Sb
open PySem PySem.Spec PyProof.Rows L2
/-- an empty set, as a call of set lays it -/
abbrev bareSet (w : World) : Obj := { cls := .type "set", dict := none, data := .set #[] 0 (.fresh 0 0 (!w.params.followText "set-order")) }

section
variable {P : Program} {w : World} {A : Around} {E : Value → Shared → Prop} {s : Shared}
theorem set_of_list {l : Addr} {vs : List Value} {ns : List Int} {Q : Value → Shared → Prop} (hh : A.handled = none) (hl : s.heap.IsList l vs.toArray) (hi : IntsAre vs ns) (hb : ns.length + 1 < scanBound)
    (q : ∀ h2 tk c, SetR w h2 s.heap.objs.size (fun j => decide (j ∈ ns)) c → c ≤ ns.length → (∀ b o, s.heap.get? b = some o → h2.get? b = some o) → Q (.ref s.heap.objs.size) { s with heap := h2, toks := tk }) :
    wpAny (model P w) A (call (.type "set") [.ref l]) Q E s := by
  have len : vs.toArray.size = ns.length := by rw [List.size_toArray, hi.length]
  have at_ : (s.heap.push (bareSet w)).get? s.heap.objs.size = some (bareSet w) := Heap.get?_push_size _ rfl
  have ll : l < s.heap.objs.size := by
    obtain ⟨o, e, _⟩ := hl
    exact Heap.lt_size e
  -- the type is called: laid, then filled
  have F0 := F.called_set
  obtain ⟨c0, tl, hmro⟩ := F0.mro
  have hmade := F0.made
  have hsub := F0.sub
  have hnt := F0.notType
  have hcc := F0.canCreate
  have hct := F.typeCall_set_1 (.ref l)
  refine wpAny_call (codeAny_of_tree (show wpAny _ _ (callAny (.type "set") _) _ _ _ from wpAny_pure ⟨Code.quiet_builtin _ (by decide +kernel), codeAny_builtin F.entry_type_call ?_⟩))
  rw [Around.under_plain (weight_type_call_type "set" [.ref l] []) rfl]
  all_goals repeat (any_goals first | assumption | wp_step)
  refine codeAny_mono (code_set_led1 (.ref l) (E := E) (Q₁ := fun o s1 => o = .ref s.heap.objs.size ∧ s1 = { s with heap := s.heap.push (bareSet w) }) ⟨rfl, rfl⟩) fun r s1 hs => ?_
  rcases r with e | fl
  · exact hs
  cases fl with
  | next => exact hs.elim
  | brk => exact hs.elim
  | cont => exact hs.elim
  | ret o =>
  obtain ⟨rfl, rfl⟩ := hs
  have tt : Shared.TypeIs { s with heap := s.heap.push (bareSet w) } (.ref s.heap.objs.size) "set" := ⟨_, at_, rfl⟩
  have lk := F0.init.lookup
  have bd := F0.init.bind (.ref s.heap.objs.size)
  all_goals repeat (any_goals first | assumption | wp_step)
  let Done : Shared → Prop := fun s2 => ∃ h2 tk c, s2 = { s with heap := h2, toks := tk } ∧ SetR w h2 s.heap.objs.size (fun j => decide (j ∈ ns)) c ∧ c ≤ ns.length ∧ ∀ b o, s.heap.get? b = some o → h2.get? b = some o
  refine codeAny_mono (codeAny_call_builtin (R := wants (fun r s2 => r = .none ∧ Done s2) E) F0.init.plain F.entry_set_init (check_set_init_1 tt ?_)) fun r s2 hs => ?_
  rotate_left
  · rcases r with e | fl
    · exact hs
    cases fl with
    | next => exact hs.elim
    | brk => exact hs.elim
    | cont => exact hs.elim
    | ret o =>
      obtain ⟨rfl, h2, tk, c, rfl, R, hc, kp⟩ := hs
      all_goals repeat (any_goals first | assumption | wp_step)
      exact q _ _ _ R hc kp
  have hl1 : (s.heap.push (bareSet w)).IsList l vs.toArray := hl.push _
  obtain ⟨⟨ocls, odict, odata, oslots⟩, hol', hcl, nl, hdl⟩ := id hl1
  simp only at hcl hdl
  subst hcl hdl
  have n1 := F.sub_list_set
  have n2 := F.sub_list_frozenset
  have n3 : (Value.type "list" == Value.type "dict") = false := by decide
  have hS := at_
  unfold Builtin.«set.__init__» noKeywords Builtin.Frozenset.updateFrom
  generalize hPI : pyIter = PI
  wp_walk
  subst hPI
  refine wpAny_pyIter_list hl1 (wpAny_bind (wpAny_runValue ?_))
  let h1 := s.heap.push (bareSet w)
  have z1 : h1.objs.size = s.heap.objs.size + 1 := Heap.size_push ..
  have nI : l ≠ h1.objs.size := fun z => Nat.ne_of_lt (Nat.lt_succ_of_lt ll) (z.trans z1)
  have nS : s.heap.objs.size ∉ [h1.objs.size, l] := fun z => by
    rcases List.mem_cons.mp z with z | z
    · exact Nat.ne_of_lt (Nat.lt_succ_self s.heap.objs.size) (z.trans z1)
    · exact Nat.ne_of_gt ll (List.mem_singleton.mp z)
  have vals : ∀ (i : Nat) (v : Value), vs.toArray[i]? = some v → ∃ k t, ns[i]? = some k ∧ v = Value.int k t := fun i v hv => by
    have hv2 : vs[i]? = some v := by simpa using hv
    have hlen := hi.length
    have hlt : i < ns.length := by
      have := (List.getElem?_eq_some_iff.mp hv2).1
      omega
    obtain ⟨t, ht⟩ := hi.get i _ (List.getElem?_eq_getElem hlt)
    rw [hv2] at ht
    exact ⟨_, t, List.getElem?_eq_getElem hlt, Option.some.inj ht⟩
  have st0 := setR_new_at (w := w) (ns := ns) (Heap.get?_push_of_some { cls := .type "list_iterator", data := .fields #[.ref l, .int 0 0] } at_)
  refine set_update_ints ((Walks.list (prog := P) (w := w) (A := A.in1.in1.in1) (by simp [hh]) _ l nI vs.toArray).toS) _ nS ns len hb vals (vs.toArray.size - 0) 0 _ (by omega) (Nat.zero_le _) ⟨⟨_, Heap.get?_push_size _ rfl, rfl, rfl⟩, hl1.push _⟩ ⟨0, Nat.le_refl 0, st0⟩ ?_
  rintro ⟨h2, g2, e2, tk2, o2⟩ c hm hc R
  obtain rfl : g2 = s.gens := hm.gens
  obtain rfl : e2 = s.drawn := hm.drawn
  obtain rfl : o2 = s.os := hm.os
  refine wpAny_pure (show wpAny _ _ (ret Value.none) _ _ _ from wpAny_pure ⟨rfl, h2, tk2, c, rfl, R, by omega, fun b o e => ?_⟩)
  have lb := Heap.lt_size e
  refine hm.heap b o (fun z => ?_) (Heap.get?_push_of_some _ (Heap.get?_push_of_some _ e))
  rcases List.mem_cons.mp z with z | z
  · exact Nat.ne_of_lt lb z
  · exact Nat.ne_of_lt (Nat.lt_succ_of_lt lb) ((List.mem_singleton.mp z).trans z1)
end
section
variable {X : Cx}
/-- set(xs), xs a list of whole numbers -/
def rSetL (K : PySem.W.Frag) (w : World) : List V → Hp → VK → Prop := fun vs H Q => ∃ (l : Addr) (ns : List Int), vs = [.ref l] ∧ SqL K H l (ns.map V.int) ∧ ns.length ≤ 4000 ∧ ∀ p c H2, H p = none → (∀ b u, H b = some u → H2 b = some u) → H2 p = some (SetO w p (fun j => decide (j ∈ ns)) c) → c ≤ ns.length → Q (.ref p) H2
theorem cr_setL (hc : X.calm = true) : CallR X (.type "set") (rSetL X.K X.w) := by
  intro pins s σ H vs us Q I r h
  obtain ⟨l, ns, rfl, hs, hl, q⟩ := h
  obtain rfl := Vals.ref1 r
  obtain ⟨its, rv, pl, _⟩ := I.list hs
  refine set_of_list (I.ok.hd hc) pl.isList rv.ints (by unfold scanBound; omega) fun h2 tk c R hcn kp => ?_
  have I2 : Inv X pins σ (upd H s.heap.objs.size (SetO X.w s.heap.objs.size (fun j => decide (j ∈ ns)) c)) { s with heap := h2, toks := tk } := I.laid (t' := tk) kp (Nat.le_refl _) (setO_new R)
  have n0 : H s.heap.objs.size = none := I.hok.fresh (Nat.le_refl _)
  exact ⟨.ref _, _, I2, rfl, q _ c _ n0 (fun b u e => by rw [upd_ne (ne_of_none e n0)]; exact e) upd_same hcn⟩
end
end Sb

/-! ## TU -/
/-! Tuples of whole numbers: index, count, set. -/
namespace Sb
open PySem PySem.Spec PyProof.Rows L2
theorem inV_ints {g : Int} {J : List Int} : inV (.int g) (J.map V.int) = decide (g ∈ J) := by
  unfold inV
  rw [List.any_map]
  refine Bool.eq_iff_iff.mpr ⟨fun h => ?_, fun h => ?_⟩
  · obtain ⟨j, hj, e⟩ := List.any_eq_true.mp h
    have e : (j == g) = true := e
    exact decide_eq_true (beq_iff_eq.mp e ▸ hj)
  · exact List.any_eq_true.mpr ⟨g, of_decide_eq_true h, show (g == g) = true from beq_iff_eq.mpr rfl⟩
theorem flat_ints : ∀ {J : List Int}, (J.map V.int).all flatV = true
  | [] => rfl
  | _ :: J => by
    rw [List.map_cons, List.all_cons, flat_ints]
    rfl
section
variable {X : Cx}
/-- t.count(k) -/
def rCntT (K : PySem.W.Frag) : V → List V → Hp → VK → Prop := fun x xs H Q => ∃ (p : Addr) (ns : List Int) (k : Int), x = .ref p ∧ xs = [.int k] ∧ SqT K H p (ns.map V.int) ∧ Q (.int (ns.count k : Nat)) H
theorem mt_tcount : MtR X "tuple.count" (rCntT X.K) := by
  intro pins s σ H x xs v us Q I rx rxs h
  obtain ⟨p, ns, k, rfl, rfl, hs, q⟩ := h
  cases rx
  obtain ⟨u, rfl, ru⟩ := rxs.one
  obtain ⟨t, rfl⟩ := ru
  obtain ⟨its, rv, pl, hz⟩ := I.tuple hs
  obtain ⟨⟨cls, dd, dt, sl⟩, ho, hc, n, hd⟩ := pl
  simp only at hc hd
  subst hc hd
  have hi := rv.ints
  refine call_meets PySem.F.slot_tuple_count ⟨_, ho, rfl⟩ PySem.F.entry_tuple_count (PySem.F.args_tuple_count_2 _ _)
    (SeqAt.tuple_countAt p its.toArray n dd sl (.int k t) (eqk k)) ⟨ho, fun y hy => (eqk_gives hi y (by simpa using hy)).at _ _, ?_⟩
  have ec : its.toArray.toList.countP (eqk k) = ns.count k := eqk_count hi
  refine ⟨.int (ns.count k : Nat), H, I.tok _, ⟨s.toks, ?_⟩, q⟩
  show Value.int ((its.toArray.toList.countP (eqk k) : Nat) : Int) s.toks = Value.int ((ns.count k : Nat) : Int) s.toks
  rw [ec]
/-- t.index(k), the first place -/
def rIxTI (K : PySem.W.Frag) : V → List V → Hp → VK → Prop := fun x xs H Q => ∃ (p : Addr) (ns : List Int) (k : Int) (j : Nat), x = .ref p ∧ xs = [.int k] ∧ SqT K H p (ns.map V.int) ∧ ns[j]? = some k ∧ (∀ m : Nat, m < j → ns[m]? ≠ some k) ∧ Q (.int (j : Nat)) H
theorem mt_tindex : MtR X "tuple.index" (rIxTI X.K) := by
  intro pins s σ H x xs v us Q I rx rxs h
  obtain ⟨p, ns, k, j, rfl, rfl, hs, hj, hno, q⟩ := h
  cases rx
  obtain ⟨u, rfl, ru⟩ := rxs.one
  obtain ⟨t, rfl⟩ := ru
  obtain ⟨its, rv, pl, hz⟩ := I.tuple hs
  obtain ⟨⟨cls, dd, dt, sl⟩, ho, hc, n, hd⟩ := pl
  simp only at hc hd
  subst hc hd
  have hi := rv.ints
  have hl : its.length = ns.length := hi.length
  have hjl : j < its.toArray.size := by
    rw [List.size_toArray, hl]
    exact (List.getElem?_eq_some_iff.mp hj).1
  have at' : ∀ (m : Nat) (hm : m < its.toArray.size), ∃ y, ns[m]? = some y ∧ eqk k its.toArray[m] = (y == k) := fun m hm => by
    have hm' : m < ns.length := by
      rw [List.size_toArray, hl] at hm
      exact hm
    obtain ⟨t', ht⟩ := hi.get m _ (List.getElem?_eq_getElem hm')
    refine ⟨ns[m], List.getElem?_eq_getElem hm', ?_⟩
    have e := (List.getElem?_eq_some_iff.mp ht).2
    rw [show its.toArray[m] = its[m]'(by omega) by simp, e]
    rfl
  refine call_meets PySem.F.slot_tuple_index ⟨_, ho, rfl⟩ PySem.F.entry_tuple_index (PySem.F.args_tuple_index_2 _ _) (TI.tuple_indexAt p its.toArray n dd sl (.int k t) (eqk k) j hjl ?_ ?_)
    ⟨ho, fun y hy => (eqk_gives hi y (by simpa using hy)).at _ _, ⟨.int (j : Nat), H, I.tok _, ⟨_, rfl⟩, q⟩⟩
  · obtain ⟨y, h1, h2⟩ := at' j hjl
    rw [hj] at h1
    cases h1
    rw [h2]
    exact beq_self_eq_true k
  · intro m hm hmj
    obtain ⟨y, h1, h2⟩ := at' m hm
    rw [h2]
    exact beq_eq_false_iff_ne.mpr fun e => hno m hmj (e ▸ h1)
/-- set(t), t a tuple of whole numbers -/
def rSetT (K : PySem.W.Frag) (w : World) : List V → Hp → VK → Prop := fun vs H Q => ∃ (l : Addr) (ns : List Int), vs = [.ref l] ∧ SqT K H l (ns.map V.int) ∧ ns.length ≤ 4000 ∧ ∀ p c H2, H p = none → (∀ b u, H b = some u → H2 b = some u) → H2 p = some (SetO w p (fun j => decide (j ∈ ns)) c) → c ≤ ns.length → Q (.ref p) H2
theorem cr_setT (hc : X.calm = true) : CallR X (.type "set") (rSetT X.K X.w) := by
  intro pins s σ H vs us Q I r h
  obtain ⟨l, ns, rfl, hs, hl, q⟩ := h
  obtain rfl := Vals.ref1 r
  obtain ⟨its, rv, pl, _⟩ := I.tuple hs
  refine call_set_tupI ns (I.ok.hd hc) (show s.heap.IsTuple l its.toArray from pl) (by simpa using rv.ints) (by unfold scanBound; omega) fun h2 tk c R hcn kp => ?_
  have I2 : Inv X pins σ (upd H s.heap.objs.size (SetO X.w s.heap.objs.size (fun j => decide (j ∈ ns)) c)) { s with heap := h2, toks := tk } := I.laid (t' := tk) kp (Nat.le_refl _) (setO_new R)
  have n0 : H s.heap.objs.size = none := I.hok.fresh (Nat.le_refl _)
  exact ⟨.ref _, _, I2, rfl, q _ c _ n0 (fun b u e => by rw [upd_ne (ne_of_none e n0)]; exact e) upd_same hcn⟩
end
/-! ### len of a set of whole numbers -/
def rLenS (w : World) : List V → Hp → VK → Prop := fun xs H Q => ∃ (a : Addr) (S : Int → Bool) (c : Nat), xs = [.ref a] ∧ H a = some (SetO w a S c) ∧ c < scanBound ∧ ((∃ ks : List Int, ks.Nodup ∧ (∀ k, S k = true ↔ k ∈ ks) ∧ ks.length = c) → Q (.int (c : Nat)) H)
theorem cr_lenS {X : Cx} : CallR X (.builtin "len") (rLenS X.w) := by
  intro pins s σ H xs us Q I r h
  obtain ⟨a, S, c, rfl, ha, hc, q⟩ := h
  obtain rfl := Vals.ref1 r
  obtain ⟨o, es, ep, t, ho, hex, hd, g, nd, hm, hb, hf, hn, _⟩ := setO_get I ha
  refine call_len_set ho hex hd hf (by rw [hn]; unfold scanBound at hc; omega) ⟨.int c, H, I.tok _, ⟨_, by rw [hn]⟩, q ⟨es.toList.map keyOf, nd, hm, by rw [List.length_map, Array.length_toList]; exact hn⟩⟩
end Sb

/-! ## C132 -/
/-! groups_held of any web. -/
namespace Sb
open PySem PySem.Spec PyProof.Rows L2
abbrev sGroups : Stmt := top 10
theorem many_len {J ks : List Int} {c : Nat} (nd : ks.Nodup) (hm : ∀ k, decide (k ∈ J) = true ↔ k ∈ ks) (hl : ks.length = c) : decide ((1 : Int) < (c : Nat)) = manyB J := by
  cases h : manyB J with
  | true =>
    obtain ⟨x, hx, ne⟩ := List.any_eq_true.mp h
    have ne := of_decide_eq_true ne
    have h1 := (hm x).mp (decide_eq_true hx)
    have h2 := (hm _).mp (decide_eq_true (many_head h))
    refine decide_eq_true ?_
    match ks, h1, h2, hl with
    | [], h1, _, _ => cases h1
    | [a], h1, h2, _ => exact absurd ((List.mem_singleton.mp h1).trans (List.mem_singleton.mp h2).symm) ne
    | a :: b :: l, _, _, hl =>
      simp only [List.length_cons] at hl
      omega
  | false =>
    refine decide_eq_false fun lt => ?_
    match ks, nd, hl with
    | [], _, hl => simp only [List.length_nil] at hl; omega
    | [a], _, hl => simp only [List.length_singleton] at hl; omega
    | a :: b :: l, nd, _ =>
      have ha := of_decide_eq_true ((hm a).mpr List.mem_cons_self)
      have hb := of_decide_eq_true ((hm b).mpr (List.mem_cons_of_mem _ List.mem_cons_self))
      have e := many_no (J := J) (by rw [h]; exact Bool.false_ne_true) a ha b hb
      exact (List.nodup_cons.mp nd).1 (e ▸ List.mem_cons_self)
section
variable {X : Cx}
theorem op_inK {K : PySem.W.Frag} (hK : X.K = K := by rfl) : OpR X (compareOp .In) (rIn K false) := hK ▸ op_in_seq
end
theorem climb_len {above away : List Int} : ∀ (k : Nat) (a b : Int), (climb above away k a b).length ≤ k
  | 0, _, _ => Nat.le_refl _
  | k + 1, a, b => by
    unfold climb
    by_cases h : a = b
    · rw [if_pos h]
      exact Nat.zero_le _
    · rw [if_neg h]
      by_cases g : away.getD a.toNat 0 < away.getD b.toNat 0
      · rw [if_pos g]
        exact Nat.succ_le_succ (climb_len k _ _)
      · rw [if_neg g]
        exact Nat.succ_le_succ (climb_len k _ _)
theorem climb_bays {n : Nat} {above away : List Int} (T : Tree n above away) : ∀ (k : Nat) (a b : Int), 0 ≤ a → a < (n : Int) → 0 ≤ b → b < (n : Int) → ∀ v ∈ climb above away k a b, Bay n v
  | 0, _, _, _, _, _, _, v, h => by cases h
  | k + 1, a, b, a0, a1, b0, b1, v, h => by
    unfold climb at h
    by_cases e : a = b
    · rw [if_pos e] at h
      cases h
    rw [if_neg e] at h
    by_cases g : away.getD a.toNat 0 < away.getD b.toNat 0
    · rw [if_pos g] at h
      obtain ⟨⟨u0, u1⟩, _⟩ := T.up b0 b1 a0 a1 (Ne.symm e) (by omega)
      rcases List.mem_cons.mp h with z | z
      · rw [z]
        exact ⟨b0, b1⟩
      · exact climb_bays T k _ _ u0 u1 a0 a1 v z
    · rw [if_neg g] at h
      obtain ⟨⟨u0, u1⟩, _⟩ := T.up a0 a1 b0 b1 e (by omega)
      rcases List.mem_cons.mp h with z | z
      · rw [z]
        exact ⟨a0, a1⟩
      · exact climb_bays T k _ _ u0 u1 b0 b1 v z
/-- the ties of the bays below i, each from both ends -/
def pairsOf (rss : List (List Int)) (i : Nat) : List (Int × Int) := (List.range i).flatMap fun a => (rss.getD a []).map fun b => ((a : Int), b)
theorem pairsOf_succ (rss : List (List Int)) (i : Nat) : pairsOf rss (i + 1) = pairsOf rss i ++ (rss.getD i []).map fun b => ((i : Int), b) := by
  unfold pairsOf
  rw [List.range_succ, List.flatMap_append, List.flatMap_singleton]
def groupsOf (rss : List (List Int)) (above away : List Int) : List Int := (pairsOf rss rss.length).foldl (gstep above away) (upto rss.length)
theorem gfold_len {above away : List Int} : ∀ {ps : List (Int × Int)} {g : List Int}, (ps.foldl (gstep above away) g).length = g.length
  | [], _ => rfl
  | t :: ps, g => (gfold_len (ps := ps)).trans gstep_len
theorem same_none {H H' : Hp} {b : Addr} (S : Same H H') (h : H' b = none) : H b = none := by
  cases e : H b with
  | none => rfl
  | some o =>
    rw [S _ _ e] at h
    cases h
def spGroups : Sp := fun vs H Q _ => ∃ (l m r : Addr) (ps : List Addr) (rss : List (List Int)) (above away : List Int), vs = [.ref l, .ref m, .ref r] ∧ RowsL H l ps rss ∧ H m = some (.lst (above.map V.int)) ∧ H r = some (.lst (away.map V.int)) ∧ Tree rss.length above away ∧ RowsIn rss.length rss ∧ rss.length ≤ 1000 ∧ (∀ i, away.getD i 0 ≤ 1000) ∧
  ∀ g H', Same H H' → H g = none → H' g = some (.lst ((groupsOf rss above away).map V.int)) → Q (.ref g) H'
structure SetTxt (mg : Str → Option Value) : Prop where
  set : mg "set" = none
  sorted : mg "sorted" = none
  list : mg "list" = none
  enumerate : mg "enumerate" = none
section
variable {P : Program} {w : World} {K : PySem.W.Frag} {mg : Str → Option Value} {base : Heap} {C : Nat → Addr}
abbrev scGroupsN : List Str := ["rows", "above", "away", "groups", "a", "row", "b", "joined", "bay", "group"]
abbrev scGroupsS : Scope := defScope sGroups
theorem scGroups : FnScope ["rows", "above", "away", "groups", "a", "row", "b", "joined", "bay", "group"] ["rows", "above", "away"] (defScope sGroups) := ⟨rfl, rfl, rfl, by decide +kernel, rfl, by decide +kernel, by decide +kernel⟩
theorem ok_groups {f fC : Addr} {fd fdC : FuncData} (F : FnP K "groups_held" sGroups f fd) (T : WebTxt mg) (T3 : SetTxt mg) (FC : FnP K "bays_climbed" sClimb fC fdC) (gC : mg "bays_climbed" = some (.ref fC)) : FnOk P w K mg base CX0 2 f fd ["rows", "above", "away"] spGroups := by
  have GC : FnOk P w K mg base CX0 1 fC fdC ["above", "away", "a", "b"] spClimb := ok_climb FC
  have bC : Binds K fdC ["above", "away", "a", "b"] [] := FC.bindsN fun _ _ _ _ _ _ us hl => match us, hl with | [_, _, _, _], _ => rfl
  refine ok0 F scGroups (fun vs H Q E h => ?_) (fun cdv A outer s H vs Q E hr h => ?_)
  · obtain ⟨l, m, r, ps, rss, above, away, rfl, _⟩ := h
    rfl
  · obtain ⟨l, m, r, ps, rss, above, away, rfl, R, hm, hw, Tr, hR, hn, hdep, q⟩ := h
    refine ⟨_, (pss_cons (ps_set (i := 3) scGroups.nd rfl (Or.inr rfl) (pe_listRg rfl rfl T3.list (prg_1 rfl T.range (pe_callB (id := "len") call_len_seq (by rfl) T.len (by decide +kernel) (pa_cons (pv 0) pa_nil)))))
    (pss_cons (ps_for PassesOwn.never rfl (pi_enum (by rfl) T3.enumerate (pa_cons (pv 0) pa_nil)) (pg_tup (by rfl) (pgs_cons (pg_name (i := 4) scGroups.nd rfl (Or.inl rfl)) (pgs_cons (pg_name (i := 5) scGroups.nd rfl (Or.inl rfl)) pgs_nil)))
      (pss_one (ps_for PassesOwn.never rfl (pi_list (pv 5)) (pg_name (i := 6) scGroups.nd rfl (Or.inl rfl))
      (pss_cons (ps_set (i := 7) scGroups.nd rfl (Or.inr rfl) (pe_lc (own := [("bay", 8)]) (g := gName 8) (by rfl) scGroups.nd (pi_list (pe_call GC hr rfl gC FC.kp bC .nil pass0 (pa_cons (pv 1) (pa_cons (pv 2) (pa_cons (pv 4) (pa_cons (pv 6) pa_nil)))))) (blkOk_by (own := [("bay", 8)]) (N := scGroupsN) (sc := scGroupsS) (by decide +kernel)) (fun _ _ _ _ _ => pg_name (i := 8) scGroups.nd rfl (Or.inl rfl)) (fun _ _ _ _ _ => pts_nil) (fun _ _ _ _ _ => (pe_ix (ix_listK (K := K)) (pv 3) (pv 8) (fun _ _ => rfl)))))
    (pss_one (ps_if (pt_cmpR op_gt (pe_callB (id := "len") cr_lenS (by rfl) T.len (by decide +kernel) (pa_cons (pe_callTy (T := "set") (cr_setL rfl) (by rfl) T3.set (by decide +kernel) (pa_cons (pv 7) pa_nil)) pa_nil)) pe_int (nomark _))
      (pss_one (ps_set (i := 3) scGroups.nd rfl (Or.inr rfl) (pe_lc (own := [("group", 9)]) (g := gName 9) (by rfl) scGroups.nd (pi_list (pv 3)) (blkOk_by (own := [("group", 9)]) (N := scGroupsN) (sc := scGroupsS) (by decide +kernel)) (fun _ _ _ _ _ => pg_name (i := 9) scGroups.nd rfl (Or.inl rfl)) (fun _ _ _ _ _ => pts_nil) (fun _ _ _ _ _ => (pe_ifExp (pt_cmpR (op_inK (K := K)) (pv 9) (pv 7) (by rfl)) (pe_ix (ix_listK (K := K)) (pv 7) pe_int (fun _ _ => rfl)) (pv 9))))))
      pss_nil))))))
    (pss_one (ps_ret (pv 3))))), ?_⟩
    have lenn : (ps.map V.ref).length = rss.length := by rw [List.length_map, R.len]
    refine ⟨_, rfl, l, _, rfl, .inl (SqL.of R.at_), _, rfl, RgOk.of_le (by decide) (by rw [lenn]; omega) (by decide) (by rw [lenn]; omega), fun g0 ng0 => ?_⟩
    have eg : (upd H g0 (.lst (rgV 0 ((ps.map V.ref).length : Nat)))) g0 = some (.lst ((upto rss.length).map V.int)) := by
      rw [upd_same, lenn, rg0]
    have Sg : Same H (upd H g0 (.lst (rgV 0 ((ps.map V.ref).length : Nat)))) := same_upd ng0
    generalize upd H g0 (.lst (rgV 0 ((ps.map V.ref).length : Nat))) = H1 at eg Sg
    have RL : SqL K H1 l (ps.map V.ref) := SqL.of (Sg _ _ R.at_)
    refine ⟨_, rfl, l, ps.map V.ref, rfl, RL, for_it walk_enum (fun i σ H' => (∃ g u v x y, σ = [some (.ref l), some (.ref m), some (.ref r), some (.ref g), u, v, x, y, none, none] ∧ H g = none ∧ H' g = some (.lst (((pairsOf rss i).foldl (gstep above away) (upto rss.length)).map V.int))) ∧ Same H H') ⟨⟨g0, none, none, none, none, rfl, ng0, eg⟩, Sg⟩ (fun i σ H' _ ⟨_, S⟩ => S.seq (SqL.of R.at_)) ?_ ?_⟩
    · rintro i x σ H2 H3 hi ⟨⟨g1, u, v, x', y', rfl, ng1, hg1⟩, S⟩ ⟨t, y1, y2, rfl, nt, rfl, hx, hy⟩
      cases hx
      rw [lenn] at hi
      obtain ⟨p, hp, rfl⟩ := getMapR (show (ps.map V.ref)[i]? = some y2 from hy)
      have rp := R.row i p hp
      have St : Same H2 (upd H2 t (.tup [V.int (i : Nat), .ref p])) := same_upd nt
      have S3 := S.trans St
      refine ⟨t, _, rfl, .inl (.inl upd_same), rfl, _, _, rfl, _, _, rfl, rfl, ?_⟩
      have hg3 := St _ _ hg1
      generalize upd H2 t (.tup [V.int (i : Nat), .ref p]) = H4 at S3 hg3
      refine ⟨_, rfl, p, rfl, ⟨_, SqL.of (S3 _ _ rp)⟩, for_list (K := K) (a := p) (xs := (rss.getD i []).map V.int) (fun j σ H' => (∃ g x y, σ = [some (.ref l), some (.ref m), some (.ref r), some (.ref g), some (.int (i : Nat)), some (.ref p), x, y, none, none] ∧ H g = none ∧ H' g = some (.lst ((((rss.getD i []).take j).map fun b => ((i : Int), b)).foldl (gstep above away) ((pairsOf rss i).foldl (gstep above away) (upto rss.length)) |>.map V.int))) ∧ Same H H') ⟨⟨g1, _, _, rfl, ng1, hg3⟩, S3⟩ (fun j σ H' _ ⟨_, S'⟩ => SqL.of (S' _ _ rp)) ?_ ?_⟩
      · rintro j y σ H5 hj ⟨⟨g5, x, z, rfl, ng5, hg5⟩, S5⟩
        obtain ⟨b, hb, rfl⟩ := getMap hj
        obtain ⟨b0, b1⟩ := hR i b (List.mem_of_getElem? hb)
        generalize eG : (((rss.getD i []).take j).map fun b => ((i : Int), b)).foldl (gstep above away) ((pairsOf rss i).foldl (gstep above away) (upto rss.length)) = G at hg5
        have lG : G.length = rss.length := by
          rw [← eG, gfold_len, gfold_len]
          unfold upto
          rw [List.length_map, List.length_range]
        have eN : (((rss.getD i []).take (j + 1)).map fun b => ((i : Int), b)).foldl (gstep above away) ((pairsOf rss i).foldl (gstep above away) (upto rss.length)) = gstep above away G ((i : Int), b) := by
          rw [take_more hb, List.map_append, List.foldl_append, eG]
          rfl
        have i0 : (0 : Int) ≤ (i : Nat) := by omega
        have i1 : ((i : Nat) : Int) < (rss.length : Int) := by omega
        have d1 := hdep ((i : Nat) : Int).toNat
        have d2 := hdep b.toNat
        refine ⟨_, rfl, _, rfl, _, rfl, _, rfl, m, r, above, away, rss.length, _, b, rfl, S5 _ _ hm, S5 _ _ hw, Tr, i0, i1, b0, b1, by omega, fun c H6 S6 n6 h6 => ?_⟩
        have h6 : H6 c = some (.lst ((climbT above away ((i : Int), b)).map V.int)) := h6
        have hJ : ∀ v ∈ climbT above away ((i : Int), b), Bay rss.length v := climb_bays Tr _ _ _ i0 i1 b0 b1
        have lJ : (climbT above away ((i : Int), b)).length ≤ 2000 := Nat.le_trans (climb_len _ _ _) (by show (away.getD ((i : Nat) : Int).toNat 0).toNat + (away.getD b.toNat 0).toNat ≤ 2000; omega)
        have S56 := S5.trans S6
        have hg6 := S6 _ _ hg5
        refine ⟨c, rfl, ⟨_, SqL.of h6⟩, fun D hD => lc_list (K := K) (a := c) (xs := (climbT above away ((i : Int), b)).map V.int) (fun k H' => Same H6 H' ∧ H' D = some (.lst ((((climbT above away ((i : Int), b)).take k).map fun v => G.getD v.toNat 0).map V.int))) ⟨same_upd hD, by rw [upd_same, List.take_zero]; rfl⟩ (fun k H' _ ⟨S', _⟩ => SqL.of (S' _ _ h6)) ?_ ?_⟩
        · rintro k y H7 hk ⟨S7, h7⟩
          obtain ⟨v, hv, rfl⟩ := getMap hk
          obtain ⟨v0, v1⟩ := hJ v (List.mem_of_getElem? hv)
          refine ⟨rfl, _, rfl, _, rfl, g5, _, _, _, rfl, rfl, SqL.of (S7 _ _ hg6), atI_map (l := G) v0 (by rw [lG]; exact v1), _, h7, ?_, fun b o hb => by rw [upd_ne (ne_of_none hb hD)]; exact S7 _ _ hb, ?_⟩
          · rw [List.length_map, List.length_map, List.length_take]
            unfold sizeLine
            omega
          · rw [upd_same, take_more hv, List.map_append, List.map_append]
            rfl
        rintro H7 ⟨S7, h7⟩
        have h7 : H7 D = some (.lst ((gjoin above away G ((i : Int), b)).map V.int)) := by
          rw [h7, List.length_map, List.take_length]
          rfl
        have lj : (gjoin above away G ((i : Int), b)).length ≤ 2000 := by
          unfold gjoin
          rw [List.length_map]
          exact lJ
        have hg7 := S7 _ _ hg6
        have nD : H D = none := same_none S56 hD
        generalize eJ : gjoin above away G ((i : Int), b) = J at h7 lj eN
        refine ⟨_, rfl, D, J, rfl, SqL.of h7, by omega, fun sp c2 H8 n8 S8 h8 hc2 => ?_⟩
        refine ⟨sp, _, c2, rfl, h8, by unfold scanBound; omega, fun ⟨ks, knd, kmem, klen⟩ => ?_⟩
        refine ⟨_, _, rfl, rfl, _, rfl, ?_⟩
        have eM := many_len (J := J) knd kmem klen
        have S58 := (S56.trans S7).trans S8
        refine ite2 (fun hc => ?_) (fun hc => ?_)
        · have hc : manyB J = true := eM.symm.trans hc
          have eN2 : gstep above away G ((i : Int), b) = G.map (mrg (J.headD 0) J) := by
            unfold gstep
            rw [eJ, if_pos hc]
          have h8J : H8 D = some (.lst (J.map V.int)) := S8 _ _ h7
          have h8g := S8 _ _ hg7
          have hJ0 : atI (J.map V.int) 0 = some (.int (J.headD 0)) := by
            cases J with
            | nil => cases hc
            | cons x l => exact at_of (j := 0) rfl rfl
          refine ⟨_, rfl, g5, rfl, ⟨_, SqL.of h8g⟩, fun D2 hD2 => lc_list (K := K) (a := g5) (xs := G.map V.int) (fun k H' => Same H8 H' ∧ H' D2 = some (.lst (((G.take k).map (mrg (J.headD 0) J)).map V.int))) ⟨same_upd hD2, by rw [upd_same, List.take_zero]; rfl⟩ (fun k H' _ ⟨S', _⟩ => SqL.of (S' _ _ h8g)) ?_ ?_⟩
          · rintro k y H9 hk ⟨S9, h9⟩
            obtain ⟨z, hz, rfl⟩ := getMap hk
            have done : ∀ {z' : Int}, z' = mrg (J.headD 0) J z → ∃ acc, H9 D2 = some (.lst acc) ∧ acc.length < sizeLine ∧ Same H8 (upd H9 D2 (.lst (acc ++ [V.int z']))) ∧ (upd H9 D2 (.lst (acc ++ [V.int z']))) D2 = some (.lst (((G.take (k + 1)).map (mrg (J.headD 0) J)).map V.int)) := fun {z'} ez => by
              refine ⟨_, h9, ?_, fun b o hb => by rw [upd_ne (ne_of_none hb hD2)]; exact S9 _ _ hb, ?_⟩
              · rw [List.length_map, List.length_map, List.length_take]
                unfold sizeLine
                omega
              · rw [upd_same, take_more hz, List.map_append, List.map_append, ez]
                rfl
            refine ⟨rfl, _, rfl, _, rfl, D, _, rfl, .inl (SqL.of (S9 _ _ h8J)), rfl, flat_ints, _, rfl, ?_⟩
            refine ite2 (fun hz2 => ?_) (fun hz2 => ?_)
            · have hz2 : z ∈ J := of_decide_eq_true (inV_ints.symm.trans hz2)
              exact ⟨_, rfl, D, _, _, _, rfl, rfl, SqL.of (S9 _ _ h8J), hJ0, done (by unfold mrg; rw [if_pos hz2])⟩
            · have hz2 : ¬ z ∈ J := fun c => hz2 (inV_ints.trans (decide_eq_true c))
              exact ⟨_, rfl, done (by unfold mrg; rw [if_neg hz2])⟩
          rintro H9 ⟨S9, h9⟩
          rw [List.length_map, List.take_length] at h9
          exact ⟨⟨D2, _, _, rfl, same_none S58 hD2, by rw [eN, eN2]; exact h9⟩, S58.trans S9⟩
        · have hc : ¬ manyB J = true := fun z => hc (eM.trans z)
          have eN2 : gstep above away G ((i : Int), b) = G := by
            unfold gstep
            rw [eJ, if_neg hc]
          exact ⟨⟨g5, _, _, rfl, ng5, by rw [eN, eN2]; exact S8 _ _ hg7⟩, S58⟩
      · rintro σ H5 ⟨⟨g5, x, z, rfl, ng5, hg5⟩, S5⟩
        refine ⟨⟨g5, _, _, _, _, rfl, ng5, ?_⟩, S5⟩
        rw [hg5, List.length_map, List.take_length, pairsOf_succ, List.foldl_append]
    · rintro σ H2 ⟨⟨g5, u, v, x, y, rfl, ng5, hg5⟩, S⟩
      rw [lenn] at hg5
      exact ⟨_, rfl, q g5 H2 S ng5 hg5⟩
end
end Sb

/-! ## CW32 -/
/-! A web's tree and what its groups tell. -/
namespace Sb
open PySem PySem.Spec PyProof.Rows L2
def EdT (ts : List (Int × Int)) (a b : Int) : Prop := (a, b) ∈ ts ∨ (b, a) ∈ ts
abbrev wD (n : Nat) (ts : List (Int × Int)) : List Int := stepsOf (rowsOf n ts) 0
abbrev wAb (n : Nat) (ts : List (Int × Int)) : List Int := aboveOf (rowsOf n ts) (wD n ts)
abbrev wPar (n : Nat) (ts : List (Int × Int)) (v : Int) : Int := (wAb n ts).getD v.toNat 0
abbrev wDep (n : Nat) (ts : List (Int × Int)) (v : Int) : Nat := ((wD n ts).getD v.toNat 0).toNat
abbrev wGr (n : Nat) (ts : List (Int × Int)) : List Int := groupsOf (rowsOf n ts) (wAb n ts) (wD n ts)
section
variable {n : Nat} {ts : List (Int × Int)}
theorem w_far (W : WebP n ts) : Far n (rowsOf n ts) 0 (wD n ts) := web_far W (Int.le_refl 0) (by have := W.n2; omega)
theorem w_ablen (W : WebP n ts) : (wAb n ts).length = n := by
  show ((List.range ((rowsOf n ts).length - 1)).map _).length + 1 = n
  rw [List.length_map, List.length_range, rowsOf_len]
  have := W.n2
  omega
theorem w_par0 : wPar n ts 0 = 0 := rfl
theorem w_par (W : WebP n ts) {v : Int} (v0 : 0 ≤ v) (v1 : v < (n : Int)) (nv : v ≠ 0) : wPar n ts v = nxt (rowsOf n ts) (wD n ts) v := by
  obtain ⟨k, hk⟩ : ∃ k, v.toNat = k + 1 := ⟨v.toNat - 1, by omega⟩
  show (aboveOf (rowsOf n ts) (wD n ts)).getD v.toNat 0 = _
  rw [hk]
  show ((List.range ((rowsOf n ts).length - 1)).map fun i => (nearer (rowsOf n ts) (wD n ts) (i + 1)).headD 0).getD k 0 = _
  have hk2 : k < (rowsOf n ts).length - 1 := by rw [rowsOf_len]; omega
  rw [List.getD_eq_getElem?_getD, List.getElem?_map, List.getElem?_range hk2]
  show (nearer (rowsOf n ts) (wD n ts) (k + 1)).headD 0 = _
  rw [← hk]
  rfl
theorem w_tree (W : WebP n ts) : TreeP n (wPar n ts) (wDep n ts) where
  root := by
    have := (w_far W).z 0 (Int.le_refl 0) (by have := W.n2; omega)
    show (gI (wD n ts) 0).toNat = 0
    rw [this.mpr rfl]
    rfl
  up := fun v v0 v1 nv => by
    obtain ⟨r, _, a, b, c, _⟩ := nxt_facts W (w_far W) v0 v1 nv
    rw [w_par W v0 v1 nv]
    refine ⟨a, b, ?_⟩
    have h1 := (w_far W).nn _ a b
    show (gI (wD n ts) _).toNat + 1 = (gI (wD n ts) v).toNat
    omega
theorem w_gt (W : WebP n ts) : GT n (wPar n ts) (wDep n ts) (EdT ts) where
  toTreeP := w_tree W
  inn := fun a b e => by
    rcases e with e | e
    · have := W.inn _ e
      dsimp only at this
      exact ⟨⟨by omega, by omega⟩, ⟨by omega, by omega⟩, by omega⟩
    · have := W.inn _ e
      dsimp only at this
      exact ⟨⟨by omega, by omega⟩, ⟨by omega, by omega⟩, by omega⟩
  sym := fun a b e => e.symm
  tree := fun v v0 v1 nv => by
    obtain ⟨r, e, _⟩ := nxt_facts W (w_far W) v0 v1 nv
    rw [w_par W v0 v1 nv]
    have hm : nxt (rowsOf n ts) (wD n ts) v ∈ nxtL (rowsOf n ts) (wD n ts) v := by
      rw [e]
      exact List.mem_cons_self
    exact (rows_iff W.ti v0).mp (List.mem_filter.mp hm).1
theorem w_nn (W : WebP n ts) (i : Nat) : 0 ≤ (wD n ts).getD i 0 ∧ (wD n ts).getD i 0 ≤ 1000 := by
  by_cases h : i < n
  · have h1 := (w_far W).nn (i : Int) (by omega) (by omega)
    have h2 := (w_far W).small (i : Int) (by omega) (by omega)
    have := W.n40
    have e : ((i : Int)).toNat = i := by omega
    have z : gI (wD n ts) (i : Int) = (wD n ts).getD i 0 := by
      show (wD n ts).getD (i : Int).toNat 0 = _
      rw [e]
    omega
  · have hl : (wD n ts).length ≤ i := by rw [(w_far W).len]; omega
    rw [List.getD_eq_getElem?_getD, List.getElem?_eq_none hl]
    exact ⟨Int.le_refl _, by decide⟩
theorem w_Tree (W : WebP n ts) : Tree n (wAb n ts) (wD n ts) where
  la := w_ablen W
  lw := (w_far W).len
  ra := fun z hz => by
    obtain ⟨i, hi⟩ := List.mem_iff_getElem?.mp hz
    have hl := (List.getElem?_eq_some_iff.mp hi).1
    rw [w_ablen W] at hl
    have ez : wPar n ts (i : Int) = z := by
      show (wAb n ts).getD (i : Int).toNat 0 = z
      rw [show ((i : Int)).toNat = i by omega, List.getD_eq_getElem?_getD, hi]
      rfl
    by_cases h0 : i = 0
    · rw [h0] at ez
      have e0 : (0 : Int) = z := ez
      have := W.n2
      omega
    · have u := (w_tree W).up (i : Int) (by omega) (by omega) (by omega)
      rw [ez] at u
      exact ⟨u.1, u.2.1⟩
  low := fun i => (w_nn W i).1
  zero := fun i hi e => by
    have := dep_zero (w_tree W) (v := (i : Int)) (by omega) (by omega) (by
      show ((wD n ts).getD (i : Int).toNat 0).toNat = 0
      rw [show ((i : Int)).toNat = i by omega, e]
      rfl)
    omega
  root := by
    have := (w_far W).z 0 (Int.le_refl 0) (by have := W.n2; omega)
    exact this.mpr rfl
  less := fun i hi ne => by
    have u := ((w_tree W).up (i : Int) (by omega) (by omega) (by omega)).2.2
    have u : ((wD n ts).getD ((wAb n ts).getD ((i : Int)).toNat 0).toNat 0).toNat + 1 = ((wD n ts).getD (i : Int).toNat 0).toNat := u
    rw [show ((i : Int)).toNat = i by omega] at u
    have h1 := (w_nn W ((wAb n ts).getD i 0).toNat).1
    have h2 := (w_nn W i).1
    omega
theorem pairs_mem (W : WebP n ts) {t : Int × Int} : t ∈ pairsOf (rowsOf n ts) n ↔ EdT ts t.1 t.2 := by
  unfold pairsOf
  rw [List.mem_flatMap]
  constructor
  · rintro ⟨a, ha, h⟩
    obtain ⟨b, hb, rfl⟩ := List.mem_map.mp h
    have hb2 : b ∈ gR (rowsOf n ts) (a : Int) := by
      show b ∈ (rowsOf n ts).getD (a : Int).toNat []
      rw [show ((a : Int)).toNat = a by omega]
      exact hb
    exact (rows_iff W.ti (by omega)).mp hb2
  · intro e
    obtain ⟨⟨a0, a1⟩, _, _⟩ := (w_gt W).inn _ _ e
    refine ⟨t.1.toNat, List.mem_range.mpr (by omega), List.mem_map.mpr ⟨t.2, (rows_iff W.ti a0).mpr e, ?_⟩⟩
    show (((t.1.toNat : Nat) : Int), t.2) = t
    rw [show ((t.1.toNat : Nat) : Int) = t.1 by omega]
theorem upto_at {n : Nat} {v : Int} (h : Bay n v) : (upto n).getD v.toNat 0 = v := by
  have h0 := h.1
  have h1 := h.2
  unfold upto
  rw [List.getD_eq_getElem?_getD, List.getElem?_map, List.getElem?_range (by omega)]
  show ((v.toNat : Nat) : Int) = v
  omega
theorem w_lab (W : WebP n ts) : (wGr n ts).length = n ∧ Lab (Bay n) (fun v => (wGr n ts).getD v.toNat 0) (Jn (wPar n ts) (EdT ts)) := by
  have hl : (upto n).length = n := by
    unfold upto
    rw [List.length_map, List.length_range]
  have st : Lab (Bay n) (fun v => (upto n).getD v.toNat 0) (fun _ _ => False) := lab_start fun x y hx hy e => by
    rw [upto_at hx, upto_at hy] at e
    exact e
  obtain ⟨q1, q2⟩ := gfold_lab (above := wAb n ts) (away := wD n ts) (pairsOf (rowsOf n ts) n) hl st fun t ht v hv => by
    obtain ⟨⟨a0, a1⟩, ⟨b0, b1⟩, _⟩ := (w_gt W).inn _ _ ((pairs_mem W).mp ht)
    exact climb_bays (w_Tree W) _ _ _ a0 a1 b0 b1 v hv
  have eg : wGr n ts = (pairsOf (rowsOf n ts) n).foldl (gstep (wAb n ts) (wD n ts)) (upto n) := by
    show groupsOf _ _ _ = _
    unfold groupsOf
    rw [rowsOf_len]
  have cp : ∀ t ∈ pairsOf (rowsOf n ts) n, ∀ v, v ∈ climbT (wAb n ts) (wD n ts) t ↔ Path (wPar n ts) t.1 t.2 v := fun t ht v => by
    obtain ⟨⟨a0, a1⟩, ⟨b0, b1⟩, _⟩ := (w_gt W).inn _ _ ((pairs_mem W).mp ht)
    exact climb_path (w_tree W) (fun v _ _ => (w_nn W v.toNat).1) _ _ _ a0 a1 b0 b1 (Nat.le_refl _) v
  refine ⟨eg ▸ q1, ?_⟩
  rw [eg]
  refine q2.congr (fun _ _ => rfl) fun x y => ⟨fun z => ?_, fun z => ?_⟩
  · rcases z with z | ⟨t, ht, z1, z2⟩
    · exact z.elim
    · exact ⟨t.1, t.2, (pairs_mem W).mp ht, (cp t ht x).mp z1, (cp t ht y).mp z2⟩
  · obtain ⟨a, b, e, z1, z2⟩ := z
    have ht : (a, b) ∈ pairsOf (rowsOf n ts) n := (pairs_mem W).mpr e
    exact .inr ⟨(a, b), ht, (cp _ ht x).mpr z1, (cp _ ht y).mpr z2⟩
end
end Sb

/-! ## C232 -/
/-! blocks_with_gates of any web. -/
namespace Sb
open PySem PySem.Spec PyProof.Rows L2
open LamX (ExtN Tabs TabS)
open PySem.W (EachIs dataLe AllAlike Sortable)
abbrev sBlocks : Stmt := top 11
/-- a list that is written is no table -/
theorem tabs_but {T : List (Addr × Str)} {H H' : Hp} {b : Addr} {xs : List V} (t : Tabs T H) (h : But b H H') (e : H b = some (.lst xs)) : Tabs T H' := fun z hz => by
  obtain ⟨ps, g1, g2, g3⟩ := t z hz
  have n : z.1 ≠ b := fun k => by
    rw [k, e] at g1
    cases g1
  refine ⟨ps, h _ _ n g1, g2, fun pos cv hc => ?_⟩
  obtain ⟨c, k1, k2⟩ := g3 pos cv hc
  refine ⟨c, k1, h _ _ (fun k => ?_) k2⟩
  rw [k, e] at k2
  cases k2
theorem lst_ext {H H' : Hp} (e : ExtN H H') {a : Addr} {xs : List V} (h : H a = some (.lst xs)) : H' a = some (.lst xs) := e _ _ h (by intro ps z; cases z)
theorem extS {H H' : Hp} (s : Same H H') : ExtN H H' := fun b o h _ => s b o h
def qOf (x : Str) : Str := (x ++ ".<locals>." : Str) ++ ("<lambda>" : Str)
/-- a tuple of a tuple of whole numbers and one -/
def BgAt (H : Hp) (v : V) (p : List Int × Int) : Prop := ∃ a t : Addr, v = .ref a ∧ H a = some (.tup [.ref t, .int p.2]) ∧ H t = some (.tup (p.1.map V.int))
/-- the blocks of a web with their gates, ascending -/
structure Bgs (n : Nat) (ts : List (Int × Int)) (Q : List (List Int × Int)) : Prop where
  blk : Blks n (wPar n ts) (wDep n ts) (EdT ts) (Q.map Prod.fst)
  gate : ∀ p ∈ Q, ∀ t, BlkS n (wPar n ts) (wDep n ts) (EdT ts) p.1 t → p.2 = wPar n ts t
  len : Q.length ≤ 64
/-- no letter of H, tables aside -/
def FreshN (H : Hp) (o : Addr) : Prop := ∀ b u, H b = some u → (∀ ps, u ≠ .tbl ps) → b ≠ o
theorem freshN {H H' : Hp} {o : Addr} (e : ExtN H H') (n : H' o = none) : FreshN H o := fun b u hb hn z => by
  have := e b u hb hn
  rw [z, n] at this
  cases this
/-- blocks_with_gates of a web's rows -/
def spBlocks (T : List (Addr × Str)) : Sp := fun vs H Q _ => ∃ (l : Addr) (ps : List Addr) (n : Nat) (ts : List (Int × Int)), vs = [.ref l] ∧ RowsL H l ps (rowsOf n ts) ∧ WebP n ts ∧ Tabs T H ∧
  ∀ (o : Addr) (xs : List V) (bs : List (List Int × Int)) H', ExtN H H' → Tabs T H' → FreshN H o → H' o = some (.lst xs) → EachIs (BgAt H') xs bs → Bgs n ts bs → Q (.ref o) H'
theorem BgAt.ext {H H' : Hp} {v : V} {p : List Int × Int} (e : ExtN H H') (h : BgAt H v p) : BgAt H' v p := by
  obtain ⟨a, t, rfl, h1, h2⟩ := h
  exact ⟨a, t, rfl, e _ _ h1 (by intro ps z; cases z), e _ _ h2 (by intro ps z; cases z)⟩
theorem BgAt.but {H H' : Hp} {v : V} {p : List Int × Int} {b : Addr} {xs : List V} (k : But b H H') (e : H b = some (.lst xs)) (h : BgAt H v p) : BgAt H' v p := by
  obtain ⟨a, t, rfl, h1, h2⟩ := h
  refine ⟨a, t, rfl, k _ _ (fun z => ?_) h1, k _ _ (fun z => ?_) h2⟩
  · rw [z, e] at h1
    cases h1
  · rw [z, e] at h2
    cases h2
/-- b is the block of the bays that are labelled k -/
def BGood (n : Nat) (ts : List (Int × Int)) (b : List Int × Int) (k : Int) : Prop := ∃ t, BlkS n (wPar n ts) (wDep n ts) (EdT ts) b.1 t ∧ b.2 = wPar n ts t ∧ (wGr n ts).getD t.toNat 0 = k
def heldOf (G : List Int) (m : Nat) (k : Int) : List Int := ((List.range m).map fun i => (1 : Int) + (i : Nat)).filter fun v => decide (G.getD v.toNat 0 = k)
theorem held_mem {G : List Int} {m : Nat} {k v : Int} : v ∈ heldOf G m k ↔ 1 ≤ v ∧ v < 1 + (m : Int) ∧ G.getD v.toNat 0 = k := by
  unfold heldOf
  rw [List.mem_filter, List.mem_map, decide_eq_true_iff]
  constructor
  · rintro ⟨⟨i, hi, rfl⟩, h⟩
    have := List.mem_range.mp hi
    exact ⟨by omega, by omega, h⟩
  · rintro ⟨h1, h2, h3⟩
    exact ⟨⟨(v - 1).toNat, List.mem_range.mpr (by omega), by omega⟩, h3⟩
theorem held_more {G : List Int} {m : Nat} {k : Int} : heldOf G (m + 1) k = heldOf G m k ++ (if G.getD ((1 : Int) + (m : Nat)).toNat 0 = k then [(1 : Int) + (m : Nat)] else []) := by
  unfold heldOf
  rw [List.range_succ, List.map_append, List.filter_append, List.map_singleton]
  congr 1
  by_cases h : G.getD ((1 : Int) + (m : Nat)).toNat 0 = k
  · rw [if_pos h]
    exact List.filter_cons_of_pos (p := fun v : Int => decide (G.getD v.toNat 0 = k)) (decide_eq_true h)
  · rw [if_neg h]
    exact List.filter_cons_of_neg (p := fun v : Int => decide (G.getD v.toNat 0 = k)) (by rw [decide_eq_false h]; exact Bool.false_ne_true)
theorem held_len {G : List Int} {m : Nat} {k : Int} : (heldOf G m k).length ≤ m := by
  unfold heldOf
  refine Nat.le_trans (List.length_filter_le _ _) ?_
  rw [List.length_map, List.length_range]
  exact Nat.le_refl _
theorem held_asc {G : List Int} {m : Nat} {k : Int} : (heldOf G m k).Pairwise (· < ·) := by
  unfold heldOf
  refine List.Pairwise.filter _ (List.pairwise_map.mpr (List.pairwise_lt_range.imp fun {a b} h => ?_))
  show (1 : Int) + (a : Nat) < 1 + (b : Nat)
  omega
/-- one label's block -/
theorem held_good {n : Nat} {ts : List (Int × Int)} (W : WebP n ts) {k M : Int} (hM : M ∈ heldOf (wGr n ts) (n - 1) k) (hle : ∀ b ∈ heldOf (wGr n ts) (n - 1) k, (wD n ts).getD M.toNat 0 ≤ (wD n ts).getD b.toNat 0) {b : List Int} (hp : b.Perm (wPar n ts M :: heldOf (wGr n ts) (n - 1) k)) (hs : b.Pairwise (· ≤ ·)) : BGood n ts (b, wPar n ts M) k := by
  have n2 := W.n2
  obtain ⟨m1, m2, m3⟩ := held_mem.mp hM
  have mem : ∀ x, x ∈ heldOf (wGr n ts) (n - 1) k ↔ 0 ≤ x ∧ x < (n : Int) ∧ x ≠ 0 ∧ (wGr n ts).getD x.toNat 0 = (wGr n ts).getD M.toNat 0 := fun x => by
    rw [held_mem, m3]
    constructor
    · rintro ⟨a, b, c⟩
      exact ⟨by omega, by omega, by omega, c⟩
    · rintro ⟨a, b, c, d⟩
      exact ⟨by omega, by omega, d⟩
  have up := (w_tree W).up M (by omega) (by omega) (by omega)
  have ng : wPar n ts M ∉ heldOf (wGr n ts) (n - 1) k := fun z => by
    have h1 := hle _ z
    have h2 : ((wD n ts).getD (wPar n ts M).toNat 0).toNat + 1 = ((wD n ts).getD M.toNat 0).toNat := up.2.2
    have h3 := (w_nn W (wPar n ts M).toNat).1
    omega
  have nd : b.Nodup := hp.nodup_iff.mpr (List.nodup_cons.mpr ⟨ng, held_asc.imp fun {a b} h e => by
    have h : a < b := h
    omega⟩)
  have asc : b.Pairwise (· < ·) := List.Pairwise.imp₂ (fun {x y} (h1 : x ≤ y) (h2 : x ≠ y) => by omega) hs nd
  refine ⟨M, blk_of_label (w_gt W) (w_lab W).2 (by omega) (by omega) (by omega) (fun v v0 v1 nv e => ?_) asc (fun x => ?_), rfl, m3⟩
  · have h1 := hle v ((mem v).mpr ⟨v0, v1, nv, e⟩)
    show ((wD n ts).getD M.toNat 0).toNat ≤ ((wD n ts).getD v.toNat 0).toNat
    omega
  · rw [hp.mem_iff, List.mem_cons, mem]
    exact Or.comm
theorem bgs_of {n : Nat} {ts : List (Int × Int)} (W : WebP n ts) {ns : List Int} {bs : List (List Int × Int)} (hns : ns.Nodup) (hmem : ∀ k, k ∈ ns ↔ k ∈ (wGr n ts).drop 1) (h : EachIs (BGood n ts) bs ns) (h64 : bs.length ≤ 64) : Bgs n ts (bs.mergeSort (dataLe false bgD)) := by
  have G := w_gt W
  have L := (w_lab W).2
  have hl := (w_lab W).1
  have one : ∀ b ∈ bs, ∃ k, BGood n ts b k := fun b hb => by
    obtain ⟨i, hi⟩ := List.mem_iff_getElem?.mp hb
    obtain ⟨k, _, hk⟩ := each_get h hi
    exact ⟨k, hk⟩
  have p := List.mergeSort_perm bs (dataLe false bgD)
  have lab : ∀ {b c : List Int × Int} {k l : Int}, BGood n ts b k → BGood n ts c l → b.1 = c.1 → k = l := fun {b c k l} hb hc e => by
    obtain ⟨t, h1, _, h2⟩ := hb
    obtain ⟨s, h3, _, h4⟩ := hc
    rw [← e] at h3
    have j := blk_class G h1 h3
    rw [← h2, ← h4]
    exact (L.iff t s ⟨h1.top.t0, h1.top.t1⟩ ⟨h3.top.t0, h3.top.t1⟩).mpr j
  have ndf : (bs.map Prod.fst).Nodup := by
    clear p one hmem h64
    induction h with
    | nil => exact List.nodup_nil
    | @cons b k bs ns hb ht ih =>
      obtain ⟨k1, k2⟩ := List.nodup_cons.mp hns
      refine List.nodup_cons.mpr ⟨fun z => ?_, ih k2⟩
      obtain ⟨c, hc, ec⟩ := List.mem_map.mp z
      obtain ⟨i, hi⟩ := List.mem_iff_getElem?.mp hc
      obtain ⟨l, h1, h2⟩ := each_get ht hi
      exact k1 (lab h2 hb ec ▸ List.mem_of_getElem? h1)
  refine ⟨⟨fun b hb => ?_, fun u u0 u1 nu => ?_, ?_⟩, fun q hq t ht => ?_, by rw [List.length_mergeSort]; exact h64⟩
  · obtain ⟨q, hq, rfl⟩ := List.mem_map.mp hb
    obtain ⟨k, t, ht, _⟩ := one q (p.mem_iff.mp hq)
    exact ⟨t, ht⟩
  · have hu : u.toNat < (wGr n ts).length := by rw [hl]; omega
    have hk : (wGr n ts).getD u.toNat 0 ∈ ns := by
      rw [hmem, List.mem_iff_getElem?]
      refine ⟨u.toNat - 1, ?_⟩
      rw [List.getElem?_drop, show 1 + (u.toNat - 1) = u.toNat by omega, List.getD_eq_getElem?_getD, List.getElem?_eq_getElem hu]
      rfl
    obtain ⟨i, hi⟩ := List.mem_iff_getElem?.mp hk
    obtain ⟨b, hb, t, h1, h2, h3⟩ := each_got h hi
    exact ⟨b.1, List.mem_map.mpr ⟨b, p.mem_iff.mpr (List.mem_of_getElem? hb), rfl⟩, t, h1, (L.iff t u ⟨h1.top.t0, h1.top.t1⟩ ⟨u0, u1⟩).mp h3⟩
  · have h1 := List.pairwise_map.mpr ((sortBG bs).imp (S := fun p q => p.1 ≤ q.1) fun {a b} h => by
      rcases h with h | ⟨h, _⟩
      · exact List.le_of_lt h
      · rw [h]
        exact List.le_refl _)
    exact asc_of h1 ((p.map Prod.fst).nodup_iff.mpr ndf)
  · obtain ⟨k, s, hs, e, _⟩ := one q (p.mem_iff.mp hq)
    rw [e]
    exact top_par G ht.top hs.top (blk_class G ht hs)
structure BlkTxt (mg : Str → Option Value) : Prop where
  len : mg "len" = none
  range : mg "range" = none
  set : mg "set" = none
  sorted : mg "sorted" = none
  tuple : mg "tuple" = none
  min : mg "min" = none
section
variable {P : Program} {w : World} {K : PySem.W.Frag} {mg : Str → Option Value} {base : Heap} {C : Nat → Addr}
abbrev scBlocksN : List Str := ["rows", "away", "above", "groups", "found", "group", "held", "gate", "bay"]
abbrev scBlocksS : Scope := defScope sBlocks
theorem scBlocks : FnScope ["rows", "away", "above", "groups", "found", "group", "held", "gate", "bay"] ["rows"] (defScope sBlocks) := ⟨rfl, rfl, rfl, by decide +kernel, rfl, by decide +kernel, by decide +kernel⟩
theorem ok_blocks {f fS fA fG Pb cl : Addr} {fdS fdA fdG : FuncData} {oc : Value} {od : Option Addr} {dV kV doc pm ct : Value} {an : Option Addr} {osl : Array (Option Value)} {TT : List (Addr × Str)}
    (lk : K.lookup f = some ⟨oc, od, .func (PySem.W.fnOf "blocks_with_gates" "blocks_with_gates" (defArgs sBlocks) (defBody sBlocks) (defScope sBlocks) dV kV doc pm an (.ref cl) ct), osl⟩) (hcd : PySem.W.codeIn K (.ref cl) "blocks_with_gates" = true) (T : BlkTxt mg)
    (FS : FnP K "steps_from" sSteps fS fdS) (gS : mg "steps_from" = some (.ref fS)) (GS : FnOk P w K mg base CX0 1 fS fdS ["rows", "start"] spSteps)
    (FA : FnP K "bays_above" sAbove fA fdA) (gA : mg "bays_above" = some (.ref fA)) (GA : FnOk P w K mg base CX0 1 fA fdA ["rows", "away"] spAbove)
    (FG : FnP K "groups_held" sGroups fG fdG) (gG : mg "groups_held" = some (.ref fG)) (GG : FnOk P w K mg base CX0 2 fG fdG ["rows", "above", "away"] spGroups)
    (TB : LamX.TabB base mg cl Pb) (hm : (Pb, qOf "blocks_with_gates") ∈ TT) (hu : ∀ p ∈ TT, p.1 = Pb → p.2 = qOf "blocks_with_gates") :
    FnOk P w K mg base CX0 3 f (PySem.W.fnOf "blocks_with_gates" "blocks_with_gates" (defArgs sBlocks) (defBody sBlocks) (defScope sBlocks) dV kV doc pm an (.ref cl) ct) ["rows"] (spBlocks TT) := by
  have bS : Binds K fdS ["rows", "start"] [] := FS.bindsN fun _ _ _ _ _ _ us hl => match us, hl with | [_, _], _ => rfl
  have bA : Binds K fdA ["rows", "away"] [] := FA.bindsN fun _ _ _ _ _ _ us hl => match us, hl with | [_, _], _ => rfl
  have bG : Binds K fdG ["rows", "above", "away"] [] := FG.bindsN fun _ _ _ _ _ _ us hl => match us, hl with | [_, _, _], _ => rfl
  refine fn_of lk hcd scBlocks (fun vs H Q E h => ?_) (fun A outer s H vs Q E0 hr h => ?_)
  · obtain ⟨l, ps, n, ts, rfl, _⟩ := h
    rfl
  · obtain ⟨l, ps, n, ts, rfl, R, W, hT, q⟩ := h
    have hr1 : Room 1 _ := hr.mono (by decide)
    have hrL : Room (0 + 2) _ := hr
    refine ⟨_, PSs.nox (pss_cons (ps_set (i := 1) scBlocks.nd rfl (Or.inr rfl) (pe_call GS hr1 rfl gS FS.kp bS .nil pass0 (pa_cons (pv 0) (pa_cons pe_int pa_nil))))
    (pss_cons (ps_set (i := 2) scBlocks.nd rfl (Or.inl rfl) (pe_call GA hr1 rfl gA FA.kp bA .nil pass0 (pa_cons (pv 0) (pa_cons (pv 1) pa_nil))))
    (pss_cons (ps_set (i := 3) scBlocks.nd rfl (Or.inr rfl) (pe_call GG hr rfl gG FG.kp bG .nil pass0 (pa_cons (pv 0) (pa_cons (pv 2) (pa_cons (pv 1) pa_nil)))))
    (pss_cons (ps_set (i := 4) scBlocks.nd rfl (Or.inl rfl) (pe_lstL pa_nil))
    (pss_cons (ps_for PassesOwn.never rfl (pi_list (pe_callB (id := "sorted") (cr_sortedSet rfl) (by rfl) T.sorted (by decide +kernel) (pa_cons (pe_callTy (T := "set") (cr_setL rfl) (by rfl) T.set (by decide +kernel) (pa_cons (pe_slice sl_listL (pv 3) (po_some pe_int) po_none) pa_nil)) pa_nil))) (pg_name (i := 5) scBlocks.nd rfl (Or.inr rfl))
      (pss_cons (ps_setLc (i := 6) (own := [("bay", 8)]) (g := gName 8) (by rfl) scBlocks.nd rfl rfl (sw_true rfl rfl rfl (by decide +kernel)) (pi_range2 (by rfl) T.range (pa_cons pe_int (pa_cons (pe_callB (id := "len") call_len_seq (by rfl) T.len (by decide +kernel) (pa_cons (pv 0) pa_nil)) pa_nil))) (blkOk_by (own := [("bay", 8)]) (N := scBlocksN) (sc := scBlocksS) (by decide +kernel)) (fun _ _ _ _ _ => pg_name (i := 8) scBlocks.nd rfl (Or.inl rfl)) (fun _ _ _ _ _ => pts_one (pt_cmpR op_eq (pe_ix (ix_listK (K := K)) (pv 3) (pv 8) (fun _ _ => rfl)) (pv 5) (nomark _))) (fun _ _ _ _ _ => (pv 8)))
    (pss_cons (ps_set (i := 7) scBlocks.nd rfl (Or.inl rfl) (pe_ix ix_list (pv 2) (pe_minBy (T := TT) (k := 0) (i := 1) rfl rfl T.min (pv 6) TB rfl hm hu hrL rfl (.inl rfl) rfl rfl rfl rfl rfl (by decide +kernel) (by decide +kernel) rfl (fun _ _ _ _ _ _ => rfl)) (fun _ _ => rfl)))
    (pss_one (ps_expr (pe_bm PySem.F.plainAttrs_list PySem.F.slot_list_append PySem.F.type_list_append mt_appendL (pv 4) (pa_cons (pe_tupL (pa_cons (pe_callTy (T := "tuple") call_tuple_of (by rfl) T.tuple (by decide +kernel) (pa_cons (pe_callB (id := "sorted") cr_sorted (by rfl) T.sorted (by decide +kernel) (pa_cons (pe_op op_catL (pe_lstL (pa_cons (pv 7) pa_nil)) (pv 6)) pa_nil)) pa_nil)) (pa_cons (pv 7) pa_nil))) pa_nil)))))))
    (pss_one (ps_ret (pe_callB (id := "sorted") (cr_sortedD (K := K) (enc := bgD) hr.units) (by rfl) T.sorted (by decide +kernel) (pa_cons (pv 4) pa_nil))))))))), ?_⟩
    -- away, above, groups
    have n2 := W.n2
    have n40 := W.n40
    have lr : (rowsOf n ts).length = n := rowsOf_len n ts
    have ri : RowsIn (rowsOf n ts).length (rowsOf n ts) := by rw [lr]; exact W.rin
    refine ⟨_, rfl, l, ps, rowsOf n ts, 0, rfl, R, ri, by rw [lr]; omega, by rw [lr]; omega, fun a H1 S1 n1 h1 _ => ?_⟩
    have h1 : H1 a = some (.lst ((wD n ts).map V.int)) := h1
    have R1 := R.same S1
    refine ⟨_, rfl, _, rfl, l, ps, rowsOf n ts, a, wD n ts, rfl, R1, h1, ri, by rw [lr]; exact (w_far W).len, by rw [lr]; omega, by rw [lr]; omega, (fun k => ?_), (fun b b1 b2 => ?_), fun m H2 S2 n2' h2 => ?_⟩
    · have e : ((k : Int)).toNat = k := by omega
      have z := (found_count (n := n) (ks := (rowsOf n ts).getD k []) ((by
        have w := web_sorted W (k : Int)
        have w : ((rowsOf n ts).getD ((k : Int)).toNat []).Pairwise (· < ·) := w
        rw [e] at w
        exact w.imp fun {a b} h e2 => by
          have h : a < b := h
          omega)) (W.rin k)).1
      omega
    · rw [lr] at b2
      obtain ⟨r, e, _⟩ := nxt_facts W (w_far W) (v := (b : Int)) (by omega) (by omega) (by omega)
      have e2 : nearer (rowsOf n ts) (wD n ts) b = nxtL (rowsOf n ts) (wD n ts) (b : Int) := by
        show _ = ((rowsOf n ts).getD ((b : Int)).toNat []).filter fun z => decide ((wD n ts).getD z.toNat 0 < (wD n ts).getD ((b : Int)).toNat 0)
        rw [show ((b : Int)).toNat = b by omega]
        rfl
      rw [e2, e]
      exact List.cons_ne_nil _ _
    have h2 : H2 m = some (.lst ((wAb n ts).map V.int)) := h2
    have R2 := R1.same S2
    refine ⟨_, rfl, _, rfl, _, rfl, l, m, a, ps, rowsOf n ts, wAb n ts, wD n ts, rfl, R2, h2, S2 _ _ h1, by rw [lr]; exact w_Tree W, ri, by rw [lr]; omega, fun i => (w_nn W i).2, fun g H3 S3 n3 h3 => ?_⟩
    have R3 := R2.same S3
    have T3 : Tabs TT H3 := ((hT.ext S1).ext S2).ext S3
    have ha3 := S3 _ _ (S2 _ _ h1)
    have hm3 := S3 _ _ h2
    have hg3 : H3 g = some (.lst ((wGr n ts).map V.int)) := h3
    have E3 : ExtN H H3 := extS ((S1.trans S2).trans S3)
    refine ⟨by show 0 ≤ sizeLine; decide, fun fd H4 n4 S4 h4 => ?_⟩
    have T4 := T3.ext S4
    -- sorted(set(groups[1:]))
    obtain ⟨x0, gl, eG⟩ : ∃ x0 gl, wGr n ts = x0 :: gl := by
      cases e : wGr n ts with
      | nil =>
        have := (w_lab W).1
        rw [e, List.length_nil] at this
        omega
      | cons x l => exact ⟨x, l, rfl⟩
    have lgl : gl.length + 1 = n := by
      have := (w_lab W).1
      rw [eG] at this
      exact this
    have edr : (wGr n ts).drop 1 = gl := by rw [eG]; rfl
    refine ⟨_, rfl, 1, rfl, g, _, rfl, SqL.of (S4 _ _ hg3), fun gs H5 n5 S5 h5 => ?_⟩
    have h5 : H5 gs = some (.lst (gl.map V.int)) := by
      rw [eG, cut1] at h5
      exact h5
    refine ⟨gs, gl, rfl, SqL.of h5, by omega, fun sp c H6 n6 S6 h6 hc => ?_⟩
    have S6 : Same H5 H6 := S6
    refine ⟨sp, _, c, rfl, h6, by omega, fun ns op hpw hmem hlen n7 => ?_⟩
    have hmem2 : ∀ k, k ∈ ns ↔ k ∈ gl := fun k => by rw [hmem k, decide_eq_true_eq]
    have hnd : ns.Nodup := hpw.imp fun {a b} h e => by
      have h : a < b := h
      omega
    have S7 : Same H6 (upd H6 op (.lst (ns.map V.int))) := same_upd n7
    have h7 : (upd H6 op (.lst (ns.map V.int))) op = some (.lst (ns.map V.int)) := upd_same
    generalize upd H6 op (.lst (ns.map V.int)) = H7 at S7 h7
    have S47 : Same H4 H7 := (S5.trans S6).trans S7
    have E7 : ExtN H3 H7 := extS (S4.trans S47)
    refine ⟨op, rfl, ⟨_, SqL.of h7⟩, for_list (K := K) (a := op) (xs := ns.map V.int) (fun j σ H' => (∃ x y z, σ = [some (.ref l), some (.ref a), some (.ref m), some (.ref g), some (.ref fd), x, y, z, none]) ∧ ExtN H3 H' ∧ Tabs TT H' ∧ H' op = some (.lst (ns.map V.int)) ∧
        ∃ xs bs, H' fd = some (.lst xs) ∧ EachIs (BgAt H') xs bs ∧ EachIs (BGood n ts) bs (ns.take j))
      ⟨⟨_, _, _, rfl⟩, E7, T4.ext S47, h7, [], [], S47 _ _ h4, .nil, .nil⟩ (fun j σ H' _ ⟨_, _, _, z, _⟩ => SqL.of z) ?_ ?_⟩
    · rintro j y σ H8 hj ⟨⟨x, y1, z1, rfl⟩, E8, T8, hop, xs, bs, hfd, hbg, hgood⟩
      obtain ⟨k, hk, rfl⟩ := getMap hj
      have lenP : ps.length = n := by rw [R3.len, lr]
      have R8 : H8 l = some (.lst (ps.map V.ref)) := lst_ext E8 R3.at_
      have g8 := lst_ext E8 hg3
      -- held
      refine ⟨_, rfl, l, _, rfl, .inl (SqL.of R8), _, _, rfl, ⟨by omega, by omega, by rw [List.length_map, lenP]; omega, by rw [List.length_map, lenP]; omega⟩, fun D hD => ?_⟩
      rw [List.length_map, lenP]
      refine lc_range (lo := 1) (n := ((n : Int) - 1).toNat) (fun j H9 => Same H8 H9 ∧ H9 D = some (.lst ((heldOf (wGr n ts) j k).map V.int))) ⟨same_upd hD, upd_same⟩ ?_ ?_
      · rintro j H9 hj ⟨S9, h9⟩
        have ix := atI_map (l := wGr n ts) (i := 1 + (j : Nat)) (by omega) (by rw [(w_lab W).1]; omega)
        refine ⟨rfl, _, rfl, _, rfl, g, _, _, _, rfl, rfl, SqL.of (S9 _ _ g8), ix, _, rfl, rfl, _, rfl, ite2 (fun hc => ?_) (fun hc => ?_)⟩
        · have hc : (wGr n ts).getD ((1 : Int) + (j : Nat)).toNat 0 = k := V.int.inj (of_decide_eq_true hc)
          refine ⟨_, rfl, _, h9, ?_, fun b o hb => by rw [upd_ne (ne_of_none hb hD)]; exact S9 _ _ hb, ?_⟩
          · rw [List.length_map]
            have := held_len (G := wGr n ts) (m := j) (k := k)
            unfold sizeLine
            omega
          · rw [upd_same, held_more, if_pos hc, List.map_append]
            rfl
        · have hc : ¬ (wGr n ts).getD ((1 : Int) + (j : Nat)).toNat 0 = k := fun z => hc (decide_eq_true (congrArg V.int z))
          refine ⟨S9, ?_⟩
          rw [h9, held_more, if_neg hc, List.append_nil]
      rintro H9 ⟨S9, h9⟩
      rw [show ((n : Int) - 1).toNat = n - 1 by omega] at h9
      have hm9 := S9 _ _ (lst_ext E8 hm3)
      have ha9 := S9 _ _ (lst_ext E8 ha3)
      have hne : 0 < (heldOf (wGr n ts) (n - 1) k).length := by
        obtain ⟨i, hi⟩ := List.mem_iff_getElem?.mp ((hmem2 k).mp (List.mem_of_getElem? hk))
        have hil := (List.getElem?_eq_some_iff.mp hi).1
        refine List.length_pos_of_mem (a := ((i + 1 : Nat) : Int)) (held_mem.mpr ⟨by omega, by omega, ?_⟩)
        rw [show (((i + 1 : Nat) : Int)).toNat = i + 1 by omega, eG]
        show gl.getD i 0 = k
        rw [List.getD_eq_getElem?_getD, hi]
        rfl
      -- gate
      refine ⟨_, rfl, _, rfl, D, a, heldOf (wGr n ts) (n - 1) k, wD n ts, rfl, rfl, T8.ext S9, hne, SqL.of h9, SqL.of ha9, fun v hv => ?_, by rw [(w_far W).len]; omega, fun H10 E10 T10 M hM hle => ?_⟩
      · obtain ⟨v1, v2, _⟩ := held_mem.mp hv
        exact ⟨by omega, by rw [(w_far W).len]; omega⟩
      obtain ⟨M1, M2, M3⟩ := held_mem.mp hM
      have h10 := lst_ext E10 h9
      refine ⟨m, _, _, .int (wPar n ts M), rfl, rfl, SqL.of (lst_ext E10 hm9), atI_map (l := wAb n ts) (by omega) (by rw [w_ablen W]; omega), ?_⟩
      have hfd10 := lst_ext E10 (S9 _ _ hfd)
      have hl40 : (heldOf (wGr n ts) (n - 1) k).length ≤ 40 := Nat.le_trans held_len (by omega)
      -- found.append
      refine ⟨_, rfl, .inl ⟨rfl, _, SqL.of hfd10⟩, _, rfl, by show 1 ≤ sizeLine; decide, fun lg H11 n11 S11 h11 => ⟨_, rfl, lg, D, _, _, rfl, rfl, h11, S11 _ _ h10, ?_, fun lc H12 n12 S12 h12 => ?_⟩⟩
      · show 1 + (List.map V.int _).length ≤ sizeLine
        rw [List.length_map]
        unfold sizeLine
        omega
      have h12 : H12 lc = some (.lst ((wPar n ts M :: heldOf (wGr n ts) (n - 1) k).map V.int)) := h12
      refine ⟨lc, wPar n ts M :: heldOf (wGr n ts) (n - 1) k, rfl, SqL.of h12, by rw [List.length_cons]; omega, fun b sp2 hpm hps n13 => ?_⟩
      have good := held_good W hM hle hpm hps
      have lb : b.length ≤ 41 := by rw [hpm.length_eq, List.length_cons]; omega
      have S13 : Same H12 (upd H12 sp2 (.lst (b.map V.int))) := same_upd n13
      have h13 : (upd H12 sp2 (.lst (b.map V.int))) sp2 = some (.lst (b.map V.int)) := upd_same
      generalize upd H12 sp2 (.lst (b.map V.int)) = H13 at S13 h13
      refine ⟨sp2, _, rfl, .inl ⟨SqL.of h13, fun t n14 => ?_⟩⟩
      have S14 : Same H13 (upd H13 t (.tup (b.map V.int))) := same_upd n14
      have h14 : (upd H13 t (.tup (b.map V.int))) t = some (.tup (b.map V.int)) := upd_same
      generalize upd H13 t (.tup (b.map V.int)) = H14 at S14 h14
      refine ⟨_, rfl, by show 2 ≤ sizeLine; decide, fun p H15 n15 S15 h15 => ?_⟩
      have S1015 : Same H10 H15 := (((S11.trans S12).trans S13).trans S14).trans S15
      have hfd15 := S1015 _ _ hfd10
      have lxs : xs.length = j := by
        rw [each_len hbg, each_len hgood, List.length_take]
        have := (List.getElem?_eq_some_iff.mp hk).1
        omega
      have ljn : j < 64 := by
        have := (List.getElem?_eq_some_iff.mp hk).1
        omega
      refine ⟨fd, _, _, rfl, rfl, hfd15, by rw [lxs]; unfold sizeLine; omega, fun H16 B16 h16 => ?_⟩
      have hfd13 := S13 _ _ (S12 _ _ (S11 _ _ hfd10))
      have nt : t ≠ fd := (ne_of_none hfd13 n14).symm
      have np : p ≠ fd := (ne_of_none (S14 _ _ hfd13) n15).symm
      have E15 : ExtN H3 H15 := ((E8.trans (extS S9)).trans E10).trans (extS S1015)
      have E815 : ExtN H8 H15 := ((extS S9).trans E10).trans (extS S1015)
      have E16 : ExtN H3 H16 := fun b o e n => B16 b o (ne_of_none e n4) (E15 b o e n)
      have nop : op ≠ fd := (ne_of_none (S6 _ _ (S5 _ _ h4)) n7).symm
      refine ⟨⟨_, _, _, rfl⟩, E16, tabs_but (T10.ext S1015) B16 hfd15, B16 _ _ nop (S1015 _ _ (lst_ext E10 (S9 _ _ hop))), _, bs ++ [(b, wPar n ts M)], h16, each_snoc (each_imp (fun v q h => (h.ext E815).but B16 hfd15) hbg) ⟨p, t, rfl, B16 _ _ np h15, B16 _ _ nt (S15 _ _ h14)⟩, ?_⟩
      rw [take_more hk]
      exact each_snoc hgood good
    · rintro σ H8 ⟨⟨x, y1, z1, rfl⟩, E8, T8, hop, xs, bs, hfd, hbg, hgood⟩
      rw [List.length_map, List.take_length] at hgood
      have lbs : bs.length ≤ 64 := by rw [each_len hgood]; omega
      refine ⟨_, rfl, fd, xs, bs, BgAt H8, rfl, SqL.of hfd, hbg, ?_, ?_, ?_, ?_, ?_, fun ys hys o H9 n9 S9 h9 => ?_⟩
      · rintro x b ⟨a, t, rfl, e1, e2⟩
        exact .tup (.inl (.inl e1)) (.cons (.tup (.inl (.inl e2)) dp_il) (.cons (.int _) .nil))
      · exact AllAlike.of fun b b' => by
          unfold bgD
          simp only [PySem.W.alike, PySem.W.alikeAll, PySem.W.alike_ints, Bool.and_self]
      · exact Sortable.tuples fun b => ⟨_, _, rfl⟩
      · unfold sizeLine
        omega
      · intro b _
        have e : (bgD b).depth ≤ 2 := by
          unfold bgD
          simp [PyData.depth, PyData.depthAll, PySem.W.depth_ints]
        omega
      have E9 := (E3.trans E8).trans (extS S9)
      exact q o ys _ H9 E9 (T8.ext S9) (freshN (E3.trans E8) n9) h9 (each_imp (fun v q h => h.ext (extS S9)) hys) (bgs_of W hnd (fun k => by rw [hmem2, edr]) hgood lbs)
end
end Sb

/-! ## N132 -/
/-! need_web, blocks, gates of any things. -/
namespace Sb
open PySem PySem.Spec PyProof.Rows L2
open LamX (ExtN Tabs TabS)
open PySem.W (EachIs)
abbrev sBlk : Stmt := top 19
abbrev sGts : Stmt := top 20
/-- the class NoWeb, as the head tells it -/
structure ErrW (K : PySem.W.Frag) (mg : Str → Option Value) (C : Addr) : Prop where
  gs : mg "NoWeb" = some (.ref C)
  kp : PySem.W.keepIn K (.ref C) = true
  ex : PySem.W.excIn K C He.veBase "ValueError.__new__" = true
  su : PySem.W.subIn K (.ref C) (.type "BaseException") = some true
  ty : PySem.W.typeIn K (.ref C) = some (.type "type")
section
variable {P : Program} {w : World} {K : PySem.W.Frag} {mg : Str → Option Value} {base : Heap} {x qual : Str} {params : Arguments} {body : List Stmt} {scope : Scope} {dvs : List V} {kws : List (Str × V)} {f : Addr} {fd : FuncData}
/-- a def that may raise -/
theorem okX {N ps : List Str} {k : Nat} {sp : Sp} (F : FunD K x qual params body scope dvs kws f fd) (S : FnScope N ps scope) (len : ∀ vs H Q E, sp vs H Q E → vs.length = ps.length)
    (hbody : ∀ (cdv : Value) (A : Around) (outer : List Env) (s : Shared) (H : Hp) (vs : List V) (Q : VK) (E : XK), Room k (A.deeper (envOfC qual scope s.heap.objs.size f cdv)) → sp vs H Q E →
      ∃ t, PSs (cxOf (L2.CX P w) P w K mg base N qual scope f cdv A outer s H E) body t ∧ t { nx := fun _ H' => Q .non H', rt := Q } (start N vs) H) : FnOk P w K mg base (L2.CX P w) (k + 1) f fd ps sp :=
  F.ok S len fun cdv A outer s H vs Q E hr hsp => hbody cdv A outer s H vs Q E hr hsp
end
def spNeedT (C : Addr) : Sp := fun vs H Q E => ∃ v d, vs = [v] ∧ Th H v d ∧ tiesOf d ≤ 100000 ∧ (webD d = true → ∀ H', Same H H' → Q .non H') ∧ (webD d = false → ∀ H', Same H H' → E (.ref C) none H')
theorem webD_is {d : PyData} (h : webD d = true) : ∃ (n : Nat) (ts : List (Int × Int)), shapeD d = some ((n : Int), ts) ∧ WebP n ts := by
  unfold webD at h
  cases e : shapeD d with
  | none =>
    rw [e] at h
    cases h
  | some p =>
    obtain ⟨m, ts⟩ := p
    rw [e] at h
    obtain ⟨W, em⟩ := WebP.of (m := m) (ts := ts) h
    exact ⟨m.toNat, ts, by rw [em], W⟩
/-- a tuple of whole numbers -/
def TupAt (H : Hp) (x : V) (b : List Int) : Prop := ∃ a, x = .ref a ∧ H a = some (.tup (b.map V.int))
def spBlkT (C : Addr) (T : List (Addr × Str)) : Sp := fun vs H Q E => ∃ v d, vs = [v] ∧ Th H v d ∧ tiesOf d ≤ 100000 ∧ Tabs T H ∧ (webD d = false → ∀ H', Same H H' → E (.ref C) none H') ∧
  ∀ (n : Nat) ts, shapeD d = some ((n : Int), ts) → WebP n ts → ∀ (o : Addr) (xs : List V) (bs : List (List Int × Int)) H', ExtN H H' → Tabs T H' → FreshN H o → H' o = some (.lst xs) → EachIs (TupAt H') xs (bs.map Prod.fst) → Bgs n ts bs → Q (.ref o) H'
def spGtsT (C : Addr) (T : List (Addr × Str)) : Sp := fun vs H Q E => ∃ v d, vs = [v] ∧ Th H v d ∧ tiesOf d ≤ 100000 ∧ Tabs T H ∧ (webD d = false → ∀ H', Same H H' → E (.ref C) none H') ∧
  ∀ (n : Nat) ts, shapeD d = some ((n : Int), ts) → WebP n ts → ∀ (o : Addr) (bs : List (List Int × Int)) H', ExtN H H' → Tabs T H' → FreshN H o → H' o = some (.lst ((bs.map Prod.snd).map V.int)) → Bgs n ts bs → Q (.ref o) H'
section
variable {P : Program} {w : World} {K : PySem.W.Frag} {mg : Str → Option Value} {base : Heap} {C : Addr} {TT : List (Addr × Str)}
theorem scNeed : FnScope ["web"] ["web"] (defScope sNeed) := ⟨rfl, rfl, rfl, by decide +kernel, rfl, by decide +kernel, by decide +kernel⟩
theorem ok_needT {f fW : Addr} {fd fdW : FuncData} (F : FnP K "need_web" sNeed f fd) (E : ErrW K mg C) (FW : FnP K "is_web" sWeb fW fdW) (gW : mg "is_web" = some (.ref fW)) (GW : FnOk P w K mg base CX0 3 fW fdW ["thing"] spWebT) : FnOk P w K mg base (L2.CX P w) 4 f fd ["web"] (spNeedT C) := by
  have bW : Binds K fdW ["thing"] [] := FW.bindsN fun _ _ _ _ _ _ us hl => match us, hl with | [_], _ => rfl
  refine okX F scNeed (fun vs H Q E h => ?_) (fun cdv A outer s H vs Q E0 hr h => ?_)
  · obtain ⟨v, d, rfl, _⟩ := h
    rfl
  · refine ⟨_, (pss_one (ps_if (pt_not (pt_val (pe_call GW hr rfl gW FW.kp bW .nil pass0 (pa_cons (pv 0) pa_nil))))
      (pss_one (ps_raise rfl (takes_of rfl rfl rfl rfl) (pmk_own PySem.F.excBase_ValueError E.ex E.gs E.kp (raises_own E.su E.ty) rfl)))
      pss_nil)), ?_⟩
    obtain ⟨v, d, rfl, hv, hl, q1, q2⟩ := h
    refine ⟨_, rfl, v, d, rfl, hv, hl, fun H' S => ⟨_, rfl, ?_⟩⟩
    cases e : webD d with
    | true => exact iteC rfl (q1 e H' S)
    | false => exact iteD rfl (q2 e H' S)
/-- need_web, rows_of, blocks_with_gates -/
structure KitB (P : Program) (w : World) (K : PySem.W.Frag) (mg : Str → Option Value) (base : Heap) (C : Addr) (TT : List (Addr × Str)) : Prop where
  need : ∃ f fd, FnP K "need_web" sNeed f fd ∧ mg "need_web" = some (.ref f) ∧ FnOk P w K mg base (L2.CX P w) 4 f fd ["web"] (spNeedT C)
  rows : ∃ f fd, FnP K "rows_of" sRows f fd ∧ mg "rows_of" = some (.ref f) ∧ FnOk P w K mg base CX0 1 f fd ["web"] (spRows K)
  bwg : ∃ f fd, FnP K "blocks_with_gates" sBlocks f fd ∧ mg "blocks_with_gates" = some (.ref f) ∧ FnOk P w K mg base CX0 3 f fd ["rows"] (spBlocks TT)
abbrev scBlkN : List Str := ["web", "block", "_"]
abbrev scBlkS : Scope := defScope sBlk
theorem scBlk : FnScope ["web", "block", "_"] ["web"] (defScope sBlk) := ⟨rfl, rfl, rfl, by decide +kernel, rfl, by decide +kernel, by decide +kernel⟩
theorem ok_blkT {f : Addr} {fd : FuncData} (F : FnP K "blocks" sBlk f fd) (T : KitB P w K mg base C TT) : FnOk P w K mg base (L2.CX P w) 5 f fd ["web"] (spBlkT C TT) := by
  obtain ⟨fN, fdN, FN, gN, GN⟩ := T.need
  obtain ⟨fR, fdR, FR, gR_, GR⟩ := T.rows
  obtain ⟨fB, fdB, FB, gB, GB⟩ := T.bwg
  have bN : Binds K fdN ["web"] [] := FN.bindsN fun _ _ _ _ _ _ us hl => match us, hl with | [_], _ => rfl
  have bR : Binds K fdR ["web"] [] := FR.bindsN fun _ _ _ _ _ _ us hl => match us, hl with | [_], _ => rfl
  have bB : Binds K fdB ["rows"] [] := FB.bindsN fun _ _ _ _ _ _ us hl => match us, hl with | [_], _ => rfl
  refine okX F scBlk (fun vs H Q E h => ?_) (fun cdv A outer s H vs Q E0 hr h => ?_)
  · obtain ⟨v, d, rfl, _⟩ := h
    rfl
  · have hr1 : Room 1 _ := hr.mono (by decide)
    have hr3 : Room 3 _ := hr.mono (by decide)
    refine ⟨_, (pss_cons (ps_expr (pe_call GN hr rfl gN FN.kp bN .nil (passes_call (takes_of rfl rfl rfl rfl) (fun _ _ _ _ h => h)) (pa_cons (pv 0) pa_nil)))
    (pss_one (ps_ret (pe_lc (own := [("block", 1), ("_", 2)]) (g := gTup K 2 (gCons (gName 1) (gCons (gName 2) gNil))) (by rfl) scBlk.nd (pi_list (pe_call GB hr3 rfl gB FB.kp bB .nil pass0 (pa_cons (pe_call GR hr1 rfl gR_ FR.kp bR .nil pass0 (pa_cons (pv 0) pa_nil)) pa_nil))) (blkOk_by (own := [("block", 1), ("_", 2)]) (N := scBlkN) (sc := scBlkS) (by decide +kernel)) (fun _ _ _ _ _ => pg_tup (by rfl) (pgs_cons (pg_name (i := 1) scBlk.nd rfl (Or.inl rfl)) (pgs_cons (pg_name (i := 2) scBlk.nd rfl (Or.inl rfl)) pgs_nil))) (fun _ _ _ _ _ => pts_nil) (fun _ _ _ _ _ => (pv 1)))))), ?_⟩
    obtain ⟨v, d, rfl, hv, hm, hT, q1, q2⟩ := h
    refine ⟨_, rfl, v, d, rfl, hv, hm, fun ew H1 S1 => ?_, fun ew H1 S1 => q1 ew H1 S1⟩
    obtain ⟨n, ts, es, W⟩ := webD_is ew
    have q := q2 n ts es W
    have n40 := W.n40
    refine ⟨_, rfl, v, n, ts, rfl, (th_web hv es).same S1, by omega, by rw [shape_len es]; exact hm, fun t ht => (W.ti t ht).1, fun l ps H3 S3 nl nps R3 => ?_⟩
    refine ⟨l, ps, n, ts, rfl, R3, W, (hT.ext S1).ext S3, fun o xs bs H4 E4 T4 f4 h4 hbs B => ?_⟩
    have E04 : ExtN H H4 := (extS (S1.trans S3)).trans E4
    refine ⟨o, rfl, ⟨_, SqL.of h4⟩, fun D hD => lc_list (K := K) (a := o) (xs := xs) (fun i H' => Same H4 H' ∧ ∃ ys, H' D = some (.lst ys) ∧ EachIs (TupAt H4) ys ((bs.take i).map Prod.fst)) ⟨same_upd hD, [], upd_same, by rw [List.take_zero]; exact .nil⟩ (fun i H' _ ⟨S, _⟩ => SqL.of (S _ _ h4)) ?_ ?_⟩
    · rintro i y H5 hi ⟨S5, ys, h5, he⟩
      obtain ⟨b, hb, a, t, rfl, ha, ht⟩ := each_get hbs hi
      have ly : ys.length ≤ bs.length := by
        rw [each_len he, List.length_map, List.length_take]
        omega
      have l64 := B.len
      refine ⟨a, _, rfl, SqT.of (S5 _ _ ha), rfl, _, _, rfl, _, _, rfl, rfl, rfl, _, rfl, ys, h5, by unfold sizeLine; omega, fun u w' hu' => by rw [upd_ne (ne_of_none hu' hD)]; exact S5 _ _ hu', ys ++ [.ref t], upd_same, ?_⟩
      rw [take_more hb, List.map_append]
      exact each_snoc he ⟨t, rfl, ht⟩
    rintro H5 ⟨S5, ys, h5, he⟩
    rw [each_len hbs, List.take_length] at he
    exact q D ys bs H5 (E04.trans (extS S5)) (T4.ext S5) (freshN E04 hD) h5 (each_imp (fun x b ⟨a, e, h⟩ => ⟨a, e, S5 _ _ h⟩) he) B
abbrev scGtsN : List Str := ["web", "gate", "_"]
abbrev scGtsS : Scope := defScope sGts
theorem scGts : FnScope ["web", "gate", "_"] ["web"] (defScope sGts) := ⟨rfl, rfl, rfl, by decide +kernel, rfl, by decide +kernel, by decide +kernel⟩
theorem ok_gtsT {f : Addr} {fd : FuncData} (F : FnP K "gates" sGts f fd) (T : KitB P w K mg base C TT) : FnOk P w K mg base (L2.CX P w) 5 f fd ["web"] (spGtsT C TT) := by
  obtain ⟨fN, fdN, FN, gN, GN⟩ := T.need
  obtain ⟨fR, fdR, FR, gR_, GR⟩ := T.rows
  obtain ⟨fB, fdB, FB, gB, GB⟩ := T.bwg
  have bN : Binds K fdN ["web"] [] := FN.bindsN fun _ _ _ _ _ _ us hl => match us, hl with | [_], _ => rfl
  have bR : Binds K fdR ["web"] [] := FR.bindsN fun _ _ _ _ _ _ us hl => match us, hl with | [_], _ => rfl
  have bB : Binds K fdB ["rows"] [] := FB.bindsN fun _ _ _ _ _ _ us hl => match us, hl with | [_], _ => rfl
  refine okX F scGts (fun vs H Q E h => ?_) (fun cdv A outer s H vs Q E0 hr h => ?_)
  · obtain ⟨v, d, rfl, _⟩ := h
    rfl
  · have hr1 : Room 1 _ := hr.mono (by decide)
    have hr3 : Room 3 _ := hr.mono (by decide)
    refine ⟨_, (pss_cons (ps_expr (pe_call GN hr rfl gN FN.kp bN .nil (passes_call (takes_of rfl rfl rfl rfl) (fun _ _ _ _ h => h)) (pa_cons (pv 0) pa_nil)))
    (pss_one (ps_ret (pe_lc (own := [("_", 2), ("gate", 1)]) (g := gTup K 2 (gCons (gName 2) (gCons (gName 1) gNil))) (by rfl) scGts.nd (pi_list (pe_call GB hr3 rfl gB FB.kp bB .nil pass0 (pa_cons (pe_call GR hr1 rfl gR_ FR.kp bR .nil pass0 (pa_cons (pv 0) pa_nil)) pa_nil))) (blkOk_by (own := [("_", 2), ("gate", 1)]) (N := scGtsN) (sc := scGtsS) (by decide +kernel)) (fun _ _ _ _ _ => pg_tup (by rfl) (pgs_cons (pg_name (i := 2) scGts.nd rfl (Or.inl rfl)) (pgs_cons (pg_name (i := 1) scGts.nd rfl (Or.inl rfl)) pgs_nil))) (fun _ _ _ _ _ => pts_nil) (fun _ _ _ _ _ => (pv 1)))))), ?_⟩
    obtain ⟨v, d, rfl, hv, hm, hT, q1, q2⟩ := h
    refine ⟨_, rfl, v, d, rfl, hv, hm, fun ew H1 S1 => ?_, fun ew H1 S1 => q1 ew H1 S1⟩
    obtain ⟨n, ts, es, W⟩ := webD_is ew
    have q := q2 n ts es W
    have n40 := W.n40
    refine ⟨_, rfl, v, n, ts, rfl, (th_web hv es).same S1, by omega, by rw [shape_len es]; exact hm, fun t ht => (W.ti t ht).1, fun l ps H3 S3 nl nps R3 => ?_⟩
    refine ⟨l, ps, n, ts, rfl, R3, W, (hT.ext S1).ext S3, fun o xs bs H4 E4 T4 f4 h4 hbs B => ?_⟩
    have E04 : ExtN H H4 := (extS (S1.trans S3)).trans E4
    have l64 := B.len
    refine ⟨o, rfl, ⟨_, SqL.of h4⟩, fun D hD => lc_list (K := K) (a := o) (xs := xs) (fun i H' => Same H4 H' ∧ H' D = some (.lst (((bs.take i).map Prod.snd).map V.int))) ⟨same_upd hD, by rw [upd_same, List.take_zero]; rfl⟩ (fun i H' _ ⟨S, _⟩ => SqL.of (S _ _ h4)) ?_ ?_⟩
    · rintro i y H5 hi ⟨S5, h5⟩
      obtain ⟨b, hb, a, t, rfl, ha, ht⟩ := each_get hbs hi
      refine ⟨a, _, rfl, SqT.of (S5 _ _ ha), rfl, _, _, rfl, _, _, rfl, rfl, rfl, _, rfl, _, h5, ?_, fun u w' hu' => by rw [upd_ne (ne_of_none hu' hD)]; exact S5 _ _ hu', ?_⟩
      · rw [List.length_map, List.length_map, List.length_take]
        unfold sizeLine
        omega
      · rw [upd_same, take_more hb, List.map_append, List.map_append]
        rfl
    rintro H5 ⟨S5, h5⟩
    rw [each_len hbs, List.take_length] at h5
    exact q D bs H5 (E04.trans (extS S5)) (T4.ext S5) (freshN E04 hD) h5 B
end
end Sb

/-! ## KD32 -/
/-! kind_of of any block, kinds of anything. -/
namespace Sb
open PySem PySem.Spec PyProof.Rows L2
open LamX (ExtN Tabs TabS)
open PySem.W (EachIs)
abbrev sKind : Stmt := top 22
abbrev sKinds : Stmt := top 21
theorem inner_len (rss : List (List Int)) (b : List Int) : (innerOf rss b).length = b.length := List.length_map _
theorem inner_at {rss : List (List Int)} {b : List Int} {i : Nat} {x : Int} (h : b[i]? = some x) : (innerOf rss b).getD i [] = inRow rss b x := by
  unfold innerOf
  rw [List.getD_eq_getElem?_getD, List.getElem?_map, h]
  rfl
theorem inner_none {rss : List (List Int)} {b : List Int} {i : Nat} (h : b.length ≤ i) : (innerOf rss b).getD i [] = [] := by
  rw [List.getD_eq_getElem?_getD, List.getElem?_eq_none (by rw [inner_len]; exact h)]
  rfl
theorem in_row {rss : List (List Int)} {b : List Int} {x z : Int} : z ∈ inRow rss b x ↔ ∃ y ∈ gR rss x, y ∈ b ∧ z = ((b.idxOf y : Nat) : Int) := by
  unfold inRow
  rw [List.mem_map]
  constructor
  · rintro ⟨y, hy, rfl⟩
    obtain ⟨h1, h2⟩ := List.mem_filter.mp hy
    exact ⟨y, h1, of_decide_eq_true h2, rfl⟩
  · rintro ⟨y, h1, h2, rfl⟩
    exact ⟨y, List.mem_filter.mpr ⟨h1, decide_eq_true h2⟩, rfl⟩
theorem idx_at {b : List Int} {y : Int} (h : y ∈ b) : b[b.idxOf y]? = some y := by
  rw [List.getElem?_eq_getElem (List.idxOf_lt_length_of_mem h), List.getElem_idxOf]
theorem gph_inner {n : Nat} {ts : List (Int × Int)} (W : WebP n ts) {b : List Int} (asc : b.Pairwise (· < ·)) (hb : ∀ v ∈ b, 0 ≤ v ∧ v < (n : Int)) : Gph (innerOf (rowsOf n ts) b) := by
  have n40 := W.n40
  have ndb : b.Nodup := asc.imp fun {a b} h e => by
    have h : a < b := h
    omega
  have lb : b.length ≤ n := (found_count ndb hb).1
  have rows : ∀ v : Int, gR (innerOf (rowsOf n ts) b) v = [] ∨ ∃ x, b[v.toNat]? = some x ∧ gR (innerOf (rowsOf n ts) b) v = inRow (rowsOf n ts) b x := fun v => by
    rcases Nat.lt_or_ge v.toNat b.length with h | h
    · exact .inr ⟨b[v.toNat], List.getElem?_eq_getElem h, inner_at (List.getElem?_eq_getElem h)⟩
    · exact .inl (inner_none h)
  have ndr : ∀ x, (gR (rowsOf n ts) x).Nodup := fun x => (web_sorted W x).imp fun {a b} h e => by
    have h : a < b := h
    omega
  refine ⟨fun k z hz => ?_, fun v z hv hz => ?_, fun v => ?_, fun v => ?_, by rw [inner_len]; omega⟩
  · rw [inner_len]
    rcases Nat.lt_or_ge k b.length with h | h
    · rw [inner_at (List.getElem?_eq_getElem h)] at hz
      obtain ⟨y, _, hy, rfl⟩ := in_row.mp hz
      have := List.idxOf_lt_length_of_mem hy
      exact ⟨by omega, by omega⟩
    · rw [inner_none h] at hz
      cases hz
  · rcases rows v with e | ⟨x, hx, e⟩
    · rw [e] at hz
      cases hz
    · rw [e] at hz
      obtain ⟨y, h1, hy, rfl⟩ := in_row.mp hz
      have hxb := List.mem_of_getElem? hx
      have e2 : gR (innerOf (rowsOf n ts) b) ((b.idxOf y : Nat) : Int) = inRow (rowsOf n ts) b y := by
        show (innerOf (rowsOf n ts) b).getD ((b.idxOf y : Nat) : Int).toNat [] = _
        rw [show (((b.idxOf y : Nat) : Int)).toNat = b.idxOf y by omega]
        exact inner_at (idx_at hy)
      rw [e2]
      have ed := (rows_iff W.ti (hb x hxb).1).mp h1
      refine in_row.mpr ⟨x, (rows_iff W.ti (hb y hy).1).mpr ed.symm, hxb, ?_⟩
      have hl := (List.getElem?_eq_some_iff.mp hx).1
      have ex : b[v.toNat] = x := (List.getElem?_eq_some_iff.mp hx).2
      have := ndb.idxOf_getElem v.toNat hl
      rw [ex] at this
      rw [this]
      have := hv.1
      omega
  · rcases rows v with e | ⟨x, hx, e⟩
    · rw [e]
      exact List.nodup_nil
    · rw [e]
      unfold inRow
      refine List.pairwise_map.mpr (List.Pairwise.imp_of_mem (fun {y z} hy hz ne q => ?_) ((ndr x).filter _))
      have hy := of_decide_eq_true (List.mem_filter.mp hy).2
      have hz := of_decide_eq_true (List.mem_filter.mp hz).2
      have q : b.idxOf y = b.idxOf z := by omega
      have h1 := idx_at hy
      rw [q, idx_at hz] at h1
      exact ne (Option.some.inj h1).symm
  · rcases rows v with e | ⟨x, hx, e⟩
    · rw [e]
      decide
    · rw [e]
      unfold inRow
      rw [List.length_map]
      have h1 := List.length_filter_le (fun z => decide (z ∈ b)) ((rowsOf n ts).getD x.toNat [])
      have h2 := (found_count (n := n) (ndr x) (W.rin x.toNat)).1
      have h2 : ((rowsOf n ts).getD x.toNat []).length ≤ n := h2
      omega
theorem RowsL.extN {H H' : Hp} {l : Addr} {ps : List Addr} {rss : List (List Int)} (h : RowsL H l ps rss) (e : ExtN H H') : RowsL H' l ps rss := ⟨lst_ext e h.at_, h.len, h.nd, h.out, fun i p k => lst_ext e (h.row i p k)⟩
theorem blkS_in {n : Nat} {ts : List (Int × Int)} (W : WebP n ts) {b : List Int} {t : Int} (h : BlkS n (wPar n ts) (wDep n ts) (EdT ts) b t) : (∀ v ∈ b, 0 ≤ v ∧ v < (n : Int)) ∧ 0 < b.length := by
  refine ⟨fun v hv => ?_, List.length_pos_of_mem ((h.mem t).mpr (.inl .refl))⟩
  rcases (h.mem v).mp hv with j | rfl
  · obtain ⟨a, b, _⟩ := jc_in (w_gt W) j h.top.t0 h.top.t1 h.top.nt
    exact ⟨a, b⟩
  · obtain ⟨a, b, _⟩ := (w_tree W).up t h.top.t0 h.top.t1 h.top.nt
    exact ⟨a, b⟩
/-- the kind of a block by itself -/
def KindP (inner : List (List Int)) (k : Str) : Prop :=
  (inner.length = 2 ∧ k = "bridge") ∨ (inner.length ≠ 2 ∧ (((∀ r ∈ inner, r.length = 2) ∧ k = "ring") ∨ ((∃ r ∈ inner, r.length ≠ 2) ∧ ((SevenP inner true ∧ k = "seven") ∨ (SevenP inner false ∧
    ((oddR inner.length inner (par (stepsOf inner 0)) = false ∧ k = "even") ∨ (oddR inner.length inner (par (stepsOf inner 0)) = true ∧ k = "all")))))))
def spKind (K : PySem.W.Frag) : Sp := fun vs H Q _ => ∃ (l t : Addr) (ps : List Addr) (n : Nat) (ts : List (Int × Int)) (b : List Int), vs = [.ref l, .ref t] ∧ RowsL H l ps (rowsOf n ts) ∧ WebP n ts ∧ SqT K H t (b.map V.int) ∧ b.Pairwise (· < ·) ∧ (∀ v ∈ b, 0 ≤ v ∧ v < (n : Int)) ∧ 0 < b.length ∧
  ∀ k H', Same H H' → KindP (innerOf (rowsOf n ts) b) k → Q (.str k) H'
structure KndTxt (mg : Str → Option Value) : Prop where
  len : mg "len" = none
  all : mg "all" = none
section
variable {P : Program} {w : World} {K : PySem.W.Frag} {mg : Str → Option Value} {base : Heap} {C : Addr} {TT : List (Addr × Str)}
abbrev scKindN : List Str := ["rows", "block", "inner", "row"]
abbrev scKindS : Scope := defScope sKind
theorem scKind : FnScope ["rows", "block", "inner", "row"] ["rows", "block"] (defScope sKind) := ⟨rfl, rfl, rfl, by decide +kernel, rfl, by decide +kernel, by decide +kernel⟩
theorem ok_kind {f fW fS fT : Addr} {fd fdW fdS fdT : FuncData} (F : FnP K "kind_of" sKind f fd) (T : KndTxt mg)
    (FW : FnP K "rows_within" sWithin fW fdW) (gW : mg "rows_within" = some (.ref fW)) (GW : FnOk P w K mg base CX0 1 fW fdW ["rows", "block"] (spWithin K))
    (FS : FnP K "ways_of_seven" sSeven fS fdS) (gS : mg "ways_of_seven" = some (.ref fS)) (GS : FnOk P w K mg base CX0 2 fS fdS ["inner"] spSeven)
    (FT : FnP K "two_sides" sTwo fT fdT) (gT : mg "two_sides" = some (.ref fT)) (GT : FnOk P w K mg base CX0 2 fT fdT ["rows"] spTwo) : FnOk P w K mg base CX0 3 f fd ["rows", "block"] (spKind K) := by
  have bW : Binds K fdW ["rows", "block"] [] := FW.bindsN fun _ _ _ _ _ _ us hl => match us, hl with | [_, _], _ => rfl
  have bS : Binds K fdS ["inner"] [] := FS.bindsN fun _ _ _ _ _ _ us hl => match us, hl with | [_], _ => rfl
  have bT : Binds K fdT ["rows"] [] := FT.bindsN fun _ _ _ _ _ _ us hl => match us, hl with | [_], _ => rfl
  refine ok0 F scKind (fun vs H Q E h => ?_) (fun cdv A outer s H vs Q E hr h => ?_)
  · obtain ⟨l, t, ps, n, ts, b, rfl, _⟩ := h
    rfl
  · have hr1 : Room 1 _ := hr.mono (by decide)
    obtain ⟨l, t, ps, n, ts, b, rfl, R, W, ht, asc, hb, hb0, q⟩ := h
    refine ⟨_, (pss_cons (ps_set (i := 2) scKind.nd rfl (Or.inl rfl) (pe_call GW hr1 rfl gW FW.kp bW .nil pass0 (pa_cons (pv 0) (pa_cons (pv 1) pa_nil))))
    (pss_cons (ps_if (pt_cmpR op_eq (pe_callB (id := "len") call_len_seq (by rfl) T.len (by decide +kernel) (pa_cons (pv 1) pa_nil)) pe_int (nomark _))
      (pss_one (ps_ret pe_str))
      pss_nil)
    (pss_cons (ps_if (pt_val (pe_callB (id := "all") (cr_all rfl) (by rfl) T.all (by decide +kernel) (pa_cons (pe_lc (own := [("row", 3)]) (g := gName 3) (by rfl) scKind.nd (pi_list (pv 2)) (blkOk_by (own := [("row", 3)]) (N := scKindN) (sc := scKindS) (by decide +kernel)) (fun _ _ _ _ _ => pg_name (i := 3) scKind.nd rfl (Or.inl rfl)) (fun _ _ _ _ _ => pts_nil) (fun _ _ _ _ _ => (pe_cmpR op_eq (pe_callB (id := "len") (call_lenK (K := K)) (by rfl) T.len (by decide +kernel) (pa_cons (pv 3) pa_nil)) pe_int (nomark _)))) pa_nil)))
      (pss_one (ps_ret pe_str))
      pss_nil)
    (pss_cons (ps_if (pt_val (pe_call GS hr rfl gS FS.kp bS .nil pass0 (pa_cons (pv 2) pa_nil)))
      (pss_one (ps_ret pe_str))
      pss_nil)
    (pss_cons (ps_if (pt_cmpR op_notN (pe_call GT hr rfl gT FT.kp bT .nil pass0 (pa_cons (pv 2) pa_nil)) pe_non (nomark _))
      (pss_one (ps_ret pe_str))
      pss_nil)
    (pss_one (ps_ret pe_str))))))), ?_⟩
    have n40 := W.n40
    have ndb : b.Nodup := asc.imp fun {a b} h e => by
      have h : a < b := h
      omega
    have lb : b.length ≤ n := (found_count ndb hb).1
    have ndr : ∀ k, ((rowsOf n ts).getD k []).length ≤ n := fun k => by
      have w := web_sorted W (k : Int)
      have w : ((rowsOf n ts).getD ((k : Int)).toNat []).Pairwise (· < ·) := w
      rw [show ((k : Int)).toNat = k by omega] at w
      exact (found_count (n := n) (w.imp fun {a b} h e2 => by
        have h : a < b := h
        omega) (W.rin k)).1
    have G := gph_inner W asc hb
    have li := inner_len (rowsOf n ts) b
    refine ⟨_, rfl, _, rfl, l, t, ps, rowsOf n ts, b, rfl, R, ht, ndb, (fun v hv => by rw [rowsOf_len]; exact hb v hv), by omega, (fun k => by have := ndr k; omega), fun o qs H1 S1 R1 no nq => ?_⟩
    generalize innerOf (rowsOf n ts) b = inner at *
    refine ⟨_, rfl, t, _, rfl, .inr (sqT_same S1 ht), rfl, _, rfl, ?_⟩
    have lm : (((b.map V.int).length : Nat) : Int) = (inner.length : Nat) := by rw [List.length_map, li]
    rw [lm]
    by_cases h2 : inner.length = 2
    · exact iteD (decide_eq_true (by rw [h2]; rfl)) (q _ H1 S1 (.inl ⟨h2, rfl⟩))
    refine iteC (decide_eq_false fun z => h2 (by
      have z := V.int.inj z
      omega)) ?_
    have lp : qs.length = inner.length := R1.len
    have lpm : (qs.map V.ref).length = inner.length := by rw [List.length_map, lp]
    have rowAt : ∀ {i : Nat} {v : V}, (qs.map V.ref)[i]? = some v → ∃ p, v = .ref p ∧ H1 p = some (.lst ((inner.getD i []).map V.int)) ∧ inner[i]? = some (inner.getD i []) := fun {i v} hi => by
      obtain ⟨p, hp, rfl⟩ := getMapR hi
      have hil := (List.getElem?_eq_some_iff.mp hp).1
      refine ⟨p, rfl, R1.row i p hp, ?_⟩
      rw [List.getD_eq_getElem?_getD, List.getElem?_eq_getElem (by omega)]
      rfl
    have few := G.few
    refine ⟨_, rfl, o, rfl, ⟨_, SqL.of R1.at_⟩, fun D hD => lc_list (K := K) (a := o) (xs := qs.map V.ref) (fun i H2 => Same H1 H2 ∧ H2 D = some (.lst (((inner.take i).map fun r => decide (r.length = 2)).map V.bl))) ⟨same_upd hD, by rw [upd_same, List.take_zero]; rfl⟩ (fun i H2 _ ⟨S, _⟩ => SqL.of (S _ _ R1.at_)) ?_ ?_⟩
    · rintro i y H2 hi ⟨S2, h2⟩
      obtain ⟨p, rfl, hp, hr2⟩ := rowAt hi
      refine ⟨rfl, _, rfl, p, _, rfl, .inl (SqL.of (S2 _ _ hp)), rfl, _, h2, ?_, fun b o hb => by rw [upd_ne (ne_of_none hb hD)]; exact S2 _ _ hb, ?_⟩
      · rw [List.length_map, List.length_map, List.length_take]
        unfold sizeLine
        omega
      · rw [upd_same, take_more hr2, List.map_append, List.map_append, List.length_map]
        have : decide (V.int (((inner.getD i []).length : Nat) : Int) = V.int 2) = decide ((inner.getD i []).length = 2) := decide_eq_decide.mpr ⟨fun z => by
          have z := V.int.inj z
          omega, fun z => by rw [z]; rfl⟩
        rw [this]
        rfl
    rintro H2 ⟨S2, hd⟩
    rw [lpm, List.take_length] at hd
    have S02 := S1.trans S2
    have R2 := R1.same S2
    refine ⟨D, _, rfl, SqL.of hd, _, rfl, ?_⟩
    have ea : ((inner.map fun r => decide (r.length = 2)).all id) = true ↔ ∀ r ∈ inner, r.length = 2 := by
      rw [List.all_map, List.all_eq_true]
      exact ⟨fun z r hr => of_decide_eq_true (z r hr), fun z r hr => decide_eq_true (z r hr)⟩
    by_cases hA : ∀ r ∈ inner, r.length = 2
    · exact iteD (ea.mpr hA) (q _ H2 S02 (.inr ⟨h2, .inl ⟨hA, rfl⟩⟩))
    refine iteC (Bool.eq_false_iff.mpr fun z => hA (ea.mp z)) ?_
    have hE : ∃ r ∈ inner, r.length ≠ 2 := Classical.byContradiction fun z => hA fun r hr => Classical.byContradiction fun y => z ⟨r, hr, y⟩
    refine ⟨_, rfl, o, qs, inner, rfl, R2, G, fun c H3 S3 h7 => ⟨_, rfl, ?_⟩⟩
    have S03 := S02.trans S3
    have R3 := R2.same S3
    cases c with
    | true => exact iteD rfl (q _ H3 S03 (.inr ⟨h2, .inr ⟨hE, .inl ⟨h7, rfl⟩⟩⟩))
    | false =>
      refine iteC rfl ⟨_, rfl, o, qs, inner, inner.length, rfl, R3, G.rin, fun k => ?_, rfl, by omega, by omega, fun ho H4 S4 => ?_, fun ho p H4 S4 np hp => ?_⟩
      · have z := G.short (k : Int)
        have z : (inner.getD ((k : Int)).toNat []).length < 64 := z
        rw [show ((k : Int)).toNat = k by omega] at z
        omega
      · refine ⟨rfl, _, rfl, ?_⟩
        exact iteC rfl (q _ H4 (S03.trans S4) (.inr ⟨h2, .inr ⟨hE, .inr ⟨h7, .inr ⟨ho, rfl⟩⟩⟩⟩))
      · refine ⟨rfl, _, rfl, ?_⟩
        exact iteD rfl (q _ H4 (S03.trans S4) (.inr ⟨h2, .inr ⟨hE, .inr ⟨h7, .inl ⟨ho, rfl⟩⟩⟩⟩))
/-- kinds of anything -/
def spKinds (C : Addr) (T : List (Addr × Str)) : Sp := fun vs H Q E => ∃ v d, vs = [v] ∧ Th H v d ∧ tiesOf d ≤ 100000 ∧ Tabs T H ∧ (webD d = false → ∀ H', Same H H' → E (.ref C) none H') ∧
  ∀ (n : Nat) ts, shapeD d = some ((n : Int), ts) → WebP n ts → ∀ (o : Addr) (ks : List Str) (bs : List (List Int × Int)) H', ExtN H H' → Tabs T H' → FreshN H o → H' o = some (.lst (ks.map V.str)) → EachIs (fun k b => KindP (innerOf (rowsOf n ts) b) k) ks (bs.map Prod.fst) → Bgs n ts bs → Q (.ref o) H'
abbrev scKindsN : List Str := ["web", "rows", "block", "_"]
abbrev scKindsS : Scope := defScope sKinds
theorem scKinds : FnScope ["web", "rows", "block", "_"] ["web"] (defScope sKinds) := ⟨rfl, rfl, rfl, by decide +kernel, rfl, by decide +kernel, by decide +kernel⟩
theorem ok_kinds {f fK : Addr} {fd fdK : FuncData} (F : FnP K "kinds" sKinds f fd) (T : KitB P w K mg base C TT) (FK : FnP K "kind_of" sKind fK fdK) (gK : mg "kind_of" = some (.ref fK)) (GK : FnOk P w K mg base CX0 3 fK fdK ["rows", "block"] (spKind K)) : FnOk P w K mg base (L2.CX P w) 5 f fd ["web"] (spKinds C TT) := by
  obtain ⟨fN, fdN, FN, gN, GN⟩ := T.need
  obtain ⟨fR, fdR, FR, gR_, GR⟩ := T.rows
  obtain ⟨fB, fdB, FB, gB, GB⟩ := T.bwg
  have bN : Binds K fdN ["web"] [] := FN.bindsN fun _ _ _ _ _ _ us hl => match us, hl with | [_], _ => rfl
  have bR : Binds K fdR ["web"] [] := FR.bindsN fun _ _ _ _ _ _ us hl => match us, hl with | [_], _ => rfl
  have bB : Binds K fdB ["rows"] [] := FB.bindsN fun _ _ _ _ _ _ us hl => match us, hl with | [_], _ => rfl
  have bK : Binds K fdK ["rows", "block"] [] := FK.bindsN fun _ _ _ _ _ _ us hl => match us, hl with | [_, _], _ => rfl
  refine okX F scKinds (fun vs H Q E h => ?_) (fun cdv A outer s H vs Q E0 hr h => ?_)
  · obtain ⟨v, d, rfl, _⟩ := h
    rfl
  · have hr1 : Room 1 _ := hr.mono (by decide)
    have hr3 : Room 3 _ := hr.mono (by decide)
    refine ⟨_, (pss_cons (ps_expr (pe_call GN hr rfl gN FN.kp bN .nil (passes_call (takes_of rfl rfl rfl rfl) (fun _ _ _ _ h => h)) (pa_cons (pv 0) pa_nil)))
    (pss_cons (ps_set (i := 1) scKinds.nd rfl (Or.inr rfl) (pe_call GR hr1 rfl gR_ FR.kp bR .nil pass0 (pa_cons (pv 0) pa_nil)))
    (pss_one (ps_ret (pe_lc (own := [("block", 2), ("_", 3)]) (g := gTup K 2 (gCons (gName 2) (gCons (gName 3) gNil))) (by rfl) scKinds.nd (pi_list (pe_call GB hr3 rfl gB FB.kp bB .nil pass0 (pa_cons (pv 1) pa_nil))) (blkOk_by (own := [("block", 2), ("_", 3)]) (N := scKindsN) (sc := scKindsS) (by decide +kernel)) (fun _ _ _ _ _ => pg_tup (by rfl) (pgs_cons (pg_name (i := 2) scKinds.nd rfl (Or.inl rfl)) (pgs_cons (pg_name (i := 3) scKinds.nd rfl (Or.inl rfl)) pgs_nil))) (fun _ _ _ _ _ => pts_nil) (fun _ _ _ _ _ => (pe_call GK hr3 rfl gK FK.kp bK .nil pass0 (pa_cons (pv 1) (pa_cons (pv 2) pa_nil))))))))), ?_⟩
    obtain ⟨v, d, rfl, hv, hm, hT, q1, q2⟩ := h
    refine ⟨_, rfl, v, d, rfl, hv, hm, fun ew H1 S1 => ?_, fun ew H1 S1 => q1 ew H1 S1⟩
    obtain ⟨n, ts, es, W⟩ := webD_is ew
    have q := q2 n ts es W
    have n40 := W.n40
    refine ⟨_, rfl, v, n, ts, rfl, (th_web hv es).same S1, by omega, by rw [shape_len es]; exact hm, fun t ht => (W.ti t ht).1, fun l ps H3 S3 nl nps R3 => ?_⟩
    refine ⟨_, rfl, l, ps, n, ts, rfl, R3, W, (hT.ext S1).ext S3, fun o xs bs H4 E4 T4 f4 h4 hbs B => ?_⟩
    have E04 : ExtN H H4 := (extS (S1.trans S3)).trans E4
    have R4 := R3.extN E4
    have l64 := B.len
    refine ⟨o, rfl, ⟨_, SqL.of h4⟩, fun D hD => lc_list (K := K) (a := o) (xs := xs) (fun i H' => Same H4 H' ∧ ∃ ks : List Str, H' D = some (.lst (ks.map V.str)) ∧ EachIs (fun k b => KindP (innerOf (rowsOf n ts) b) k) ks ((bs.take i).map Prod.fst)) ⟨same_upd hD, [], upd_same, by rw [List.take_zero]; exact .nil⟩ (fun i H' _ ⟨S, _⟩ => SqL.of (S _ _ h4)) ?_ ?_⟩
    · rintro i y H5 hi ⟨S5, ks, h5, he⟩
      obtain ⟨b, hb, a, t, rfl, ha, ht⟩ := each_get hbs hi
      obtain ⟨t0, hbl⟩ := B.blk.each b.1 (List.mem_map.mpr ⟨b, List.mem_of_getElem? hb, rfl⟩)
      obtain ⟨hin, hpos⟩ := blkS_in W hbl
      have lk : ks.length ≤ bs.length := by
        rw [each_len he, List.length_map, List.length_take]
        omega
      refine ⟨a, _, rfl, SqT.of (S5 _ _ ha), rfl, _, _, rfl, _, _, rfl, rfl, rfl, _, rfl, _, rfl, l, t, ps, n, ts, b.1, rfl, R4.same S5, W, SqT.of (S5 _ _ ht), hbl.asc, hin, hpos, fun k H6 S6 hk => ⟨_, S6 _ _ h5, by rw [List.length_map]; unfold sizeLine; omega, fun u w' hu' => by rw [upd_ne (ne_of_none hu' hD)]; exact S6 _ _ (S5 _ _ hu'), ks ++ [k], by rw [upd_same, List.map_append]; rfl, ?_⟩⟩
      rw [take_more hb, List.map_append]
      exact each_snoc he hk
    rintro H5 ⟨S5, ks, h5, he⟩
    rw [each_len hbs, List.take_length] at he
    exact q D ks bs H5 (E04.trans (extS S5)) (T4.ext S5) (freshN E04 hD) h5 he B
end
end Sb

/-! ## BK -/
/-! A tuple turned about by a slice; things that are small. -/
namespace Sb
open PySem PySem.Spec PyProof.Rows L2
section
variable {prog : Program} {w : World} {A : Around} {E : Value → Shared → Prop} {s : Shared}
theorem fm_congr {α β : Type} {f g : α → Option β} : ∀ l : List α, (∀ x ∈ l, f x = g x) → l.filterMap f = l.filterMap g
  | [], _ => rfl
  | x :: l, h => by rw [List.filterMap_cons, List.filterMap_cons, h x List.mem_cons_self, fm_congr l fun y hy => h y (List.mem_cons_of_mem _ hy)]
theorem back_pick (n : Nat) (xs : Array Value) (hn : xs.size = n) : ((List.range n).filterMap fun (k : Nat) => xs[((n : Int) - 1 + (k : Int) * (-1)).toNat]?).toArray = xs.toList.reverse.toArray := by
  have h1 : ((List.range n).filterMap fun (k : Nat) => xs[((n : Int) - 1 + (k : Int) * (-1)).toNat]?) = ((List.range n).map fun k => n - 1 - k).filterMap (xs[·]?) := by
    rw [List.filterMap_map]
    refine fm_congr _ fun k hk => ?_
    have hk := List.mem_range.mp hk
    show xs[((n : Int) - 1 + (k : Int) * (-1)).toNat]? = xs[n - 1 - k]?
    have e : ((n : Int) - 1 + (k : Int) * (-1)).toNat = n - 1 - k := by omega
    rw [e]
  rw [h1, PySem.W.krv_range, List.filterMap_reverse, ← hn, PySem.W.krv_all]
theorem back_parts {sl : Addr} {vs : Value} {n : Nat} {Q : Int × Int × Nat → Shared → Prop} (hsl : s.heap.IsSliceOf sl .none .none vs) (ps : IsPart vs (some (-1))) (h : Q ((n : Int) - 1, -1, n) s) :
    wpAny (model prog w) A (Builtin.Slice.sliceApplied (.ref sl) (pure (n : Int))) Q E s := by
  obtain ⟨ob, hob, hcl, hdt⟩ := id hsl
  unfold Builtin.Slice.sliceApplied Builtin.Slice.sliceFields
  refine wpAny_bind (wpAny_bind (wpAny_field hob hdt (x := .none) rfl (wpAny_bind (wpAny_field hob hdt (x := .none) rfl (wpAny_bind (wpAny_field hob hdt (x := vs) rfl (wpAny_pure ?_)))))))
  cases ps with
  | int _ t =>
    refine wpAny_bind (slicePart_int ?_)
    show wpAny _ _ (if ((-1 : Int) == 0) = true then _ else _) _ _ s
    rw [if_neg (by decide : ¬ ((-1 : Int) == 0) = true)]
    refine wpAny_bind (slicePart_none (wpAny_bind (slicePart_none (wpAny_bind (wpAny_pure ?_)))))
    have e : Builtin.Slice.sliceAdjust none none (-1) (n : Int) = ((n : Int) - 1, -1) := rfl
    have e2 : Builtin.Slice.slicePlaces ((n : Int) - 1) (-1) (-1) = n := by
      unfold Builtin.Slice.slicePlaces
      rw [if_neg (by decide : ¬ (-1 : Int) > 0)]
      by_cases hn : (n : Int) - 1 > -1
      · rw [if_pos hn, show (- -1 : Int) = 1 by decide, Int.ediv_one]
        omega
      · rw [if_neg hn]
        omega
    show wpAny _ _ (match Builtin.Slice.sliceAdjust none none (-1) (n : Int) with | (a, b) => pure (a, (-1 : Int), Builtin.Slice.slicePlaces a b (-1))) _ _ s
    rw [e]
    show wpAny _ _ (pure ((n : Int) - 1, (-1 : Int), Builtin.Slice.slicePlaces ((n : Int) - 1) (-1) (-1))) _ _ s
    rw [e2]
    exact wpAny_pure h
theorem back_tuple {t sl : Addr} {its : Array Value} {vs : Value} {Q : Value → Shared → Prop} (hT : IsTup s.heap t its) (hsl : s.heap.IsSliceOf sl .none .none vs) (ps : IsPart vs (some (-1)))
    (h : Q (.ref s.heap.objs.size) { s with heap := s.heap.push { cls := .type "tuple", data := .seq its.toList.reverse.toArray } }) (hz : its.size ≤ sizeLine) : wpAny (model prog w) A (getItem (.ref t) (.ref sl)) Q E s := by
  have hsz : sizeOk (.seq its.toList.reverse.toArray) := by
    show its.toList.reverse.toArray.size ≤ sizeLine
    rw [List.size_toArray, List.length_reverse, Array.length_toList]
    exact hz
  obtain ⟨ob, hob, hcl, hdt⟩ := id hsl
  have hSl : s.TypeIs (.ref sl) "slice" := ⟨ob, hob, hcl⟩
  unfold getItem
  try with_reducible refine wpAny_holding ?_
  first | refine wpAny_bind (wpAny_pure ?_) | skip
  refine wpAny_bind (wpAny_sequenceKey hT.typeIs (by decide) (wpAny_bind (wpAny_callSpecial?_slot (name := Str.ofString "__getitem__") hT.typeIs PyProof.Rows.slot_tuple_getitem (wpAny_call_entry PyProof.Rows.slot_tuple_getitem hT.typeIs entry_tuple_getitem ?_ (args_tuple_getitem _ _)))))
  show wpAny _ _ (Builtin.Tuple.tupleItemsOf (.ref t) >>= _) _ _ s
  refine wpAny_bind (tupleItemsOf_ hT (wpAny_bind (wpAny_typeOf hSl ?_)))
  rw [if_pos (by decide)]
  refine wpAny_bind (back_parts hsl ps ?_)
  have hno : ¬ ((((its.size : Int) - 1) == 0 && (-1 : Int) == 1 && its.size == its.size) = true) := by
    rw [show ((-1 : Int) == 1) = false by decide, Bool.and_false, Bool.false_and]
    exact Bool.false_ne_true
  show wpAny _ _ (if ((((its.size : Int) - 1) == 0 && (-1 : Int) == 1 && its.size == its.size) = true) then _ else _) _ _ s
  rw [if_neg hno, back_pick its.size its rfl]
  first
    | exact wpAny_bind (m := Builtin.Tuple.tupleExact _) (wpAny_newObj_type (wpAny_pure ⟨_, rfl, wpAny_pure h⟩) hsz)
    | exact wpAny_bind (m := Builtin.Tuple.tupleExact _) (wpAny_newObj_type (wpAny_bind (wpAny_pure (wpAny_pure ⟨_, rfl, wpAny_pure h⟩))) hsz)
    | exact wpAny_bind (wpAny_bind (m := Builtin.Tuple.tupleExact _) (wpAny_newObj_type (wpAny_pure (wpAny_pure ⟨_, rfl, wpAny_pure h⟩)) hsz))
    | exact wpAny_bind (wpAny_bind (m := Builtin.Tuple.tupleExact _) (wpAny_newObj_type (wpAny_pure ⟨_, rfl, wpAny_pure h⟩) hsz))
end
section
variable {X : Cx}
def tBackT (te : TE) : TE := fun σ H Q => te σ H fun x H1 => ∃ a xs, x = .ref a ∧ H1 a = some (.tup xs) ∧ ∀ b, H1 b = none → Q (.ref b) (upd H1 b (.tup xs.reverse))
theorem pe_backT {e : Expr} {te : TE} {k : Nat} {p1 p2 p3 pos : Pos} (he : PE X e te) : PE X (.Subscript e (.Slice none none (some (.UnaryOp .USub (.Constant (.int 1) k p1) p2)) p3) pos) (tBackT te) := by
  refine ⟨fun pins s σ H Q I h => Subscript_ (thn (he.run pins s σ H _ I h) fun v s1 ⟨x, H1, I1, r1, a, xs, ex, hx, q⟩ => ?_)⟩
  subst ex
  cases r1
  have hst : PO X (some (.UnaryOp .USub (.Constant (.int 1) k p1) p2)) (tPart (tUn (rU fun i => .int (-i)) (tC (.int 1)))) := po_some (pe_un un_neg pe_int)
  refine wpAny_Slice (thn (po_none.run pins s1 σ H1 (fun o H2 => o = none ∧ H2 = H1) I1 ⟨rfl, rfl⟩) fun vl s2 ⟨l, H2, I2, pl, el, e2⟩ => ?_)
  subst el e2
  cases pl
  refine thn (po_none.run pins s2 σ H2 (fun o H3 => o = none ∧ H3 = H2) I2 ⟨rfl, rfl⟩) fun vu s3 ⟨u, H3, I3, pu, eu, e3⟩ => ?_
  subst eu e3
  cases pu
  refine thn (hst.run pins s3 σ H3 (fun o H4 => o = some (-1) ∧ H4 = H3) I3 ⟨1, rfl, -1, rfl, rfl, rfl⟩) fun vst s4 ⟨o, H4, I4, pst, eo, e4⟩ => ?_
  subst eo e4
  have J : Inv X pins σ H4 { s4 with heap := s4.heap.push { cls := .type "slice", data := .fields #[.none, .none, vst] } } := I4.kept (t' := s4.toks) fun b ob q => Heap.get?_push_of_some _ q
  obtain ⟨its, r, hT, hz⟩ := J.tuple (SqT.of (K := X.K) hx)
  show wpAny (model X.prog X.w) X.A (subscriptTail e (.Slice none none (some (.UnaryOp .USub (.Constant (.int 1) k p1) p2)) p3) (.ref a) (.ref s4.heap.objs.size)) (EP X pins σ Q) X.xe { s4 with heap := s4.heap.push { cls := .type "slice", data := .fields #[.none, .none, vst] } }
  refine tail_any (ops := [.ref a, .ref s4.heap.objs.size]) hT.typeIs PyProof.Rows.slot_tuple_getitem.lookup ?_ (by with_unfolding_all rfl)
  have hl := r.length
  refine back_tuple hT (Heap.IsSliceOf.new _ .none .none vst) pst ?_ (by rw [List.size_toArray, ← hl]; exact hz)
  refine ⟨.ref _, _, J.laid (t' := s4.toks) (o := .tup xs.reverse) (fun b ob q => Heap.get?_push_of_some _ q) (Nat.le_refl _) ?_, rfl, q _ (J.hok.fresh (Nat.le_refl _))⟩
  exact ⟨by rw [List.length_reverse]; exact hz, _, r.reverse, IsTup.new _ _⟩
end
/-! ### small things -/
mutual
def smallD : PyData → Bool
  | .none | .bool _ => true
  | .int i => decide (-1 ≤ i) && decide (i ≤ 200)
  | .str x => decide (x.cps.size ≤ 10) && x.cps.toList.all fun c => decide (c < 1000)
  | .list xs | .tuple xs => smallAll xs
  | .dict kvs => kvs.isEmpty
def smallAll : List PyData → Bool
  | [] => true
  | x :: xs => smallD x && smallAll xs
end
/- what a web's things are made of: small numbers, tuples -/
mutual
def pureD : PyData → Bool
  | .int i => decide (0 ≤ i) && decide (i ≤ 100)
  | .tuple xs => pureAll xs
  | _ => false
def pureAll : List PyData → Bool
  | [] => true
  | x :: xs => pureD x && pureAll xs
end
theorem smallAll_app : ∀ (a b : List PyData), smallAll (a ++ b) = (smallAll a && smallAll b)
  | [], b => (Bool.true_and _).symm
  | x :: a, b => by
    show (smallD x && smallAll (a ++ b)) = ((smallD x && smallAll a) && smallAll b)
    rw [smallAll_app a b, Bool.and_assoc]
theorem pureAll_app : ∀ (a b : List PyData), pureAll (a ++ b) = (pureAll a && pureAll b)
  | [], b => (Bool.true_and _).symm
  | x :: a, b => by
    show (pureD x && pureAll (a ++ b)) = ((pureD x && pureAll a) && pureAll b)
    rw [pureAll_app a b, Bool.and_assoc]
theorem bulkAll_app : ∀ (a b : List PyData), PyData.bulkAll (a ++ b) = PyData.bulkAll a + PyData.bulkAll b
  | [], b => (Nat.zero_add _).symm
  | x :: a, b => by
    rw [List.cons_append, PyData.bulkAll, PyData.bulkAll, bulkAll_app a b]
    omega
theorem depthAll_app : ∀ (a b : List PyData), PyData.depthAll (a ++ b) = max (PyData.depthAll a) (PyData.depthAll b)
  | [], b => by rw [List.nil_append, PyData.depthAll, Nat.zero_max]
  | x :: a, b => by
    rw [List.cons_append, PyData.depthAll, PyData.depthAll, depthAll_app a b]
    omega
theorem hasDictAll_app : ∀ (a b : List PyData), PyData.hasDictAll (a ++ b) = (PyData.hasDictAll a || PyData.hasDictAll b)
  | [], b => by rw [List.nil_append, PyData.hasDictAll, Bool.false_or]
  | x :: a, b => by
    rw [List.cons_append, PyData.hasDictAll, PyData.hasDictAll, hasDictAll_app a b, Bool.or_assoc]
theorem noLists_app : ∀ (a b : List PyData), noLists (a ++ b) = (noLists a && noLists b)
  | [], b => (Bool.true_and _).symm
  | x :: a, b => by
    show (noList x && noLists (a ++ b)) = ((noList x && noLists a) && noLists b)
    rw [noLists_app a b, Bool.and_assoc]
mutual
theorem pure_small : ∀ d : PyData, pureD d = true → smallD d = true ∧ d.hasDict = false ∧ noList d = true
  | .int i, h => by
    have h : (decide (0 ≤ i) && decide (i ≤ 100)) = true := h
    rw [Bool.and_eq_true] at h
    have h1 := of_decide_eq_true h.1
    have h2 := of_decide_eq_true h.2
    refine ⟨?_, by rw [PyData.hasDict], rfl⟩
    show (decide (-1 ≤ i) && decide (i ≤ 200)) = true
    rw [decide_eq_true (by omega), decide_eq_true (by omega)]
    rfl
  | .tuple xs, h => by
    obtain ⟨a, b, c⟩ := pure_smallAll xs h
    exact ⟨a, by rw [PyData.hasDict]; exact b, c⟩
  | .none, h => by cases h
  | .bool _, h => by cases h
  | .str _, h => by cases h
  | .list _, h => by cases h
  | .dict _, h => by cases h
theorem pure_smallAll : ∀ xs : List PyData, pureAll xs = true → smallAll xs = true ∧ PyData.hasDictAll xs = false ∧ noLists xs = true
  | [], _ => ⟨rfl, by rw [PyData.hasDictAll], rfl⟩
  | x :: xs, h => by
    have h : (pureD x && pureAll xs) = true := h
    rw [Bool.and_eq_true] at h
    obtain ⟨a1, b1, c1⟩ := pure_small x h.1
    obtain ⟨a2, b2, c2⟩ := pure_smallAll xs h.2
    refine ⟨?_, by rw [PyData.hasDictAll, b1, b2]; rfl, ?_⟩
    · show (smallD x && smallAll xs) = true
      rw [a1, a2]
      rfl
    · show (noList x && noLists xs) = true
      rw [c1, c2]
      rfl
end
theorem int_short : ∀ k ∈ List.range 202, (PyData.shown (.int ((k : Int) - 1))).length ≤ 8 := by decide +kernel
theorem int_len {i : Int} (h : (decide (-1 ≤ i) && decide (i ≤ 200)) = true) : (PyData.shown (.int i)).length ≤ 8 ∧ i.natAbs.log2 < 1920 := by
  rw [Bool.and_eq_true] at h
  have h1 := of_decide_eq_true h.1
  have h2 := of_decide_eq_true h.2
  have z := int_short (i + 1).toNat (List.mem_range.mpr (by omega))
  rw [show (((i + 1).toNat : Nat) : Int) - 1 = i by omega] at z
  refine ⟨z, Nat.lt_of_le_of_lt (Nat.log2_le_self _) ?_⟩
  omega
mutual
theorem small_short : ∀ d : PyData, smallD d = true → d.leavesShort 8 = true ∧ d.showable = true
  | .none, _ => ⟨by rw [PyData.leavesShort], by rw [PyData.showable]⟩
  | .bool _, _ => ⟨by rw [PyData.leavesShort], by rw [PyData.showable]⟩
  | .int i, h => by
    obtain ⟨a, b⟩ := int_len h
    exact ⟨by rw [PyData.leavesShort]; exact decide_eq_true a, by rw [PyData.showable]; exact decide_eq_true b⟩
  | .str x, h => by
    have h : (decide (x.cps.size ≤ 10) && x.cps.toList.all fun c => decide (c < 1000)) = true := h
    rw [Bool.and_eq_true] at h
    refine ⟨?_, by rw [PyData.showable]⟩
    rw [PyData.leavesShort]
    refine List.all_eq_true.mpr fun c hc => decide_eq_true ?_
    have z := of_decide_eq_true (List.all_eq_true.mp h.2 c hc)
    exact Nat.lt_of_lt_of_le z (by decide)
  | .list xs, h => by
    obtain ⟨a, b⟩ := small_shortAll xs h
    exact ⟨by rw [PyData.leavesShort]; exact a, by rw [PyData.showable]; exact b⟩
  | .tuple xs, h => by
    obtain ⟨a, b⟩ := small_shortAll xs h
    exact ⟨by rw [PyData.leavesShort]; exact a, by rw [PyData.showable]; exact b⟩
  | .dict kvs, h => by
    cases kvs with
    | nil => exact ⟨by rw [PyData.leavesShort, PyData.leavesShortKv], by rw [PyData.showable, PyData.showableKv]⟩
    | cons a r => cases h
theorem small_shortAll : ∀ xs : List PyData, smallAll xs = true → PyData.leavesShortAll 8 xs = true ∧ PyData.showableAll xs = true
  | [], _ => ⟨by rw [PyData.leavesShortAll], by rw [PyData.showableAll]⟩
  | x :: xs, h => by
    have h : (smallD x && smallAll xs) = true := h
    rw [Bool.and_eq_true] at h
    obtain ⟨a1, b1⟩ := small_short x h.1
    obtain ⟨a2, b2⟩ := small_shortAll xs h.2
    exact ⟨by rw [PyData.leavesShortAll, a1, a2]; rfl, by rw [PyData.showableAll, b1, b2]; rfl⟩
end
/-- what can be shown and looked at -/
structure OKD (d : PyData) : Prop where
  sm : smallD d = true
  nd : d.hasDict = true → noList d = true
  dep : d.depth ≤ 40
  bk : d.bulk ≤ 100000
theorem OKD.show_ {d : PyData} (h : OKD d) : d.showable = true ∧ d.shown.length ≤ sizeLine := by
  obtain ⟨a, b⟩ := small_short d h.sm
  refine ⟨b, ?_⟩
  have z := PyData.shown_le_bulk 8 (Nat.le_refl 8) d a
  have := h.bk
  rw [sizeLine_eq]
  omega
theorem bulk_len : ∀ xs : List PyData, xs.length ≤ PyData.bulkAll xs
  | [] => Nat.zero_le _
  | x :: xs => by
    have := bulk_len xs
    rw [PyData.bulkAll, List.length_cons]
    omega
theorem bulk_mem : ∀ {xs : List PyData} {x : PyData}, x ∈ xs → x.bulk + 1 ≤ PyData.bulkAll xs
  | y :: xs, x, h => by
    rw [PyData.bulkAll]
    rcases List.mem_cons.mp h with z | z
    · rw [z]
      omega
    · have := bulk_mem z
      omega
theorem depth_mem : ∀ {xs : List PyData} {x : PyData}, x ∈ xs → x.depth ≤ PyData.depthAll xs
  | y :: xs, x, h => by
    rw [PyData.depthAll]
    rcases List.mem_cons.mp h with z | z
    · rw [z]
      omega
    · have := depth_mem z
      omega
theorem pure_mem : ∀ {xs : List PyData} {x : PyData}, pureAll xs = true → x ∈ xs → pureD x = true
  | y :: xs, x, h, m => by
    have h : (pureD y && pureAll xs) = true := h
    rw [Bool.and_eq_true] at h
    rcases List.mem_cons.mp m with z | z
    · rw [z]
      exact h.1
    · exact pure_mem h.2 z
/-- d bent: what it can become -/
structure Bt (d e : PyData) : Prop where
  sm : smallD e = true
  nd : e.hasDict = true → noList e = true
  dep : e.depth ≤ d.depth + 2
  bk : e.bulk ≤ 2 * d.bulk + 5
/-- one part exchanged -/
theorem Bt.part {A B : List PyData} {x e : PyData} (h : Bt x e) (hp : pureAll (A ++ x :: B) = true) : Bt (.tuple (A ++ x :: B)) (.tuple (A ++ e :: B)) := by
  have e1 : A ++ x :: B = A ++ [x] ++ B := by rw [List.append_assoc]; rfl
  have e2 : A ++ e :: B = A ++ [e] ++ B := by rw [List.append_assoc]; rfl
  have hx := bulk_mem (xs := A ++ x :: B) (x := x) (List.mem_append_right _ List.mem_cons_self)
  rw [e1] at hp hx ⊢
  rw [e2]
  rw [pureAll_app, pureAll_app, Bool.and_eq_true, Bool.and_eq_true] at hp
  obtain ⟨⟨pA, _⟩, pB⟩ := hp
  obtain ⟨sA, dA, lA⟩ := pure_smallAll A pA
  obtain ⟨sB, dB, lB⟩ := pure_smallAll B pB
  have he : smallAll [e] = true := by
    show (smallD e && true) = true
    rw [h.sm]
    rfl
  refine ⟨?_, fun z => ?_, ?_, ?_⟩
  · show smallAll (A ++ [e] ++ B) = true
    rw [smallAll_app, smallAll_app, sA, sB, he]
    rfl
  · rw [PyData.hasDict, hasDictAll_app, hasDictAll_app, dA, dB, Bool.false_or, Bool.or_false, PyData.hasDictAll, PyData.hasDictAll, Bool.or_false] at z
    show noLists (A ++ [e] ++ B) = true
    rw [noLists_app, noLists_app, lA, lB, Bool.true_and, Bool.and_true]
    show (noList e && true) = true
    rw [h.nd z]
    rfl
  · have z := h.dep
    rw [PyData.depth, PyData.depth, depthAll_app, depthAll_app, depthAll_app, depthAll_app, PyData.depthAll, PyData.depthAll, PyData.depthAll]
    omega
  · have z := h.bk
    rw [bulkAll_app, bulkAll_app, PyData.bulkAll, PyData.bulkAll] at hx
    rw [PyData.bulk, PyData.bulk, bulkAll_app, bulkAll_app, bulkAll_app, bulkAll_app, PyData.bulkAll, PyData.bulkAll, PyData.bulkAll]
    omega
/-- parts left out, twice, in another order -/
theorem Bt.row {xs ys : List PyData} (hy : pureAll ys = true) (hd : PyData.depthAll ys ≤ PyData.depthAll xs) (hb : PyData.bulkAll ys ≤ 2 * PyData.bulkAll xs) : Bt (.tuple xs) (.list ys) ∧ Bt (.tuple xs) (.tuple ys) := by
  obtain ⟨s, d, l⟩ := pure_smallAll ys hy
  refine ⟨⟨s, fun z => ?_, ?_, ?_⟩, ⟨s, fun _ => l, ?_, ?_⟩⟩
  · rw [PyData.hasDict, d] at z
    cases z
  · rw [PyData.depth, PyData.depth]
    omega
  · rw [PyData.bulk, PyData.bulk]
    omega
  · rw [PyData.depth, PyData.depth]
    omega
  · rw [PyData.bulk, PyData.bulk]
    omega
theorem bulkAll_perm {a b : List PyData} (h : a.Perm b) : PyData.bulkAll a = PyData.bulkAll b := by
  induction h with
  | nil => rfl
  | cons x _ ih => rw [PyData.bulkAll, PyData.bulkAll, ih]
  | swap x y l =>
    rw [PyData.bulkAll, PyData.bulkAll, PyData.bulkAll, PyData.bulkAll]
    omega
  | trans _ _ i1 i2 => exact i1.trans i2
theorem depthAll_sub {a b : List PyData} (h : ∀ x ∈ a, x ∈ b) : PyData.depthAll a ≤ PyData.depthAll b := by
  induction a with
  | nil =>
    rw [PyData.depthAll]
    exact Nat.zero_le _
  | cons x r ih =>
    have h1 := depth_mem (h x List.mem_cons_self)
    have h2 := ih fun y hy => h y (List.mem_cons_of_mem _ hy)
    rw [PyData.depthAll]
    omega
theorem pureAll_sub {a b : List PyData} (hb : pureAll b = true) (h : ∀ x ∈ a, x ∈ b) : pureAll a = true := by
  induction a with
  | nil => rfl
  | cons x r ih =>
    show (pureD x && pureAll r) = true
    rw [pure_mem hb (h x List.mem_cons_self), ih fun y hy => h y (List.mem_cons_of_mem _ hy)]
    rfl
end Sb

/-! ## MA -/
/-! Several except clauses that all bind one name. -/
namespace Sb
open PySem PySem.Spec PyProof.Rows L2
abbrev Suite := Addr → Value → Option Addr → TS
def goneAt (i : Nat) (D : Ends) : Ends := { nx := fun σ' H' => D.nx (σ'.set i none) H', rt := D.rt, bk := fun σ' H' => D.bk (σ'.set i none) H', ct := fun σ' H' => D.ct (σ'.set i none) H' }
def wRow (K : PySem.W.Frag) (i : Nat) (Wo : WX) (D : Ends) : List (Value × Suite) → WX
  | [] => Wo
  | q :: r => fun cls d σ H => ∃ b, PySem.W.exmOne K cls q.1 = some b ∧ (b = true → ∀ a, H a = none → q.2 a cls d (goneAt i D) (σ.set i (some (.ref a))) H) ∧ (b = false → wRow K i Wo D r cls d σ H)
inductive HdAs (X : Cx) (n : Str) : List ExceptHandler → List (Value × Suite) → Prop
  | nil : HdAs X n [] []
  | cons {x : Str} {c : Value} {ts : Suite} {b0 : Stmt} {su : List Stmt} {p1 p2 : Pos} {hd : List ExceptHandler} {l : List (Value × Suite)} (nm : Names X x c)
      (sok : ∀ (a : Addr) (oe : Obj) (cls : Value) (d : Option Addr) (pn : List (Addr × Obj)), Zc cls d oe → (∃ vs, oe.data = .fields vs) → PSs (X.suite a ((a, oe) :: pn)) (b0 :: su) (ts a cls d)) (r : HdAs X n hd l) :
      HdAs X n (.ExceptHandler (some (.Name x p1)) (some n) (b0 :: su) p2 :: hd) ((c, ts) :: l)
section
variable {X : Cx} {body : List Stmt} {h0 : ExceptHandler} {hds : List ExceptHandler} {l : List (Value × Suite)} {pos : Pos} {tb : WX → TS} {Wo : WX} {n : Str} {i : Nat}
theorem ps_try_row (hs : X.stack = X.env :: X.outer) (hf : X.env.frame = some X.env.locals) (hN : X.N.Nodup) (hi : X.N[i]? = some n) (hln : X.env.kindOf n = some .local) (tk : Takes X Wo)
    (hb : ∀ (W : WX) (pn : List (Addr × Obj)) (xe : Value → Shared → Prop), Takes (X.tr pn xe) W → PassesOwn (model X.prog X.w) X.A X.env xe → PSs (X.tr pn xe) body (tb W)) (hh : HdAs X n (h0 :: hds) l) :
    PS X (.Try body (h0 :: hds) [] [] pos) (fun D σ H => tb (wRow X.K i Wo D l) D σ H) := by
  refine ⟨fun pins st σ H D inv want => ?_⟩
  have ok := inv.ok
  have frs_ : X.A.frames = some (X.env :: X.outer) := by rw [ok.frames, hs]
  have loc_ : Loc X.env.scope n := .inl hln
  refine wpAny_Try_except (wpAny_mono ((hb (wRow X.K i Wo D l) (X.pn ++ pins) (fun e u1 => wpAny (model X.prog X.w) X.A (noteFrame e X.env) (fun _ u2 => wpAny (model X.prog X.w) X.A (setFlight e none) (fun _ u3 =>
    wpAny (model X.prog X.w) X.A (handleBy e X.env (h0 :: hds)) (SP X pins D) X.xe u3) X.xe u2) X.xe u1) (fun u t caught => ?_) PassesOwn.looking).run [] st σ H D (inv.toTry _) want) (fun f t hsp => ?_) (fun e _ he => he))
  · obtain ⟨a, B, sI, pins', σ', H', cls, d, rfl, J', nb, up, sky, na, os, ag, w⟩ := caught
    have J : Inv X pins σ' H' sI := J'.ofTry ok
    have sky2 : Sky B (X.env :: X.outer) a (Zc cls d) X.env.locals t.heap := by rw [← hs]; exact sky
    show wpAny (model X.prog X.w) X.A (noteFrame (.ref a) X.env) _ _ _
    refine Sky.land Zc.steady frs_ hf sky2 fun h3 fl3 up3 => ?_
    have J3 : Inv X pins σ' H' { t with heap := h3 } := J.landed nb fl3.1 (up.trans up3) os ag
    obtain ⟨o3, v3, get3, zc3, dat3⟩ := fl3.there
    have off : ∀ {h : Heap} {o : Obj} {vs : Array Value}, h.FunFrames B (X.env :: X.outer) → h.get? a = some o → o.data = .fields vs → a ∉ frs (X.env :: X.outer) := fun {h o vs} ff e dd hm => by
      obtain ⟨_, o', e', hnf⟩ := ff.mem hm
      exact hnf _ ((Option.some.inj (e'.symm.trans e)) ▸ dd)
    have offA := off fl3.2.2.1 get3 dat3
    have nL : a ≠ X.env.locals := fun z => offA (List.mem_filterMap.mpr ⟨X.env, List.mem_cons_self, by rw [hf, z]⟩)
    have nF : a ∉ X.fs := fun hm => by
      obtain ⟨e, he, q⟩ := List.mem_filterMap.mp hm
      exact offA (List.mem_filterMap.mpr ⟨e, List.mem_cons_of_mem _ he, q⟩)
    have S3 := J3.suite get3 dat3 na nL nF
    have walk : ∀ {hd : List ExceptHandler} {m : List (Value × Suite)}, HdAs X n hd m → wRow X.K i Wo D m cls d σ' H' → wpAny (model X.prog X.w) X.A (handleBy (.ref a) X.env hd) (SP X pins D) X.xe { t with heap := h3 } := by
      intro hd m hk
      induction hk with
      | nil =>
        intro w
        refine wpAny_handleBy_nil ?_
        obtain ⟨k1, k2, k3, oe, vs, T, oT, ts', he, hz, hd, h1, hr⟩ := id fl3
        unfold PySem.passOn
        refine wpAny_bind (wpAny_field he hd h1 ?_)
        rw [if_neg (by simp : ¬ ((Value.ref T == Value.none) = true))]
        have fin : wpAny (model X.prog X.w) X.A (setFlight (.ref a) X.env.frame) (fun _ u4 => wpAny (model X.prog X.w) X.A (throw (.ref a) : Sem Flow) (SP X pins D) X.xe u4) X.xe { t with heap := h3 } := by
          rw [hf]
          exact HandSPX.setFlight_upZ fl3 fun h4 hh4 up4 => wpAny_throw (tk _ _ ⟨a, B, sI, pins, σ', H', cls, d, rfl, J, nb, (up.trans up3).trans up4, .inr (.inr (by rw [hs]; exact hh4)), na, os, ag, w⟩)
        first
          | exact wpAny_bind (wpAny_pure (wpAny_bind fin))
          | exact wpAny_bind fin
      | @cons x c ts b0 su p1 p2 hd2 l2 nm sok r ih =>
        intro w
        obtain ⟨b, eb, yes, no⟩ := w
        refine wpAny_handleBy_cons (codeAny_handlers_test ?_) (by intro q; cases q)
        have look : PySem.W.Looks (model X.prog X.w) h3 (typeOf (.ref a)) cls := fun A Q E u k q => wpAny_typeOf_ref (k _ _ get3) (by rw [zc3.1]; exact q)
        have match_ := PySem.W.exm_one (M := model X.prog X.w) (J3.kIn) look eb
        have name_ : ∀ {Q : Value → Shared → Prop} {E : Value → Shared → Prop}, Q c { t with heap := h3 } → wpAny (model X.prog X.w) (X.A.mark (some (.ref a))) (eval (.Name x p1) X.env) Q E { t with heap := h3 } := fun {Q E} q => by
          obtain ⟨hg, hdbg, hm | ⟨hm, hv, hnn⟩⟩ := nm
          · exact ld_glob (X := X.suite a ((a, o3) :: (X.pn ++ pins))) S3 hg hm q hdbg
          · exact ld_blt (X := X.suite a ((a, o3) :: (X.pn ++ pins))) S3 hg hm hv q hnn hdbg
        refine name_ (match_.here ?_)
        cases b with
        | true =>
          refine codeAny_handlers_suite_as (HandSPX.lands_againZ fl3 fun h4 fl4 up4 => ?_)
          have J4 : Inv X pins σ' H' { t with heap := h4 } := J.landed nb fl4.1 ((up.trans up3).trans up4) os ag
          obtain ⟨o4, v4, get4, zc4, dat4⟩ := fl4.there
          have S4 := J4.suite get4 dat4 na nL nF
          refine store_ok (X := X.suite a ((a, o4) :: (X.pn ++ pins))) (v := .ref a) S4 hN hi loc_ rfl (fun u5 S5 => ?_) (.inr hln)
          refine wpAny_mono ((sok a o4 cls d (X.pn ++ pins) zc4 ⟨_, dat4⟩).run [] u5 _ H' _ S5 (yes rfl a na)) (fun f u6 hsp => ?_) (fun _ _ z => False.elim z)
          have done : ∀ {σ6 : L2.St} {H6 : Hp} {Q : Shared → Prop}, Inv (X.suite a ((a, o4) :: (X.pn ++ pins))) [] σ6 H6 u6 → (∀ u7, Inv X pins (σ6.set i none) H6 u7 → Q u7) →
              wpAny (model X.prog X.w) X.A (do bindName X.env n .none; unbindBehindTheSuite X.env n p2) (fun _ u7 => Q u7) X.xe u6 := fun {σ6 H6 Q} S6 hq => gone_ok (S6.unsuite ok) hN hi hln hq
          cases f with
          | next =>
            obtain ⟨σ6, H6, S6, q6⟩ := hsp
            exact done S6 fun u7 J7 => ⟨_, _, J7, q6⟩
          | brk =>
            obtain ⟨σ6, H6, S6, q6⟩ := hsp
            exact done S6 fun u7 J7 => ⟨_, _, J7, q6⟩
          | cont =>
            obtain ⟨σ6, H6, S6, q6⟩ := hsp
            exact done S6 fun u7 J7 => ⟨_, _, J7, q6⟩
          | ret u =>
            obtain ⟨v6, σ6, H6, S6, r6, q6⟩ := hsp
            exact done S6 fun u7 J7 => ⟨_, _, _, J7, r6, q6⟩
        | false =>
          show wpAny _ X.A (handleBy (.ref a) X.env hd2) _ _ _
          exact ih (no rfl)
    exact walk hh w
  · cases f with
    | next =>
      obtain ⟨σ', H', J', q⟩ := hsp
      exact wpAny_execs_nil ⟨σ', H', J'.ofTry ok, q⟩
    | brk =>
      obtain ⟨σ', H', J', q⟩ := hsp
      exact ⟨σ', H', J'.ofTry ok, q⟩
    | cont =>
      obtain ⟨σ', H', J', q⟩ := hsp
      exact ⟨σ', H', J'.ofTry ok, q⟩
    | ret u =>
      obtain ⟨v, σ', H', J', r, q⟩ := hsp
      exact ⟨v, σ', H', J'.ofTry ok, r, q⟩
end
end Sb

/-! ## W332 -/
/-! Drawn webs: the web. -/
namespace Sb
open PySem PySem.Spec PyProof.Rows L2
abbrev sAnyWeb : Stmt := top 38
/-- a web's value -/
def WebH (H : Hp) (r : Addr) (n : Nat) (us : List (Int × Int)) : Prop := ∃ t : Addr, H r = some (.tup [.int (n : Int), .ref t]) ∧ PrsT H t us
theorem WebH.at {K : PySem.W.Frag} {H : Hp} {r : Addr} {n : Nat} {us : List (Int × Int)} (h : WebH H r n us) : WebAt K H (.ref r) (n : Int) us := by
  obtain ⟨t, h1, qs, h2, h3, h4⟩ := h
  exact ⟨r, t, rfl, SqT.of h1, qs, SqT.of h2, h3, fun i q a b e1 e2 => SqT.of (h4 i q a b e1 e2)⟩
theorem WebH.mono {H H2 : Hp} {r : Addr} {n : Nat} {us : List (Int × Int)} (h : WebH H r n us) (k : ∀ b xs, H b = some (.tup xs) → H2 b = some (.tup xs)) : WebH H2 r n us := by
  obtain ⟨t, h1, qs, h2, h3⟩ := h
  exact ⟨t, k _ _ h1, qs, k _ _ h2, h3.mono k⟩
def spAnyWeb : Sp := fun vs H Q _ => ∃ (p c : Addr) (k : Nat) (most size : Int), vs = [.ref p, .int most, .int size] ∧ Pen H p c k ∧ k < 800000 ∧ 2 ≤ most ∧ most ≤ 40 ∧ 2 ≤ size ∧ size ≤ 20 ∧
  ∀ (r : Addr) H' (n : Nat) (us : List (Int × Int)) k', But p H H' → H r = none → WebH H' r n us → Good n us → (∀ t ∈ us, t.1 < t.2) → Asc us → 2 ≤ n → (n : Int) ≤ most → us.length ≤ 500 → k' ≤ k + 1000 → Pen H' p c k' → Q (.ref r) H'
section
variable {P : Program} {w : World} {K : PySem.W.Frag} {mg : Str → Option Value} {base : Heap} {C : Nat → Addr}
abbrev scAnyWebN : List Str := ["pen", "most", "size", "ties", "n", "turn", "more", "many", "at", "names", "a", "b"]
abbrev scAnyWebS : Scope := defScope sAnyWeb
theorem scAnyWeb : FnScope ["pen", "most", "size", "ties", "n", "turn", "more", "many", "at", "names", "a", "b"] ["pen", "most", "size"] (defScope sAnyWeb) := ⟨rfl, rfl, rfl, by decide +kernel, rfl, by decide +kernel, by decide +kernel⟩
theorem ok_anyWeb {f fT fP fN fR : Addr} {fd fdT fdP fdN fdR : FuncData} (F : FnP K "_law_any_web" sAnyWeb f fd) (T : WTxt mg) (FT : FnP K "_law_take" sTake fT fdT) (gT : mg "_law_take" = some (.ref fT)) (GT : FnOk P w K mg base CX0 2 fT fdT ["pen", "many"] spTake)
    (FP : FnP K "_law_piece" sPiece fP fdP) (gP : mg "_law_piece" = some (.ref fP)) (GP : FnOk P w K mg base CX0 4 fP fdP ["pen", "size"] spPiece) (FN : FnP K "_law_any_names" sNames fN fdN) (gN : mg "_law_any_names" = some (.ref fN)) (GN : FnOk P w K mg base CX0 3 fN fdN ["pen", "n"] spNames)
    (FR : FnP K "_law_renamed" sRenamed fR fdR) (gR : mg "_law_renamed" = some (.ref fR)) (GR : FnOk P w K mg base CX0 1 fR fdR ["ties", "names"] spRenamed) : FnOk P w K mg base CX0 5 f fd ["pen", "most", "size"] spAnyWeb := by
  have bT : Binds K fdT ["pen", "many"] [] := FT.bindsN fun _ _ _ _ _ _ us hl => match us, hl with | [_, _], _ => rfl
  have bP : Binds K fdP ["pen", "size"] [] := FP.bindsN fun _ _ _ _ _ _ us hl => match us, hl with | [_, _], _ => rfl
  have bN : Binds K fdN ["pen", "n"] [] := FN.bindsN fun _ _ _ _ _ _ us hl => match us, hl with | [_, _], _ => rfl
  have bR : Binds K fdR ["ties", "names"] [] := FR.bindsN fun _ _ _ _ _ _ us hl => match us, hl with | [_, _], _ => rfl
  refine ok0 F scAnyWeb (fun vs H Q E h => ?_) (fun cdv A outer s H vs Q E hr h => ?_)
  · obtain ⟨p, c, k, most, size, rfl, _⟩ := h
    rfl
  · obtain ⟨p, c, k, most, size, rfl, hp, hk, m2, m40, s2, s20, q⟩ := h
    have hr1 : Room 1 _ := hr.mono (by decide)
    have hr2 : Room 2 _ := hr.mono (by decide)
    have hr3 : Room 3 _ := hr.mono (by decide)
    refine ⟨_, (pss_cons (ps_asg (pe_call GP hr rfl gP FP.kp bP .nil pass0 (pa_cons (pv 0) (pa_cons (pe_callB (id := "min") (cr_min rfl) (by rfl) T.min (by decide +kernel) (pa_cons (pe_lstL (pa_cons (pv 2) (pa_cons (pv 1) pa_nil))) pa_nil)) pa_nil))) (pg_tup (by rfl) (pgs_cons (pg_name (i := 3) scAnyWeb.nd rfl (Or.inl rfl)) (pgs_cons (pg_name (i := 4) scAnyWeb.nd rfl (Or.inl rfl)) pgs_nil))))
    (pss_cons (ps_for PassesOwn.never rfl (pi_range1 (by rfl) T.range (pa_cons (pe_call GT hr2 rfl gT FT.kp bT .nil pass0 (pa_cons (pv 0) (pa_cons pe_int pa_nil))) pa_nil)) (pg_name (i := 5) scAnyWeb.nd rfl (Or.inl rfl))
      (pss_one (ps_if (pt_cmpR op_lt (pv 4) (pv 1) (nomark _))
      (pss_cons (ps_asg (pe_call GP hr rfl gP FP.kp bP .nil pass0 (pa_cons (pv 0) (pa_cons (pe_callB (id := "min") (cr_min rfl) (by rfl) T.min (by decide +kernel) (pa_cons (pe_lstL (pa_cons (pv 2) (pa_cons (pe_op op_add (pe_op op_sub (pv 1) (pv 4)) pe_int) pa_nil))) pa_nil)) pa_nil))) (pg_tup (by rfl) (pgs_cons (pg_name (i := 6) scAnyWeb.nd rfl (Or.inl rfl)) (pgs_cons (pg_name (i := 7) scAnyWeb.nd rfl (Or.inl rfl)) pgs_nil))))
    (pss_cons (ps_set (i := 8) scAnyWeb.nd rfl (Or.inl rfl) (pe_call GT hr2 rfl gT FT.kp bT .nil pass0 (pa_cons (pv 0) (pa_cons (pv 4) pa_nil))))
    (pss_cons (ps_set (i := 9) scAnyWeb.nd rfl (Or.inr rfl) (pe_op op_catL (pe_lstL (pa_cons (pv 8) pa_nil)) (pe_listRg rfl rfl T.list (prg_2 rfl T.range (pv 4) (pe_op op_sub (pe_op op_add (pv 4) (pv 7)) pe_int)))))
    (pss_one (ps_par (i := 3) (j := 4) (by rfl) scAnyWeb.nd rfl rfl (by decide) rfl rfl (pa_cons (pe_op op_catL (pv 3) (pe_lc (own := [("a", 10), ("b", 11)]) (g := gTup K 2 (gCons (gName 10) (gCons (gName 11) gNil))) (by rfl) scAnyWeb.nd (pi_list (pv 6)) (blkOk_by (own := [("a", 10), ("b", 11)]) (N := scAnyWebN) (sc := scAnyWebS) (by decide +kernel)) (fun _ _ _ _ _ => pg_tup (by rfl) (pgs_cons (pg_name (i := 10) scAnyWeb.nd rfl (Or.inl rfl)) (pgs_cons (pg_name (i := 11) scAnyWeb.nd rfl (Or.inl rfl)) pgs_nil))) (fun _ _ _ _ _ => pts_nil) (fun _ _ _ _ _ => (pe_tupL (pa_cons (pe_ix (ix_lK (K := K)) (pv 9) (pv 10) (fun _ _ => rfl)) (pa_cons (pe_ix (ix_lK (K := K)) (pv 9) (pv 11) (fun _ _ => rfl)) pa_nil)))))) (pa_cons (pe_op op_sub (pe_op op_add (pv 4) (pv 7)) pe_int) pa_nil)) (by rfl))))))
      pss_nil)))
    (pss_one (ps_ret (pe_tupL (pa_cons (pv 4) (pa_cons (pe_call GR hr1 rfl gR FR.kp bR .nil pass0 (pa_cons (pv 3) (pa_cons (pe_call GN hr3 rfl gN FN.kp bN .nil pass0 (pa_cons (pv 0) (pa_cons (pv 4) pa_nil))) pa_nil))) pa_nil))))))), ?_⟩
    -- the first piece
    refine ⟨_, rfl, _, rfl, _, rfl, by show 2 ≤ sizeLine; decide, fun a1 H1 n1 S1 h1 => ⟨a1, [size, most], rfl, SqL.of h1, by show 0 < 2; decide, fun mn hmn hle => ?_⟩⟩
    have mn2 : 2 ≤ mn ∧ mn ≤ size ∧ mn ≤ most := by
      have z1 := hle size (by simp)
      have z2 := hle most (by simp)
      simp only [List.mem_cons, List.not_mem_nil, or_false] at hmn
      omega
    refine ⟨p, c, k, mn, rfl, hp.same S1, by omega, by omega, fun r1 l1 H2 n ts k2 B2 hr1' hP1 nl1 pc1 hk2 hp2 => ?_⟩
    have g1 := piece_good pc1 (by omega)
    have pn1 := piece_n pc1 (by omega)
    have pl1 := piece_len pc1 (by omega)
    refine ⟨r1, _, rfl, .inl (.inl hr1'), rfl, _, _, rfl, _, _, rfl, rfl, ?_⟩
    -- more pieces
    refine ⟨_, rfl, p, c, k2, 4, rfl, hp2, by decide, by decide, by omega, fun turns H3 k3 t0 t4 B3 hk3 hp3 => ?_⟩
    have B03 : But p H H3 := ((sameBut S1).trans B2).trans B3
    obtain ⟨cells2, x2, e2, _⟩ := id hp2
    refine ⟨turns, rfl, by omega, by omega, for_range (lo := 0) (n := turns.toNat) (fun i σ H' => ∃ (tl : Addr) (n : Nat) (ts : List (Int × Int)) (k' : Nat), (∃ u v x y z, σ = [some (.ref p), some (.int most), some (.int size), some (.ref tl), some (.int (n : Int)), u, v, x, y, z, none, none]) ∧ But p H H' ∧ tl ≠ p ∧ PrsL H' tl ts ∧ Good n ts ∧ 2 ≤ n ∧ (n : Int) ≤ most ∧ ts.length ≤ 100 * (i + 1) ∧ k' ≤ k + 50 + 60 * i ∧ Pen H' p c k')
      ⟨l1, n, ts, k3, ⟨none, none, none, none, none, rfl⟩, B03, nl1, hP1.but B3 nl1 e2, g1, pn1.1, by omega, by omega, by omega, hp3⟩ ?_ ?_⟩
    · rintro i σ H4 hi ⟨tl, n, ts, k4, ⟨u, v, x, y, z, rfl⟩, B4, ntl, hPt, g, n2, nm, hts, hk4, hp4⟩
      have hi3 : i < 4 := by omega
      refine ⟨_, rfl, _, rfl, _, _, rfl, rfl, _, rfl, ite2 (fun hlt => ?_) (fun _ => ⟨tl, n, ts, k4, ⟨_, _, _, _, _, rfl⟩, B4, ntl, hPt, g, n2, nm, by omega, by omega, hp4⟩)⟩
      have hlt : (n : Int) < most := of_decide_eq_true hlt
      -- one more
      refine ⟨_, rfl, _, rfl, _, rfl, _, rfl, _, _, rfl, rfl, _, _, rfl, rfl, by show 2 ≤ sizeLine; decide, fun a5 H5 n5 S5 h5 => ⟨a5, [size, most - n + 1], rfl, SqL.of h5, by show 0 < 2; decide, fun mn hmn hle => ?_⟩⟩
      have hmn2 : 2 ≤ mn ∧ mn ≤ size ∧ mn ≤ most - n + 1 := by
        have z1 := hle size (by simp)
        have z2 := hle (most - n + 1) (by simp)
        simp only [List.mem_cons, List.not_mem_nil, or_false] at hmn
        omega
      refine ⟨p, c, k4, mn, rfl, hp4.same S5, by omega, by omega, fun r6 l6 H6 m us k6 B6 hr6 hP6 nl6 pc6 hk6 hp6 => ?_⟩
      have g6 := piece_good pc6 (by omega)
      have pn6 := piece_n pc6 (by omega)
      have pl6 := piece_len pc6 (by omega)
      refine ⟨r6, _, rfl, .inl (.inl hr6), rfl, _, _, rfl, _, _, rfl, rfl, ?_⟩
      refine ⟨_, rfl, _, rfl, p, c, k6, n, rfl, hp6, by omega, by omega, by omega, fun at7 H7 k7 t0 t1 B7 hk7 hp7 => ?_⟩
      -- names
      refine ⟨_, rfl, by show 1 ≤ sizeLine; decide, fun a8 H8 n8 S8 h8 => ⟨_, rfl, _, rfl, _, rfl, _, _, rfl, rfl, _, _, rfl, rfl, _, _, rfl, rfl, RgOk.of_le (by omega) (by omega) (by omega) (by omega), fun a9 n9 => ?_⟩⟩
      have erg : rgV (n : Int) ((n : Int) + (m : Int) - 1) = ((List.range (m - 1)).map fun (i : Nat) => (n : Int) + (i : Int)).map V.int := by
        unfold rgV
        rw [List.map_map, show ((n : Int) + (m : Int) - 1 - (n : Int)).toNat = m - 1 by omega]
        rfl
      have S9 : Same H8 (upd H8 a9 (.lst (rgV (n : Int) ((n : Int) + (m : Int) - 1)))) := same_upd n9
      have h9 : (upd H8 a9 (.lst (rgV (n : Int) ((n : Int) + (m : Int) - 1)))) a9 = some (.lst (((List.range (m - 1)).map fun (i : Nat) => (n : Int) + (i : Int)).map V.int)) := by rw [upd_same, erg]
      generalize upd H8 a9 (.lst (rgV (n : Int) ((n : Int) + (m : Int) - 1))) = H9 at S9 h9
      refine ⟨a8, a9, _, _, rfl, rfl, S9 _ _ h8, h9, by rw [List.length_map, List.length_map, List.length_range, sizeLine_eq]; show 1 + (m - 1) ≤ _; omega, fun nm0 H10 n10 S10 h10 => ?_⟩
      have h10 : H10 nm0 = some (.lst ((at7 :: (List.range (m - 1)).map fun (i : Nat) => (n : Int) + (i : Int)).map V.int)) := h10
      have S710 : Same H7 H10 := (S8.trans S9).trans S10
      obtain ⟨cells4, x4, e4, _⟩ := id (hp4.same S5)
      obtain ⟨cells6, x6, e6, _⟩ := id hp6
      have hP10 : PrsL H10 l6 us := (hP6.but B7 nl6 e6).same S710
      have hT10 : PrsL H10 tl ts := (((hPt.same S5).but B6 ntl e4).but B7 ntl e6).same S710
      have hp10 := hp7.same S710
      have B10 : But p H H10 := (((B4.trans (sameBut S5)).trans B6).trans B7).trans (sameBut S710)
      obtain ⟨qs6, q61, q62⟩ := hP10
      have gl : ∀ a : Int, 0 ≤ a → a < (m : Int) → atI ((at7 :: (List.range (m - 1)).map fun (i : Nat) => (n : Int) + (i : Int)).map V.int) a = some (.int (glN n at7 a)) := fun a a0 a1 => by
        have hlen : ((at7 :: (List.range (m - 1)).map fun (i : Nat) => (n : Int) + (i : Int)).length : Int) = (m : Int) := by
          rw [List.length_cons, List.length_map, List.length_range]
          omega
        rw [atI_map a0 (by rw [hlen]; exact a1)]
        have e : (at7 :: (List.range (m - 1)).map fun (i : Nat) => (n : Int) + (i : Int)).getD a.toNat 0 = glN n at7 a := by
          unfold glN
          rcases Int.lt_or_le 0 a with z | z
          · obtain ⟨j, hj⟩ : ∃ j : Nat, a.toNat = j + 1 := ⟨a.toNat - 1, by omega⟩
            rw [hj, List.getD_cons_succ, List.getD_eq_getElem?_getD, List.getElem?_map, List.getElem?_range (by omega), if_neg (by omega)]
            show (n : Int) + (j : Int) = _
            omega
          · have z0 : a = 0 := by omega
            subst z0
            rfl
        rw [e]
      -- ties
      refine ⟨_, rfl, _, rfl, l6, rfl, ⟨_, SqL.of q61⟩, fun D hD => lc_list (K := K) (a := l6) (xs := qs6.map V.ref) (fun i H' => Same H10 H' ∧ ∃ rs : List Addr, H' D = some (.lst (rs.map V.ref)) ∧ PrsAt H' rs ((us.take i).map (glT n at7))) ⟨same_upd hD, [], upd_same, PrsAt.nil⟩ (fun i H' _ ⟨S, _⟩ => SqL.of (S _ _ q61)) ?_ ?_⟩
      · rintro j y1 H11 hj ⟨S, rs, hd, hr⟩
        obtain ⟨qd, hqi, rfl⟩ := getMapA hj
        have hjl : j < us.length := by
          rw [← q62.1]
          exact (List.getElem?_eq_some_iff.mp hqi).1
        have htj : us[j]? = some us[j] := List.getElem?_eq_getElem hjl
        generalize us[j] = tt at htj
        obtain ⟨a, b⟩ := tt
        have hqd := q62.2 j qd a b hqi htj
        obtain ⟨a0, a1, b0, b1, _⟩ := g6.inn _ (List.mem_of_getElem? htj)
        have hn11 := S _ _ h10
        refine ⟨qd, _, rfl, .inl (.inl (S _ _ hqd)), rfl, _, _, rfl, _, _, rfl, rfl, rfl, ?_⟩
        refine ⟨_, rfl, _, rfl, nm0, _, _, _, rfl, rfl, SqL.of hn11, gl a a0 a1, _, rfl, _, rfl, nm0, _, _, _, rfl, rfl, SqL.of hn11, gl b b0 b1, ?_⟩
        refine ⟨by show 2 ≤ sizeLine; decide, fun tq H12 n12 S12 h12 => ⟨rs.map V.ref, S12 _ _ hd, ?_, fun c1 o hc => ?_, rs ++ [tq], ?_, ?_⟩⟩
        · rw [List.length_map, hr.1, List.length_map, List.length_take, sizeLine_eq]
          omega
        · rw [upd_ne (ne_of_none hc hD)]
          exact S12 _ _ (S _ _ hc)
        · rw [upd_same, List.map_append]
          rfl
        · have et : (us.take (j + 1)).map (glT n at7) = (us.take j).map (glT n at7) ++ [glT n at7 (a, b)] := by
            rw [take_more htj, List.map_append]
            rfl
          rw [et]
          have keep : ∀ u xs, H12 u = some (.tup xs) → (upd H12 D (.lst (rs.map V.ref ++ [V.ref tq]))) u = some (.tup xs) := fun u xs e => by
            have hd2 := S12 _ _ hd
            rw [upd_ne (fun z => by
              rw [z, hd2] at e
              cases e)]
            exact e
          refine PrsAt.app (hr.mono fun u xs e => keep u xs (S12 _ _ e)) ⟨rfl, fun j2 u c1 d1 e1 e2 => ?_⟩
          have j0 : j2 = 0 := by
            have z := (List.getElem?_eq_some_iff.mp e1).1
            rw [List.length_singleton] at z
            omega
          subst j0
          cases e1
          cases e2
          exact keep _ _ h12
      rintro H11 ⟨S11, rs, hd, hr⟩
      have en : us.take (qs6.map V.ref).length = us := List.take_of_length_le (by rw [List.length_map, q62.1]; exact Nat.le_refl _)
      rw [en] at hr
      obtain ⟨qs4, q41, q42⟩ := hT10.same S11
      refine ⟨tl, D, _, _, rfl, rfl, q41, hd, by rw [List.length_map, List.length_map, q42.1, hr.1, List.length_map, sizeLine_eq]; omega, fun nt H12 n12 S12 h12 => ?_⟩
      have e12 : (n : Int) + (m : Int) - 1 = ((n + m - 1 : Nat) : Int) := by omega
      refine ⟨_, rfl, _, rfl, _, _, rfl, rfl, _, _, rfl, rfl, _, _, rfl, nt, n + m - 1, ts ++ us.map (glT n at7), k7, ⟨some (.int (0 + (i : Nat))), some (.ref l6), some (.int (m : Int)), some (.int at7), some (.ref nm0), by rw [← e12]; rfl⟩, (B10.trans (sameBut S11)).trans (sameBut S12), ((hp10.same S11).new n12).1.symm, ⟨qs4 ++ rs, by rw [h12, List.map_append], ?_⟩, glue_good g g6 t0 t1 (by omega), by omega, by omega, ?_, by omega, (hp10.same S11).same S12⟩
      · exact (q42.mono fun q xs e => S12 _ _ e).app (hr.mono fun q xs e => S12 _ _ e)
      · rw [List.length_append, List.length_map]
        omega
    · rintro σ H4 ⟨tl, n, ts, k4, ⟨u, v, x, y, z, rfl⟩, B4, ntl, hPt, g, n2, nm, hts, hk4, hp4⟩
      have ht : turns.toNat ≤ 3 := by omega
      refine ⟨_, rfl, _, rfl, _, rfl, _, rfl, p, c, k4, n, rfl, hp4, by omega, by omega, fun nl H5 ns k5 B5 nnl hnl hns hk5 hp5 => ?_⟩
      obtain ⟨cells4, x4, e4, _⟩ := id hp4
      obtain ⟨hnlen, _, _, _⟩ := upto_get hns
      refine ⟨tl, nl, ts, ns, rfl, hPt.but B5 ntl e4, hnl, by omega, fun t ht => ?_, fun t us H6 S6 hperm hasc hT => ?_⟩
      · obtain ⟨a, b, c1, d, _⟩ := g.inn t ht
        rw [hnlen]
        exact ⟨a, b, c1, d⟩
      · obtain ⟨gu, hlt⟩ := named_good g hns hperm
        refine ⟨by show 2 ≤ sizeLine; decide, fun r H7 n7 S7 h7 => ?_⟩
        have nr : H r = none := by
          cases e : H r with
          | none => rfl
          | some o =>
            have np : r ≠ p := ((hp5.same S6).new n7).1.symm
            have z := S6 _ _ (B5 _ _ np (B4 _ _ np e))
            rw [n7] at z
            cases z
        obtain ⟨qs, q1, q2⟩ := hT
        have hul : us.length = ts.length := by rw [hperm.length_eq, List.length_map]
        refine q r H7 n us k5 ((B4.trans B5).trans (sameBut (S6.trans S7))) nr ⟨t, h7, qs, S7 _ _ q1, q2.mono fun u xs e => S7 _ _ e⟩ gu hlt hasc n2 nm (by omega) (by omega) (hp5.same (S6.trans S7))
end
end Sb

/-! ## GT32 -/
/-! Things in general: hidden objects, small things, what makes things. -/
namespace Sb
open PySem PySem.Spec PyProof.Rows L2
open LamX (ExtN Tabs TabS)
def rSlH : V → Option Int → Option Int → Hp → VK → Prop := fun x lo hi H Q => ∃ a xs, x = .ref a ∧ H a = some (.tup xs) ∧ ∀ p H', Same H H' → H' p = some (.tup (cutV xs lo hi)) → Q (.ref p) H'
theorem sl_tupH {X : Cx} : SlR X rSlH := by
  intro pins s σ H x v vl vu lo hi sl Q I rx hs pl pu ⟨a, xs, e, ha, q⟩
  refine sl_tupA pins s σ H x v vl vu lo hi sl Q I rx hs pl pu ⟨a, xs, e, SqT.of ha, fun z => q a H (Same.refl H) ?_, fun _ p np => q p _ (same_upd np) upd_same⟩
  have c : cutV xs lo hi = xs := by
    unfold cutV
    rw [z.1, z.2, List.drop_zero, Nat.sub_zero, List.take_length]
  rw [c]
  exact ha
def rCatH : R2 := fun x y H Q => ∃ a b xs ys, x = .ref a ∧ y = .ref b ∧ H a = some (.tup xs) ∧ H b = some (.tup ys) ∧ xs.length + ys.length ≤ sizeLine ∧ ∀ p H', Same H H' → H' p = some (.tup (xs ++ ys)) → Q (.ref p) H'
theorem op_catH {X : Cx} : OpR X (binaryOp .Add) rCatH := OpR.weak op_catA fun _ _ H Q ⟨a, b, xs, ys, e1, e2, ha, hb, hz, q⟩ => ⟨a, b, xs, ys, e1, e2, SqT.of ha, SqT.of hb, hz, fun z => q b H (Same.refl H) (by rw [z]; exact hb), fun _ z => q a H (Same.refl H) (by rw [z, List.append_nil]; exact ha), fun _ _ p np => q p _ (same_upd np) upd_same⟩
theorem cutV_one (xs : List V) : cutV xs (some 1) none = xs.drop 1 := by
  unfold cutV
  rw [HT.sIx_none, show ((1 : Int)) = ((1 : Nat) : Int) from rfl, HT.sIx_nat]
  cases xs with
  | nil => rfl
  | cons x r =>
    rw [List.length_cons, Nat.min_eq_left (by omega)]
    exact List.take_of_length_le (by rw [List.length_drop, List.length_cons]; omega)
theorem lt2_dec (s t : Int × Int) : lt2 s t = decide (s.1 < t.1 ∨ (s.1 = t.1 ∧ s.2 < t.2)) := by
  rw [Bool.eq_iff_iff, decide_eq_true_eq]
  refine ⟨lt2_iff, fun h => ?_⟩
  unfold lt2
  rcases h with h | ⟨h, g⟩
  · simp [HT.lexLt, h]
    omega
  · simp [HT.lexLt, h, g]
    omega
/-- the heap without the objects at S -/
def hid (S : List Addr) (H : Hp) : Hp := fun b => if b ∈ S then none else H b
theorem hid_out {S : List Addr} {b : Addr} {H : Hp} {o : HO} (h : hid S H b = some o) : b ∉ S ∧ H b = some o := by
  unfold hid at h
  by_cases e : b ∈ S
  · rw [if_pos e] at h
    cases h
  · rw [if_neg e] at h
    exact ⟨e, h⟩
theorem hid_in {S : List Addr} {b : Addr} {H : Hp} {o : HO} (n : b ∉ S) (h : H b = some o) : hid S H b = some o := by
  unfold hid
  rw [if_neg n]
  exact h
/-- lists stand at S -/
def LS (S : List Addr) (H : Hp) : Prop := ∀ s ∈ S, ∃ xs, H s = some (.lst xs)
theorem LS.nil {H : Hp} : LS [] H := fun s h => by cases h
theorem LS.same {S : List Addr} {H H' : Hp} (h : LS S H) (k : Same H H') : LS S H' := fun s m => (h s m).imp fun xs e => k _ _ e
theorem LS.new {S : List Addr} {H : Hp} {a : Addr} (h : LS S H) (n : H a = none) : a ∉ S := fun m => by
  obtain ⟨xs, e⟩ := h a m
  rw [n] at e
  cases e
theorem LS.tup {S : List Addr} {H : Hp} {a : Addr} {xs : List V} (h : LS S H) (n : H a = some (.tup xs)) : a ∉ S := fun m => by
  obtain ⟨ys, e⟩ := h a m
  rw [n] at e
  cases e
theorem LS.but {S : List Addr} {p : Addr} {H H' : Hp} (h : LS S H) (k : But p H H') (e : ∃ xs, H' p = some (.lst xs)) : LS S H' := fun s m => by
  by_cases z : s = p
  · rw [z]
    exact e
  · exact (h s m).imp fun xs e => k _ _ z e
theorem Pen.at_lst {H : Hp} {p c : Addr} {k : Nat} (h : Pen H p c k) : ∃ xs, H p = some (.lst xs) := by
  obtain ⟨cells, x, e, _⟩ := h
  exact ⟨_, e⟩
theorem Th.but {S : List Addr} {p : Addr} {H H' : Hp} {v : V} {d : PyData} (h : Th (hid S H) v d) (hp : p ∈ S) (B : But p H H') : Th (hid S H') v d := h.mono fun b o e => hid_in (hid_out e).1 (B b o (fun z => (hid_out e).1 (z ▸ hp)) (hid_out e).2)
theorem ThAll.but {S : List Addr} {p : Addr} {H H' : Hp} {v : List V} {d : List PyData} (h : ThAll (hid S H) v d) (hp : p ∈ S) (B : But p H H') : ThAll (hid S H') v d := h.mono fun b o e => hid_in (hid_out e).1 (B b o (fun z => (hid_out e).1 (z ▸ hp)) (hid_out e).2)
theorem Th.seen {S : List Addr} {H : Hp} {v : V} {d : PyData} (h : Th (hid S H) v d) : Th H v d := h.mono fun b o e => (hid_out e).2
theorem ThAll.app {H : Hp} : ∀ {a b : List V} {x y : List PyData}, ThAll H a x → ThAll H b y → ThAll H (a ++ b) (x ++ y)
  | _, _, _, _, .nil, g => g
  | _, _, _, _, .cons h r, g => .cons h (ThAll.app r g)
theorem ThAll.take {H : Hp} : ∀ {a : List V} {x : List PyData} (k : Nat), ThAll H a x → ThAll H (a.take k) (x.take k)
  | _, _, 0, h => by
    rw [List.take_zero, List.take_zero]
    exact .nil
  | _, _, _ + 1, .nil => .nil
  | _, _, k + 1, .cons h r => .cons h (ThAll.take k r)
theorem ThAll.drop {H : Hp} : ∀ {a : List V} {x : List PyData} (k : Nat), ThAll H a x → ThAll H (a.drop k) (x.drop k)
  | _, _, 0, h => h
  | _, _, _ + 1, .nil => .nil
  | _, _, k + 1, .cons h r => ThAll.drop k r
theorem ThAll.rev {H : Hp} : ∀ {a : List V} {x : List PyData}, ThAll H a x → ThAll H a.reverse x.reverse
  | _, _, .nil => .nil
  | _, _, .cons h r => by
    rw [List.reverse_cons, List.reverse_cons]
    exact ThAll.app (ThAll.rev r) (.cons h .nil)
theorem ThAll.seen {S : List Addr} {H : Hp} {v : List V} {d : List PyData} (h : ThAll (hid S H) v d) : ThAll H v d := h.mono fun b o e => (hid_out e).2
theorem tup_ne {H : Hp} {p c a : Addr} {k : Nat} {xs : List V} (h : H a = some (.tup xs)) (hp : Pen H p c k) : a ≠ p := fun e => by
  obtain ⟨cells, x, e1, _⟩ := hp
  rw [e, e1] at h
  cases h
theorem cutV_hi {xs : List V} {k : Nat} (h : k ≤ xs.length) : cutV xs none (some (k : Int)) = xs.take k := by
  unfold cutV
  rw [HT.sIx_none, HT.sIx_nat, List.drop_zero, Nat.sub_zero, Nat.min_eq_left h]
theorem cutV_lo {xs : List V} {k : Nat} (h : k ≤ xs.length) : cutV xs (some (k : Int)) none = xs.drop k := by
  unfold cutV
  rw [HT.sIx_none, HT.sIx_nat, Nat.min_eq_left h]
  exact List.take_of_length_le (by rw [List.length_drop]; omega)
theorem cutV_mid {xs : List V} {k : Nat} (h : k < xs.length) : cutV xs (some (k : Int)) (some ((k : Int) + 1)) = (xs.drop k).take 1 := by
  unfold cutV
  rw [show (k : Int) + 1 = ((k + 1 : Nat) : Int) from rfl, HT.sIx_nat, HT.sIx_nat, Nat.min_eq_left (by omega), Nat.min_eq_left (by omega), show k + 1 - k = 1 by omega]
abbrev Cond := L2.St → Hp → Prop
def cT : Cond := fun _ _ => True
def cAnd (A B : Cond) : Cond := fun σ h => A σ h ∧ B σ h
def cSlot (i : Nat) (d : PyData) : Cond := fun σ h => ∃ v, σ[i]? = some (some v) ∧ Th h v d
def Mono (C : Cond) : Prop := ∀ σ h h', (∀ b o, h b = some o → h' b = some o) → C σ h → C σ h'
theorem Mono.t : Mono cT := fun _ _ _ _ _ => trivial
theorem Mono.and {A B : Cond} (a : Mono A) (b : Mono B) : Mono (cAnd A B) := fun σ h h' k ⟨x, y⟩ => ⟨a σ h h' k x, b σ h h' k y⟩
theorem Mono.slot (i : Nat) (d : PyData) : Mono (cSlot i d) := fun σ h h' k ⟨v, e, t⟩ => ⟨v, e, t.mono k⟩
theorem hid_same {S : List Addr} {H H' : Hp} (k : Same H H') : ∀ b o, hid S H b = some o → hid S H' b = some o := fun b o e => hid_in (hid_out e).1 (k b o (hid_out e).2)
theorem hid_new {S : List Addr} {a : Addr} {H H' : Hp} {o : HO} (hp : LS S H) (n : H a = none) (h : H' a = some o) : hid S H' a = some o := hid_in (hp.new n) h
def tTh (S : List Addr) (C : Cond) (d : PyData) : TE := fun σ H Q => LS S H ∧ C σ (hid S H) ∧ ∀ v H', Same H H' → Th (hid S H') v d → Q v H'
def tThs (S : List Addr) (C : Cond) (ds : List PyData) : TA := fun σ H Q => LS S H ∧ C σ (hid S H) ∧ ∀ vs H', Same H H' → ThAll (hid S H') vs ds → Q vs H'
/-- an expression that makes a thing, or tells one, where the object at p is left alone -/
structure PTh (X : Cx) (S : List Addr) (e : Expr) (C : Cond) (d : PyData) : Prop where
  mono : Mono C
  run : PE X e (tTh S C d)
structure PThs (X : Cx) (S : List Addr) (es : List Expr) (C : Cond) (ds : List PyData) : Prop where
  mono : Mono C
  run : PA X es (tThs S C ds)
section
variable {X : Cx} {S : List Addr} {e a b : Expr} {es : List Expr} {C C1 C2 : Cond} {d : PyData} {ds xs ys : List PyData} {pos : Pos}
theorem PA.weak {t t' : TA} (h : PA X es t) (w : ∀ σ H Q, t' σ H Q → t σ H Q) : PA X es t' := ⟨fun q pins s σ H Q I z => h.run q pins s σ H Q I (w σ H Q z)⟩
theorem mk_non {j : Nat} : PTh X S (.Constant .none j pos) cT .none := ⟨.t, PE.weak pe_non fun _ H _ ⟨_, _, q⟩ => q _ H (Same.refl H) .non⟩
theorem mk_bl {j : Nat} {k : Bool} : PTh X S (.Constant (.bool k) j pos) cT (.bool k) := ⟨.t, PE.weak pe_bl fun _ H _ ⟨_, _, q⟩ => q _ H (Same.refl H) (.bl k)⟩
theorem mk_int {j : Nat} {i : Int} : PTh X S (.Constant (.int i) j pos) cT (.int i) := ⟨.t, PE.weak pe_int fun _ H _ ⟨_, _, q⟩ => q _ H (Same.refl H) (.int i)⟩
theorem mk_str {j : Nat} {x : Str} : PTh X S (.Constant (.str x) j pos) cT (.str x) := ⟨.t, PE.weak pe_str fun _ H _ ⟨_, _, q⟩ => q _ H (Same.refl H) (.str x)⟩
theorem mk_dict : PTh X S (.Dict [] [] pos) cT (.dict []) := ⟨.t, PE.weak pe_dnewK fun _ H _ ⟨hp, _, q⟩ => fun c n => q _ _ (same_upd n) (.dct (hid_new hp n upd_same))⟩
theorem mk_var (i : Nat) (d : PyData) (h : PE X e fun σ H Q => ∃ v, σ[i]? = some (some v) ∧ Q v H) : PTh X S e (cSlot i d) d := ⟨.slot i d, PE.weak h fun _ H _ ⟨_, ⟨v, ev, t⟩, q⟩ => ⟨v, ev, q v H (Same.refl H) t⟩⟩
theorem mk_nil : PThs X S [] cT [] := ⟨.t, PA.weak pa_nil fun _ H _ ⟨_, _, q⟩ => q [] H (Same.refl H) .nil⟩
theorem mk_cons (h : PTh X S e C1 d) (g : PThs X S es C2 ds) (hs : starEach (e :: es) X.env = (false, eval e X.env) :: starEach es X.env := by rfl) : PThs X S (e :: es) (cAnd C1 C2) (d :: ds) :=
  ⟨h.mono.and g.mono, PA.weak (pa_cons h.run g.run hs) fun σ H Q ⟨hp, ⟨c1, c2⟩, q⟩ => ⟨hp, c1, fun v H1 S1 t1 => ⟨hp.same S1, g.mono σ _ _ (hid_same S1) c2, fun vs H2 S2 t2 => q (v :: vs) H2 (S1.trans S2) (.cons (t1.mono (hid_same S2)) t2)⟩⟩⟩
theorem mk_tup {x1} (h : PThs X S es C ds) (hl : Nat.ble ds.length 1000 = true) : PTh X S (.Tuple es x1 pos) C (.tuple ds) :=
  ⟨h.mono, PE.weak (pe_tupL h.run) fun σ H Q ⟨hp, c, q⟩ => ⟨hp, c, fun vs H1 S1 t1 => ⟨by rw [thAll_len t1, sizeLine_eq]; exact Nat.le_trans (Nat.le_of_ble_eq_true hl) (by decide), fun a H2 n2 S2 h2 => q _ H2 (S1.trans S2) (.tup (hid_new (hp.same S1) n2 h2) (t1.mono (hid_same S2)))⟩⟩⟩
theorem mk_lst (h : PThs X S es C ds) (hl : Nat.ble ds.length 1000 = true) : PTh X S (.List es pos) C (.list ds) :=
  ⟨h.mono, PE.weak (pe_lstL h.run) fun σ H Q ⟨hp, c, q⟩ => ⟨hp, c, fun vs H1 S1 t1 => ⟨by rw [thAll_len t1, sizeLine_eq]; exact Nat.le_trans (Nat.le_of_ble_eq_true hl) (by decide), fun a H2 n2 S2 h2 => q _ H2 (S1.trans S2) (.lst (hid_new (hp.same S1) n2 h2) (t1.mono (hid_same S2)))⟩⟩⟩
theorem th_is_tup {H : Hp} {v : V} (t : Th (hid S H) v (.tuple ds)) : ∃ a vs, v = .ref a ∧ a ∉ S ∧ H a = some (.tup vs) ∧ ThAll (hid S H) vs ds := by
  cases t with
  | @tup a vs _ h g => exact ⟨a, vs, rfl, (hid_out h).1, (hid_out h).2, g⟩
theorem th_is_lst {H : Hp} {v : V} (t : Th (hid S H) v (.list ds)) : ∃ a vs, v = .ref a ∧ a ∉ S ∧ H a = some (.lst vs) ∧ ThAll (hid S H) vs ds := by
  cases t with
  | @lst a vs _ h g => exact ⟨a, vs, rfl, (hid_out h).1, (hid_out h).2, g⟩
theorem tup_hid {H : Hp} {c : Addr} {vs : List V} (hp : LS S H) (h : H c = some (.tup vs)) (g : ThAll (hid S H) vs ds) : Th (hid S H) (.ref c) (.tuple ds) := .tup (hid_in (hp.tup h) h) g
theorem th_intEq {H : Hp} {v : V} {i : Int} (t : Th H v (.int i)) : v = .int i := by
  cases t
  rfl
/-- n + k, n - k -/
theorem mk_add (i : Nat) (n : Int) {k : Int} {j : Nat} {p1 p2 : Pos} (h : PE X e fun σ H Q => ∃ v, σ[i]? = some (some v) ∧ Q v H) : PTh X S (.BinOp e .Add (.Constant (.int k) j p1) p2) (cSlot i (.int n)) (.int (n + k)) :=
  ⟨.slot _ _, PE.weak (pe_op op_add h pe_int) fun _ H _ ⟨_, ⟨v, ev, t⟩, q⟩ => ⟨v, ev, n, k, th_intEq t, rfl, q _ H (Same.refl H) (.int _)⟩⟩
theorem mk_sub (i : Nat) (n : Int) {k : Int} {j : Nat} {p1 p2 : Pos} (h : PE X e fun σ H Q => ∃ v, σ[i]? = some (some v) ∧ Q v H) : PTh X S (.BinOp e .Sub (.Constant (.int k) j p1) p2) (cSlot i (.int n)) (.int (n - k)) :=
  ⟨.slot _ _, PE.weak (pe_op op_sub h pe_int) fun _ H _ ⟨_, ⟨v, ev, t⟩, q⟩ => ⟨v, ev, n, k, th_intEq t, rfl, q _ H (Same.refl H) (.int _)⟩⟩
theorem mk_neg {k : Int} {j : Nat} {p1 p2 : Pos} : PTh X S (.UnaryOp .USub (.Constant (.int k) j p1) p2) cT (.int (-k)) := ⟨.t, PE.weak (pe_un un_neg pe_int) fun _ H _ ⟨_, _, q⟩ => ⟨k, rfl, q _ H (Same.refl H) (.int _)⟩⟩
/-- t[1:], t[:1] -/
theorem mk_tail {p2 : Pos} {j : Nat} {p1 : Pos} (h : PTh X S e C (.tuple ds)) : PTh X S (.Subscript e (.Slice (some (.Constant (.int 1) j p1)) none none p2) pos) C (.tuple (ds.drop 1)) :=
  ⟨h.mono, PE.weak (pe_slice sl_tupH h.run (po_some pe_int) po_none) fun σ H Q ⟨hp, c, q⟩ => ⟨hp, c, fun v H1 S1 t1 => by
    obtain ⟨a, vs, rfl, _, ha, g⟩ := th_is_tup t1
    refine ⟨1, rfl, a, vs, rfl, ha, fun b H2 S2 hb => q _ H2 (S1.trans S2) (tup_hid (hp.same (S1.trans S2)) hb ?_)⟩
    rw [cutV_one]
    exact (g.mono (hid_same S2)).drop 1⟩⟩
theorem cutV_first (xs : List V) : cutV xs none (some 1) = xs.take 1 := by
  unfold cutV
  rw [HT.sIx_none, show ((1 : Int)) = ((1 : Nat) : Int) from rfl, HT.sIx_nat, List.drop_zero, Nat.sub_zero]
  cases xs with
  | nil => rfl
  | cons x r => rw [List.length_cons, Nat.min_eq_left (by omega)]
theorem mk_head {p2 : Pos} {j : Nat} {p1 : Pos} (h : PTh X S e C (.tuple ds)) : PTh X S (.Subscript e (.Slice none (some (.Constant (.int 1) j p1)) none p2) pos) C (.tuple (ds.take 1)) :=
  ⟨h.mono, PE.weak (pe_slice sl_tupH h.run po_none (po_some pe_int)) fun σ H Q ⟨hp, c, q⟩ => ⟨hp, c, fun v H1 S1 t1 => by
    obtain ⟨a, vs, rfl, _, ha, g⟩ := th_is_tup t1
    refine ⟨1, rfl, a, vs, rfl, ha, fun b H2 S2 hb => q _ H2 (S1.trans S2) (tup_hid (hp.same (S1.trans S2)) hb ?_)⟩
    rw [cutV_first]
    exact (g.mono (hid_same S2)).take 1⟩⟩
theorem mk_back {k : Nat} {p1 p2 p3 : Pos} (h : PTh X S e C (.tuple ds)) : PTh X S (.Subscript e (.Slice none none (some (.UnaryOp .USub (.Constant (.int 1) k p1) p2)) p3) pos) C (.tuple ds.reverse) :=
  ⟨h.mono, PE.weak (pe_backT h.run) fun σ H Q ⟨hp, c, q⟩ => ⟨hp, c, fun v H1 S1 t1 => by
    obtain ⟨a, vs, rfl, _, ha, g⟩ := th_is_tup t1
    exact ⟨a, vs, rfl, ha, fun b nb => q _ _ (S1.trans (same_upd nb)) (tup_hid (hp.same (S1.trans (same_upd nb))) upd_same (g.mono (hid_same (same_upd nb))).rev)⟩⟩⟩
/-- t + u, xs + ys -/
theorem mk_catT (h : PTh X S a C1 (.tuple xs)) (g : PTh X S b C2 (.tuple ys)) (hl : xs.length + ys.length ≤ 1000000) : PTh X S (.BinOp a .Add b pos) (cAnd C1 C2) (.tuple (xs ++ ys)) :=
  ⟨h.mono.and g.mono, PE.weak (pe_op op_catH h.run g.run) fun σ H Q ⟨hp, ⟨c1, c2⟩, q⟩ => ⟨hp, c1, fun v H1 S1 t1 => ⟨hp.same S1, g.mono σ _ _ (hid_same S1) c2, fun u H2 S2 t2 => by
    obtain ⟨a, vs, rfl, _, ha, g1⟩ := th_is_tup t1
    obtain ⟨b, us, rfl, _, hb, g2⟩ := th_is_tup t2
    refine ⟨a, b, vs, us, rfl, rfl, S2 _ _ ha, hb, by rw [thAll_len g1, thAll_len g2, sizeLine_eq]; omega, fun c H3 S3 hc => q _ H3 ((S1.trans S2).trans S3) (tup_hid (hp.same ((S1.trans S2).trans S3)) hc (ThAll.app (g1.mono (hid_same (S2.trans S3))) (g2.mono (hid_same S3))))⟩⟩⟩⟩
theorem mk_catL (h : PTh X S a C1 (.list xs)) (g : PTh X S b C2 (.list ys)) (hl : xs.length + ys.length ≤ 1000000) : PTh X S (.BinOp a .Add b pos) (cAnd C1 C2) (.list (xs ++ ys)) :=
  ⟨h.mono.and g.mono, PE.weak (pe_op op_catL h.run g.run) fun σ H Q ⟨hp, ⟨c1, c2⟩, q⟩ => ⟨hp, c1, fun v H1 S1 t1 => ⟨hp.same S1, g.mono σ _ _ (hid_same S1) c2, fun u H2 S2 t2 => by
    obtain ⟨a, vs, rfl, _, ha, g1⟩ := th_is_lst t1
    obtain ⟨b, us, rfl, _, hb, g2⟩ := th_is_lst t2
    refine ⟨a, b, vs, us, rfl, rfl, S2 _ _ ha, hb, by rw [thAll_len g1, thAll_len g2, sizeLine_eq]; omega, fun c H3 n3 S3 hc => q _ H3 ((S1.trans S2).trans S3) (.lst (hid_new (hp.same (S1.trans S2)) n3 hc) (ThAll.app (g1.mono (hid_same (S2.trans S3))) (g2.mono (hid_same S3))))⟩⟩⟩⟩
/-- list(t), tuple(xs): what is handed in is the argument's row -/
theorem mk_listOf (h : PThs X S [b] C [.tuple ds]) (hc : ∀ {ta : TA}, PA X [b] ta → PE X e (fun σ H Q => ta σ H fun vs H1 => ∃ q ys, vs = [.ref q] ∧ (SqL X.K H1 q ys ∨ SqT X.K H1 q ys) ∧ New H1 (.lst ys) Q)) : PTh X S e C (.list ds) :=
  ⟨h.mono, PE.weak (hc h.run) fun σ H Q ⟨hp, c, q⟩ => ⟨hp, c, fun vs H1 S1 t1 => by
    cases t1 with
    | cons t1 r =>
      cases r
      obtain ⟨a, vs, rfl, _, ha, g⟩ := th_is_tup t1
      exact ⟨a, vs, rfl, .inr (SqT.of ha), fun l H2 n2 S2 h2 => q _ H2 (S1.trans S2) (.lst (hid_new (hp.same S1) n2 h2) (g.mono (hid_same S2)))⟩⟩⟩
end
def tieT (t : Int × Int) : PyData := .tuple [.int t.1, .int t.2]
def webT (n : Int) (us : List (Int × Int)) : PyData := .tuple [.int n, .tuple (us.map tieT)]
theorem prs_all {S : List Addr} {H : Hp} (hp : LS S H) : ∀ {qs : List Addr} {us : List (Int × Int)}, PrsAt H qs us → ThAll (hid S H) (qs.map V.ref) (us.map tieT)
  | [], [], _ => .nil
  | [], _ :: _, h => by cases h.1
  | _ :: _, [], h => by cases h.1
  | q :: qs, (a, b) :: us, h => by
    have h0 := h.2 0 q a b rfl rfl
    have hr : PrsAt H qs us := ⟨Nat.succ.inj h.1, fun i r c d e1 e2 => h.2 (i + 1) r c d e1 e2⟩
    exact .cons (tup_hid hp h0 (.cons (.int a) (.cons (.int b) .nil))) (prs_all hp hr)
theorem webH_th {S : List Addr} {r : Addr} {H : Hp} {n : Nat} {us : List (Int × Int)} (hp : LS S H) (h : WebH H r n us) : Th (hid S H) (.ref r) (webT n us) := by
  obtain ⟨t, h1, qs, h2, h3⟩ := h
  exact tup_hid hp h1 (.cons (.int _) (.cons (tup_hid hp h2 (prs_all hp h3)) .nil))
theorem shape_webT (n : Int) : ∀ us : List (Int × Int), shapeD (webT n us) = some (n, us) := fun us => by
  have h1 : (us.map tieT).all isPairD = true := List.all_eq_true.mpr fun d hd => by
    obtain ⟨t, _, rfl⟩ := List.mem_map.mp hd
    rfl
  have h2 : (us.map tieT).map pairD = us := by
    rw [List.map_map]
    exact (List.map_congr_left fun t _ => rfl).trans (List.map_id _)
  show (if (us.map tieT).all isPairD = true then some (n, (us.map tieT).map pairD) else none) = _
  rw [if_pos h1, h2]
theorem pure_ties {m : Int} (hm : m ≤ 100) : ∀ {us : List (Int × Int)}, (∀ t ∈ us, 0 ≤ t.1 ∧ t.1 ≤ m ∧ 0 ≤ t.2 ∧ t.2 ≤ m) → pureAll (us.map tieT) = true
  | [], _ => rfl
  | t :: us, h => by
    obtain ⟨a, b, c, d⟩ := h t List.mem_cons_self
    have h1 := pure_ties hm (us := us) fun u hu => h u (List.mem_cons_of_mem _ hu)
    show (((decide (0 ≤ t.1) && decide (t.1 ≤ 100)) && ((decide (0 ≤ t.2) && decide (t.2 ≤ 100)) && true)) && pureAll (us.map tieT)) = true
    rw [h1, decide_eq_true a, decide_eq_true c, decide_eq_true (show t.1 ≤ 100 by omega), decide_eq_true (show t.2 ≤ 100 by omega)]
    rfl
theorem bulk_ties : ∀ us : List (Int × Int), PyData.bulkAll (us.map tieT) = 3 * us.length
  | [] => rfl
  | t :: us => by
    rw [List.map_cons, PyData.bulkAll, bulk_ties us, tieT, PyData.bulk, PyData.bulkAll, PyData.bulkAll, PyData.bulkAll, PyData.bulk, PyData.bulk, List.length_cons]
    omega
theorem depth_ties : ∀ us : List (Int × Int), PyData.depthAll (us.map tieT) ≤ 1
  | [] => Nat.zero_le _
  | t :: us => by
    rw [List.map_cons, PyData.depthAll, tieT, PyData.depth, PyData.depthAll, PyData.depthAll, PyData.depthAll, PyData.depth, PyData.depth]
    have := depth_ties us
    omega
/-- no dict within, small -/
structure NoD (a b : Nat) (d : PyData) : Prop where
  sm : smallD d = true
  nd : d.hasDict = false
  dep : d.depth ≤ a
  bk : d.bulk ≤ b
theorem NoD.ok {a b : Nat} {d : PyData} (h : NoD a b d) (ha : a ≤ 40) (hb : b ≤ 100000) : OKD d := ⟨h.sm, fun z => (by rw [h.nd] at z; cases z), Nat.le_trans h.dep ha, Nat.le_trans h.bk hb⟩
theorem NoD.int {a b : Nat} {z : Int} (h0 : -1 ≤ z) (h1 : z ≤ 200) : NoD a b (.int z) := by
  refine ⟨?_, by rw [PyData.hasDict], by rw [PyData.depth]; exact Nat.zero_le _, by rw [PyData.bulk]; exact Nat.zero_le _⟩
  show (decide (-1 ≤ z) && decide (z ≤ 200)) = true
  rw [decide_eq_true h0, decide_eq_true h1]
  rfl
structure NoDs (a b : Nat) (ds : List PyData) : Prop where
  sm : smallAll ds = true
  nd : PyData.hasDictAll ds = false
  dep : PyData.depthAll ds ≤ a
  bk : PyData.bulkAll ds ≤ b
theorem NoDs.nil {a : Nat} : NoDs a 0 [] := ⟨rfl, by rw [PyData.hasDictAll], by rw [PyData.depthAll]; exact Nat.zero_le _, by rw [PyData.bulkAll]; exact Nat.le_refl _⟩
theorem NoDs.cons {a b c : Nat} {d : PyData} {ds : List PyData} (h : NoD a b d) (g : NoDs a c ds) : NoDs a (b + 1 + c) (d :: ds) := by
  obtain ⟨h1, h2, h3, h4⟩ := h
  obtain ⟨g1, g2, g3, g4⟩ := g
  refine ⟨?_, by rw [PyData.hasDictAll, h2, g2]; rfl, by rw [PyData.depthAll]; omega, by rw [PyData.bulkAll]; omega⟩
  show (smallD d && smallAll ds) = true
  rw [h1, g1]
  rfl
theorem NoDs.app {a b c : Nat} {ds es : List PyData} (h : NoDs a b ds) (g : NoDs a c es) : NoDs a (b + c) (ds ++ es) := by
  obtain ⟨h1, h2, h3, h4⟩ := h
  obtain ⟨g1, g2, g3, g4⟩ := g
  refine ⟨by rw [smallAll_app, h1, g1]; rfl, by rw [hasDictAll_app, h2, g2]; rfl, by rw [depthAll_app]; omega, by rw [bulkAll_app]; omega⟩
theorem NoDs.tup {a b : Nat} {ds : List PyData} (h : NoDs a b ds) : NoD (a + 1) b (.tuple ds) := ⟨h.sm, by rw [PyData.hasDict]; exact h.nd, by rw [PyData.depth]; exact Nat.succ_le_succ h.dep, by rw [PyData.bulk]; exact h.bk⟩
theorem NoDs.lst {a b : Nat} {ds : List PyData} (h : NoDs a b ds) : NoD (a + 1) b (.list ds) := ⟨h.sm, by rw [PyData.hasDict]; exact h.nd, by rw [PyData.depth]; exact Nat.succ_le_succ h.dep, by rw [PyData.bulk]; exact h.bk⟩
theorem NoD.mono {a b c d : Nat} {x : PyData} (h : NoD a b x) (h1 : a ≤ c) (h2 : b ≤ d) : NoD c d x := ⟨h.sm, h.nd, Nat.le_trans h.dep h1, Nat.le_trans h.bk h2⟩
theorem NoDs.pure {a b : Nat} {ds : List PyData} (h : pureAll ds = true) (h1 : PyData.depthAll ds ≤ a) (h2 : PyData.bulkAll ds ≤ b) : NoDs a b ds := by
  obtain ⟨x, y, _⟩ := pure_smallAll ds h
  exact ⟨x, y, h1, h2⟩
def nodB (d : PyData) : Bool := smallD d && (!d.hasDict && (decide (d.depth ≤ 40) && decide (d.bulk ≤ 100000)))
theorem nodB_ok {d : PyData} (h : nodB d = true) : OKD d := by
  unfold nodB at h
  rw [Bool.and_eq_true, Bool.and_eq_true (!d.hasDict), Bool.and_eq_true (decide (d.depth ≤ 40))] at h
  obtain ⟨x, y, z, u⟩ := h
  refine ⟨x, fun e => ?_, of_decide_eq_true z, of_decide_eq_true u⟩
  rw [e] at y
  cases y
mutual
theorem Th.ext {H H2 : Hp} (k : ExtN H H2) : ∀ {v : V} {d : PyData}, Th H v d → Th H2 v d
  | _, _, .non => .non
  | _, _, .bl b => .bl b
  | _, _, .int i => .int i
  | _, _, .str x => .str x
  | _, _, .lst e h => .lst (k _ _ e (by intro ps z; cases z)) (ThAll.ext k h)
  | _, _, .tup e h => .tup (k _ _ e (by intro ps z; cases z)) (ThAll.ext k h)
  | _, _, .dct e => .dct (k _ _ e (by intro ps z; cases z))
theorem ThAll.ext {H H2 : Hp} (k : ExtN H H2) : ∀ {vs : List V} {ds : List PyData}, ThAll H vs ds → ThAll H2 vs ds
  | _, _, .nil => .nil
  | _, _, .cons h g => .cons (Th.ext k h) (ThAll.ext k g)
end
theorem webP_ok {n : Nat} {ts : List (Int × Int)} (W : WebP n ts) : webOK (n : Int) ts = true := by
  have n2 := W.n2
  have n40 := W.n40
  unfold webOK
  rw [Bool.and_eq_true, Bool.and_eq_true, Bool.and_eq_true, Bool.and_eq_true]
  refine ⟨⟨decide_eq_true (by omega), decide_eq_true (by omega)⟩, List.all_eq_true.mpr fun t ht => ?_, ?_, by rw [show ((n : Int)).toNat = n by omega]; exact con_reach (by omega) (fun t ht => (W.ti t ht).1) W.con⟩
  · obtain ⟨a, b, c⟩ := W.inn t ht
    unfold tieOK
    rw [Bool.and_eq_true, Bool.and_eq_true]
    exact ⟨decide_eq_true a, decide_eq_true b, decide_eq_true c⟩
  · unfold asc
    refine List.all_eq_true.mpr fun k hk => ?_
    have hk := List.mem_range.mp hk
    have h1 : k < ts.length := by omega
    have h2 : k + 1 < ts.length := by omega
    rw [List.getD_eq_getElem?_getD, List.getD_eq_getElem?_getD, List.getElem?_eq_getElem h1, List.getElem?_eq_getElem h2, lt2_dec]
    exact decide_eq_true (List.pairwise_iff_getElem.mp W.asc k (k + 1) h1 h2 (by omega))
theorem webD_of {d : PyData} {n : Nat} {ts : List (Int × Int)} (e : shapeD d = some ((n : Int), ts)) (W : WebP n ts) : webD d = true := by
  unfold webD
  rw [e]
  exact webP_ok W
def intsD (ns : List Int) : PyData := .list (ns.map PyData.int)
theorem ints_nod {a : Nat} : ∀ {ns : List Int}, (∀ z ∈ ns, 0 ≤ z ∧ z ≤ 100) → NoDs a ns.length (ns.map PyData.int)
  | [], _ => NoDs.nil
  | z :: ns, h => by
    obtain ⟨z0, z1⟩ := h z List.mem_cons_self
    have g := NoDs.cons (NoD.int (a := a) (b := 0) (show -1 ≤ z by omega) (by omega)) (ints_nod (a := a) fun y hy => h y (List.mem_cons_of_mem _ hy))
    rw [show 0 + 1 + ns.length = (z :: ns).length by rw [List.length_cons]; omega] at g
    exact g
theorem all_ints {H : Hp} : ∀ ns : List Int, ThAll H (ns.map V.int) (ns.map PyData.int)
  | [] => .nil
  | z :: ns => .cons (.int z) (all_ints ns)
theorem th_ints {H : Hp} {a : Addr} {ns : List Int} (h : H a = some (.lst (ns.map V.int))) : Th H (.ref a) (intsD ns) := .lst h (all_ints ns)
theorem th_tints {H : Hp} {a : Addr} {ns : List Int} (h : H a = some (.tup (ns.map V.int))) : Th H (.ref a) (.tuple (ns.map PyData.int)) := .tup h (all_ints ns)
theorem rRepr_ok {H : Hp} {Q : VK} {v : V} {d : PyData} (h : Th H v d) (o : OKD d) (q : Q (.str d.shown) H) : rRepr [v] H Q := by
  obtain ⟨a, b⟩ := o.show_
  exact ⟨v, d, rfl, h, a, o.nd, by have := o.dep; omega, b, q⟩
theorem webT_ties {n : Int} {us : List (Int × Int)} : tiesOf (webT n us) = us.length := List.length_map _
theorem webT_is {n : Nat} {us : List (Int × Int)} (W : WebP n us) : webD (webT n us) = true := webD_of (shape_webT _ _) W
theorem webT_eq {n m : Nat} {us ts : List (Int × Int)} (e : shapeD (webT n us) = some ((m : Int), ts)) : m = n ∧ ts = us := by
  rw [shape_webT] at e
  have z := Prod.mk.inj (Option.some.inj e)
  exact ⟨by omega, z.2.symm⟩
theorem ties_bulk (d : PyData) : tiesOf d ≤ d.bulk := by
  unfold tiesOf
  split
  · rename_i x ts
    have := bulk_len ts
    rw [PyData.bulk, PyData.bulkAll, PyData.bulkAll, PyData.bulkAll, PyData.bulk]
    omega
  · exact Nat.zero_le _
theorem OKD.ties {d : PyData} (h : OKD d) : tiesOf d ≤ 100000 := Nat.le_trans (ties_bulk d) h.bk
theorem pure_webT {n : Nat} {us : List (Int × Int)} (W : WebP n us) : pureD (webT n us) = true := by
  have n40 := W.n40
  have h := pure_ties (m := 100) (Int.le_refl _) (us := us) fun t ht => by
    obtain ⟨a, b, c⟩ := W.inn t ht
    refine ⟨a, by omega, by omega, by omega⟩
  show ((decide (0 ≤ (n : Int)) && decide ((n : Int) ≤ 100)) && (pureAll (us.map tieT) && true)) = true
  rw [h, decide_eq_true (by omega), decide_eq_true (by omega)]
  rfl
theorem bulk_webT (n : Int) (us : List (Int × Int)) : (webT n us).bulk = 3 * us.length + 2 := by
  unfold webT
  rw [PyData.bulk, PyData.bulkAll, PyData.bulkAll, PyData.bulkAll, PyData.bulk, PyData.bulk, bulk_ties]
  omega
theorem depth_webT (n : Int) (us : List (Int × Int)) : (webT n us).depth ≤ 3 := by
  have := depth_ties us
  unfold webT
  rw [PyData.depth, PyData.depthAll, PyData.depthAll, PyData.depthAll, PyData.depth, PyData.depth]
  omega
theorem ok_webT_ {n : Nat} {us : List (Int × Int)} (W : WebP n us) (hl : us.length ≤ 1000) : OKD (webT n us) := by
  obtain ⟨a, b, c⟩ := pure_small _ (pure_webT W)
  exact ⟨a, fun z => (by rw [b] at z; cases z), Nat.le_trans (depth_webT _ _) (by decide), by rw [bulk_webT]; omega⟩
theorem webH_but {p r : Addr} {H H' : Hp} {n : Nat} {us : List (Int × Int)} (h : WebH H r n us) (B : But p H H') (hp : ∃ xs, H p = some (.lst xs)) : WebH H' r n us := h.mono fun b xs hb => B b _ (fun z => by
  obtain ⟨ys, e⟩ := hp
  rw [z, e] at hb
  cases hb) hb
theorem webH_ext {r : Addr} {H H' : Hp} {n : Nat} {us : List (Int × Int)} (h : WebH H r n us) (e : ExtN H H') : WebH H' r n us := h.mono fun b xs hb => e _ _ hb (by intro ps z; cases z)
theorem pen_ext {p c : Addr} {k : Nat} {H H' : Hp} (h : Pen H p c k) (e : ExtN H H') : Pen H' p c k := by
  obtain ⟨cells, x, h1, h2, h3, h4⟩ := h
  exact ⟨cells, x, lst_ext e h1, lst_ext e h2, h3, h4⟩
end Sb

/-! ## RG32 -/
/-! The law's rings. -/
namespace Sb
open PySem PySem.Spec PyProof.Rows L2
open PySem.W (EachIs)
abbrev sRings : Stmt := top 40
section
variable {X : Cx}
theorem cr_minL {K : PySem.W.Frag} (hc : X.calm = true) (hK : X.K = K := by rfl) : CallR X (.builtin "min") (rMin K) := hK ▸ cr_min hc
theorem cr_maxL {K : PySem.W.Frag} (hc : X.calm = true) (hK : X.K = K := by rfl) : CallR X (.builtin "max") (rMax K) := hK ▸ cr_max hc
end
/-! ### a list of lists of ints against the empty one -/
theorem lay_rows : ∀ l : List (List Int), PyData.canLayAll0 (l.map fun r => PyData.list (r.map PyData.int)) = true ∧ PyData.depthAll (l.map fun r => PyData.list (r.map PyData.int)) ≤ 2
  | [] => ⟨by simp [PyData.canLayAll0], by simp [PyData.depthAll]⟩
  | x :: l => by
    obtain ⟨h1, h2⟩ := lay_rows l
    obtain ⟨h3, h4⟩ := lay_ints x
    refine ⟨by simp [PyData.canLayAll0, PyData.canLay0, h1, h3], ?_⟩
    simp only [List.map_cons, PyData.depthAll, PyData.depth]
    omega
theorem shaped_rows (l : List (List Int)) : SeqAt.shaped (.list (l.map fun r => PyData.list (r.map PyData.int))) = true := by
  obtain ⟨h1, h2⟩ := lay_rows l
  unfold SeqAt.shaped
  rw [Bool.and_eq_true]
  refine ⟨by simpa [PyData.canLay0] using h1, decide_eq_true ?_⟩
  simp only [PyData.depth]
  omega
theorem eqv_nilR : ∀ l : List (List Int), PyData.eqv (.list (l.map fun r => PyData.list (r.map PyData.int))) (.list []) = l.isEmpty
  | [] => by simp [PyData.eqv, PyData.eqvAll]
  | x :: l => by simp [PyData.eqv, PyData.eqvAll]
/-- a row of whole numbers -/
def RowAt (H : Hp) (x : V) (r : List Int) : Prop := ∃ a, x = .ref a ∧ H a = some (.lst (r.map V.int))
theorem dp_rows {K : PySem.W.Frag} {H : Hp} : ∀ {xs : List V} {l : List (List Int)}, EachIs (RowAt H) xs l → DpAll K H xs (l.map fun r => PyData.list (r.map PyData.int))
  | _, _, .nil => .nil
  | _, _, .cons ⟨a, e, h⟩ t => .cons (e ▸ .lst (SqL.of h) (dp_ints _)) (dp_rows t)
def rNeR (K : PySem.W.Frag) : R2 := fun x y H Q => ∃ (l e : Addr) (xs : List V) (rs : List (List Int)), x = .ref l ∧ y = .ref e ∧ H l = some (.lst xs) ∧ EachIs (RowAt H) xs rs ∧ SqL K H e [] ∧ Q (.bl (!rs.isEmpty)) H
theorem op_neR {X : Cx} (hu : X.A.units + 64 < cLine) : OpR X (compareOp .NotEq) (rNeR X.K) := OpR.weak (op_neD hu) fun _ _ _ _ ⟨l, e, xs, rs, a, b, hl, hr, he, q⟩ => ⟨.list (rs.map fun r => PyData.list (r.map PyData.int)), .list [], by rw [a]; exact .lst (SqL.of hl) (dp_rows hr), by rw [b]; exact .lst he .nil, shaped_rows rs, by decide +kernel, by rw [eqv_nilR]; exact q⟩
theorem RowAt.same {H H' : Hp} {x : V} {r : List Int} (S : Same H H') (h : RowAt H x r) : RowAt H' x r := by
  obtain ⟨a, e, h⟩ := h
  exact ⟨a, e, S _ _ h⟩
/-- a list of the ties of a ring -/
def RingAt (H : Hp) (x : V) (J : List (Int × Int)) : Prop := ∃ a, x = .ref a ∧ PrsL H a J
def RowN (F L : Addr) (H : Hp) (x : V) (r : List Int) : Prop := ∃ a, x = .ref a ∧ a ≠ F ∧ a ≠ L ∧ H a = some (.lst (r.map V.int))
def RingN (F L : Addr) (H : Hp) (x : V) (J : List (Int × Int)) : Prop := ∃ a, x = .ref a ∧ a ≠ F ∧ a ≠ L ∧ PrsL H a J
theorem RowN.same {F L : Addr} {H H' : Hp} (S : Same H H') (x : V) (r : List Int) (h : RowN F L H x r) : RowN F L H' x r := by
  obtain ⟨a, e, n1, n2, h⟩ := h
  exact ⟨a, e, n1, n2, S _ _ h⟩
theorem RowN.but {F L p : Addr} {H H' : Hp} (hp : p = F ∨ p = L) (B : But p H H') (x : V) (r : List Int) (h : RowN F L H x r) : RowN F L H' x r := by
  obtain ⟨a, e, n1, n2, h⟩ := h
  exact ⟨a, e, n1, n2, B _ _ (hp.elim (fun z => z ▸ n1) fun z => z ▸ n2) h⟩
theorem RingN.same {F L : Addr} {H H' : Hp} (S : Same H H') (x : V) (J : List (Int × Int)) (h : RingN F L H x J) : RingN F L H' x J := by
  obtain ⟨a, e, n1, n2, h⟩ := h
  exact ⟨a, e, n1, n2, h.same S⟩
theorem RingN.but {F L p : Addr} {H H' : Hp} {zs : List V} (hp : p = F ∨ p = L) (hz : H p = some (.lst zs)) (B : But p H H') (x : V) (J : List (Int × Int)) (h : RingN F L H x J) : RingN F L H' x J := by
  obtain ⟨a, e, n1, n2, h⟩ := h
  exact ⟨a, e, n1, n2, h.but B (hp.elim (fun z => z ▸ n1) fun z => z ▸ n2) hz⟩
theorem RowN.at {F L : Addr} {H : Hp} (x : V) (r : List Int) (h : RowN F L H x r) : RowAt H x r := by
  obtain ⟨a, e, _, _, h⟩ := h
  exact ⟨a, e, h⟩
theorem RingN.at {F L : Addr} {H : Hp} (x : V) (J : List (Int × Int)) (h : RingN F L H x J) : RingAt H x J := by
  obtain ⟨a, e, _, _, h⟩ := h
  exact ⟨a, e, h⟩
def RgInv (H : Hp) (v : V) (n : Nat) (ts : List (Int × Int)) (k : Nat) (σ : L2.St) (H' : Hp) : Prop :=
  ∃ (F L : Addr) (xs ys : List V) (Js : List (List (Int × Int))) (rs : List (List Int)) (u3 u4 : Option V), σ = [some v, some (.ref F), some (.ref L), u3, u4, none, none, none] ∧ Same H H' ∧ H F = none ∧ H L = none ∧ F ≠ L ∧ H' F = some (.lst xs) ∧ H' L = some (.lst ys) ∧
    EachIs (RingN F L H') xs Js ∧ EachIs (RowN F L H') ys rs ∧ RInv n (EdT ts) rs Js ∧ wSum n rs ≤ k ∧ Js.length + k ≤ 1000000
theorem each_split {α β : Type} {R : α → β → Prop} : ∀ {ys : List α} {bs : List β} {b : β}, EachIs R ys (bs ++ [b]) → ∃ ys' y, ys = ys' ++ [y] ∧ EachIs R ys' bs ∧ R y b
  | _, [], b, h => by
    cases h with
    | cons h t =>
      cases t
      exact ⟨[], _, rfl, .nil, h⟩
  | _, c :: bs, b, h => by
    cases h with
    | cons h t =>
      obtain ⟨ys', y, e, h2, h3⟩ := each_split t
      exact ⟨_ :: ys', y, by rw [e]; rfl, .cons h h2, h3⟩
theorem shut_more {out row : List Int} {j : Nat} {o : Int} (h : out[j]? = some o) : shutB (out.take (j + 1)) row = (shutB (out.take j) row || decide (o = row.headD 0 ∧ 2 < row.length)) := by
  unfold shutB
  rw [take_more h, List.any_append]
  simp
theorem goOn_more {out row : List Int} {j : Nat} {o : Int} (h : out[j]? = some o) : goOn (out.take (j + 1)) row = goOn (out.take j) row ++ (if decide (o ∉ row ∧ row.headD 0 < o) = true then [o] else []) := by
  unfold goOn
  exact filter_more h
def start (n : Nat) : List (List Int) := (upto n).map fun b => [b]
theorem start_inv {n : Nat} {ts : List (Int × Int)} (W : WebP n ts) : RInv n (EdT ts) (start n) [] where
  rows := fun r hr => by
    obtain ⟨b, hb, rfl⟩ := List.mem_map.mp hr
    unfold upto at hb
    obtain ⟨i, hi, rfl⟩ := List.mem_map.mp hb
    have := List.mem_range.mp hi
    exact ⟨List.cons_ne_nil _ _, List.nodup_cons.mpr ⟨(fun z => by cases z), List.nodup_nil⟩, trivial, fun x hx => by
      rw [List.mem_singleton.mp hx]
      exact ⟨by omega, by omega⟩, fun a l e x hx => by
      cases e
      cases hx⟩
  sound := fun J hJ => by cases hJ
  full := fun row R L => by
    have ne : row ≠ [] := fun e => by
      have := R.len
      rw [e] at this
      exact absurd this (by decide)
    cases row with
    | nil => exact absurd rfl ne
    | cons h l =>
      refine .inr ⟨[h], List.mem_map.mpr ⟨h, ?_, rfl⟩, l, rfl⟩
      have hb : Bay n h := by
        cases l with
        | nil =>
          have : 3 ≤ 1 := R.len
          omega
        | cons c m => exact ((w_gt W).inn _ _ R.chn.1).1
      have h0 := hb.1
      have h1 := hb.2
      unfold upto
      exact List.mem_map.mpr ⟨h.toNat, List.mem_range.mpr (by omega), by omega⟩
theorem start_sum (n : Nat) : wSum n (start n) = n * rowsMost (n - 1) := by
  unfold wSum start upto
  rw [List.map_map, List.map_map]
  have : (((fun r : List Int => rowsMost (n - r.length)) ∘ fun b : Int => [b]) ∘ fun i : Nat => (i : Int)) = fun _ => rowsMost (n - 1) := funext fun o => rfl
  rw [this, List.map_const', List.sum_replicate_nat, List.length_range]
theorem start_small {n : Nat} (h : n ≤ 9) : n * rowsMost (n - 1) ≤ 990000 := by
  have : ∀ m, m < 10 → m * rowsMost (m - 1) ≤ 990000 := by decide +kernel
  exact this n (by omega)
theorem cut01 (x : Int) (l : List Int) : cutV ((x :: l).map V.int) none (some 1) = [V.int x] := by
  unfold cutV
  rw [HT.sIx_none, show ((1 : Int)) = ((1 : Nat) : Int) from rfl, HT.sIx_nat, List.map_cons, List.length_cons, Nat.min_eq_left (by omega), List.drop_zero]
  rfl
theorem seq_mid {a b : TS} {D : Ends} {σ : L2.St} {H : Hp} (Mid : L2.St → Hp → Prop) (h2 : ∀ σ H, Mid σ H → b D σ H) (h1 : (∀ σ H, Mid σ H → b D σ H) → tSeq a b D σ H) : tSeq a b D σ H := h1 h2
def spRings (K : PySem.W.Frag) : Sp := fun vs H Q _ => ∃ (v : V) (n : Nat) (ts : List (Int × Int)), vs = [v] ∧ WebAt K H v n ts ∧ WebP n ts ∧ n ≤ 9 ∧ ts.length ≤ 100000 ∧
  ∀ (fd : Addr) (xs : List V) (Js : List (List (Int × Int))) H', Same H H' → H fd = none → H' fd = some (.lst xs) → EachIs (RingAt H') xs Js → RInv n (EdT ts) [] Js → Js.length ≤ 1000000 → Q (.ref fd) H'
structure RingTxt (mg : Str → Option Value) : Prop where
  range : mg "range" = none
  len : mg "len" = none
  min : mg "min" = none
  max : mg "max" = none
  zip : mg "zip" = none
section
variable {P : Program} {w : World} {K : PySem.W.Frag} {mg : Str → Option Value} {base : Heap}
abbrev scRingsN : List Str := ["web", "found", "waiting", "row", "other", "bay", "a", "b"]
abbrev scRingsS : Scope := defScope sRings
theorem scRings : FnScope ["web", "found", "waiting", "row", "other", "bay", "a", "b"] ["web"] (defScope sRings) := ⟨rfl, rfl, rfl, by decide +kernel, rfl, by decide +kernel, by decide +kernel⟩
theorem ok_rings {f fN : Addr} {fd fdN : FuncData} (F : FnP K "_law_rings" sRings f fd) (T : RingTxt mg) (FN : FnP K "_law_near" sNear fN fdN) (gN : mg "_law_near" = some (.ref fN)) (GN : FnOk P w K mg base CX0 1 fN fdN ["ties", "bay"] (spNear K)) : FnOk P w K mg base CX0 2 f fd ["web"] (spRings K) := by
  have bN : Binds K fdN ["ties", "bay"] [] := FN.bindsN fun _ _ _ _ _ _ us hl => match us, hl with | [_, _], _ => rfl
  refine ok0 F scRings (fun vs H Q E h => ?_) (fun cdv A outer s H vs Q E hr h => ?_)
  · obtain ⟨v, n, ts, rfl, _⟩ := h
    rfl
  · have hu := hu_of hr
    obtain ⟨v, n, ts, rfl, hW, W, hn, hl, q⟩ := h
    refine ⟨_, (pss_cons (ps_par (i := 1) (j := 2) (by rfl) scRings.nd rfl rfl (by decide) rfl rfl (pa_cons (pe_lstL pa_nil) (pa_cons (pe_lc (own := [("bay", 5)]) (g := gName 5) (by rfl) scRings.nd (pi_range1 (by rfl) T.range (pa_cons (pe_ix ix_tup (pv 0) pe_int (fun _ _ => rfl)) pa_nil)) (blkOk_by (own := [("bay", 5)]) (N := scRingsN) (sc := scRingsS) (by decide +kernel)) (fun _ _ _ _ _ => pg_name (i := 5) scRings.nd rfl (Or.inl rfl)) (fun _ _ _ _ _ => pts_nil) (fun _ _ _ _ _ => (pe_lstL (pa_cons (pv 5) pa_nil)))) pa_nil)) (by rfl))
    (pss_cons (ps_while PassesOwn.never (pt_cmpR (op_neR hr.units) (pv 2) (pe_lstL pa_nil) (nomark _))
      (pss_cons (ps_set (i := 3) scRings.nd rfl (Or.inl rfl) (pe_bm0 PySem.F.plainAttrs_list PySem.F.slot_list_pop PySem.F.type_list_pop mt_pop (pv 2)))
    (pss_one (ps_for PassesOwn.never rfl (pi_list (pe_call GN hr rfl gN FN.kp bN .nil pass0 (pa_cons (pe_ix ix_tup (pv 0) pe_int (fun _ _ => rfl)) (pa_cons (pe_ix ix_list (pv 3) (pe_un un_neg pe_int) (fun _ _ => rfl)) pa_nil)))) (pg_name (i := 4) scRings.nd rfl (Or.inl rfl))
      (pss_cons (ps_if (PW.pt (pw_and (pt_cmpR op_eq (pv 4) (pe_ix ix_list (pv 3) pe_int (fun _ _ => rfl)) (nomark _)) (pw_and1 (pt_cmpR op_gt (pe_callB (id := "len") call_len_seq (by rfl) T.len (by decide +kernel) (pa_cons (pv 3) pa_nil)) pe_int (nomark _)))))
      (pss_one (ps_expr (pe_bm PySem.F.plainAttrs_list PySem.F.slot_list_append PySem.F.type_list_append mt_appendL (pv 1) (pa_cons (pe_lc (own := [("a", 6), ("b", 7)]) (g := gTup K 2 (gCons (gName 6) (gCons (gName 7) gNil))) (by rfl) scRings.nd (pi_zip (by rfl) T.zip (pa_cons (pv 3) (pa_cons (pe_op op_catL (pe_slice sl_listL (pv 3) (po_some pe_int) po_none) (pe_slice sl_listL (pv 3) po_none (po_some pe_int))) pa_nil))) (blkOk_by (own := [("a", 6), ("b", 7)]) (N := scRingsN) (sc := scRingsS) (by decide +kernel)) (fun _ _ _ _ _ => pg_tup (by rfl) (pgs_cons (pg_name (i := 6) scRings.nd rfl (Or.inl rfl)) (pgs_cons (pg_name (i := 7) scRings.nd rfl (Or.inl rfl)) pgs_nil))) (fun _ _ _ _ _ => pts_nil) (fun _ _ _ _ _ => (pe_tupL (pa_cons (pe_callB (id := "min") (cr_minL (K := K) rfl) (by rfl) T.min (by decide +kernel) (pa_cons (pe_lstL (pa_cons (pv 6) (pa_cons (pv 7) pa_nil))) pa_nil)) (pa_cons (pe_callB (id := "max") (cr_maxL (K := K) rfl) (by rfl) T.max (by decide +kernel) (pa_cons (pe_lstL (pa_cons (pv 6) (pa_cons (pv 7) pa_nil))) pa_nil)) pa_nil))))) pa_nil))))
      pss_nil)
    (pss_one (ps_if (PW.pt (pw_and (pt_cmpR op_notIn_seq (pv 4) (pv 3) (by rfl)) (pw_and1 (pt_cmpR op_gt (pv 4) (pe_ix ix_list (pv 3) pe_int (fun _ _ => rfl)) (nomark _)))))
      (pss_one (ps_expr (pe_bm PySem.F.plainAttrs_list PySem.F.slot_list_append PySem.F.type_list_append mt_appendL (pv 2) (pa_cons (pe_op op_catL (pv 3) (pe_lstL (pa_cons (pv 4) pa_nil))) pa_nil))))
      pss_nil)))))))
    (pss_one (ps_ret (pv 1))))), ?_⟩
    obtain ⟨wa, wt, rfl, hwa, hwt⟩ := hW
    refine ⟨by show 0 ≤ sizeLine; decide, fun F0 H1 nF S1 h1 => ?_⟩
    refine ⟨_, rfl, wa, _, _, _, rfl, rfl, sqT_same S1 hwa, at_of (j := 0) rfl rfl, ?_⟩
    have n2 := W.n2
    refine ⟨_, rfl, by omega, by omega, fun D hD => ?_⟩
    have nFD : F0 ≠ D := ne_of_none h1 hD
    refine lc_range (lo := 0) (n := ((n : Int) - 0).toNat) (fun j H2 => Same H1 H2 ∧ ∃ ys, H2 D = some (.lst ys) ∧ EachIs (RowN F0 D H2) ys (((List.range j).map fun i : Nat => (i : Int)).map fun b => [b])) ⟨same_upd hD, [], upd_same, .nil⟩ ?_ ?_
    · rintro j H2 hj ⟨S2, ys, h2, he⟩
      have ly : ys.length = j := by rw [each_len he, List.length_map, List.length_map, List.length_range]
      refine ⟨rfl, _, rfl, by show 1 ≤ sizeLine; decide, fun r0 H3 n3 S3 h3 => ⟨ys, S3 _ _ h2, by rw [ly]; unfold sizeLine; omega, ?_, ?_⟩⟩
      · intro b o hb
        rw [upd_ne (ne_of_none hb hD)]
        exact S3 _ _ (S2 _ _ hb)
      · have h2' := S3 _ _ h2
        have nrD : r0 ≠ D := (ne_of_none h2 n3).symm
        have nrF : r0 ≠ F0 := (ne_of_none (S2 _ _ h1) n3).symm
        refine ⟨_, upd_same, ?_⟩
        rw [List.range_succ, List.map_append, List.map_append]
        refine each_snoc (each_imp (RowN.but (.inr rfl) but_upd) (each_imp (RowN.same S3) he)) ⟨r0, rfl, nrF, nrD, ?_⟩
        rw [upd_ne nrD, h3]
        show some (HO.lst [V.int (0 + (j : Nat))]) = some (HO.lst [V.int (j : Nat)])
        rw [Int.zero_add]
    rintro H2 ⟨S2, ys, h2, he⟩
    rw [show ((n : Int) - 0).toNat = n by omega] at he
    have S02 := S1.trans S2
    have e0 : (((List.range n).map fun i : Nat => (i : Int)).map fun b => [b]) = start n := rfl
    rw [e0] at he
    have nD : H D = none := same_none S1 hD
    have sm := start_small hn
    refine ⟨_, _, rfl, RgInv H (.ref wa) n ts, ⟨n * rowsMost (n - 1), F0, D, [], ys, [], start n, none, none, rfl, S02, nF, nD, nFD, S2 _ _ h1, h2, .nil, he, start_inv W, Nat.le_of_eq (start_sum n), by rw [List.length_nil]; omega⟩, ?_⟩
    rintro k σ H3 ⟨Fd, L, xs, ys, Js, rs, u3, u4, rfl, S3, nFd, nL, nFL, hF, hL, hJs, hrs, inv, hk, hJk⟩
    refine ⟨_, rfl, by show 0 ≤ sizeLine; decide, fun E0 H4 n4 S4 h4 => ⟨L, E0, ys, rs, rfl, rfl, S4 _ _ hL, each_imp (fun x r h => (RowN.same S4 x r h).at) hrs, SqL.of h4, _, rfl, ?_⟩⟩
    have S34 := S3.trans S4
    have hF4 := S4 _ _ hF
    have hL4 := S4 _ _ hL
    by_cases hre : rs = []
    · subst hre
      refine iteC rfl ⟨_, rfl, q Fd xs Js H4 S34 nFd hF4 (each_imp (fun x J h => (RingN.same S4 x J h).at) hJs) inv (by omega)⟩
    obtain ⟨rs', row, rfl⟩ : ∃ rs' row, rs = rs' ++ [row] := ⟨rs.dropLast, rs.getLast hre, (List.dropLast_concat_getLast hre).symm⟩
    obtain ⟨ys', y, rfl, hrs', ⟨ra, rfl, nrF, nrL, hra⟩⟩ := each_split hrs
    have pos : 1 ≤ rowsMost (n - row.length) := rowsMost_pos _
    have esum : wSum n (rs' ++ [row]) = wSum n rs' + rowsMost (n - row.length) := by
      rw [wSum_app]
      show _ + (rowsMost (n - row.length) + 0) = _
      omega
    rw [esum] at hk
    obtain ⟨k', rfl⟩ : ∃ k', k = k' + 1 := ⟨k - 1, by omega⟩
    have hne : (!(rs' ++ [row]).isEmpty) = true := by
      cases rs' <;> rfl
    refine iteD hne ⟨RgInv H (.ref wa) n ts k', fun σ' H'' h => ⟨k', Nat.lt_succ_self _, h⟩, ?_⟩
    have ok := inv.rows row (List.mem_append_right _ (List.mem_singleton.mpr rfl))
    obtain ⟨row', b, eb⟩ : ∃ row' b, row = row' ++ [b] := ⟨row.dropLast, row.getLast ok.ne, (List.dropLast_concat_getLast ok.ne).symm⟩
    obtain ⟨b0, b1⟩ := ok.inn b (by rw [eb]; exact List.mem_append_right _ (List.mem_singleton.mpr rfl))
    refine ⟨_, rfl, .inl ⟨rfl, _, SqL.of hL4⟩, L, _, .ref ra, rfl, rfl, hL4, by rw [List.length_append, List.length_singleton, Nat.add_sub_cancel, List.getElem?_append_right (Nat.le_refl _), Nat.sub_self]; rfl, ?_⟩
    rw [List.dropLast_concat]
    have B5 : But L H4 (upd H4 L (.lst ys')) := but_upd
    have S5 : Same H (upd H4 L (.lst ys')) := same_but S34 nL B5
    have hL5 : (upd H4 L (.lst ys')) L = some (.lst ys') := upd_same
    generalize upd H4 L (.lst ys') = H5 at B5 S5 hL5
    have hF5 := B5 _ _ nFL hF4
    have hr5 := B5 _ _ nrL (S4 _ _ hra)
    have hJs5 := each_imp (RingN.but (.inr rfl) hL4 B5) (each_imp (RingN.same S4) hJs)
    have hrs5 := each_imp (RowN.but (.inr rfl) B5) (each_imp (RowN.same S4) hrs')
    have elast : atI (row.map V.int) (-1) = some (.int b) := by
      rw [eb, List.map_append]
      exact atI_last _ _
    refine ⟨_, rfl, wa, _, _, _, rfl, rfl, sqT_same S5 hwa, at_of (j := 1) rfl rfl, _, rfl, _, rfl, ra, _, _, _, rfl, rfl, SqL.of hr5, elast, wt, ts, b, rfl, hwt.same S5, hl, fun out p H6 hp hs S6 np h6 => ?_⟩
    have eout : out = gR (rowsOf n ts) b := near_row b0 W.asc W.inn hp hs
    have ond : out.Nodup := by
      rw [eout]
      exact (web_sorted W b).imp fun {a c} h e => by
        have h : a < c := h
        omega
    have oin : ∀ o ∈ out, Bay n o := fun o ho => by
      rw [eout] at ho
      exact W.rin _ o ho
    have oed : ∀ o, o ∈ out ↔ EdT ts b o := fun o => by
      rw [eout]
      exact rows_iff W.ti b0
    have npF : p ≠ Fd := (ne_of_none hF5 np).symm
    have npL : p ≠ L := (ne_of_none hL5 np).symm
    have lJ : xs.length = Js.length := each_len hJs
    have lR : ys'.length = rs'.length := each_len hrs'
    have lW : rs'.length ≤ 1000000 := by
      have := wSum_len (n := n) (ws := rs')
      omega
    have lO : out.length ≤ n := by
      have := (found_count ond fun k hk => oin k hk).1
      exact this
    refine ⟨p, rfl, ⟨_, SqL.of h6⟩, for_list (K := K) (a := p) (xs := out.map V.int) (fun j σ H' => ∃ (xs7 ys7 : List V) (u : Option V), σ = [some (.ref wa), some (.ref Fd), some (.ref L), some (.ref ra), u, none, none, none] ∧ Same H H' ∧ H' p = some (.lst (out.map V.int)) ∧ H' ra = some (.lst (row.map V.int)) ∧ H' Fd = some (.lst xs7) ∧ H' L = some (.lst ys7) ∧
        EachIs (RingN Fd L H') xs7 (Js ++ if shutB (out.take j) row = true then [ringTies row] else []) ∧ EachIs (RowN Fd L H') ys7 (rs' ++ (goOn (out.take j) row).map fun o => row ++ [o]))
      ⟨xs, ys', _, rfl, S5.trans S6, h6, S6 _ _ hr5, S6 _ _ hF5, S6 _ _ hL5, ?_, ?_⟩ (fun j σ H' _ ⟨_, _, _, _, _, h, _⟩ => SqL.of h) ?_ ?_⟩
    · rw [List.take_zero, if_neg (show ¬ shutB [] row = true from Bool.false_ne_true), List.append_nil]
      exact each_imp (RingN.same S6) hJs5
    · rw [List.take_zero]
      show EachIs _ _ (rs' ++ [])
      rw [List.append_nil]
      exact each_imp (RowN.same S6) hrs5
    · rintro j y σ H7 hj ⟨xs7, ys7, u7, rfl, S7, hp7, hr7, hF7, hL7, hJ7, hR7⟩
      obtain ⟨o, ho, rfl⟩ := getMap hj
      have hdrow : atI (row.map V.int) 0 = some (.int (row.headD 0)) := by
        cases row with
        | nil => exact absurd rfl ok.ne
        | cons z l => exact at_of (j := 0) rfl rfl
      have hmem : row.headD 0 ∈ row := by
        cases row with
        | nil => exact absurd rfl ok.ne
        | cons z l => exact List.mem_cons_self
      refine seq_mid (fun σ H' => ∃ (xs7 ys7 : List V), σ = [some (.ref wa), some (.ref Fd), some (.ref L), some (.ref ra), some (.int o), none, none, none] ∧ Same H H' ∧ H' p = some (.lst (out.map V.int)) ∧ H' ra = some (.lst (row.map V.int)) ∧ H' Fd = some (.lst xs7) ∧ H' L = some (.lst ys7) ∧
        EachIs (RingN Fd L H') xs7 (Js ++ if shutB (out.take (j + 1)) row = true then [ringTies row] else []) ∧ EachIs (RowN Fd L H') ys7 (rs' ++ (goOn (out.take j) row).map fun o => row ++ [o])) ?_ fun part2 => ?_
      · rintro σ H8 ⟨xs8, ys8, rfl, S8, hp8, hr8, hF8, hL8, hJ8, hR8⟩
        have ly8 := each_len hR8
        have lg : (goOn (out.take j) row).length ≤ out.length := by
          unfold goOn
          refine Nat.le_trans (List.length_filter_le _ _) ?_
          rw [List.length_take]
          omega
        rw [List.length_append, List.length_map] at ly8
        refine ⟨_, rfl, _, rfl, ra, _, rfl, .inl (SqL.of hr8), rfl, flat_ints, _, rfl, ?_⟩
        by_cases hin : o ∈ row
        · refine iteC (by rw [inV_ints, decide_eq_true hin]; rfl) ⟨xs8, ys8, _, rfl, S8, hp8, hr8, hF8, hL8, hJ8, ?_⟩
          rw [goOn_more ho, if_neg (by rw [decide_eq_true_iff]; exact fun z => z.1 hin), List.append_nil]
          exact hR8
        refine iteD (by rw [inV_ints, decide_eq_false hin]; rfl) ⟨_, rfl, _, rfl, ra, _, _, _, rfl, rfl, SqL.of hr8, hdrow, _, _, rfl, rfl, _, rfl, ite2 (fun hc => ?_) (fun hc => ?_)⟩
        · have hc : row.headD 0 < o := of_decide_eq_true hc
          refine ⟨_, rfl, .inl ⟨rfl, _, SqL.of hL8⟩, _, rfl, _, rfl, by show 1 ≤ sizeLine; decide, fun lo H9 n9 S9 h9 => ⟨ra, lo, _, _, rfl, rfl, S9 _ _ hr8, h9, ?_, fun rn H10 n10 S10 h10 => ⟨L, _, _, rfl, rfl, S10 _ _ (S9 _ _ hL8), by rw [ly8]; unfold sizeLine; omega, fun H11 B11 h11 => ?_⟩⟩⟩
          · rw [List.length_map]
            have : row.length ≤ n := by
              have := goOn_len (n := n) ond oin ok
              omega
            show row.length + 1 ≤ sizeLine
            unfold sizeLine
            omega
          have S810 := S9.trans S10
          have nrL2 : rn ≠ L := (ne_of_none (S9 _ _ hL8) n10).symm
          have nrF2 : rn ≠ Fd := (ne_of_none (S9 _ _ hF8) n10).symm
          have hL10 := S810 _ _ hL8
          have B11b : But L H8 H11 := fun b u nb e => B11 b u nb (S810 b u e)
          refine ⟨xs8, ys8 ++ [.ref rn], _, rfl, same_but (S8.trans S810) nL B11, B11b _ _ npL hp8, B11b _ _ nrL hr8, B11b _ _ nFL hF8, h11, each_imp (RingN.but (.inr rfl) hL8 B11b) hJ8, ?_⟩
          rw [goOn_more ho, if_pos (decide_eq_true ⟨hin, hc⟩), List.map_append, ← List.append_assoc]
          refine each_snoc (each_imp (RowN.but (.inr rfl) B11b) hR8) ⟨rn, rfl, nrF2, nrL2, B11 _ _ nrL2 ?_⟩
          rw [h10, List.map_append]
          rfl
        · have hc : ¬ row.headD 0 < o := fun z => hc (decide_eq_true z)
          refine ⟨xs8, ys8, _, rfl, S8, hp8, hr8, hF8, hL8, hJ8, ?_⟩
          rw [goOn_more ho, if_neg (by rw [decide_eq_true_iff]; exact fun z => hc z.2), List.append_nil]
          exact hR8
      · have same7 : shutB (out.take (j + 1)) row = shutB (out.take j) row → _ := fun e => part2 _ _ ⟨xs7, ys7, rfl, S7, hp7, hr7, hF7, hL7, by rw [e]; exact hJ7, hR7⟩
        refine ⟨_, rfl, _, rfl, ra, _, _, _, rfl, rfl, SqL.of hr7, hdrow, rfl, _, rfl, ?_⟩
        by_cases h1 : o = row.headD 0
        rotate_left
        · refine iteC (decide_eq_false fun z => h1 (V.int.inj z)) (same7 ?_)
          rw [shut_more ho, decide_eq_false fun z => h1 z.1, Bool.or_false]
        refine iteD (decide_eq_true (congrArg V.int h1)) ⟨_, rfl, ra, _, rfl, .inl (SqL.of hr7), _, _, rfl, rfl, _, rfl, ite2 (fun hc => ?_) (fun hc => ?_)⟩
        rotate_left
        · refine same7 ?_
          have hc : ¬ 2 < row.length := fun z => hc (decide_eq_true (by rw [List.length_map]; omega))
          rw [shut_more ho, decide_eq_false fun z => hc z.2, Bool.or_false]
        have hc : 2 < row.length := by
          have z := of_decide_eq_true hc
          rw [List.length_map] at z
          omega
        have no0 : shutB (out.take j) row = false := by
          cases e : shutB (out.take j) row with
          | false => rfl
          | true =>
            obtain ⟨z, hz, hz2⟩ := List.any_eq_true.mp e
            have hz2 := (of_decide_eq_true hz2).1
            rw [← h1] at hz2
            subst hz2
            obtain ⟨i, hi, ei⟩ := List.mem_take_iff_getElem.mp hz
            have hj2 := List.getElem?_eq_some_iff.mp ho
            obtain ⟨hj3, ej⟩ := hj2
            exact absurd (ei.trans ej.symm) (List.pairwise_iff_getElem.mp ond i j (by omega) hj3 (by omega))
        have yes1 : shutB (out.take (j + 1)) row = true := by rw [shut_more ho, decide_eq_true ⟨h1, hc⟩, Bool.or_true]
        rw [no0, if_neg Bool.false_ne_true, List.append_nil] at hJ7
        refine ⟨_, rfl, .inl ⟨rfl, _, SqL.of hF7⟩, _, rfl, _, rfl, 1, rfl, ra, _, rfl, SqL.of hr7, fun sa H8 n8 S8 h8 => ⟨_, rfl, 1, rfl, ra, _, rfl, SqL.of (S8 _ _ hr7), fun sb H9 n9 S9 h9 => ⟨sa, sb, _, _, rfl, rfl, S9 _ _ h8, h9, ?_, fun sc H10 n10 S10 h10 => ?_⟩⟩⟩
        · have c1 : (cutV (row.map V.int) (some 1) none).length ≤ row.length := by
            cases row with
            | nil => exact absurd rfl ok.ne
            | cons z l =>
              rw [cut1, List.length_map, List.length_cons]
              omega
          have c2 : (cutV (row.map V.int) none (some 1)).length ≤ 1 := by
            cases row with
            | nil => exact absurd rfl ok.ne
            | cons z l =>
              rw [cut01]
              exact Nat.le_refl _
          have := goOn_len (n := n) ond oin ok
          unfold sizeLine
          omega
        have S710 := (S8.trans S9).trans S10
        have h10 : H10 sc = some (.lst ((row.drop 1 ++ row.take 1).map V.int)) := by
          rw [h10, List.map_append]
          have e1 : cutV (row.map V.int) (some 1) none = (row.drop 1).map V.int := by
            cases row with
            | nil => exact absurd rfl ok.ne
            | cons z l => exact cut1 z l
          have e2 : cutV (row.map V.int) none (some 1) = (row.take 1).map V.int := by
            cases row with
            | nil => exact absurd rfl ok.ne
            | cons z l => exact cut01 z l
          rw [e1, e2]
        have hr10 := S710 _ _ hr7
        have lz : (row.drop 1 ++ row.take 1).length = row.length := by
          rw [List.length_append, List.length_drop, List.length_take]
          omega
        have lrt : (ringTies row).length = row.length := by
          unfold ringTies
          rw [List.length_map, List.length_zip, lz, Nat.min_self]
        have lrow : row.length ≤ n := by
          have := goOn_len (n := n) ond oin ok
          omega
        have hmin : row.length = min (row.map V.int).length ((row.drop 1 ++ row.take 1).map V.int).length := by
          rw [List.length_map, List.length_map, lz, Nat.min_self]
        refine ⟨ra, sc, _, _, rfl, SqL.of hr10, SqL.of h10, fun D hD => lc_it (walk_zip (K := K) hmin) (fun i H' => Same H10 H' ∧ ∃ qs : List Addr, H' D = some (.lst (qs.map V.ref)) ∧ PrsAt H' qs ((ringTies row).take i)) ⟨same_upd hD, [], upd_same, by rw [List.take_zero]; exact PrsAt.nil⟩ (fun i H' _ ⟨S, _⟩ => ⟨SqL.of (S _ _ hr10), SqL.of (S _ _ h10)⟩) ?_ ?_⟩
        · rintro i x H11 H12 hi ⟨S11, qs, h11, hps⟩ ⟨tp, y1, y2, rfl, ntp, rfl, hy1, hy2⟩
          obtain ⟨a, ha, rfl⟩ := getMap (show (row.map V.int)[i]? = some y1 from hy1)
          obtain ⟨c, hc2, rfl⟩ := getMap (show ((row.drop 1 ++ row.take 1).map V.int)[i]? = some y2 from hy2)
          have S12 : Same H11 (upd H11 tp (.tup [.int a, .int c])) := same_upd ntp
          have g12 : (upd H11 tp (.tup [.int a, .int c])) tp = some (.tup [.int a, .int c]) := upd_same
          generalize upd H11 tp (.tup [V.int a, .int c]) = H12 at S12 g12
          have hgt : (ringTies row)[i]? = some (nrm a c) := by
            unfold ringTies
            rw [List.getElem?_map, List.getElem?_zip_eq_some (z := (a, c)).mpr ⟨ha, hc2⟩]
            rfl
          have lqs : qs.length = i := by
            rw [hps.1, List.length_take, lrt]
            omega
          refine ⟨tp, _, rfl, SqT.of g12, rfl, _, _, rfl, _, _, rfl, rfl, rfl, _, rfl, _, rfl, by show 2 ≤ sizeLine; decide, fun lo H13 n13 S13 h13 => ⟨lo, [a, c], rfl, SqL.of h13, Nat.zero_lt_succ _, fun m hm hle => ⟨_, rfl, _, rfl, by show 2 ≤ sizeLine; decide, fun lp H14 n14 S14 h14 => ⟨lp, [a, c], rfl, SqL.of h14, Nat.zero_lt_succ _, fun M hM hge => ⟨by show 2 ≤ sizeLine; decide, fun tq H15 n15 S15 h15 => ?_⟩⟩⟩⟩⟩
          have emM : nrm a c = (m, M) := by
            have a1 := hle a List.mem_cons_self
            have a2 := hle c (List.mem_cons_of_mem _ List.mem_cons_self)
            have a3 := hge a List.mem_cons_self
            have a4 := hge c (List.mem_cons_of_mem _ List.mem_cons_self)
            simp only [List.mem_cons, List.not_mem_nil, or_false] at hm hM
            unfold nrm
            by_cases g : a ≤ c
            · rw [if_pos g]
              exact Prod.ext (by show a = m; omega) (by show c = M; omega)
            · rw [if_neg g]
              exact Prod.ext (by show c = m; omega) (by show a = M; omega)
          have S1115 : Same H11 H15 := ((S12.trans S13).trans S14).trans S15
          have hD15 := S1115 _ _ h11
          have ntD : tq ≠ D := (ne_of_none (S14 _ _ (S13 _ _ (S12 _ _ h11))) n15).symm
          have B16 : But D H15 (upd H15 D (.lst (qs.map V.ref ++ [.ref tq]))) := but_upd
          refine ⟨_, hD15, by rw [List.length_map, lqs]; unfold sizeLine; omega, fun u w' hu' => by rw [upd_ne (ne_of_none hu' hD)]; exact S1115 _ _ (S11 _ _ hu'), qs ++ [tq], by rw [upd_same, List.map_append]; rfl, ?_⟩
          rw [take_more hgt, emM]
          refine PrsAt.app (hps.mono fun q zs e => B16 _ _ (fun z => ?_) (S1115 _ _ e)) ⟨rfl, fun i q a b e1 e2 => ?_⟩
          · rw [z, h11] at e
            cases e
          · cases i with
            | zero =>
              cases e1
              cases e2
              exact B16 _ _ ntD h15
            | succ i => simp at e1
        rintro H11 ⟨S11, qs, h11, hps⟩
        rw [List.take_of_length_le (Nat.le_of_eq lrt)] at hps
        have S711 := S710.trans S11
        have nDF : D ≠ Fd := (ne_of_none (S710 _ _ hF7) hD).symm
        have nDL : D ≠ L := (ne_of_none (S710 _ _ hL7) hD).symm
        refine ⟨Fd, _, _, rfl, rfl, S711 _ _ hF7, ?_, fun H12 B12 h12 => ?_⟩
        · rw [each_len hJ7]
          unfold sizeLine
          omega
        have B7 : But Fd H7 H12 := fun b u nb e => B12 b u nb (S711 b u e)
        refine part2 _ _ ⟨xs7 ++ [.ref D], ys7, rfl, same_but (S7.trans S711) nFd B12, B7 _ _ npF hp7, B7 _ _ nrF hr7, h12, B7 _ _ nFL.symm hL7, ?_, each_imp (RowN.but (.inl rfl) B7) hR7⟩
        rw [yes1, if_pos rfl]
        exact each_snoc (each_imp (RingN.but (.inl rfl) hF7 B7) hJ7) ⟨D, rfl, nDF, nDL, PrsL.but ⟨qs, h11, hps⟩ B12 nDF (S711 _ _ hF7)⟩
    · rintro σ H7 ⟨xs7, ys7, u7, rfl, S7, hp7, hr7, hF7, hL7, hJ7, hR7⟩
      rw [List.length_map, List.take_length] at hJ7 hR7
      have st := rinv_step inv (by rw [eb]; exact List.getLast?_concat) oed fun x y e => by
        obtain ⟨h1, h2, _⟩ := (w_gt W).inn _ _ e
        exact ⟨h1, h2⟩
      have gs := grow_sum (n := n) ond oin ok
      have lx := each_len hJ7
      refine ⟨Fd, L, xs7, ys7, _, _, _, _, rfl, S7, nFd, nL, nFL, hF7, hL7, hJ7, hR7, st, ?_, ?_⟩
      · rw [wSum_app]
        omega
      · rw [List.length_append]
        have : (if shutB out row = true then [ringTies row] else []).length ≤ 1 := by
          by_cases c : shutB out row = true
          · rw [if_pos c]
            exact Nat.le_refl _
          · rw [if_neg c]
            exact Nat.zero_le _
        omega
end
end Sb

/-! ## LW32 -/
/-! What the law's blocks are. -/
namespace Sb
open PySem PySem.Spec PyProof.Rows L2
open PySem.W (EachIs dataLe)
/-- b: the ends of the ties that are labelled k -/
def LGood (ts : List (Int × Int)) (f : Int × Int → Int) (b : List Int) (k : Int) : Prop := b.Pairwise (· < ·) ∧ ∀ x, x ∈ b ↔ ∃ t ∈ ts, f t = k ∧ (x = t.1 ∨ x = t.2)
theorem law_blks {n : Nat} {ts : List (Int × Int)} (W : WebP n ts) {Js : List (List (Int × Int))} (I : RInv n (EdT ts) [] Js) {f : Int × Int → Int} (L : Lab (· ∈ ts) f (InOne Js)) {ks : List Int} {bs : List (List Int)} (hk : ks.Nodup) (hmem : ∀ k, k ∈ ks ↔ ∃ t ∈ ts, f t = k) (h : EachIs (LGood ts f) bs ks) :
    Blks n (wPar n ts) (wDep n ts) (EdT ts) (bs.mergeSort (dataLe false fun b : List Int => PyData.tuple (b.map PyData.int))) := by
  have G := w_gt W
  have hlt : ∀ t ∈ ts, t.1 < t.2 := fun t ht => (W.inn t ht).2.1
  have hR : ∀ s t, s ∈ ts → t ∈ ts → (Cn (InOne Js) s t ↔ Cn (OnR (EdT ts)) s t) := fun s t _ _ =>
    ⟨fun h => h.mono fun _ _ r => .one ((found_on G I).mp r), fun h => h.mono fun _ _ r => .one ((found_on G I).mpr r)⟩
  have blk : ∀ {b : List Int} {k : Int}, LGood ts f b k → ∀ s ∈ ts, f s = k → ∀ v, Path (wPar n ts) s.1 s.2 v → ∃ t, BlkS n (wPar n ts) (wDep n ts) (EdT ts) b t ∧ Jc (wPar n ts) (EdT ts) t v := fun {b k} hb s hs e v hv =>
    blk_of_ties G w_par0 (fun a b => Iff.rfl) hlt L hR hs e hv hb.1 hb.2
  have p := List.mergeSort_perm bs (dataLe false fun b : List Int => PyData.tuple (b.map PyData.int))
  -- the labels of two that are the same block
  have same : ∀ {b : List Int} {k l : Int}, k ∈ ks → l ∈ ks → LGood ts f b k → LGood ts f b l → k = l := fun {b k l} hk hl h1 h2 => by
    obtain ⟨s, hs, es⟩ := (hmem k).mp hk
    obtain ⟨r, hr, er⟩ := (hmem l).mp hl
    have eds : EdT ts s.1 s.2 := .inl hs
    have edr : EdT ts r.1 r.2 := .inl hr
    obtain ⟨v, hv⟩ := ed_path G eds
    obtain ⟨w, hw⟩ := ed_path G edr
    obtain ⟨t, ht, jt⟩ := blk h1 s hs es v hv
    obtain ⟨u, hu, ju⟩ := blk h2 r hr er w hw
    have j : Jc (wPar n ts) (EdT ts) v w := (jt.symm.trans (blk_class G ht hu)).trans ju
    have c := (tie_class G w_par0 eds edr (nrm_lt (hlt s hs)) (nrm_lt (hlt r hr)) hv hw).mpr j
    rw [← es, ← er]
    exact (L.iff s r hs hr).mpr ((hR s r hs hr).mpr c)
  have nd : bs.Nodup := by
    clear p
    have key : ∀ {bs : List (List Int)} {ls : List Int}, EachIs (LGood ts f) bs ls → ls.Nodup → (∀ k ∈ ls, k ∈ ks) → bs.Nodup := by
      intro bs ls h
      induction h with
      | nil => exact fun _ _ => List.nodup_nil
      | @cons b k bs ls hb ht ih =>
        intro hn hsub
        obtain ⟨k1, k2⟩ := List.nodup_cons.mp hn
        refine List.nodup_cons.mpr ⟨fun z => ?_, ih k2 fun k hk => hsub k (List.mem_cons_of_mem _ hk)⟩
        obtain ⟨i, hi⟩ := List.mem_iff_getElem?.mp z
        obtain ⟨l, h1, h2⟩ := each_get ht hi
        have hl := List.mem_of_getElem? h1
        exact k1 (same (hsub k List.mem_cons_self) (hsub l (List.mem_cons_of_mem _ hl)) hb h2 ▸ hl)
    exact key h hk fun k hk => hk
  refine ⟨fun b hb => ?_, fun u u0 u1 nu => ?_, asc_of (sortT bs) (p.nodup_iff.mpr nd)⟩
  · obtain ⟨i, hi⟩ := List.mem_iff_getElem?.mp (p.mem_iff.mp hb)
    obtain ⟨k, h1, h2⟩ := each_get h hi
    obtain ⟨s, hs, es⟩ := (hmem k).mp (List.mem_of_getElem? h1)
    obtain ⟨v, hv⟩ := ed_path G (show EdT ts s.1 s.2 from .inl hs)
    obtain ⟨t, ht, _⟩ := blk h2 s hs es v hv
    exact ⟨t, ht⟩
  · have ed := G.tree u u0 u1 nu
    have pv : Path (wPar n ts) u (wPar n ts u) u := (path_par G.toTreeP u0 u1 nu).mpr rfl
    obtain ⟨s, hs, hv⟩ : ∃ s ∈ ts, Path (wPar n ts) s.1 s.2 u := by
      rcases ed with z | z
      · exact ⟨_, z, pv⟩
      · exact ⟨_, z, pv.symm⟩
    obtain ⟨i, hi⟩ := List.mem_iff_getElem?.mp ((hmem (f s)).mpr ⟨s, hs, rfl⟩)
    obtain ⟨b, hb, hg⟩ := each_got h hi
    obtain ⟨t, ht, j⟩ := blk hg s hs rfl u hv
    exact ⟨b, p.mem_iff.mpr (List.mem_of_getElem? hb), t, ht, j⟩
end Sb

/-! ## DP32 -/
/-! dict(xs), xs pairs whose keys are tuples. -/
namespace Sb
open PySem PySem.Spec PyProof.Rows L2
/-- a pair: the key's tuple at b, and what it is given -/
def PairT (K : PySem.W.Frag) (H : Hp) (p : Addr) (z : Addr × List L2.Key × V) : Prop := SqT K H p [.ref z.1, z.2.2] ∧ H z.1 = some (.tup (z.2.1.map kV))
def rDictPT (K : PySem.W.Frag) : List V → Hp → VK → Prop := fun xs H Q => ∃ (a : Addr) (ps : List Addr) (zs : List (Addr × List L2.Key × V)), xs = [.ref a] ∧ SqL K H a (ps.map V.ref) ∧ Paired (PairT K H) ps zs ∧ (zs.map fun z => z.2.1).Nodup ∧ New H (.dT (zs.map fun z => z.2)) Q
section
variable {X : Cx} {pins : List (Addr × Obj)} {σ : L2.St} {H : Hp} {s : Shared}
theorem pairsT_of (I : Inv X pins σ H s) : ∀ {ps : List Addr} {zs : List (Addr × List L2.Key × V)}, Paired (PairT X.K H) ps zs →
    ∃ ys : List (List L2.Key × Addr × Value), Paired (fun (p : List L2.Key × V) (q : List L2.Key × Addr × Value) => p.1 = q.1 ∧ H q.2.1 = some (.tup (p.1.map kV)) ∧ RelV p.2 q.2.2) (zs.map fun z => z.2) ys ∧ ys.length = ps.length ∧ (ys.map (·.1)) = (zs.map fun z => z.2.1) ∧
      ∀ (j : Nat) (q : List L2.Key × Addr × Value), ys[j]? = some q → ∃ p, ps[j]? = some p ∧ IsTup s.heap p #[.ref q.2.1, q.2.2]
  | _, _, .nil => ⟨[], .nil, rfl, rfl, fun j q e => by simp at e⟩
  | _, _, .cons (a := p) (b := z) h t => by
    obtain ⟨ys, r, hl, hk, hp⟩ := pairsT_of I t
    obtain ⟨h1, h2⟩ := h
    obtain ⟨its, rv, ht, _⟩ := I.tuple h1
    obtain ⟨u, y, ei, ru, ry⟩ := vals2 rv
    subst ei
    obtain rfl : u = Value.ref z.1 := ru
    refine ⟨(z.2.1, z.1, y) :: ys, .cons ⟨rfl, h2, ry⟩ r, by rw [List.length_cons, List.length_cons, hl], by rw [List.map_cons, List.map_cons, hk], fun j q e => ?_⟩
    cases j with
    | zero =>
      have e' : (z.2.1, z.1, y) = q := Option.some.inj e
      subst e'
      exact ⟨p, rfl, ht⟩
    | succ j =>
      obtain ⟨b, e1, e2⟩ := hp j q (by simpa using e)
      exact ⟨b, by simpa using e1, e2⟩
theorem cr_dictPT (hcalm : X.calm = true) (hu : X.A.units + 64 < cLine) : CallR X (.type "dict") (rDictPT X.K) := by
  intro pins s σ H xs us Q I r q
  obtain ⟨a, ps, zs, rfl, hq, hp, hnd, q⟩ := q
  obtain rfl := Vals.ref1 r
  obtain ⟨its, rv, pl, hz⟩ := I.list hq
  have ei := refs_at rv
  subst ei
  rw [List.length_map] at hz
  obtain ⟨ys, rel, hl, hk, hpr⟩ := pairsT_of I hp
  obtain ⟨o, n, ho, hc, hd, hdat⟩ := pl
  have ynd : (ys.map (·.1)).Nodup := by rw [hk]; exact hnd
  have st : storedAllH [] ys = ys := storedAllH_nil_of_nodup ys ynd
  refine call_dict_pairsH (knd := tupleKind (mixKind X.prog X.w)) (ps := ys) (PairArg.list a (ps.map Value.ref).toArray (fun j => ps.getD j 0) (ys.map fun y => (Value.ref y.2.1, y.2.2))) (I.ok.hd hcalm) ?_ ⟨⟨o, n, ho, hc, hd, hdat⟩, ?_, ?_⟩ ⟨?_, ?_⟩ ?_ ?_ ?_
  · show X.A.units + 1 + 1 < cLine
    omega
  · simp [hl]
  · intro j k v hj
    rw [List.getElem?_map] at hj
    cases e : ys[j]? with
    | none =>
      rw [e] at hj
      cases hj
    | some y =>
      rw [e] at hj
      cases hj
      obtain ⟨p, e1, e2⟩ := hpr j y e
      refine ⟨by simp [e1], .inl ?_⟩
      show s.heap.IsTuple (ps.getD j 0) _
      rw [List.getD_eq_getElem?_getD, e1]
      exact e2
  · simp
  · intro i key v h
    have h : (ys.map fun y => (Value.ref y.2.1, y.2.2))[i]? = some (key, v) := h
    rw [List.getElem?_map] at h
    cases e : ys[i]? with
    | none =>
      rw [e] at h
      cases h
    | some y =>
      rw [e] at h
      cases h
      exact ⟨y.1, y.2.1, rfl, rfl⟩
  · intro h' k x hx
    have all : ∀ {l : List (List L2.Key × V)} {m : List (List L2.Key × Addr × Value)}, Paired (fun (p : List L2.Key × V) (q : List L2.Key × Addr × Value) => p.1 = q.1 ∧ H q.2.1 = some (.tup (p.1.map kV)) ∧ RelV p.2 q.2.2) l m → ∀ x ∈ m, (tupleKind (mixKind X.prog X.w)).is s.heap x.1 x.2.1 := by
      intro l m q
      induction q with
      | nil => intro x hx; exact nomatch hx
      | @cons p q ps qs hq t ih =>
        intro x hx
        rcases List.mem_cons.mp hx with e | hx
        · subst e
          exact key_of I.hok (by rw [← hq.1]; exact hq.2.1)
        · exact ih x hx
    obtain ⟨o, items, n, g1, g2, g3, g4⟩ := all rel x hx
    exact ⟨o, items, n, k _ _ (Nat.ne_of_lt (Heap.lt_size g1)) (fun z => by cases z) g1, g2, g3, g4⟩
  · rw [List.length_map, hl]
    exact hz
  · intro h' tk hd' k
    rw [st] at hd'
    obtain ⟨o', es, ep, g1, g2, g3, g4, _, g6⟩ := hd'
    have hm : (s.heap.objs.size == sysModules) = false := beq_eq_false_iff_ne.mpr (Nat.ne_of_gt I.big)
    have n0 : H s.heap.objs.size = none := I.hok.fresh (Nat.le_refl _)
    have hlen : (zs.map fun z => z.2).length ≤ sizeLine := by
      have := rel.length
      rw [this, hl]
      exact hz
    have rel2 : KT (upd H s.heap.objs.size (.dT (zs.map fun z => z.2))) (zs.map fun z => z.2) ys := KT.keeps rel fun b xs e => by rw [upd_ne (ne_of_none e n0)]; exact e
    refine ⟨.ref s.heap.objs.size, upd H s.heap.objs.size (.dT (zs.map fun z => z.2)), I.laid (t' := tk) (fun b o e => k b o (fun z => by cases z) e) (Nat.le_refl _) (show ObjOk X.prog X.w _ _ _ (.dT (zs.map fun z => z.2)) from ⟨hlen, hm, ys, ?_, o', es, ep, g1, g2, g3, g4, g6⟩), rfl, q.go _ n0⟩
    first
      | exact rel
      | exact rel2
end
end Sb

/-! ## LB32 -/
/-! The law's blocks. -/
namespace Sb
open PySem PySem.Spec PyProof.Rows L2
open PySem.W (EachIs dataLe)
abbrev sLBlocks : Stmt := top 41
/-! ### the dict of groups -/
abbrev kT (t : Int × Int) : List L2.Key := [Sum.inl t.1, Sum.inl t.2]
theorem kT_inj {s t : Int × Int} (h : kT s = kT t) : s = t := by
  have h1 := (List.cons.inj h).1
  have h2 := (List.cons.inj (List.cons.inj h).2).1
  exact Prod.ext (Sum.inl.inj h1) (Sum.inl.inj h2)
def grp (ts : List (Int × Int)) (f : Int × Int → Int) : List (List L2.Key × V) := ts.map fun t => (kT t, V.int (f t))
theorem grp_val {f : Int × Int → Int} {t : Int × Int} : ∀ {ts : List (Int × Int)}, t ∈ ts → valV (grp ts f) (kT t) = some (.int (f t))
  | [], h => by cases h
  | s :: ts, h => by
    by_cases e : s = t
    · rw [← e]
      exact valV_pos rfl
    · have ht : t ∈ ts := (List.mem_cons.mp h).resolve_left fun z => e z.symm
      have ih := grp_val (f := f) ht
      unfold grp at ih ⊢
      rw [List.map_cons]
      unfold valV at ih ⊢
      rw [List.find?_cons_of_neg (by
        rw [decide_eq_true_eq]
        exact fun z => e (kT_inj z))]
      exact ih
theorem grp_put {f : Int × Int → Int} {t : Int × Int} {ts : List (Int × Int)} {c : Int} (h : t ∈ ts) : putK (grp ts f) (kT t) (.int c) = grp ts fun s => if s = t then c else f s := by
  unfold putK
  rw [if_pos]
  · unfold grp
    rw [List.map_map]
    refine List.map_congr_left fun s _ => ?_
    show (if kT s = kT t then (kT s, V.int c) else (kT s, V.int (f s))) = (kT s, V.int (if s = t then c else f s))
    by_cases e : s = t
    · rw [if_pos (congrArg kT e), if_pos e]
    · rw [if_neg fun z => e (kT_inj z), if_neg e]
  · unfold grp
    exact List.any_eq_true.mpr ⟨_, List.mem_map.mpr ⟨t, h, rfl⟩, decide_eq_true rfl⟩
/-! ### set(xs), its count known -/
def rSetD (K : PySem.W.Frag) (w : World) : List V → Hp → VK → Prop := fun vs H Q => ∃ (l : Addr) (ns : List Int), vs = [.ref l] ∧ SqL K H l (ns.map V.int) ∧ ns.length ≤ 4000 ∧
  ∀ p c H2 (ks : List Int), H p = none → (∀ b u, H b = some u → H2 b = some u) → H2 p = some (SetO w p (fun j => decide (j ∈ ns)) c) → ks.Nodup → (∀ k, k ∈ ks ↔ k ∈ ns) → ks.length = c → Q (.ref p) H2
theorem cr_setD {X : Cx} (hc : X.calm = true) : CallR X (.type "set") (rSetD X.K X.w) := by
  intro pins s σ H vs us Q I r h
  obtain ⟨l, ns, rfl, hs, hl, q⟩ := h
  obtain rfl := Vals.ref1 r
  obtain ⟨its, rv, pl, _⟩ := I.list hs
  refine set_of_list (I.ok.hd hc) pl.isList rv.ints (by unfold scanBound; omega) fun h2 tk c R hcn kp => ?_
  have I2 : Inv X pins σ (upd H s.heap.objs.size (SetO X.w s.heap.objs.size (fun j => decide (j ∈ ns)) c)) { s with heap := h2, toks := tk } := I.laid (t' := tk) kp (Nat.le_refl _) (setO_new R)
  have n0 : H s.heap.objs.size = none := I.hok.fresh (Nat.le_refl _)
  obtain ⟨o, es, ep, t, ho, hex, hd, g, nd, hm, hb, hf, hn, _⟩ := R
  exact ⟨.ref _, _, I2, rfl, q _ c _ (es.toList.map keyOf) n0 (fun b u e => by rw [upd_ne (ne_of_none e n0)]; exact e) upd_same nd (fun k => by rw [← hm k, decide_eq_true_eq]) (by rw [List.length_map, Array.length_toList]; exact hn)⟩
/-- a tuple of whole numbers -/
def TupB (H : Hp) (x : V) (b : List Int) : Prop := ∃ a, x = .ref a ∧ H a = some (.tup (b.map V.int))
theorem paired_imp {α β : Type} {R S : α → β → Prop} (k : ∀ a b, R a b → S a b) : ∀ {as : List α} {bs : List β}, Paired R as bs → Paired S as bs
  | _, _, .nil => .nil
  | _, _, .cons h t => .cons (k _ _ h) (paired_imp k t)
def PairE (H : Hp) (p : Addr) (z : Addr × List L2.Key × V) : Prop := H p = some (.tup [.ref z.1, z.2.2]) ∧ H z.1 = some (.tup (z.2.1.map kV))
theorem PairE.same {H H' : Hp} (S : Same H H') (p : Addr) (z : Addr × List L2.Key × V) (h : PairE H p z) : PairE H' p z := ⟨S _ _ h.1, S _ _ h.2⟩
theorem PairE.but {H H' : Hp} {b : Addr} {xs : List V} (e : H b = some (.lst xs)) (B : But b H H') (p : Addr) (z : Addr × List L2.Key × V) (h : PairE H p z) : PairE H' p z := by
  refine ⟨B _ _ (fun k => ?_) h.1, B _ _ (fun k => ?_) h.2⟩
  · have := h.1
    rw [k, e] at this
    cases this
  · have := h.2
    rw [k, e] at this
    cases this
/-! ### a list of pairs against the empty one -/
abbrev prD (t : Int × Int) : PyData := .tuple [.int t.1, .int t.2]
theorem lay_prs : ∀ l : List (Int × Int), PyData.canLayAll0 (l.map prD) = true ∧ PyData.depthAll (l.map prD) ≤ 2
  | [] => ⟨by simp [PyData.canLayAll0], by simp [PyData.depthAll]⟩
  | x :: l => by
    obtain ⟨h1, h2⟩ := lay_prs l
    refine ⟨by simp [prD, PyData.canLayAll0, PyData.canLay0, h1], ?_⟩
    simp only [prD, List.map_cons, PyData.depthAll, PyData.depth] at h2 ⊢
    omega
theorem shaped_prs (l : List (Int × Int)) : SeqAt.shaped (.list (l.map prD)) = true := by
  obtain ⟨h1, h2⟩ := lay_prs l
  unfold SeqAt.shaped
  rw [Bool.and_eq_true]
  refine ⟨by simpa [PyData.canLay0] using h1, decide_eq_true ?_⟩
  simp only [PyData.depth]
  omega
theorem eqv_nilP : ∀ l : List (Int × Int), PyData.eqv (.list (l.map prD)) (.list []) = l.isEmpty
  | [] => by simp [PyData.eqv, PyData.eqvAll]
  | x :: l => by simp [PyData.eqv, PyData.eqvAll]
theorem dp_prs {K : PySem.W.Frag} {H : Hp} : ∀ {qs : List Addr} {l : List (Int × Int)}, PrsAt H qs l → DpAll K H (qs.map V.ref) (l.map prD)
  | [], [], _ => .nil
  | [], _ :: _, h => by cases h.1
  | _ :: _, [], h => by cases h.1
  | q :: qs, t :: l, h => .cons (.tup (SqT.of (h.2 0 q t.1 t.2 rfl rfl)) (.cons (.int _) (.cons (.int _) .nil))) (dp_prs ⟨Nat.succ.inj h.1, fun i q a b e1 e2 => h.2 (i + 1) q a b e1 e2⟩)
def rNeP (K : PySem.W.Frag) : R2 := fun x y H Q => ∃ (l e : Addr) (qs : List Addr) (ts : List (Int × Int)), x = .ref l ∧ y = .ref e ∧ H l = some (.lst (qs.map V.ref)) ∧ PrsAt H qs ts ∧ SqL K H e [] ∧ Q (.bl (!ts.isEmpty)) H
theorem op_neP {X : Cx} (hu : X.A.units + 64 < cLine) : OpR X (compareOp .NotEq) (rNeP X.K) := OpR.weak (op_neD hu) fun _ _ _ _ ⟨l, e, qs, ts, a, b, hl, hp, he, q⟩ => ⟨.list (ts.map prD), .list [], by rw [a]; exact .lst (SqL.of hl) (dp_prs hp), by rw [b]; exact .lst he .nil, shaped_prs ts, by decide +kernel, by rw [eqv_nilP]; exact q⟩
/-- lists and tuples stand -/
def KeepLT (H H' : Hp) : Prop := (∀ b xs, H b = some (.lst xs) → H' b = some (.lst xs)) ∧ ∀ b xs, H b = some (.tup xs) → H' b = some (.tup xs)
theorem KeepLT.refl (H : Hp) : KeepLT H H := ⟨fun _ _ h => h, fun _ _ h => h⟩
theorem KeepLT.but {H H1 H2 : Hp} {g : Addr} {kvs : List (List L2.Key × V)} (k : KeepLT H H1) (e : H1 g = some (.dT kvs)) (B : But g H1 H2) : KeepLT H H2 := by
  refine ⟨fun b xs h => B _ _ (fun z => ?_) (k.1 b xs h), fun b xs h => B _ _ (fun z => ?_) (k.2 b xs h)⟩
  · have := k.1 b xs h
    rw [z, e] at this
    cases this
  · have := k.2 b xs h
    rw [z, e] at this
    cases this
theorem RingAt.keep {H H' : Hp} (k : KeepLT H H') (x : V) (J : List (Int × Int)) (h : RingAt H x J) : RingAt H' x J := by
  obtain ⟨a, e, qs, h1, h2⟩ := h
  exact ⟨a, e, qs, k.1 _ _ h1, h2.mono fun q xs e => k.2 _ _ e⟩
theorem RingAt.same {H H' : Hp} (S : Same H H') (x : V) (J : List (Int × Int)) (h : RingAt H x J) : RingAt H' x J := by
  obtain ⟨a, e, h⟩ := h
  exact ⟨a, e, h.same S⟩
theorem grp_congr {ts : List (Int × Int)} {f g : Int × Int → Int} (h : ∀ t ∈ ts, f t = g t) : grp ts f = grp ts g := List.map_congr_left fun t ht => by rw [h t ht]
/-- the labels while they are merged, tie by tie -/
def fAt (ts : List (Int × Int)) (f : Int × Int → Int) (m : Int) (S : List Int) (j : Nat) (t : Int × Int) : Int := if t ∈ ts.take j then mrg m S (f t) else f t
theorem ring_len {n : Nat} {ts : List (Int × Int)} (W : WebP n ts) {row : List Int} (R : Ring (EdT ts) row) : row.length ≤ n := by
  refine (found_count R.nd fun x hx => ?_).1
  obtain ⟨A, B, e⟩ := List.append_of_mem hx
  have c := R.chn
  have l := R.len
  cases B with
  | cons b B =>
    rw [e] at c
    exact ((w_gt W).inn _ _ (chn_mid c)).1
  | nil =>
    have hne : A ≠ [] := fun z => by
      rw [e, z] at l
      exact absurd (show 3 ≤ 1 from l) (by decide)
    rw [e, ← List.dropLast_concat_getLast hne, List.append_assoc] at c
    exact ((w_gt W).inn _ _ (chn_mid c)).2.1
theorem ring_jlen {n : Nat} {ts : List (Int × Int)} (W : WebP n ts) {Js : List (List (Int × Int))} (I : RInv n (EdT ts) [] Js) {J : List (Int × Int)} (hJ : J ∈ Js) : J.length ≤ n := by
  obtain ⟨row, R, rfl⟩ := I.sound J hJ
  unfold ringTies
  rw [List.length_map, List.length_zip]
  exact Nat.le_trans (Nat.min_le_left _ _) (ring_len W R)
theorem ring_ts {n : Nat} {ts : List (Int × Int)} (W : WebP n ts) {Js : List (List (Int × Int))} (I : RInv n (EdT ts) [] Js) {J : List (Int × Int)} (hJ : J ∈ Js) : J ≠ [] ∧ ∀ t ∈ J, t ∈ ts := by
  obtain ⟨row, R, rfl⟩ := I.sound J hJ
  have ne : row ≠ [] := fun e => by
    have := R.len
    rw [e] at this
    exact absurd this (by decide)
  refine ⟨fun e => ?_, fun t ht => ?_⟩
  · cases row with
    | nil => exact ne rfl
    | cons x l =>
      have h : InR (x :: l) (nrm x ((x :: l).getLast (List.cons_ne_nil _ _))) := .inr ⟨x, _, rfl, List.getLast?_eq_some_getLast (List.cons_ne_nil _ _), nrm_symm _ _⟩
      have := (ringTies_mem (List.cons_ne_nil x l)).mpr h
      rw [e] at this
      cases this
  · have hR := (ringTies_mem ne).mp ht
    have ed := inR_ed (w_gt W) R hR
    have nt : nrm t.1 t.2 = t := by
      rcases hR with ⟨A, u, w, B, _, rfl⟩ | ⟨a, b, _, _, rfl⟩
      · rcases nrm_or u w with h | h
        · rw [h]
          exact h
        · rw [h, nrm_symm]
          exact h
      · rcases nrm_or b a with h | h
        · rw [h]
          exact h
        · rw [h, nrm_symm]
          exact h
    rcases ed with z | z
    · exact z
    · have h1 := (W.inn _ z).2.1
      have h1 : t.2 < t.1 := h1
      unfold nrm at nt
      rw [if_neg (by omega)] at nt
      have := congrArg Prod.fst nt
      have this : t.2 = t.1 := this
      omega
/-- the first groups: each tie's place -/
def f0 (ts : List (Int × Int)) (t : Int × Int) : Int := ((ts.idxOf t : Nat) : Int)
def zsOf (qs : List Addr) (ts : List (Int × Int)) (i : Nat) : List (Addr × List L2.Key × V) := (List.range i).map fun j => (qs.getD j 0, kT (ts.getD j (0, 0)), V.int (j : Nat))
theorem zs_succ (qs : List Addr) (ts : List (Int × Int)) (i : Nat) : zsOf qs ts (i + 1) = zsOf qs ts i ++ [(qs.getD i 0, kT (ts.getD i (0, 0)), V.int (i : Nat))] := by
  unfold zsOf
  rw [List.range_succ, List.map_append]
  rfl
theorem zs_grp {qs : List Addr} {ts : List (Int × Int)} (nd : ts.Nodup) : (zsOf qs ts ts.length).map (fun z => z.2) = grp ts (f0 ts) := by
  unfold zsOf grp
  refine List.ext_getElem (by simp) fun i h1 h2 => ?_
  simp only [List.length_map] at h2
  simp only [List.getElem_map, List.getElem_range, f0]
  have e : ts.idxOf ts[i] = i := nd.idxOf_getElem i h2
  rw [e, List.getD_eq_getElem?_getD, List.getElem?_eq_getElem h2]
  rfl
theorem zs_keys {qs : List Addr} {ts : List (Int × Int)} (nd : ts.Nodup) : ((zsOf qs ts ts.length).map fun z => z.2.1).Nodup := by
  have e : (zsOf qs ts ts.length).map (fun z => z.2.1) = ts.map kT := by
    have z := congrArg (List.map Prod.fst) (zs_grp (qs := qs) nd)
    unfold grp at z
    rw [List.map_map, List.map_map] at z
    exact z
  rw [e]
  exact List.pairwise_map.mpr (nd.imp fun {a b} h z => h (kT_inj z))
def spLBlocks : Sp := fun vs H Q _ => ∃ (r : Addr) (n : Nat) (ts : List (Int × Int)), vs = [.ref r] ∧ WebH H r n ts ∧ WebP n ts ∧ n ≤ 9 ∧ ts.length ≤ 100000 ∧
  ∀ (o : Addr) (xs : List V) (bs : List (List Int)) H', Same H H' → H o = none → H' o = some (.lst xs) → EachIs (TupB H') xs bs → Blks n (wPar n ts) (wDep n ts) (EdT ts) bs → Q (.ref o) H'
structure LBTxt (mg : Str → Option Value) : Prop where
  range : mg "range" = none
  len : mg "len" = none
  min : mg "min" = none
  dict : mg "dict" = none
  list : mg "list" = none
  set : mg "set" = none
  tuple : mg "tuple" = none
  sorted : mg "sorted" = none
  enumerate : mg "enumerate" = none
section
variable {P : Program} {w : World} {K : PySem.W.Frag} {mg : Str → Option Value} {base : Heap}
abbrev scLBlocksN : List Str := ["web", "group", "ring", "some", "tie", "found", "k", "ties", "a", "b"]
abbrev scLBlocksS : Scope := defScope sLBlocks
theorem scLBlocks : FnScope ["web", "group", "ring", "some", "tie", "found", "k", "ties", "a", "b"] ["web"] (defScope sLBlocks) := ⟨rfl, rfl, rfl, by decide +kernel, rfl, by decide +kernel, by decide +kernel⟩
theorem ok_lblocks {f fR : Addr} {fd fdR : FuncData} (F : FnP K "_law_blocks" sLBlocks f fd) (T : LBTxt mg) (FR : FnP K "_law_rings" sRings fR fdR) (gR_ : mg "_law_rings" = some (.ref fR)) (GR : FnOk P w K mg base CX0 2 fR fdR ["web"] (spRings K)) : FnOk P w K mg base CX0 3 f fd ["web"] spLBlocks := by
  have bR : Binds K fdR ["web"] [] := FR.bindsN fun _ _ _ _ _ _ us hl => match us, hl with | [_], _ => rfl
  refine ok0 F scLBlocks (fun vs H Q E h => ?_) (fun cdv A outer s H vs Q E hr h => ?_)
  · obtain ⟨r, n, ts, rfl, _⟩ := h
    rfl
  · have hu := hu_of hr
    obtain ⟨r, n, ts, rfl, hW, W, hn, hl, q⟩ := h
    refine ⟨_, (pss_cons (ps_set (i := 1) scLBlocks.nd rfl (Or.inr rfl) (pe_callTy (T := "dict") (cr_dictPT rfl hr.units) (by rfl) T.dict (by decide +kernel) (pa_cons (pe_lc (own := [("k", 6), ("tie", 4)]) (g := gTup K 2 (gCons (gName 6) (gCons (gName 4) gNil))) (by rfl) scLBlocks.nd (pi_et (by rfl) T.enumerate (pa_cons (pe_ix ix_tup (pv 0) pe_int (fun _ _ => rfl)) pa_nil)) (blkOk_by (own := [("k", 6), ("tie", 4)]) (N := scLBlocksN) (sc := scLBlocksS) (by decide +kernel)) (fun _ _ _ _ _ => pg_tup (by rfl) (pgs_cons (pg_name (i := 6) scLBlocks.nd rfl (Or.inl rfl)) (pgs_cons (pg_name (i := 4) scLBlocks.nd rfl (Or.inl rfl)) pgs_nil))) (fun _ _ _ _ _ => pts_nil) (fun _ _ _ _ _ => (pe_tupL (pa_cons (pv 4) (pa_cons (pv 6) pa_nil))))) pa_nil)))
    (pss_cons (ps_for PassesOwn.never rfl (pi_list (pe_call GR hr rfl gR_ FR.kp bR .nil pass0 (pa_cons (pv 0) pa_nil))) (pg_name (i := 2) scLBlocks.nd rfl (Or.inl rfl))
      (pss_cons (ps_setLc (i := 3) (own := [("tie", 4)]) (g := gName 4) (by rfl) scLBlocks.nd rfl rfl (sw_true rfl rfl rfl (by decide +kernel)) (pi_list (pv 2)) (blkOk_by (own := [("tie", 4)]) (N := scLBlocksN) (sc := scLBlocksS) (by decide +kernel)) (fun _ _ _ _ _ => pg_name (i := 4) scLBlocks.nd rfl (Or.inl rfl)) (fun _ _ _ _ _ => pts_nil) (fun _ _ _ _ _ => (pe_dget hu (pv 1) (pv 4) (fun _ _ => rfl))))
    (pss_one (ps_for PassesOwn.never rfl (pi_list (pe_callTy (T := "list") (call_list_dT rfl) (by rfl) T.list (by decide +kernel) (pa_cons (pv 1) pa_nil))) (pg_name (i := 4) scLBlocks.nd rfl (Or.inl rfl))
      (pss_one (ps_if (pt_cmpR op_in_seq (pe_dget hu (pv 1) (pv 4) (fun _ _ => rfl)) (pv 3) (by rfl))
      (pss_one (ps_dput hu (pv 1) (pv 4) (pe_callB (id := "min") (cr_min rfl) (by rfl) T.min (by decide +kernel) (pa_cons (pv 3) pa_nil)) rfl))
      pss_nil))))))
    (pss_cons (ps_set (i := 5) scLBlocks.nd rfl (Or.inl rfl) (pe_lstL pa_nil))
    (pss_cons (ps_for PassesOwn.never rfl (pi_range1 (by rfl) T.range (pa_cons (pe_callB (id := "len") call_len_seq (by rfl) T.len (by decide +kernel) (pa_cons (pe_ix ix_tup (pv 0) pe_int (fun _ _ => rfl)) pa_nil)) pa_nil)) (pg_name (i := 6) scLBlocks.nd rfl (Or.inr rfl))
      (pss_cons (ps_setLc (i := 7) (own := [("tie", 4)]) (g := gName 4) (by rfl) scLBlocks.nd rfl rfl (sw_true rfl rfl rfl (by decide +kernel)) (pi_tup (pe_ix ix_tup (pv 0) pe_int (fun _ _ => rfl))) (blkOk_by (own := [("tie", 4)]) (N := scLBlocksN) (sc := scLBlocksS) (by decide +kernel)) (fun _ _ _ _ _ => pg_name (i := 4) scLBlocks.nd rfl (Or.inl rfl)) (fun _ _ _ _ _ => pts_one (pt_cmpR op_eq (pe_dget hu (pv 1) (pv 4) (fun _ _ => rfl)) (pv 6) (nomark _))) (fun _ _ _ _ _ => (pv 4)))
    (pss_one (ps_if (pt_cmpR (op_neP hr.units) (pv 7) (pe_lstL pa_nil) (nomark _))
      (pss_one (ps_expr (pe_bm PySem.F.plainAttrs_list PySem.F.slot_list_append PySem.F.type_list_append mt_appendL (pv 5) (pa_cons (pe_callTy (T := "tuple") call_tuple_of (by rfl) T.tuple (by decide +kernel) (pa_cons (pe_callB (id := "sorted") (cr_sortedSet rfl) (by rfl) T.sorted (by decide +kernel) (pa_cons (pe_callTy (T := "set") (cr_setD rfl) (by rfl) T.set (by decide +kernel) (pa_cons (pe_op op_catL (pe_lc (own := [("a", 8), ("b", 9)]) (g := gTup K 2 (gCons (gName 8) (gCons (gName 9) gNil))) (by rfl) scLBlocks.nd (pi_list (pv 7)) (blkOk_by (own := [("a", 8), ("b", 9)]) (N := scLBlocksN) (sc := scLBlocksS) (by decide +kernel)) (fun _ _ _ _ _ => pg_tup (by rfl) (pgs_cons (pg_name (i := 8) scLBlocks.nd rfl (Or.inl rfl)) (pgs_cons (pg_name (i := 9) scLBlocks.nd rfl (Or.inl rfl)) pgs_nil))) (fun _ _ _ _ _ => pts_nil) (fun _ _ _ _ _ => (pv 8))) (pe_lc (own := [("a", 8), ("b", 9)]) (g := gTup K 2 (gCons (gName 8) (gCons (gName 9) gNil))) (by rfl) scLBlocks.nd (pi_list (pv 7)) (blkOk_by (own := [("a", 8), ("b", 9)]) (N := scLBlocksN) (sc := scLBlocksS) (by decide +kernel)) (fun _ _ _ _ _ => pg_tup (by rfl) (pgs_cons (pg_name (i := 8) scLBlocks.nd rfl (Or.inl rfl)) (pgs_cons (pg_name (i := 9) scLBlocks.nd rfl (Or.inl rfl)) pgs_nil))) (fun _ _ _ _ _ => pts_nil) (fun _ _ _ _ _ => (pv 9)))) pa_nil)) pa_nil)) pa_nil)) pa_nil))))
      pss_nil))))
    (pss_one (ps_ret (pe_callB (id := "sorted") (cr_sortedD (K := K) (enc := fun b : List Int => PyData.tuple (b.map PyData.int)) hr.units) (by rfl) T.sorted (by decide +kernel) (pa_cons (pv 5) pa_nil)))))))), ?_⟩
    obtain ⟨t, hr0, qs, ht, hqs⟩ := hW
    have nd : ts.Nodup := W.asc.imp fun {a b} h e => by
      rw [e] at h
      omega
    have lq : (qs.map V.ref).length = ts.length := by rw [List.length_map, hqs.1]
    refine ⟨_, rfl, r, _, _, _, rfl, rfl, SqT.of hr0, at_of (j := 1) rfl rfl, t, _, rfl, SqT.of ht, fun D hD => lc_it (walk_et (K := K)) (fun i H' => Same H H' ∧ ∃ ps : List Addr, H' D = some (.lst (ps.map V.ref)) ∧ ps.length = i ∧ Paired (PairE H') ps (zsOf qs ts i)) ⟨same_upd hD, [], upd_same, rfl, .nil⟩ (fun i H' _ ⟨S, _⟩ => SqT.of (S _ _ ht)) ?_ ?_⟩
    · rintro i x H1 H2 hi ⟨S1, ps, h1, lp, hp⟩ ⟨T0, y1, y2, rfl, nt, rfl, hy1, hy2⟩
      cases hy1
      obtain ⟨q0, hq0, rfl⟩ := getMapR (show (qs.map V.ref)[i]? = some y2 from hy2)
      have hi2 : i < ts.length := by rw [← lq]; exact hi
      have S2 : Same H1 (upd H1 T0 (.tup [V.int (i : Nat), .ref q0])) := same_upd nt
      have g2 : (upd H1 T0 (.tup [V.int (i : Nat), .ref q0])) T0 = some (.tup [V.int (i : Nat), .ref q0]) := upd_same
      generalize upd H1 T0 (.tup [V.int (i : Nat), .ref q0]) = H2 at S2 g2
      refine ⟨T0, _, rfl, SqT.of g2, rfl, _, _, rfl, _, _, rfl, rfl, rfl, _, rfl, _, rfl, by show 2 ≤ sizeLine; decide, fun p0 H3 n3 S3 h3 => ?_⟩
      have S13 := S2.trans S3
      have hD3 := S13 _ _ h1
      have B4 : But D H3 (upd H3 D (.lst (ps.map V.ref ++ [.ref p0]))) := but_upd
      refine ⟨_, hD3, by rw [List.length_map, lp]; unfold sizeLine; omega, fun u w' hu' => by rw [upd_ne (ne_of_none hu' hD)]; exact S13 _ _ (S1 _ _ hu'), ps ++ [p0], by rw [upd_same, List.map_append]; rfl, by rw [List.length_append, lp]; rfl, ?_⟩
      rw [zs_succ]
      have et : ts.getD i (0, 0) = ts[i] := by rw [List.getD_eq_getElem?_getD, List.getElem?_eq_getElem hi2]; rfl
      have eq0 : qs.getD i 0 = q0 := by rw [List.getD_eq_getElem?_getD, hq0]; rfl
      have hqt := hqs.2 i q0 ts[i].1 ts[i].2 hq0 (List.getElem?_eq_getElem hi2)
      refine Paired.snoc (paired_imp (PairE.but hD3 B4) (paired_imp (PairE.same S13) hp)) (PairE.but hD3 B4 _ _ ⟨?_, ?_⟩)
      · rw [eq0]
        exact h3
      · rw [eq0, et]
        exact S13 _ _ (S1 _ _ hqt)
    rintro H1 ⟨S1, ps, h1, lp, hp⟩
    rw [lq] at lp hp
    refine ⟨D, ps, _, rfl, SqL.of h1, paired_imp (fun p z h => ⟨SqT.of h.1, h.2⟩) hp, zs_keys nd, fun g H2 ng S2 h2 => ?_⟩
    rw [zs_grp nd] at h2
    have S02 := S1.trans S2
    have ngH : H g = none := same_none S1 ng
    have hWat : WebAt K H2 (.ref r) (n : Int) ts := ⟨r, t, rfl, SqT.of (S02 _ _ hr0), qs, SqT.of (S02 _ _ ht), hqs.1, fun i q a b e1 e2 => SqT.of (S02 _ _ (hqs.2 i q a b e1 e2))⟩
    refine ⟨_, rfl, .ref r, n, ts, rfl, hWat, W, hn, hl, fun R0 xs Js H3 S3 nR h3 hJ inv hJl => ?_⟩
    have S03 := S02.trans S3
    have lab0 : Lab (· ∈ ts) (f0 ts) (InOne ([] : List (List (Int × Int)))) := (lab_start (D := (· ∈ ts)) (f := f0 ts) fun x y hx hy e => by
      unfold f0 at e
      have e : ts.idxOf x = ts.idxOf y := by omega
      have hx2 := List.getElem_idxOf (List.idxOf_lt_length_of_mem hx)
      have hy2 := List.getElem_idxOf (List.idxOf_lt_length_of_mem hy)
      rw [← hx2, ← hy2]
      simp only [e]).congr (fun _ _ => rfl) fun x y => inOne_nil
    have rng0 : ∀ t ∈ ts, 0 ≤ f0 ts t ∧ f0 ts t < (ts.length : Int) := fun t ht => by
      have := List.idxOf_lt_length_of_mem ht
      unfold f0
      omega
    refine ⟨R0, rfl, ⟨_, SqL.of h3⟩, for_list (K := K) (a := R0) (xs := xs) (fun i σ H' => (∃ u2 u3 u4, σ = [some (.ref r), some (.ref g), u2, u3, u4, none, none, none, none, none]) ∧ Same H H' ∧ H' R0 = some (.lst xs) ∧ EachIs (RingAt H') xs Js ∧ ∃ f, H' g = some (.dT (grp ts f)) ∧ Lab (· ∈ ts) f (InOne (Js.take i)) ∧ ∀ t ∈ ts, 0 ≤ f t ∧ f t < (ts.length : Int)) ⟨⟨_, _, _, rfl⟩, S03, h3, hJ, f0 ts, S3 _ _ h2, by rw [List.take_zero]; exact lab0, rng0⟩ (fun i σ H' _ ⟨_, _, z, _⟩ => SqL.of z) ?_ ?_⟩
    · rintro i y σ H4 hi ⟨⟨u2, u3, u4, rfl⟩, S4, hR4, hJ4, f, hg4, lab, rng⟩
      obtain ⟨J, hJi, ja, rfl, qj, hja, hqj⟩ := each_get hJ4 hi
      obtain ⟨Jne, Jts⟩ := ring_ts W inv (List.mem_of_getElem? hJi)
      have lJ : qj.length = J.length := hqj.1
      refine ⟨_, rfl, ja, rfl, ⟨_, SqL.of hja⟩, fun D2 hD2 => lc_list (K := K) (a := ja) (xs := qj.map V.ref) (fun j H' => Same H4 H' ∧ H' D2 = some (.lst (((J.take j).map f).map V.int))) ⟨same_upd hD2, by rw [upd_same, List.take_zero]; rfl⟩ (fun j H' _ ⟨S, _⟩ => SqL.of (S _ _ hja)) ?_ ?_⟩
      · rintro j y H5 hj ⟨S5, h5⟩
        obtain ⟨q0, hq0, rfl⟩ := getMapR hj
        have hj2 : j < J.length := by rw [← lJ]; exact (List.getElem?_eq_some_iff.mp hq0).1
        have hs := List.getElem?_eq_getElem hj2
        have hsm := Jts _ (List.getElem_mem hj2)
        have hqt := S5 _ _ (hqj.2 j q0 J[j].1 J[j].2 hq0 hs)
        refine ⟨rfl, _, rfl, _, rfl, g, .int (f J[j]), rfl, grp_val (f := f) hsm ▸ DGet.t (k := kT J[j]) (S5 _ _ hg4) hqt, _, h5, ?_, fun u w' hu' => by rw [upd_ne (ne_of_none hu' hD2)]; exact S5 _ _ hu', ?_⟩
        · rw [List.length_map, List.length_map, List.length_take]
          have := ring_jlen W inv (List.mem_of_getElem? hJi)
          unfold sizeLine
          omega
        · rw [upd_same, take_more hs, List.map_append, List.map_append]
          rfl
      rintro H5 ⟨S5, h5⟩
      rw [List.length_map, lJ, List.take_length] at h5
      obtain ⟨m0, hm0, hle0⟩ := least_of (l := J.map f) (by simpa using Jne)
      refine ⟨_, rfl, g, grp ts f, rfl, .inl (S5 _ _ hg4), fun pl bk npl hkeys => ?_⟩
      have S6 : Same H5 (upd H5 pl (.lst (bk.map V.ref))) := same_upd npl
      have h6 : (upd H5 pl (.lst (bk.map V.ref))) pl = some (.lst (bk.map V.ref)) := upd_same
      generalize upd H5 pl (.lst (bk.map V.ref)) = H6 at S6 h6
      have S46 := S5.trans S6
      have hgk : ∀ (j : Nat) (q0 : Addr), bk[j]? = some q0 → ∃ s, ts[j]? = some s ∧ H5 q0 = some (.tup [.int s.1, .int s.2]) := fun j q0 hq => by
        have key : ∀ {l : List (List L2.Key × V)} {m : List Addr}, Paired (fun (p : List L2.Key × V) b => H5 b = some (.tup (p.1.map kV))) l m → ∀ (j : Nat) (q0 : Addr), m[j]? = some q0 → ∃ p, l[j]? = some p ∧ H5 q0 = some (.tup (p.1.map kV)) := by
          intro l m h
          induction h with
          | nil => intro j q0 e; simp at e
          | @cons a b as bs h t ih =>
            intro j q0 e
            cases j with
            | zero =>
              cases e
              exact ⟨_, rfl, h⟩
            | succ j => exact ih j q0 (by simpa using e)
        obtain ⟨p, h1, h2⟩ := key hkeys j q0 hq
        unfold grp at h1
        rw [List.getElem?_map] at h1
        cases e : ts[j]? with
        | none =>
          rw [e] at h1
          cases h1
        | some s =>
          rw [e] at h1
          cases h1
          exact ⟨s, rfl, h2⟩
      have lbk : bk.length = ts.length := by
        have := Paired.length hkeys
        unfold grp at this
        rw [List.length_map] at this
        omega
      have hSpos : 0 < (J.map f).length := by
        rw [List.length_map]
        exact List.length_pos_iff.mpr Jne
      have S6H := S4.trans S46
      refine ⟨pl, rfl, ⟨_, SqL.of h6⟩, for_list (K := K) (a := pl) (xs := bk.map V.ref) (fun j σ H' => (∃ u4, σ = [some (.ref r), some (.ref g), some (.ref ja), some (.ref D2), u4, none, none, none, none, none]) ∧ Same H H' ∧ KeepLT H6 H' ∧ H' g = some (.dT (grp ts (fAt ts f m0 (J.map f) j)))) ⟨⟨_, rfl⟩, S6H, KeepLT.refl _, by
          rw [S46 _ _ hg4]
          exact congrArg (fun z => some (HO.dT z)) (grp_congr fun t _ => by unfold fAt; rw [List.take_zero, if_neg (by simp)])⟩ (fun j σ H' _ ⟨_, _, k, _⟩ => SqL.of (k.1 _ _ h6)) ?_ ?_⟩
      · rintro j y σ H7 hj ⟨⟨u4', rfl⟩, S7, k7, hg7⟩
        obtain ⟨q0, hq0, rfl⟩ := getMapR hj
        obtain ⟨s0, hs0, hq5⟩ := hgk j q0 hq0
        have hs0m := List.mem_of_getElem? hs0
        have hq7 := k7.2 _ _ (S6 _ _ hq5)
        have hD7 := k7.1 _ _ (S6 _ _ h5)
        have hns : s0 ∉ ts.take j := fun z => by
          obtain ⟨i', hi', ei'⟩ := List.mem_take_iff_getElem.mp z
          obtain ⟨hj3, ej⟩ := List.getElem?_eq_some_iff.mp hs0
          exact absurd (ei'.trans ej.symm) (List.pairwise_iff_getElem.mp nd i' j (by omega) hj3 (by omega))
        have ev : fAt ts f m0 (J.map f) j s0 = f s0 := by
          unfold fAt
          rw [if_neg hns]
        have gv : DGet H7 g (.ref q0) (some (.int (f s0))) := by
          have z := DGet.t (k := kT s0) hg7 hq7
          rw [grp_val hs0m, ev] at z
          exact z
        have tk : ∀ t, t ∈ ts.take (j + 1) ↔ t ∈ ts.take j ∨ t = s0 := fun t => by
          rw [take_more hs0, List.mem_append, List.mem_singleton]
        refine ⟨_, rfl, _, rfl, g, _, rfl, gv, _, rfl, D2, _, rfl, .inl (SqL.of hD7), rfl, flat_ints, _, rfl, ?_⟩
        by_cases hin : f s0 ∈ J.map f
        · refine iteD (by rw [inV_ints, decide_eq_true hin]; rfl) ⟨_, rfl, D2, J.map f, rfl, SqL.of hD7, hSpos, fun m hm hle => ?_⟩
          have em : m = m0 := Int.le_antisymm (hle _ hm0) (hle0 _ hm)
          subst em
          refine ⟨_, rfl, _, rfl, g, _, rfl, DPut.t (k := kT s0) hg7 hq7 ?_, ⟨_, rfl⟩, ?_, ?_, ?_⟩
          · unfold grp
            rw [List.length_map]
            unfold sizeLine
            omega
          · exact same_but S7 ngH but_upd
          · exact k7.but hg7 but_upd
          · rw [upd_same, grp_put hs0m]
            refine congrArg (fun z => some (HO.dT z)) (grp_congr fun t _ => ?_)
            unfold fAt
            by_cases e : t = s0
            · rw [if_pos e, if_pos ((tk t).mpr (.inr e)), e]
              unfold mrg
              rw [if_pos hin]
            · rw [if_neg e]
              by_cases e2 : t ∈ ts.take j
              · rw [if_pos e2, if_pos ((tk t).mpr (.inl e2))]
              · rw [if_neg e2, if_neg fun z => ((tk t).mp z).elim e2 e]
        · refine iteC (by rw [inV_ints, decide_eq_false hin]; rfl) ⟨⟨_, rfl⟩, S7, k7, ?_⟩
          rw [hg7]
          refine congrArg (fun z => some (HO.dT z)) (grp_congr fun t _ => ?_)
          unfold fAt
          by_cases e : t = s0
          · rw [e, if_neg hns, if_pos ((tk s0).mpr (.inr rfl))]
            unfold mrg
            rw [if_neg hin]
          · by_cases e2 : t ∈ ts.take j
            · rw [if_pos e2, if_pos ((tk t).mpr (.inl e2))]
            · rw [if_neg e2, if_neg fun z => ((tk t).mp z).elim e2 e]
      · rintro σ H7 ⟨⟨u4', rfl⟩, S7, k7, hg7⟩
        rw [List.length_map, lbk] at hg7
        have ef : grp ts (fAt ts f m0 (J.map f) ts.length) = grp ts fun t => mrg m0 (J.map f) (f t) := grp_congr fun t ht => by
          unfold fAt
          rw [List.take_length, if_pos ht]
        rw [ef] at hg7
        refine ⟨⟨_, _, _, rfl⟩, S7, k7.1 _ _ (S46 _ _ hR4), each_imp (RingAt.keep k7) (each_imp (RingAt.same S46) hJ4), _, hg7, ?_, fun t ht => ?_⟩
        · rw [take_more hJi]
          exact (lab_step lab Jts hm0).congr (fun _ _ => rfl) fun x y => inOne_snoc
        · show 0 ≤ mrg m0 (J.map f) (f t) ∧ mrg m0 (J.map f) (f t) < _
          unfold mrg
          by_cases c : f t ∈ J.map f
          · rw [if_pos c]
            obtain ⟨s1, hs1, es1⟩ := List.mem_map.mp hm0
            rw [← es1]
            exact rng s1 (Jts s1 hs1)
          · rw [if_neg c]
            exact rng t ht
    · rintro σ H4 ⟨⟨u2, u3, u4, rfl⟩, S4, hR4, hJ4, f, hg4, lab, rng⟩
      rw [each_len hJ, List.take_length] at lab
      refine ⟨by show 0 ≤ sizeLine; decide, fun fd H5 n5 S5 h5 => ?_⟩
      have S45 := S4.trans S5
      have ngf : g ≠ fd := ne_of_none hg4 n5
      have nfH : H fd = none := same_none S4 n5
      refine ⟨_, rfl, r, _, _, _, rfl, rfl, SqT.of (S45 _ _ hr0), at_of (j := 1) rfl rfl, t, _, rfl, .inr (SqT.of (S45 _ _ ht)), _, rfl, by omega, by omega, for_range (lo := 0) (n := (((qs.map V.ref).length : Int) - 0).toNat) (fun k σ H' => (∃ u2 u3 u4 u6 u7, σ = [some (.ref r), some (.ref g), u2, u3, u4, some (.ref fd), u6, u7, none, none]) ∧ Same H H' ∧ H' g = some (.dT (grp ts f)) ∧ ∃ xs bs ks, H' fd = some (.lst xs) ∧ EachIs (TupB H') xs bs ∧ EachIs (LGood ts f) bs ks ∧ ks.Nodup ∧ xs.length ≤ k ∧ ∀ k', k' ∈ ks ↔ (∃ t ∈ ts, f t = k') ∧ k' < (k : Int))
        ⟨⟨_, _, _, _, _, rfl⟩, S45, S5 _ _ hg4, [], [], [], h5, .nil, .nil, List.nodup_nil, Nat.le_refl _, fun k' => ⟨fun z => (by cases z), fun ⟨⟨t', ht', e⟩, l⟩ => by
          have := (rng t' ht').1
          omega⟩⟩ ?_ ?_⟩
      · rintro k σ H6 hk ⟨⟨u2', u3', u4', u6, u7, rfl⟩, S6, hg6, xs6, bs, ks, hf6, hx6, hgood, knd, lx6, kmem⟩
        have hk2 : k < ts.length := by omega
        refine ⟨_, rfl, r, _, _, _, rfl, rfl, SqT.of (S6 _ _ hr0), at_of (j := 1) rfl rfl, t, rfl, ⟨_, SqT.of (S6 _ _ ht)⟩, fun D2 hD2 => lc_tup (K := K) (a := t) (xs := qs.map V.ref) (fun i H' => Same H6 H' ∧ ∃ qt : List Addr, H' D2 = some (.lst (qt.map V.ref)) ∧ PrsAt H' qt ((ts.take i).filter fun t => decide (f t = (k : Int)))) ⟨same_upd hD2, [], upd_same, by rw [List.take_zero]; exact PrsAt.nil⟩ (fun i H' _ ⟨S, _⟩ => SqT.of (S _ _ (S6 _ _ ht))) ?_ ?_⟩
        · rintro i y H7 hi ⟨S7, qt, h7, hqt⟩
          obtain ⟨q0, hq0, rfl⟩ := getMapR hi
          have hi2 : i < ts.length := by rw [← hqs.1]; exact (List.getElem?_eq_some_iff.mp hq0).1
          have hs := List.getElem?_eq_getElem hi2
          have hsm := List.getElem_mem hi2
          have hqt7 := S7 _ _ (S6 _ _ (hqs.2 i q0 ts[i].1 ts[i].2 hq0 hs))
          have fm := filter_more (p := fun t : Int × Int => decide (f t = (k : Int))) hs
          refine ⟨rfl, _, rfl, _, rfl, g, .int (f ts[i]), rfl, grp_val (f := f) hsm ▸ DGet.t (k := kT ts[i]) (S7 _ _ hg6) hqt7, _, rfl, rfl, _, rfl, ite2 (fun hc => ?_) (fun hc => ?_)⟩
          · have hc : f ts[i] = (k : Int) := (V.int.inj (of_decide_eq_true hc)).trans (Int.zero_add _)
            rw [if_pos (decide_eq_true hc)] at fm
            have B8 : But D2 H7 (upd H7 D2 (.lst (qt.map V.ref ++ [.ref q0]))) := but_upd
            refine ⟨_, rfl, _, h7, ?_, fun u w' hu' => by rw [upd_ne (ne_of_none hu' hD2)]; exact S7 _ _ hu', qt ++ [q0], by rw [upd_same, List.map_append]; rfl, ?_⟩
            · rw [List.length_map, hqt.1]
              have := List.length_filter_le (fun t : Int × Int => decide (f t = (k : Int))) (ts.take i)
              rw [List.length_take] at this
              unfold sizeLine
              omega
            · rw [fm]
              refine PrsAt.app (hqt.mono fun q zs e => B8 _ _ (fun z => ?_) e) ⟨rfl, fun i' q a b e1 e2 => ?_⟩
              · rw [z, h7] at e
                cases e
              · cases i' with
                | zero =>
                  cases e1
                  have e2 : ts[i] = (a, b) := Option.some.inj e2
                  refine B8 _ _ (fun z => ?_) ?_
                  · rw [z, h7] at hqt7
                    cases hqt7
                  · rw [e2] at hqt7
                    exact hqt7
                | succ i' => simp at e1
          · have hc : ¬ f ts[i] = (k : Int) := fun z => hc (decide_eq_true (congrArg V.int (z.trans (Int.zero_add _).symm)))
            rw [if_neg (by rw [decide_eq_false hc]; exact Bool.false_ne_true), List.append_nil] at fm
            exact ⟨S7, qt, h7, by rw [fm]; exact hqt⟩
        rintro H7 ⟨S7, qt, h7, hqt⟩
        rw [List.length_map, hqs.1, List.take_length] at hqt
        have S67 := S6.trans S7
        refine ⟨_, rfl, by show 0 ≤ sizeLine; decide, fun E0 H8 n8 S8 h8 => ⟨D2, E0, qt, _, rfl, rfl, S8 _ _ h7, hqt.mono fun q xs e => S8 _ _ e, SqL.of h8, _, rfl, ?_⟩⟩
        generalize eL : (ts.filter fun t => decide (f t = (k : Int))) = L at hqt
        have Lmem : ∀ t, t ∈ L ↔ t ∈ ts ∧ f t = (k : Int) := fun t => by rw [← eL, List.mem_filter, decide_eq_true_iff]
        have S78 := S7.trans S8
        by_cases hLe : L = []
        · have nok : ¬ ∃ t ∈ ts, f t = (k : Int) := fun ⟨t', h1, h2⟩ => by
            have := (Lmem t').mpr ⟨h1, h2⟩
            rw [hLe] at this
            cases this
          refine iteC (by rw [hLe]; rfl) ⟨⟨_, _, _, _, _, rfl⟩, S6.trans S78, S78 _ _ hg6, xs6, bs, ks, S78 _ _ hf6, each_imp (fun x b ⟨a, e, h⟩ => ⟨a, e, S78 _ _ h⟩) hx6, hgood, knd, by omega, fun k' => ?_⟩
          rw [kmem]
          refine ⟨fun z => ⟨z.1, by omega⟩, fun z => ⟨z.1, ?_⟩⟩
          rcases Int.lt_or_le k' (k : Int) with h | h
          · exact h
          · have e : k' = (k : Int) := by omega
            rw [e] at z
            exact absurd z.1 nok
        refine iteD (by cases L with
          | nil => exact absurd rfl hLe
          | cons _ _ => rfl) ?_
        have S68 := S6.trans S78
        have hf8 := S78 _ _ hf6
        have h78 := S8 _ _ h7
        have hqt8 : PrsAt H8 qt L := hqt.mono fun q xs e => S8 _ _ e
        have lL : L.length ≤ ts.length := by
          rw [← eL]
          exact List.length_filter_le _ _
        refine ⟨_, rfl, .inl ⟨rfl, _, SqL.of hf8⟩, _, rfl, D2, rfl, ⟨_, SqL.of h78⟩, fun D3 hD3 => lc_list (K := K) (a := D2) (xs := qt.map V.ref) (fun i H' => Same H8 H' ∧ H' D3 = some (.lst (((L.take i).map Prod.fst).map V.int))) ⟨same_upd hD3, by rw [upd_same, List.take_zero]; rfl⟩ (fun i H' _ ⟨S, _⟩ => SqL.of (S _ _ h78)) ?_ ?_⟩
        · rintro i y H9 hi ⟨S9, h9⟩
          obtain ⟨q0, hq0, rfl⟩ := getMapR hi
          have hi2 : i < L.length := by rw [← hqt8.1]; exact (List.getElem?_eq_some_iff.mp hq0).1
          have hs := List.getElem?_eq_getElem hi2
          have hq9 := S9 _ _ (hqt8.2 i q0 L[i].1 L[i].2 hq0 hs)
          refine ⟨q0, _, rfl, SqT.of hq9, rfl, _, _, rfl, _, _, rfl, rfl, rfl, _, rfl, _, h9, ?_, fun u w' hu' => by rw [upd_ne (ne_of_none hu' hD3)]; exact S9 _ _ hu', ?_⟩
          · rw [List.length_map, List.length_map, List.length_take]
            unfold sizeLine
            omega
          · rw [upd_same, take_more hs, List.map_append, List.map_append]
            rfl
        rintro H9 ⟨S9, h9⟩
        rw [List.length_map, hqt8.1, List.take_length] at h9
        have h79 := S9 _ _ h78
        have hqt9 : PrsAt H9 qt L := hqt8.mono fun q xs e => S9 _ _ e
        refine ⟨_, rfl, D2, rfl, ⟨_, SqL.of h79⟩, fun D4 hD4 => lc_list (K := K) (a := D2) (xs := qt.map V.ref) (fun i H' => Same H9 H' ∧ H' D4 = some (.lst (((L.take i).map Prod.snd).map V.int))) ⟨same_upd hD4, by rw [upd_same, List.take_zero]; rfl⟩ (fun i H' _ ⟨S, _⟩ => SqL.of (S _ _ h79)) ?_ ?_⟩
        · rintro i y H10 hi ⟨S10, h10⟩
          obtain ⟨q0, hq0, rfl⟩ := getMapR hi
          have hi2 : i < L.length := by rw [← hqt9.1]; exact (List.getElem?_eq_some_iff.mp hq0).1
          have hs := List.getElem?_eq_getElem hi2
          have hq10 := S10 _ _ (hqt9.2 i q0 L[i].1 L[i].2 hq0 hs)
          refine ⟨q0, _, rfl, SqT.of hq10, rfl, _, _, rfl, _, _, rfl, rfl, rfl, _, rfl, _, h10, ?_, fun u w' hu' => by rw [upd_ne (ne_of_none hu' hD4)]; exact S10 _ _ hu', ?_⟩
          · rw [List.length_map, List.length_map, List.length_take]
            unfold sizeLine
            omega
          · rw [upd_same, take_more hs, List.map_append, List.map_append]
            rfl
        rintro H10 ⟨S10, h10⟩
        rw [List.length_map, hqt9.1, List.take_length] at h10
        refine ⟨D3, D4, _, _, rfl, rfl, S10 _ _ h9, h10, by simp only [List.length_map]; unfold sizeLine; omega, fun lc H11 n11 S11 h11 => ?_⟩
        have h11 : H11 lc = some (.lst ((L.map Prod.fst ++ L.map Prod.snd).map V.int)) := by rw [h11, List.map_append]
        have lts : ts.length ≤ 90 := by
          have q := pigeon (List.range 90) (ts.map fun t => t.1.toNat * 9 + t.2.toNat) (List.pairwise_map.mpr (List.Pairwise.imp_of_mem (fun {a b} ha hb ne e => by
            have h1 := W.inn a ha
            have h2 := W.inn b hb
            exact ne (Prod.ext (by omega) (by omega))) nd)) fun x hx => by
              obtain ⟨t', ht', rfl⟩ := List.mem_map.mp hx
              have h1 := W.inn t' ht'
              exact List.mem_range.mpr (by omega)
          rw [List.length_map, List.length_range] at q
          exact q
        refine ⟨lc, L.map Prod.fst ++ L.map Prod.snd, rfl, SqL.of h11, by simp only [List.length_append, List.length_map]; omega, fun sp c H12 kk n12 S12 h12 kn km kl => ?_⟩
        have S12 : Same H11 H12 := S12
        have emem : ∀ x, x ∈ kk ↔ ∃ t ∈ ts, f t = (k : Int) ∧ (x = t.1 ∨ x = t.2) := fun x => by
          rw [km, List.mem_append, List.mem_map, List.mem_map]
          constructor
          · rintro (⟨t', h1, rfl⟩ | ⟨t', h1, rfl⟩)
            · exact ⟨t', ((Lmem t').mp h1).1, ((Lmem t').mp h1).2, .inl rfl⟩
            · exact ⟨t', ((Lmem t').mp h1).1, ((Lmem t').mp h1).2, .inr rfl⟩
          · rintro ⟨t', h1, h2, rfl | rfl⟩
            · exact .inl ⟨t', (Lmem t').mpr ⟨h1, h2⟩, rfl⟩
            · exact .inr ⟨t', (Lmem t').mpr ⟨h1, h2⟩, rfl⟩
        have c9 : c ≤ n := by
          rw [← kl]
          refine (found_count kn fun x hx => ?_).1
          obtain ⟨t', h1, _, h2⟩ := (emem x).mp hx
          have := W.inn t' h1
          rcases h2 with e | e <;> omega
        refine ⟨sp, _, c, rfl, h12, by omega, fun nb op hpw hmemb hlen n13 => ?_⟩
        have S13 : Same H12 (upd H12 op (.lst (nb.map V.int))) := same_upd n13
        have h13 : (upd H12 op (.lst (nb.map V.int))) op = some (.lst (nb.map V.int)) := upd_same
        generalize upd H12 op (.lst (nb.map V.int)) = H13 at S13 h13
        refine ⟨op, _, rfl, .inl ⟨SqL.of h13, fun tp n14 => ?_⟩⟩
        have S14 : Same H13 (upd H13 tp (.tup (nb.map V.int))) := same_upd n14
        have h14 : (upd H13 tp (.tup (nb.map V.int))) tp = some (.tup (nb.map V.int)) := upd_same
        generalize upd H13 tp (.tup (nb.map V.int)) = H14 at S14 h14
        have S814 : Same H8 H14 := ((((S9.trans S10).trans S11).trans S12).trans S13).trans S14
        have hf13 := S13 _ _ (S12 _ _ (S11 _ _ (S10 _ _ (S9 _ _ hf8))))
        have ntf : tp ≠ fd := (ne_of_none hf13 n14).symm
        have hf14 := S814 _ _ hf8
        refine ⟨fd, _, _, rfl, rfl, hf14, by unfold sizeLine; omega, fun H15 B15 h15 => ?_⟩
        have good : LGood ts f nb (k : Int) := ⟨hpw, fun x => by
          rw [← emem, km, hmemb, decide_eq_true_eq]⟩
        refine ⟨⟨_, _, _, _, _, rfl⟩, same_but (S68.trans S814) nfH B15, B15 _ _ ngf (S814 _ _ (S78 _ _ hg6)), _, bs ++ [nb], ks ++ [(k : Int)], h15, each_snoc (each_imp (fun x b h => ?_) hx6) ⟨tp, rfl, B15 _ _ ntf h14⟩, each_snoc hgood good, ?_, by rw [List.length_append, List.length_singleton]; omega, fun k' => ?_⟩
        · obtain ⟨a, e, h⟩ := h
          refine ⟨a, e, B15 _ _ (fun z => ?_) (S814 _ _ (S78 _ _ h))⟩
          have := S814 _ _ (S78 _ _ h)
          rw [z, hf14] at this
          cases this
        · refine List.nodup_append.mpr ⟨knd, List.nodup_cons.mpr ⟨(fun z => by cases z), List.nodup_nil⟩, fun x hx y hy e => ?_⟩
          rw [List.mem_singleton.mp hy] at e
          have := ((kmem x).mp hx).2
          omega
        · rw [List.mem_append, List.mem_singleton, kmem]
          constructor
          · rintro (⟨z, h⟩ | rfl)
            · exact ⟨z, by omega⟩
            · obtain ⟨t', ht'⟩ : ∃ t', t' ∈ L := by
                cases L with
                | nil => exact absurd rfl hLe
                | cons x l => exact ⟨x, List.mem_cons_self⟩
              exact ⟨⟨t', ((Lmem t').mp ht').1, ((Lmem t').mp ht').2⟩, by omega⟩
          · rintro ⟨z, h⟩
            by_cases e : k' = (k : Int)
            · exact .inr e
            · exact .inl ⟨z, by omega⟩
      · rintro σ H6 ⟨⟨u2', u3', u4', u6, u7, rfl⟩, S6, hg6, xs6, bs, ks, hf6, hx6, hgood, knd, lx6, kmem⟩
        have km : ∀ k', k' ∈ ks ↔ ∃ t ∈ ts, f t = k' := fun k' => by
          rw [kmem]
          refine ⟨fun z => z.1, fun z => ⟨z, ?_⟩⟩
          obtain ⟨t', ht', e⟩ := z
          have := (rng t' ht').2
          omega
        have lbs : bs.length ≤ 100000 := by
          rw [← each_len hx6]
          omega
        refine ⟨_, rfl, fd, xs6, bs, TupB H6, rfl, SqL.of hf6, hx6, ?_, ?_, ?_, ?_, ?_, fun ys hys o H7 n7 S7 h7 => ?_⟩
        · rintro x b ⟨a, rfl, e1⟩
          exact .tup (.inl (.inl e1)) dp_il
        · exact PySem.W.AllAlike.of fun b b' => by
            rw [PySem.W.alike]
            exact PySem.W.alike_ints _ _
        · refine .inl fun d hd => ?_
          obtain ⟨b, hb, rfl⟩ := List.mem_map.mp hd
          obtain ⟨i, hi⟩ := List.mem_iff_getElem?.mp hb
          obtain ⟨k', h1, h2⟩ := each_get hgood hi
          obtain ⟨t', ht', et⟩ := (km k').mp (List.mem_of_getElem? h1)
          have hm := (h2.2 t'.1).mpr ⟨t', ht', et, .inl rfl⟩
          cases b with
          | nil => cases hm
          | cons x l => exact ⟨_, _, rfl⟩
        · unfold sizeLine
          omega
        · intro b _
          have e : (PyData.tuple (b.map PyData.int)).depth ≤ 2 := by
            simp [PyData.depth, PySem.W.depth_ints]
          show (PyData.tuple (b.map PyData.int)).depth ≤ 60
          omega
        exact q o ys _ H7 (S6.trans S7) (same_none S6 n7) h7 (each_imp (fun x b ⟨a, e, h⟩ => ⟨a, e, S7 _ _ h⟩) hys) (law_blks W inv lab knd km hgood)
end
end Sb

/-! ## ZR32 -/
/-! The law's own look at webs: who is reached, what a bay is, what a web is. -/

namespace Sb
open PySem PySem.Spec PyProof.Rows L2
/-! ### found ones as a dict -/
abbrev sReached : Stmt := top 33
def keysK (ks : List Int) : List (Key × V) := ks.map fun k => (Sum.inl k, V.bl true)
theorem keysK_val : ∀ (ks : List Int) (z : Int), valV (keysK ks) (Sum.inl z) = if z ∈ ks then some (.bl true) else none
  | [], z => by
    rw [if_neg (List.not_mem_nil)]
    rfl
  | k :: r, z => by
    by_cases e : k = z
    · subst e
      rw [if_pos List.mem_cons_self]
      exact valV_pos rfl
    · have q : valV (keysK (k :: r)) (Sum.inl z) = valV (keysK r) (Sum.inl z) := valV_neg fun h => e (Sum.inl.inj h)
      rw [q, keysK_val r z]
      by_cases m : z ∈ r
      · rw [if_pos m, if_pos (List.mem_cons_of_mem _ m)]
      · rw [if_neg m, if_neg fun h => (List.mem_cons.mp h).elim (fun h => e h.symm) m]
theorem keysK_put {ks : List Int} {z : Int} (h : z ∉ ks) : putK (keysK ks) (Sum.inl z) (.bl true) = keysK (ks ++ [z]) := by
  rw [putK_new _ (by rw [keysK_val, if_neg h])]
  unfold keysK
  rw [List.map_append]
  rfl
def okB (bv : V) (z : Int) : Prop := V.int z ≠ bv
/-- under way: fr waits, what ex names is being looked at -/
structure RI (n : Nat) (ts : List (Int × Int)) (ok : Int → Prop) (a : Int) (ks fr ex : List Int) : Prop where
  nd : ks.Nodup
  inn : ∀ k ∈ ks, 0 ≤ k ∧ k < (n : Int)
  from_ : ∀ k ∈ ks, Rx ts ok a k
  has : a ∈ ks
  sub : ∀ k ∈ fr, k ∈ ks
  shut : ∀ k ∈ ks, k ∉ fr → k ∉ ex → ∀ z ∈ gR (rowsOf n ts) k, ok z → z ∈ ks
theorem RI.start {n : Nat} {ts : List (Int × Int)} {ok : Int → Prop} {a : Int} (a0 : 0 ≤ a) (a1 : a < (n : Int)) : RI n ts ok a [a] [a] [] :=
  ⟨List.nodup_cons.mpr ⟨List.not_mem_nil, List.nodup_nil⟩, fun k hk => by rw [List.mem_singleton.mp hk]; exact ⟨a0, a1⟩, fun k hk => by rw [List.mem_singleton.mp hk]; exact .refl, List.mem_singleton.mpr rfl, fun k hk => hk, fun k hk nk => absurd hk nk⟩
theorem RI.open {n : Nat} {ts : List (Int × Int)} {ok : Int → Prop} {a one : Int} {ks fr : List Int} (h : RI n ts ok a ks (fr ++ [one]) []) : RI n ts ok a ks fr [one] ∧ one ∈ ks :=
  ⟨⟨h.nd, h.inn, h.from_, h.has, fun k hk => h.sub k (List.mem_append_left _ hk), fun k hk n1 n2 => h.shut k hk (fun z => (List.mem_append.mp z).elim n1 n2) List.not_mem_nil⟩, h.sub one (List.mem_append_right _ (List.mem_singleton.mpr rfl))⟩
theorem RI.add {n : Nat} {ts : List (Int × Int)} {ok : Int → Prop} {a one z : Int} {ks fr : List Int} (h : RI n ts ok a ks fr [one]) (hti : ∀ t ∈ ts, tieIn n t ∧ t.1 ≠ t.2) (ho : one ∈ ks) (hz : z ∈ gR (rowsOf n ts) one) (hk : ok z) (nz : z ∉ ks) (z0 : 0 ≤ z) (z1 : z < (n : Int)) :
    RI n ts ok a (ks ++ [z]) (fr ++ [z]) [one] where
  nd := List.nodup_append.mpr ⟨h.nd, List.nodup_cons.mpr ⟨List.not_mem_nil, List.nodup_nil⟩, fun x hx y hy e => nz (by rw [List.mem_singleton.mp hy] at e; exact e ▸ hx)⟩
  inn := fun k hk => (List.mem_append.mp hk).elim (h.inn k) fun e => by rw [List.mem_singleton.mp e]; exact ⟨z0, z1⟩
  from_ := fun k hk => (List.mem_append.mp hk).elim (h.from_ k) fun e => by
    rw [List.mem_singleton.mp e]
    exact .step (h.from_ one ho) ((rows_iff hti (h.inn one ho).1).mp hz) ‹ok z›
  has := List.mem_append_left _ h.has
  sub := fun k hk => (List.mem_append.mp hk).elim (fun e => List.mem_append_left _ (h.sub k e)) fun e => List.mem_append_right _ e
  shut := fun k hk n1 n2 y hy oy => by
    have n3 : k ≠ z := fun e => n1 (List.mem_append_right _ (List.mem_singleton.mpr e))
    have hk2 : k ∈ ks := (List.mem_append.mp hk).elim id fun e => absurd (List.mem_singleton.mp e) n3
    exact List.mem_append_left _ (h.shut k hk2 (fun e => n1 (List.mem_append_left _ e)) n2 y hy oy)
theorem RI.close {n : Nat} {ts : List (Int × Int)} {ok : Int → Prop} {a one : Int} {ks fr : List Int} (h : RI n ts ok a ks fr [one]) (hall : ∀ z ∈ gR (rowsOf n ts) one, ok z → z ∈ ks) : RI n ts ok a ks fr [] :=
  ⟨h.nd, h.inn, h.from_, h.has, h.sub, fun k hk n1 _ => by
    by_cases e : k = one
    · rw [e]
      exact hall
    · exact h.shut k hk n1 fun z => e (List.mem_singleton.mp z)⟩
theorem RI.found {n : Nat} {ts : List (Int × Int)} {ok : Int → Prop} {a : Int} {ks : List Int} (h : RI n ts ok a ks [] []) : Found n ts ok a ks :=
  ⟨h.nd, h.inn, h.from_, h.has, fun k hk => h.shut k hk List.not_mem_nil List.not_mem_nil⟩
/-- a tie's other ends: as the rows tell -/
theorem near_mem {n : Nat} {ts : List (Int × Int)} (hti : ∀ t ∈ ts, tieIn n t ∧ t.1 ≠ t.2) {k z : Int} (k0 : 0 ≤ k) {out : List Int} (p : out.Perm (nearA k ts ++ nearB k ts)) : z ∈ out ↔ z ∈ gR (rowsOf n ts) k := by
  rw [p.mem_iff, rows_iff hti k0, List.mem_append]
  unfold nearA nearB
  rw [List.mem_filterMap, List.mem_filterMap]
  constructor
  · rintro (⟨⟨x, y⟩, h1, h2⟩ | ⟨⟨x, y⟩, h1, h2⟩)
    · by_cases e : y = k
      · rw [if_pos (show (x, y).2 = k from e)] at h2
        cases h2
        exact .inr (e ▸ h1)
      · rw [if_neg (show ¬ (x, y).2 = k from e)] at h2
        cases h2
    · by_cases e : x = k
      · rw [if_pos (show (x, y).1 = k from e)] at h2
        cases h2
        exact .inl (e ▸ h1)
      · rw [if_neg (show ¬ (x, y).1 = k from e)] at h2
        cases h2
  · rintro (h | h)
    · exact .inr ⟨_, h, if_pos rfl⟩
    · exact .inl ⟨_, h, if_pos rfl⟩
def spReached (K : PySem.W.Frag) : Sp := fun vs H Q _ => ∃ (t : Addr) (ts : List (Int × Int)) (a : Int) (bv : V) (n : Nat), vs = [.ref t, .int a, bv] ∧ Ties K H t ts ∧ ts.length ≤ 100000 ∧ (∀ t ∈ ts, tieIn n t ∧ t.1 ≠ t.2) ∧ n ≤ 1000 ∧ 0 ≤ a ∧ a < (n : Int) ∧ (∀ z : Int, scal (.int z) bv = true) ∧
  ∀ F ks H', Same H H' → H F = none → H' F = some (.dK (keysK ks)) → Found n ts (okB bv) a ks → Q (.ref F) H'
def ReachInv (H : Hp) (t : Addr) (ts : List (Int × Int)) (a : Int) (bv : V) (n : Nat) (m : Nat) (σ : L2.St) (H' : Hp) : Prop :=
  ∃ (F L : Addr) (ks fr : List Int) (u : Option V), σ = [some (.ref t), some (.int a), some bv, some (.ref F), some (.ref L), u] ∧ Same H H' ∧ H F = none ∧ H L = none ∧ F ≠ L ∧ H' F = some (.dK (keysK ks)) ∧ H' L = some (.lst (fr.map V.int)) ∧ RI n ts (okB bv) a ks fr [] ∧ 2 * (n - ks.length) + fr.length ≤ m ∧ m ≤ 2 * n + 1
section
variable {P : Program} {w : World} {K : PySem.W.Frag} {mg : Str → Option Value} {base : Heap}
abbrev scReachedN : List Str := ["ties", "bay", "barred", "found", "waiting", "other"]
abbrev scReachedS : Scope := defScope sReached
theorem scReached : FnScope ["ties", "bay", "barred", "found", "waiting", "other"] ["ties", "bay", "barred"] (defScope sReached) := ⟨rfl, rfl, rfl, by decide +kernel, rfl, by decide +kernel, by decide +kernel⟩
theorem ok_reached {f fN : Addr} {fd fdN : FuncData} (F : FnP K "_law_reached" sReached f fd) (FN : FnP K "_law_near" sNear fN fdN) (gN : mg "_law_near" = some (.ref fN)) (GN : FnOk P w K mg base CX0 1 fN fdN ["ties", "bay"] (spNear K)) : FnOk P w K mg base CX0 2 f fd ["ties", "bay", "barred"] (spReached K) := by
  have bN : Binds K fdN ["ties", "bay"] [] := FN.bindsN fun _ _ _ _ _ _ us hl => match us, hl with | [_, _], _ => rfl
  refine ok0 F scReached (fun vs H Q E h => ?_) (fun cdv A outer s H vs Q E hr h => ?_)
  · obtain ⟨t, ts, a, bv, n, rfl, _⟩ := h
    rfl
  · have hu := hu_of hr
    obtain ⟨t, ts, a, bv, n, rfl, hT, hl, hti, hn, a0, a1, hsc, q⟩ := h
    refine ⟨_, (pss_cons (ps_par (i := 3) (j := 4) (by rfl) scReached.nd rfl rfl (by decide) rfl rfl (pa_cons (pe_disp (pps_cons (pv 1) pe_bl pps_nil) rfl rfl (List.cons_ne_nil _ _) (by decide)) (pa_cons (pe_lstL (pa_cons (pv 1) pa_nil)) pa_nil)) (by rfl))
    (pss_cons (ps_while PassesOwn.never (pt_cmpR (op_neE hr.units) (pv 4) (pe_lstL pa_nil) (nomark _))
      (pss_one (ps_for PassesOwn.never rfl (pi_list (pe_call GN hr rfl gN FN.kp bN .nil pass0 (pa_cons (pv 0) (pa_cons (pe_bm0 PySem.F.plainAttrs_list PySem.F.slot_list_pop PySem.F.type_list_pop mt_pop (pv 4)) pa_nil)))) (pg_name (i := 5) scReached.nd rfl (Or.inl rfl))
      (pss_one (ps_if (PW.pt (pw_and (pt_cmpR op_ne (pv 5) (pv 2) (nomark _)) (pw_and1 (pt_cmp (pc_dnotin hu (pv 5) (pv 3))))))
      (pss_cons (ps_dput hu (pv 3) (pv 5) pe_bl rfl)
    (pss_one (ps_expr (pe_bm PySem.F.plainAttrs_list PySem.F.slot_list_append PySem.F.type_list_append mt_appendL (pv 4) (pa_cons (pv 5) pa_nil)))))
      pss_nil)))))
    (pss_one (ps_ret (pv 3))))), ?_⟩
    refine fun F0 nF => ⟨_, rfl, upd_same, [(Sum.inl a, .bl true)], rfl, by show 1 ≤ 15; decide, ?_⟩
    have eF : (upd (upd H F0 (.dK [])) F0 (.dK (mergeK [] [((Sum.inl a : Key), V.bl true)]))) F0 = some (.dK (keysK [a])) := upd_same
    have SF : Same H (upd (upd H F0 (.dK [])) F0 (.dK (mergeK [] [((Sum.inl a : Key), V.bl true)]))) := fun c o hc => by
      rw [upd_ne (ne_of_none hc nF), upd_ne (ne_of_none hc nF)]
      exact hc
    generalize (upd (upd H F0 (.dK [])) F0 (.dK (mergeK [] [((Sum.inl a : Key), V.bl true)]))) = H1 at eF SF
    refine ⟨_, rfl, by show 1 ≤ sizeLine; decide, fun L0 H2 nL S2 h2 => ?_⟩
    refine ⟨_, _, rfl, ReachInv H t ts a bv n, ⟨2 * (n - 1) + 1, F0, L0, [a], [a], none, rfl, SF.trans S2, nF, SF.free nL, ne_of_none eF nL, S2 _ _ eF, h2, RI.start a0 a1, Nat.le_refl _, by omega⟩, ?_⟩
    rintro m σ H3 ⟨Fd, L, ks, fr, u, rfl, S3, nFd, nL3, nFL, hF3, hL3, ri, hm, hm2⟩
    refine ⟨_, rfl, by show 0 ≤ sizeLine; decide, fun E0 H4 n4 S4 h4 => ⟨L, E0, fr, rfl, rfl, SqL.of (S4 _ _ hL3), SqL.of h4, _, rfl, ?_⟩⟩
    have S34 := S3.trans S4
    have hF4 := S4 _ _ hF3
    have hL4 := S4 _ _ hL3
    by_cases hfe : fr = []
    · subst hfe
      exact iteC rfl ⟨_, rfl, q Fd ks H4 S34 nFd hF4 ri.found⟩
    obtain ⟨fr', one, rfl⟩ : ∃ fr' one, fr = fr' ++ [one] := ⟨fr.dropLast, fr.getLast hfe, (List.dropLast_concat_getLast hfe).symm⟩
    rw [List.length_append, List.length_singleton] at hm
    obtain ⟨m', rfl⟩ : ∃ m', m = m' + 1 := ⟨m - 1, by omega⟩
    have hne : (!(fr' ++ [one]).isEmpty) = true := by
      cases fr' <;> rfl
    refine iteD hne ⟨ReachInv H t ts a bv n m', fun σ' H'' h => ⟨m', Nat.lt_succ_self _, h⟩, ?_⟩
    have eL : (fr' ++ [one]).map V.int = fr'.map V.int ++ [.int one] := by rw [List.map_append]; rfl
    rw [eL] at hL4
    refine ⟨_, rfl, _, rfl, .inl ⟨rfl, _, SqL.of hL4⟩, L, _, .int one, rfl, rfl, hL4, by rw [List.length_append, List.length_singleton, Nat.add_sub_cancel, List.getElem?_append_right (Nat.le_refl _), Nat.sub_self]; rfl, ?_⟩
    rw [List.dropLast_concat]
    have S5 : Same H (upd H4 L (.lst (fr'.map V.int))) := same_but S34 nL3 but_upd
    have hF5 : (upd H4 L (.lst (fr'.map V.int))) Fd = some (.dK (keysK ks)) := by rw [upd_ne nFL]; exact hF4
    have hL5 : (upd H4 L (.lst (fr'.map V.int))) L = some (.lst (fr'.map V.int)) := upd_same
    generalize upd H4 L (.lst (fr'.map V.int)) = H5 at S5 hF5 hL5
    obtain ⟨ri1, ho⟩ := ri.open
    obtain ⟨o0, o1⟩ := ri1.inn one ho
    refine ⟨t, ts, one, rfl, hT.same S5, hl, fun out p H6 hp hs S6 np h6 => ?_⟩
    have npF : p ≠ Fd := (ne_of_none hF5 np).symm
    have npL : p ≠ L := (ne_of_none hL5 np).symm
    refine ⟨p, rfl, ⟨_, SqL.of h6⟩, for_list (K := K) (a := p) (xs := out.map V.int) (fun j σ H' => ∃ (ks fr : List Int) (u : Option V), σ = [some (.ref t), some (.int a), some bv, some (.ref Fd), some (.ref L), u] ∧ Same H H' ∧ H' p = some (.lst (out.map V.int)) ∧ H' Fd = some (.dK (keysK ks)) ∧ H' L = some (.lst (fr.map V.int)) ∧
        RI n ts (okB bv) a ks fr [one] ∧ one ∈ ks ∧ 2 * (n - ks.length) + fr.length ≤ m' ∧ ∀ z ∈ out.take j, okB bv z → z ∈ ks)
      ⟨ks, fr', _, rfl, S5.trans S6, h6, S6 _ _ hF5, S6 _ _ hL5, ri1, ho, by omega, fun z hz => by rw [List.take_zero] at hz; cases hz⟩ (fun j σ H' _ ⟨_, _, _, _, _, h, _⟩ => SqL.of h) ?_ ?_⟩
    · rintro j y σ H7 hj ⟨ks7, fr7, u7, rfl, S7, hp7, hF7, hL7, ri7, ho7, hm7, hdone⟩
      obtain ⟨near, hn7, rfl⟩ := getMap hj
      have hnm := (near_mem hti o0 hp).mp (List.mem_of_getElem? hn7)
      obtain ⟨z0, z1⟩ := rowsOf_in (fun t ht => (hti t ht).1) _ near hnm
      have cnt := (found_count ri7.nd ri7.inn).1
      have tk : ∀ z ∈ out.take (j + 1), z ∈ out.take j ∨ z = near := fun z hz => by
        rw [take_more hn7] at hz
        exact (List.mem_append.mp hz).elim .inl fun e => .inr (List.mem_singleton.mp e)
      refine ⟨_, rfl, _, rfl, hsc near, _, rfl, ?_⟩
      by_cases hok : okB bv near
      · refine iteD (by rw [decide_eq_false hok]; rfl) ⟨_, rfl, _, rfl, Fd, _, rfl, DGet.k (k := Sum.inl near) hF7, _, rfl, ?_⟩
        rw [keysK_val]
        by_cases hin : near ∈ ks7
        · rw [if_pos hin]
          exact iteC rfl ⟨ks7, fr7, _, rfl, S7, hp7, hF7, hL7, ri7, ho7, hm7, fun z hz oz => (tk z hz).elim (fun h => hdone z h oz) fun e => e ▸ hin⟩
        · rw [if_neg hin]
          have lk : (keysK ks7).length = ks7.length := List.length_map _
          refine iteD rfl ⟨_, rfl, _, rfl, Fd, _, rfl, DPut.k (k := Sum.inl near) hF7 (by rw [lk, sizeLine_eq]; omega), ?_⟩
          rw [keysK_put hin]
          have B8 : But Fd H7 (upd H7 Fd (.dK (keysK (ks7 ++ [near])))) := but_upd
          have e8 : (upd H7 Fd (.dK (keysK (ks7 ++ [near])))) Fd = some (.dK (keysK (ks7 ++ [near]))) := upd_same
          generalize (upd H7 Fd (.dK (keysK (ks7 ++ [near])))) = H8 at B8 e8
          have hL8 := B8 _ _ nFL.symm hL7
          have ri8 := ri7.add hti ho7 hnm hok hin z0 z1
          have cnt8 := (found_count ri8.nd ri8.inn).1
          rw [List.length_append, List.length_singleton] at cnt8
          refine ⟨_, rfl, .inl ⟨rfl, _, SqL.of hL8⟩, _, rfl, L, _, _, rfl, rfl, hL8, by rw [List.length_map, sizeLine_eq]; omega, fun H9 B9 h9 => ?_⟩
          refine ⟨ks7 ++ [near], fr7 ++ [near], _, rfl, same_but (same_but S7 nFd B8) nL3 B9, B9 _ _ npL (B8 _ _ npF hp7), B9 _ _ nFL e8, by rw [h9, List.map_append]; rfl, ri8, List.mem_append_left _ ho7, ?_, fun z hz oz => ?_⟩
          · rw [List.length_append, List.length_append, List.length_singleton]
            show 2 * (n - (ks7.length + 1)) + (fr7.length + 1) ≤ m'
            omega
          · exact (tk z hz).elim (fun h => List.mem_append_left _ (hdone z h oz)) fun e => List.mem_append_right _ (List.mem_singleton.mpr e)
      · have hok2 : V.int near = bv := Decidable.byContradiction fun h => hok h
        exact iteC (by rw [decide_eq_true hok2]; rfl) ⟨ks7, fr7, _, rfl, S7, hp7, hF7, hL7, ri7, ho7, hm7, fun z hz oz => (tk z hz).elim (fun h => hdone z h oz) fun e => absurd (e ▸ oz) hok⟩
    · rintro σ H7 ⟨ks7, fr7, u7, rfl, S7, hp7, hF7, hL7, ri7, ho7, hm7, hdone⟩
      rw [List.length_map, List.take_length] at hdone
      exact ⟨Fd, L, ks7, fr7, _, rfl, S7, nFd, nL3, nFL, hF7, hL7, ri7.close fun z hz oz => hdone z ((near_mem hti o0 hp).mpr hz) oz, hm7, by omega⟩
end
end Sb

/-! ## LG32 -/
/-! The law's gate. -/
namespace Sb
open PySem PySem.Spec PyProof.Rows L2
abbrev sGate : Stmt := top 42
def rEqE (K : PySem.W.Frag) : R2 := fun x y H Q => ∃ (l e : Addr) (xs : List Int), x = .ref l ∧ y = .ref e ∧ SqL K H l (xs.map V.int) ∧ SqL K H e [] ∧ Q (.bl xs.isEmpty) H
theorem op_eqE {X : Cx} (hu : X.A.units + 64 < cLine) : OpR X (compareOp .Eq) (rEqE X.K) := OpR.weak (op_eqD hu) fun _ _ _ _ ⟨l, e, xs, a, b, hl, he, q⟩ => ⟨.list (xs.map PyData.int), .list [], by rw [a]; exact .lst hl (dp_ints xs), by rw [b]; exact .lst he .nil, shaped_ints xs, by decide +kernel, by rw [eqv_nil]; exact q⟩
theorem wk_rx {ts : List (Int × Int)} {x a b : Int} : Wk (EdT ts) x a b ↔ Rx ts (okB (.int x)) a b := by
  have e : ∀ c : Int, okB (.int x) c ↔ c ≠ x := fun c => ⟨fun h z => h (congrArg V.int z), fun h z => h (V.int.inj z)⟩
  constructor
  · intro h
    induction h with
    | refl => exact .refl
    | step _ t n ih => exact .step ih t ((e _).mpr n)
  · intro h
    induction h with
    | refl => exact .refl
    | step _ t n ih => exact .step ih t ((e _).mp n)
/-- at a bay of a block: nothing of the block is reached just if the bay is the gate -/
theorem gate_here {n : Nat} {ts : List (Int × Int)} (W : WebP n ts) {b : List Int} {t x : Int} (hb : BlkS n (wPar n ts) (wDep n ts) (EdT ts) b t) (n0 : (0 : Int) ∉ b) (hx : x ∈ b) {ks : List Int} (F : Found n ts (okB (.int x)) 0 ks) : (b.filter fun y => decide (y ∈ ks)) = [] ↔ x = wPar n ts t := by
  have G := w_gt W
  have n2 := W.n2
  have nx : x ≠ 0 := fun e => n0 (e ▸ hx)
  have ng : wPar n ts t ≠ 0 := fun e => n0 ((hb.mem 0).mpr (.inr e.symm))
  rw [← gate_bars G (by omega) hb.top ng ((hb.mem x).mp hx), List.filter_eq_nil_iff]
  have kk : ∀ y, y ∈ ks ↔ Wk (EdT ts) x 0 y := fun y => by
    rw [wk_rx]
    exact ⟨F.from_ y, fun r => F.all W.ti r⟩
  constructor
  · intro h y hy ne hw
    exact h y ((hb.mem y).mpr hy) (decide_eq_true ((kk y).mpr hw))
  · intro h y hy hk
    have hw := (kk y).mp (of_decide_eq_true hk)
    by_cases e : y = x
    · subst e
      cases hw with
      | refl => exact nx rfl
      | step _ _ n => exact n rfl
    · exact h y ((hb.mem y).mp hy) e hw
def spGate (K : PySem.W.Frag) : Sp := fun vs H Q _ => ∃ (v : V) (n : Nat) (ts : List (Int × Int)) (a : Addr) (b : List Int) (t : Int), vs = [v, .ref a] ∧ WebAt K H v n ts ∧ WebP n ts ∧ ts.length ≤ 100000 ∧ SqT K H a (b.map V.int) ∧ b.length ≤ 1000 ∧ BlkS n (wPar n ts) (wDep n ts) (EdT ts) b t ∧ ∀ H', Same H H' → Q (.int (wPar n ts t)) H'
section
variable {P : Program} {w : World} {K : PySem.W.Frag} {mg : Str → Option Value} {base : Heap}
theorem din_kK (ks : List Int) (z : Int) : (valV (keysK ks) (Sum.inl z)).isSome = decide (z ∈ ks) := by
  rw [keysK_val]
  by_cases h : z ∈ ks
  · rw [if_pos h, decide_eq_true h]
    rfl
  · rw [if_neg h, decide_eq_false h]
    rfl
abbrev scGateN : List Str := ["web", "block", "bay", "reached", "other"]
abbrev scGateS : Scope := defScope sGate
theorem scGate : FnScope ["web", "block", "bay", "reached", "other"] ["web", "block"] (defScope sGate) := ⟨rfl, rfl, rfl, by decide +kernel, rfl, by decide +kernel, by decide +kernel⟩
theorem ok_gate {f fR : Addr} {fd fdR : FuncData} (F : FnP K "_law_gate" sGate f fd) (FR : FnP K "_law_reached" sReached fR fdR) (gR_ : mg "_law_reached" = some (.ref fR)) (GR : FnOk P w K mg base CX0 2 fR fdR ["ties", "bay", "barred"] (spReached K)) : FnOk P w K mg base CX0 3 f fd ["web", "block"] (spGate K) := by
  have bR : Binds K fdR ["ties", "bay", "barred"] [] := FR.bindsN fun _ _ _ _ _ _ us hl => match us, hl with | [_, _, _], _ => rfl
  refine ok0 F scGate (fun vs H Q E h => ?_) (fun cdv A outer s H vs Q E hr h => ?_)
  · obtain ⟨v, n, ts, a, b, t, rfl, _⟩ := h
    rfl
  · have hu := hu_of hr
    obtain ⟨v, n, ts, a, b, t, rfl, hW, W, hl, ha, hbl, hb, q⟩ := h
    refine ⟨_, (pss_cons (ps_if (pt_cmpR op_in_seq pe_int (pv 1) (by rfl))
      (pss_one (ps_ret pe_int))
      pss_nil)
    (pss_cons (ps_for PassesOwn.never rfl (pi_tup (pv 1)) (pg_name (i := 2) scGate.nd rfl (Or.inl rfl))
      (pss_cons (ps_set (i := 3) scGate.nd rfl (Or.inr rfl) (pe_call GR hr rfl gR_ FR.kp bR .nil pass0 (pa_cons (pe_ix ix_tup (pv 0) pe_int (fun _ _ => rfl)) (pa_cons pe_int (pa_cons (pv 2) pa_nil)))))
    (pss_one (ps_if (pt_cmpR (op_eqE hr.units) (pe_lc (own := [("other", 4)]) (g := gName 4) (by rfl) scGate.nd (pi_tup (pv 1)) (blkOk_by (own := [("other", 4)]) (N := scGateN) (sc := scGateS) (by decide +kernel)) (fun _ _ _ _ _ => pg_name (i := 4) scGate.nd rfl (Or.inl rfl)) (fun _ _ _ _ _ => pts_one (pt_cmp (pc_din hu (pv 4) (pv 3)))) (fun _ _ _ _ _ => (pv 4))) (pe_lstL pa_nil) (nomark _))
      (pss_one (ps_ret (pv 2)))
      pss_nil))))
    (pss_one (ps_ret pe_non)))), ?_⟩
    obtain ⟨wa, wt, rfl, hwa, hwt⟩ := hW
    have n2 := W.n2
    have n40 := W.n40
    have hpar : wPar n ts t ∈ b := (hb.mem _).mpr (.inr rfl)
    refine ⟨_, rfl, a, _, rfl, .inr ha, rfl, flat_ints, _, rfl, ?_⟩
    by_cases h0 : (0 : Int) ∈ b
    · refine iteD (by rw [inV_ints, decide_eq_true h0]; rfl) ?_
      have e : wPar n ts t = 0 := by
        rcases (hb.mem 0).mp h0 with z | z
        · exact absurd rfl (jc_in (w_gt W) z hb.top.t0 hb.top.t1 hb.top.nt).2.2
        · exact z.symm
      have z := q H (Same.refl H)
      rw [e] at z
      exact z
    refine iteC (by rw [inV_ints, decide_eq_false h0]; rfl) ?_
    refine ⟨_, rfl, a, rfl, ⟨_, ha⟩, for_tup (K := K) (a := a) (xs := b.map V.int) (fun i σ H' => (∃ u3 u4, σ = [some (.ref wa), some (.ref a), u3, u4, none]) ∧ Same H H' ∧ wPar n ts t ∉ b.take i) ⟨⟨_, _, rfl⟩, Same.refl H, by rw [List.take_zero]; exact fun z => by cases z⟩ (fun i σ H' _ ⟨_, S, _⟩ => sqT_same S ha) ?_ ?_⟩
    · rintro i y σ H1 hi ⟨⟨u3, u4, rfl⟩, S1, hno⟩
      obtain ⟨x, hx, rfl⟩ := getMap hi
      have hxb := List.mem_of_getElem? hx
      refine ⟨_, rfl, wa, _, _, _, rfl, rfl, sqT_same S1 hwa, at_of (j := 1) rfl rfl, _, rfl, wt, ts, 0, .int x, n, rfl, hwt.same S1, hl, W.ti, by omega, Int.le_refl 0, by omega, fun z => rfl, fun Fd ks H2 S2 nF hF Fn => ?_⟩
      have S12 := S1.trans S2
      have key := gate_here W hb h0 hxb Fn
      refine ⟨_, rfl, a, rfl, ⟨_, sqT_same S12 ha⟩, fun D hD => lc_tup (K := K) (a := a) (xs := b.map V.int) (fun j H' => Same H2 H' ∧ H' D = some (.lst (((b.take j).filter fun y => decide (y ∈ ks)).map V.int))) ⟨same_upd hD, by rw [upd_same, List.take_zero]; rfl⟩ (fun j H' _ ⟨S, _⟩ => sqT_same (S12.trans S) ha) ?_ ?_⟩
      · rintro j y H3 hj ⟨S3, h3⟩
        obtain ⟨o, ho, rfl⟩ := getMap hj
        have fm := filter_more (p := fun y => decide (y ∈ ks)) ho
        refine ⟨rfl, _, rfl, _, rfl, Fd, _, rfl, DGet.k (k := Sum.inl o) (S3 _ _ hF), _, rfl, ?_⟩
        rw [din_kK]
        by_cases hin : o ∈ ks
        · rw [if_pos (decide_eq_true hin)] at fm
          refine iteD (decide_eq_true hin) ⟨_, rfl, _, h3, ?_, fun u w' hu' => by rw [upd_ne (ne_of_none hu' hD)]; exact S3 _ _ hu', ?_⟩
          · rw [List.length_map]
            have := List.length_filter_le (fun y => decide (y ∈ ks)) (b.take j)
            rw [List.length_take] at this
            unfold sizeLine
            omega
          · rw [upd_same, fm, List.map_append]
            rfl
        · rw [if_neg (by rw [decide_eq_false hin]; exact Bool.false_ne_true), List.append_nil] at fm
          exact iteC (decide_eq_false hin) ⟨S3, by rw [h3, fm]⟩
      rintro H3 ⟨S3, h3⟩
      rw [List.length_map, List.take_length] at h3
      refine ⟨by show 0 ≤ sizeLine; decide, fun E0 H4 n4 S4 h4 => ⟨D, E0, _, rfl, rfl, SqL.of (S4 _ _ h3), SqL.of h4, _, rfl, ?_⟩⟩
      have S14 := (S12.trans S3).trans S4
      by_cases hg : x = wPar n ts t
      · have z := q H4 S14
        refine iteD (by rw [key.mpr hg]; rfl) ⟨_, rfl, ?_⟩
        rw [hg]
        exact z
      · have hne : (b.filter fun y => decide (y ∈ ks)).isEmpty = false := by
          cases e : b.filter fun y => decide (y ∈ ks) with
          | nil => exact absurd (key.mp e) hg
          | cons _ _ => rfl
        refine iteC hne ⟨⟨_, _, rfl⟩, S14, ?_⟩
        rw [take_more hx]
        intro z
        rcases List.mem_append.mp z with z | z
        · exact hno z
        · exact hg (List.mem_singleton.mp z).symm
    · rintro σ H1 ⟨_, _, hno⟩
      rw [List.length_map, List.take_length] at hno
      exact absurd hpar hno
end
end Sb

/-! ## KL32 -/
/-! The law. -/
namespace Sb
open PySem PySem.Spec PyProof.Rows L2
open LamX (ExtN Tabs TabS)
open PySem.W (EachIs)
abbrev sWord : Stmt := top 39
abbrev sLaw : Stmt := top 43
/-- the classes NoWeb and BayError, as the head tells them -/
structure ErrV (K : PySem.W.Frag) (mg : Str → Option Value) (C C1 : Addr) : Prop extends ErrW K mg C where
  gb : mg "BayError" = some (.ref C1)
  exm : PySem.W.exmOne K (.ref C) (.ref C) = some true
/-- what _law_word makes of a call -/
def TWord (C : Addr) : (XK → Hp → VK → Prop) → Hp → VK → Prop := fun tl H Q => tl (fun cls d H' => cls = .ref C ∧ Q (.str "web") H') H (fun _ H' => Q (.str "none") H')
theorem scWord : FnScope ["call", "e"] ["call"] (defScope sWord) := ⟨rfl, rfl, rfl, by decide +kernel, rfl, by decide +kernel, by decide +kernel⟩
theorem word_gives {X : Cx} {C C1 : Addr} {g : Addr} {cdg : Value} {q : Str} (E : ErrV X.K X.mg C C1) : LamX.GivesTo X ["call", "e"] "_law_word" (defScope sWord) g cdg (defBody sWord) "call" q (TWord C) := by
  intro f c' s H Q tl act hc h
  refine ⟨_, pss_cons (ps_try_row (n := "e") (i := 1) (Wo := fun _ _ _ _ => False) (tb := fun W D σ H => ∃ Ech : XK, (∀ cls d σ' H', Ech cls d H' → W cls d σ' H') ∧ σ[0]? = some (some (.ref f)) ∧ H c' = some (LamX.CodeO c' q) ∧ tl Ech H (fun _ H' => D.nx σ H'))
      rfl rfl (show (["call", "e"] : List Str).Nodup by decide +kernel) rfl rfl takes0 (fun W pn xe tk _ => ?_)
      (.cons (c := .ref C) ⟨rfl, by decide, .inl E.gs⟩ (fun a oe cls d pn hz hf => pss_one (ps_ret pe_str)) (.cons (c := .ref C1) ⟨rfl, by decide, .inl E.gb⟩ (fun a oe cls d pn hz hf => pss_one (ps_ret pe_str)) .nil))) (pss_one (ps_ret pe_str)), ?_⟩
  · refine ⟨fun pins s' σ H' D I h' => ?_⟩
    obtain ⟨Ech, hW, h1, h2, h3⟩ := h'
    exact (pss_one (ps_expr (act W pn xe Ech _ _ tk hW))).run pins s' σ H' D I ⟨h1, h2, h3⟩
  · refine ⟨_, fun cls d σ' H' hw => ?_, rfl, hc, h⟩
    obtain ⟨rfl, q⟩ := hw
    exact ⟨true, E.exm, fun _ a na => q, fun z => Bool.noConfusion z⟩
/-! ### blocks and gates as things -/
def tupD (b : List Int) : PyData := .tuple (b.map PyData.int)
def GateOf (n : Nat) (ts : List (Int × Int)) (g : Int) (b : List Int) : Prop := ∃ t, BlkS n (wPar n ts) (wDep n ts) (EdT ts) b t ∧ g = wPar n ts t
theorem all_tups {H : Hp} {xs : List V} {bs : List (List Int)} (h : EachIs (TupB H) xs bs) : ThAll H xs (bs.map tupD) := by
  induction h with
  | nil => exact .nil
  | @cons x b xs bs hx _ ih =>
    obtain ⟨a, rfl, ha⟩ := hx
    exact .cons (th_tints ha) ih
theorem tups_nod : ∀ {bs : List (List Int)}, (∀ b ∈ bs, b.length ≤ 40 ∧ ∀ z ∈ b, 0 ≤ z ∧ z ≤ 100) → NoDs 1 (41 * bs.length) (bs.map tupD)
  | [], _ => NoDs.nil
  | b :: bs, h => by
    obtain ⟨h1, h2⟩ := h b List.mem_cons_self
    have d : NoD 1 40 (tupD b) := ((ints_nod (a := 0) h2).tup).mono (Nat.le_refl _) h1
    have g := NoDs.cons d (tups_nod (bs := bs) fun c hc => h c (List.mem_cons_of_mem _ hc))
    rw [show 40 + 1 + 41 * bs.length = 41 * (b :: bs).length by rw [List.length_cons]; omega] at g
    exact g
/-- the text of blocks and gates -/
def bgText (bs : List (List Int)) (gs : List Int) : PyData := .list [.list (bs.map tupD), .list (gs.map PyData.int)]
theorem bg_ok {n : Nat} {ts : List (Int × Int)} (W : WebP n ts) {bs : List (List Int)} {gs : List Int} (hb : Blks n (wPar n ts) (wDep n ts) (EdT ts) bs) (hg : EachIs (GateOf n ts) gs bs) (hl : bs.length ≤ 64) : OKD (bgText bs gs) := by
  have n40 := W.n40
  have h1 : NoDs 1 (41 * bs.length) (bs.map tupD) := tups_nod fun b h => by
    obtain ⟨t, ht⟩ := hb.each b h
    obtain ⟨hin, _⟩ := blkS_in W ht
    have nd : b.Nodup := ht.asc.imp fun {a b} h e => by
      have h : a < b := h
      omega
    have := (found_count nd hin).1
    refine ⟨by omega, fun z hz => ?_⟩
    have := hin z hz
    omega
  have lg : gs.length ≤ 64 := by rw [each_len hg]; exact hl
  have h2 : NoDs 0 gs.length (gs.map PyData.int) := ints_nod fun z hz => by
    obtain ⟨i, hi⟩ := List.mem_iff_getElem?.mp hz
    obtain ⟨b, hb2, t, ht, rfl⟩ := each_get hg hi
    have := (w_tree W).up t ht.top.t0 ht.top.t1 ht.top.nt
    omega
  have h3 := NoDs.cons h1.lst (NoDs.cons ((h2.lst).mono (c := 2) (by decide) (Nat.le_refl _)) NoDs.nil)
  exact (h3.lst).ok (by decide) (by omega)
theorem bg_th {H : Hp} {l o d : Addr} {xs : List V} {bs : List (List Int)} {gs : List Int} (hl : H l = some (.lst [.ref o, .ref d])) (ho : H o = some (.lst xs)) (hE : EachIs (TupB H) xs bs) (hd : H d = some (.lst (gs.map V.int))) : Th H (.ref l) (bgText bs gs) :=
  .lst hl (.cons (.lst ho (all_tups hE)) (.cons (th_ints hd) .nil))
theorem blks_len {n : Nat} {ts : List (Int × Int)} (W : WebP n ts) {bs : List (List Int)} (h : Blks n (wPar n ts) (wDep n ts) (EdT ts) bs) : bs.length ≤ n := by
  have ex : ∀ b : List Int, ∃ t : Int, b ∈ bs → BlkS n (wPar n ts) (wDep n ts) (EdT ts) b t := fun b => by
    by_cases hb : b ∈ bs
    · obtain ⟨t, ht⟩ := h.each b hb
      exact ⟨t, fun _ => ht⟩
    · exact ⟨0, fun z => absurd z hb⟩
  have hf : ∀ b ∈ bs, BlkS n (wPar n ts) (wDep n ts) (EdT ts) b (Classical.choose (ex b)) := fun b hb => Classical.choose_spec (ex b) hb
  have nd : (bs.map fun b => Classical.choose (ex b)).Nodup := List.pairwise_map.mpr (List.Pairwise.imp_of_mem (fun {b c} hb hc lt e => by
    have h1 := hf b hb
    have h2 := hf c hc
    rw [e] at h1
    rw [blk_same (w_gt W) h1 h2 .refl] at lt
    exact List.lt_irrefl _ lt) h.asc)
  have q := (found_count (n := n) nd fun k hk => by
    obtain ⟨b, hb, rfl⟩ := List.mem_map.mp hk
    exact ⟨(hf b hb).top.t0, (hf b hb).top.t1⟩).1
  rw [List.length_map] at q
  exact q
theorem blkS_len {n : Nat} {ts : List (Int × Int)} (W : WebP n ts) {b : List Int} {t : Int} (ht : BlkS n (wPar n ts) (wDep n ts) (EdT ts) b t) : b.length ≤ n :=
  (found_count (ht.asc.imp fun {a b} h e => by
    have h : a < b := h
    omega) (blkS_in W ht).1).1
theorem gates_eq {n : Nat} {ts : List (Int × Int)} (W : WebP n ts) {bs : List (List Int)} {Q : List (List Int × Int)} (B : Bgs n ts Q) (e : Q.map Prod.fst = bs) {gs : List Int} (hg : EachIs (GateOf n ts) gs bs) : Q.map Prod.snd = gs := by
  refine List.ext_getElem? fun i => ?_
  subst e
  have lg : gs.length = Q.length := by rw [each_len hg, List.length_map]
  rcases Nat.lt_or_ge i Q.length with h | h
  · have hi : gs[i]? = some gs[i] := List.getElem?_eq_getElem (by omega)
    obtain ⟨b, hb, t, ht, eg⟩ := each_get hg hi
    rw [List.getElem?_map] at hb
    have hq : Q[i]? = some Q[i] := List.getElem?_eq_getElem h
    rw [hq] at hb
    have hb : Q[i].1 = b := Option.some.inj hb
    rw [List.getElem?_map, hq, hi]
    show some Q[i].2 = some gs[i]
    rw [eg, B.gate Q[i] (List.getElem_mem h) t (hb ▸ ht)]
  · rw [List.getElem?_eq_none (by rw [List.length_map]; exact h), List.getElem?_eq_none (by omega)]
theorem ext_butF {H0 H H' : Hp} {p : Addr} (s : ExtN H0 H) (n : FreshN H0 p) (b : But p H H') : ExtN H0 H' := fun c o h t => b c o (n c o h t) (s c o h t)
theorem tupB_ext {H H' : Hp} (e : ExtN H H') {xs : List V} {bs : List (List Int)} (h : EachIs (TupB H) xs bs) : EachIs (TupB H') xs bs := each_imp (fun x b ⟨a, ex, ha⟩ => ⟨a, ex, e _ _ ha (by intro ps z; cases z)⟩) h
theorem freshN_ext {H H' : Hp} {o : Addr} (e : ExtN H H') (f : FreshN H' o) : FreshN H o := fun b u hb hn => f b u (e b u hb hn) hn
def heldI (Q : List (List Int × Int)) : List Int := Q.flatMap fun p => p.1.filter fun x => decide (x ≠ p.2)
theorem heldI_app (A B : List (List Int × Int)) : heldI (A ++ B) = heldI A ++ heldI B := List.flatMap_append
theorem zip_gates {n : Nat} {ts : List (Int × Int)} (W : WebP n ts) {bs : List (List Int)} {gs : List Int} (hb : Blks n (wPar n ts) (wDep n ts) (EdT ts) bs) (hg : EachIs (GateOf n ts) gs bs) :
    (heldI (bs.zip gs)).Nodup ∧ (∀ x, x ∈ heldI (bs.zip gs) ↔ 0 ≤ x ∧ x < (n : Int) ∧ x ≠ 0) ∧ (heldI (bs.zip gs)).length ≤ n := by
  have lg : gs.length = bs.length := each_len hg
  have e : (bs.zip gs).map Prod.fst = bs := List.map_fst_zip (by omega)
  have key := held_perm (w_gt W) (Q := bs.zip gs) (by rw [e]; exact hb) fun p hp t ht => by
    obtain ⟨i, hi⟩ := List.mem_iff_getElem?.mp hp
    obtain ⟨h1, h2⟩ := List.getElem?_zip_eq_some.mp hi
    obtain ⟨b, hb2, t', ht', eg⟩ := each_get hg h2
    rw [h1] at hb2
    cases hb2
    rw [eg]
    exact (top_par (w_gt W) ht'.top ht.top (blk_class (w_gt W) ht' ht)).symm
  refine ⟨key.1, key.2, (found_count (n := n) key.1 fun k hk => ?_).1⟩
  obtain ⟨a, b, _⟩ := (key.2 k).mp hk
  exact ⟨a, b⟩
theorem heldI_take {Q : List (List Int × Int)} {i : Nat} : (heldI (Q.take i)).length ≤ (heldI Q).length := by
  have e := heldI_app (Q.take i) (Q.drop i)
  rw [List.take_append_drop] at e
  rw [e, List.length_append]
  omega
def HeldInv (HB : Hp) (Q : List (List Int × Int)) (s0 s1 s2 s3 s4 s5 s6 s7 s8 s9 : Option V) (i : Nat) (σ : L2.St) (H' : Hp) : Prop := ∃ h, (∃ x11 x12 x13 x14 x15, σ = [s0, s1, s2, s3, s4, s5, s6, s7, s8, s9, some (.ref h), x11, x12, x13, x14, x15]) ∧ Same HB H' ∧ H' h = some (.lst ((heldI (Q.take i)).map V.int))
theorem held_sorted {n : Nat} {l ns : List Int} (hn : 1 ≤ n) (nd : l.Nodup) (hm : ∀ x, x ∈ l ↔ 0 ≤ x ∧ x < (n : Int) ∧ x ≠ 0) (hp : ns.Perm l) (hs : ns.Pairwise (· ≤ ·)) : ns = (List.range (n - 1)).map fun i => (1 : Int) + (i : Nat) := by
  have asc : ns.Pairwise (· < ·) := List.Pairwise.imp₂ (fun {x y} (h1 : x ≤ y) (h2 : x ≠ y) => by omega) hs (hp.nodup_iff.mpr nd)
  refine asc_int asc (List.pairwise_map.mpr (List.pairwise_lt_range.imp fun {a b} h => ?_)) fun x => ?_
  · show (1 : Int) + (a : Nat) < 1 + (b : Nat)
    omega
  · rw [hp.mem_iff, hm, List.mem_map]
    constructor
    · rintro ⟨a, b, c⟩
      exact ⟨(x - 1).toNat, List.mem_range.mpr (by omega), by omega⟩
    · rintro ⟨i, hi, rfl⟩
      have := List.mem_range.mp hi
      omega
theorem rg1 {n : Nat} : rgV 1 (n : Int) = ((List.range (n - 1)).map fun i => (1 : Int) + (i : Nat)).map V.int := by
  unfold rgV
  rw [List.map_map, show ((n : Int) - 1).toNat = n - 1 by omega]
  rfl
/-! ### values that are none -/
def oddD (n : Nat) (us : List (Int × Int)) : List PyData := [.none, .tuple [], .tuple [.int 2, .tuple []], .list [.int (n : Int), .tuple (us.map tieT)], .tuple [.int ((n : Int) + 1), .tuple (us.map tieT)], .str "web"]
theorem odd_facts {n : Nat} {us : List (Int × Int)} (W : WebP n us) (hl : us.length ≤ 1000) : ∀ d ∈ oddD n us, webD d = false ∧ tiesOf d ≤ 100000 := fun d hd => by
  simp only [oddD, List.mem_cons, List.not_mem_nil, or_false] at hd
  rcases hd with rfl | rfl | rfl | rfl | rfl | rfl
  · exact ⟨rfl, Nat.zero_le _⟩
  · exact ⟨rfl, Nat.zero_le _⟩
  · exact ⟨by decide +kernel, Nat.zero_le _⟩
  · exact ⟨rfl, Nat.zero_le _⟩
  · refine ⟨Bool.eq_false_iff.mpr fun z => ?_, ?_⟩
    · have e := shape_webT ((n : Int) + 1) us
      obtain ⟨m, ts, e2, W2⟩ := webD_is (d := webT ((n : Int) + 1) us) z
      rw [e] at e2
      have e3 := Prod.mk.inj (Option.some.inj e2)
      have em : m = n + 1 := by omega
      obtain rfl := e3.2
      rw [em] at W2
      have n2 := W.n2
      have ed := (w_gt W2).tree (n : Int) (by omega) (by omega) (by omega)
      rcases ed with h | h
      · have := W.inn _ h
        dsimp only at this
        omega
      · have := W.inn _ h
        dsimp only at this
        omega
    · show (us.map tieT).length ≤ 100000
      rw [List.length_map]
      omega
  · exact ⟨rfl, Nat.zero_le _⟩
theorem shaped_w : SeqAt.shaped (.list [.str "web", .str "web", .str "web"]) = true := by decide +kernel
def OddInv (TT : List (Addr × Str)) (HB : Hp) (s0 s1 : Option V) (σ : L2.St) (H' : Hp) : Prop := (∃ x2 x3 x4 x5 x6 x7 x8 x9 x10 x11 x12 x13 x14 x15, σ = [s0, s1, x2, x3, x4, x5, x6, x7, x8, x9, x10, x11, x12, x13, x14, x15]) ∧ ExtN HB H' ∧ Tabs TT H'
def AgInv (TT : List (Addr × Str)) (HB : Hp) (s0 s1 s2 s3 s4 s5 s6 : Option V) (σ : L2.St) (H' : Hp) : Prop := (∃ x7 x8 x9 x10 x11 x12 x13 x14 x15, σ = [s0, s1, s2, s3, s4, s5, s6, x7, x8, x9, x10, x11, x12, x13, x14, x15]) ∧ ExtN HB H' ∧ Tabs TT H'
def spLaw (K : PySem.W.Frag) (TT : List (Addr × Str)) : Sp := fun vs H Q _ => ∃ (a : Addr) (ns : List Int), vs = [.ref a] ∧ SqL K H a (ns.map V.int) ∧ ns.length ≤ 63 ∧ Tabs TT H ∧ ∀ H', Q (.bl true) H'
structure LawTxt (mg : Str → Option Value) : Prop where
  range : mg "range" = none
  repr : mg "repr" = none
  len : mg "len" = none
  zip : mg "zip" = none
  sorted : mg "sorted" = none
  list : mg "list" = none
/-- behind some turns of the law's own loop -/
def LawInv (TT : List (Addr × Str)) (a p c : Addr) (i : Nat) (σ : L2.St) (H' : Hp) : Prop :=
  (∃ x2 x3 x4 x5 x6 x7 x8 x9 x10 x11 x12 x13 x14 x15, σ = [some (.ref a), some (.ref p), x2, x3, x4, x5, x6, x7, x8, x9, x10, x11, x12, x13, x14, x15]) ∧ Tabs TT H' ∧ ∃ k, k ≤ 4000 * i ∧ Pen H' p c k
section
variable {P : Program} {w : World} {K : PySem.W.Frag} {mg : Str → Option Value} {base : Heap} {C C1 : Addr}
abbrev scLawN : List Str := ["script", "pen", "turn", "web", "text", "due", "doors", "again", "told", "found", "held", "block", "door", "odd", "bay", "x"]
abbrev scLawS : Scope := defScope sLaw
theorem scLaw : FnScope ["script", "pen", "turn", "web", "text", "due", "doors", "again", "told", "found", "held", "block", "door", "odd", "bay", "x"] ["script"] (defScope sLaw) := ⟨rfl, rfl, rfl, by decide +kernel, rfl, by decide +kernel, by decide +kernel⟩
theorem ok_law {f fO fA fLB fLG fB fG fK fW Pl cl : Addr} {fdO fdA fdLB fdLG fdB fdG fdK fdW : FuncData} {oc : Value} {od : Option Addr} {dV kV doc pm ct : Value} {an : Option Addr} {osl : Array (Option Value)} {TT : List (Addr × Str)}
    (lk : K.lookup f = some ⟨oc, od, .func (PySem.W.fnOf "law" "law" (defArgs sLaw) (defBody sLaw) (defScope sLaw) dV kV doc pm an (.ref cl) ct), osl⟩) (hcd : PySem.W.codeIn K (.ref cl) "law" = true) (T : LawTxt mg) (E : ErrV K mg C C1)
    (FO : FnP K "_law_open" sOpen fO fdO) (gO : mg "_law_open" = some (.ref fO)) (GO : FnOk P w K mg base CX0 1 fO fdO ["script"] (spOpen K)) (FA : FnP K "_law_any_web" sAnyWeb fA fdA) (gA : mg "_law_any_web" = some (.ref fA)) (GA : FnOk P w K mg base CX0 5 fA fdA ["pen", "most", "size"] spAnyWeb)
    (FLB : FnP K "_law_blocks" sLBlocks fLB fdLB) (gLB : mg "_law_blocks" = some (.ref fLB)) (GLB : FnOk P w K mg base CX0 3 fLB fdLB ["web"] spLBlocks) (FLG : FnP K "_law_gate" sGate fLG fdLG) (gLG : mg "_law_gate" = some (.ref fLG)) (GLG : FnOk P w K mg base CX0 3 fLG fdLG ["web", "block"] (spGate K))
    (FB : FnP K "blocks" sBlk fB fdB) (gB : mg "blocks" = some (.ref fB)) (GB : FnOk P w K mg base (L2.CX P w) 5 fB fdB ["web"] (spBlkT C TT)) (FG : FnP K "gates" sGts fG fdG) (gG : mg "gates" = some (.ref fG)) (GG : FnOk P w K mg base (L2.CX P w) 5 fG fdG ["web"] (spGtsT C TT))
    (FK : FnP K "kinds" sKinds fK fdK) (gK : mg "kinds" = some (.ref fK)) (GK : FnOk P w K mg base (L2.CX P w) 5 fK fdK ["web"] (spKinds C TT)) (FW : FnP K "_law_word" sWord fW fdW) (gW : mg "_law_word" = some (.ref fW))
    (TB : LamX.TabB base mg cl Pl) (hmT : (Pl, qOf "law") ∈ TT) (hu : ∀ p ∈ TT, p.1 = Pl → p.2 = qOf "law") : FnOkG P w K mg base CX0 8 f (PySem.W.fnOf "law" "law" (defArgs sLaw) (defBody sLaw) (defScope sLaw) dV kV doc pm an (.ref cl) ct) ["script"] (spLaw K TT) := by
  have bO : Binds K fdO ["script"] [] := FO.bindsN fun _ _ _ _ _ _ us hl => match us, hl with | [_], _ => rfl
  have bA : Binds K fdA ["pen", "most", "size"] [] := FA.bindsN fun _ _ _ _ _ _ us hl => match us, hl with | [_, _, _], _ => rfl
  have bLB : Binds K fdLB ["web"] [] := FLB.bindsN fun _ _ _ _ _ _ us hl => match us, hl with | [_], _ => rfl
  have bLG : Binds K fdLG ["web", "block"] [] := FLG.bindsN fun _ _ _ _ _ _ us hl => match us, hl with | [_, _], _ => rfl
  have bB : Binds K fdB ["web"] [] := FB.bindsN fun _ _ _ _ _ _ us hl => match us, hl with | [_], _ => rfl
  have bG : Binds K fdG ["web"] [] := FG.bindsN fun _ _ _ _ _ _ us hl => match us, hl with | [_], _ => rfl
  have bK : Binds K fdK ["web"] [] := FK.bindsN fun _ _ _ _ _ _ us hl => match us, hl with | [_], _ => rfl
  have bW : Binds K fdW ["call"] [] := FW.bindsN fun _ _ _ _ _ _ us hl => match us, hl with | [_], _ => rfl
  obtain ⟨ocC, odC, dVC, kVC, docC, pmC, anC, cdC, ctC, oslC, rfl, lkC, hcC, _, _⟩ := FW.ex
  refine okG_of (k := 7) lk hcd scLaw (fun vs H Q E h => ?_) (fun A outer s H vs Q E0 hgd hr h => ?_)
  · obtain ⟨a, ns, rfl, _⟩ := h
    rfl
  · have hr1 : Room 1 _ := hr.mono (by decide)
    have hr3 : Room 3 _ := hr.mono (by decide)
    have hr5 : Room 5 _ := hr.mono (by decide)
    have hrL : Room (5 + 2) _ := hr
    obtain ⟨a, ns, rfl, hS, hl, hT, q⟩ := h
    refine ⟨_, PSs.nox (pss_cons (ps_set (i := 1) scLaw.nd rfl (Or.inl rfl) (pe_call GO hr1 rfl gO FO.kp bO .nil pass0 (pa_cons (pv 0) pa_nil)))
    (pss_cons (ps_for PassesOwn.never rfl (pi_range1 (by rfl) T.range (pa_cons pe_int pa_nil)) (pg_name (i := 2) scLaw.nd rfl (Or.inl rfl))
      (pss_cons (ps_set (i := 3) scLaw.nd rfl (Or.inr rfl) (pe_call GA hr5 rfl gA FA.kp bA .nil pass0 (pa_cons (pv 1) (pa_cons pe_int (pa_cons pe_int pa_nil)))))
    (pss_cons (ps_par (i := 4) (j := 5) (by rfl) scLaw.nd rfl rfl (by decide) rfl rfl (pa_cons (pe_callB (id := "repr") (cr_repr hgd hr.units) (by rfl) T.repr (by decide +kernel) (pa_cons (pv 3) pa_nil)) (pa_cons (pe_call GLB hr3 rfl gLB FLB.kp bLB .nil pass0 (pa_cons (pv 3) pa_nil)) pa_nil)) (by rfl))
    (pss_cons (ps_setLc (i := 6) (own := [("block", 11)]) (g := gName 11) (by rfl) scLaw.nd rfl rfl (sw_true rfl rfl rfl (by decide +kernel)) (pi_list (pv 5)) (blkOk_by (own := [("block", 11)]) (N := scLawN) (sc := scLawS) (by decide +kernel)) (fun _ _ _ _ _ => pg_name (i := 11) scLaw.nd rfl (Or.inl rfl)) (fun _ _ _ _ _ => pts_nil) (fun _ _ _ _ _ => (pe_call GLG hr3 rfl gLG FLG.kp bLG .nil pass0 (pa_cons (pv 3) (pa_cons (pv 11) pa_nil)))))
    (pss_cons (ps_for PassesOwn.never rfl (pi_range1 (by rfl) T.range (pa_cons pe_int pa_nil)) (pg_name (i := 7) scLaw.nd rfl (Or.inl rfl))
      (pss_cons (ps_par (i := 8) (j := 9) (by rfl) scLaw.nd rfl rfl (by decide) rfl rfl (pa_cons (pe_call GB hr5 rfl gB FB.kp bB .nil (passes_call takes0 (fun _ _ _ _ h => h)) (pa_cons (pv 3) pa_nil)) (pa_cons (pe_call GG hr5 rfl gG FG.kp bG .nil (passes_call takes0 (fun _ _ _ _ h => h)) (pa_cons (pv 3) pa_nil)) pa_nil)) (by rfl))
    (pss_cons (ps_if (PW.pt (pw_or (pt_cmpR op_ne (pe_callB (id := "repr") (cr_repr hgd hr.units) (by rfl) T.repr (by decide +kernel) (pa_cons (pe_lstL (pa_cons (pv 8) (pa_cons (pv 9) pa_nil))) pa_nil)) (pe_callB (id := "repr") (cr_repr hgd hr.units) (by rfl) T.repr (by decide +kernel) (pa_cons (pe_lstL (pa_cons (pv 5) (pa_cons (pv 6) pa_nil))) pa_nil)) (nomark _)) (pw_or (pt_cmpR op_ne (pe_callB (id := "len") call_len_seq (by rfl) T.len (by decide +kernel) (pa_cons (pe_call GK hr5 rfl gK FK.kp bK .nil (passes_call takes0 (fun _ _ _ _ h => h)) (pa_cons (pv 3) pa_nil)) pa_nil)) (pe_callB (id := "len") call_len_seq (by rfl) T.len (by decide +kernel) (pa_cons (pv 5) pa_nil)) (nomark _)) (pw_or1 (pt_cmpR op_ne (pe_callB (id := "repr") (cr_repr hgd hr.units) (by rfl) T.repr (by decide +kernel) (pa_cons (pv 3) pa_nil)) (pv 4) (nomark _))))))
      (pss_one (ps_ret pe_bl))
      pss_nil)
    (pss_cons (ps_expr (pe_bm PySem.F.plainAttrs_list PySem.F.slot_list_append PySem.F.type_list_append mt_appendL (pv 8) (pa_cons pe_non pa_nil)))
    (pss_one (ps_expr (pe_bm PySem.F.plainAttrs_list PySem.F.slot_list_append PySem.F.type_list_append mt_appendL (pv 9) (pa_cons pe_non pa_nil))))))))
    (pss_cons (ps_set (i := 10) scLaw.nd rfl (Or.inl rfl) (pe_lstL pa_nil))
    (pss_cons (ps_for PassesOwn.never rfl (pi_zip (by rfl) T.zip (pa_cons (pv 5) (pa_cons (pv 6) pa_nil))) (pg_tup (by rfl) (pgs_cons (pg_name (i := 11) scLaw.nd rfl (Or.inl rfl)) (pgs_cons (pg_name (i := 12) scLaw.nd rfl (Or.inr rfl)) pgs_nil)))
      (pss_one (ps_set (i := 10) scLaw.nd rfl (Or.inl rfl) (pe_op op_catL (pv 10) (pe_lc (own := [("bay", 14)]) (g := gName 14) (by rfl) scLaw.nd (pi_tup (pv 11)) (blkOk_by (own := [("bay", 14)]) (N := scLawN) (sc := scLawS) (by decide +kernel)) (fun _ _ _ _ _ => pg_name (i := 14) scLaw.nd rfl (Or.inl rfl)) (fun _ _ _ _ _ => pts_one (pt_cmpR op_ne (pv 14) (pv 12) (nomark _))) (fun _ _ _ _ _ => pv 14))))))
    (pss_cons (ps_if (pt_cmpR (op_neD hr.units) (pe_callB (id := "sorted") cr_sorted (by rfl) T.sorted (by decide +kernel) (pa_cons (pv 10) pa_nil)) (pe_listRg rfl rfl T.list (prg_2 rfl T.range pe_int (pe_ix (ix_tupK (K := K)) (pv 3) pe_int (fun _ _ => rfl)))) (nomark _))
      (pss_one (ps_ret pe_bl))
      pss_nil)
    (pss_one (ps_for PassesOwn.never rfl (pi_list (pe_lstL (pa_cons pe_non (pa_cons (pe_tupL pa_nil) (pa_cons (pe_tupL (pa_cons pe_int (pa_cons (pe_tupL pa_nil) pa_nil))) (pa_cons (pe_callTy (T := "list") call_list_ofL (by rfl) T.list (by decide +kernel) (pa_cons (pv 3) pa_nil)) (pa_cons (pe_tupL (pa_cons (pe_op op_add (pe_ix (ix_tupK (K := K)) (pv 3) pe_int (fun _ _ => rfl)) pe_int) (pa_cons (pe_ix (ix_tupK (K := K)) (pv 3) pe_int (fun _ _ => rfl)) pa_nil))) (pa_cons pe_str pa_nil)))))))) (pg_name (i := 13) scLaw.nd rfl (Or.inr rfl))
      (pss_cons (ps_set (i := 9) scLaw.nd rfl (Or.inl rfl) (pe_lstL (pa_cons (LamX.pe_lamcall (T := TT) (a := "call") (k := 5) (Ng := ["call", "e"]) rfl gW FW.kp lkC hcC bW scWord rfl (.inl rfl) (word_gives E) TB rfl hmT hu hrL (LamX.lamS_by (show LamX.lamSB (defScope sLaw) _ = true from by decide +kernel)) rfl (fun _ _ _ _ _ => rfl) (fun A outer s H E f c' hr' => pe_call GB hr' rfl gB FB.kp bB .nil (passes_call (takes_of rfl rfl rfl rfl) (fun _ _ _ _ h => h)) (pa_cons (pv 13) pa_nil))) pa_nil)))
    (pss_cons (ps_expr (pe_bm PySem.F.plainAttrs_list PySem.F.slot_list_append PySem.F.type_list_append mt_appendL (pv 9) (pa_cons (LamX.pe_lamcall (T := TT) (a := "call") (k := 5) (Ng := ["call", "e"]) rfl gW FW.kp lkC hcC bW scWord rfl (.inl rfl) (word_gives E) TB rfl hmT hu hrL (LamX.lamS_by (show LamX.lamSB (defScope sLaw) _ = true from by decide +kernel)) rfl (fun _ _ _ _ _ => rfl) (fun A outer s H E f c' hr' => pe_call GG hr' rfl gG FG.kp bG .nil (passes_call (takes_of rfl rfl rfl rfl) (fun _ _ _ _ h => h)) (pa_cons (pv 13) pa_nil))) pa_nil)))
    (pss_cons (ps_expr (pe_bm PySem.F.plainAttrs_list PySem.F.slot_list_append PySem.F.type_list_append mt_appendL (pv 9) (pa_cons (LamX.pe_lamcall (T := TT) (a := "call") (k := 5) (Ng := ["call", "e"]) rfl gW FW.kp lkC hcC bW scWord rfl (.inl rfl) (word_gives E) TB rfl hmT hu hrL (LamX.lamS_by (show LamX.lamSB (defScope sLaw) _ = true from by decide +kernel)) rfl (fun _ _ _ _ _ => rfl) (fun A outer s H E f c' hr' => pe_call GK hr' rfl gK FK.kp bK .nil (passes_call (takes_of rfl rfl rfl rfl) (fun _ _ _ _ h => h)) (pa_cons (pv 13) pa_nil))) pa_nil)))
    (pss_one (ps_if (pt_cmpR (op_neD hr.units) (pv 9) (pe_op op_repL (pe_lstL (pa_cons pe_str pa_nil)) pe_int) (nomark _))
      (pss_one (ps_ret pe_bl))
      pss_nil)))))))))))))))
    (pss_one (ps_ret pe_bl)))), ?_⟩
    refine ⟨_, rfl, a, ns, rfl, hS, hl, fun p c H1 S1 n1 n2 hp1 => ?_⟩
    have T1 := hT.ext S1
    refine ⟨3, rfl, by decide, by decide, for_range (lo := 0) (n := (3 : Int).toNat) (LawInv TT a p c) ⟨⟨none, none, none, none, none, none, none, none, none, none, none, none, none, none, rfl⟩, T1, 0, Nat.le_refl _, hp1⟩ (fun i σ H2 hi hinv => ?_) (fun σ H2 hinv => ?_)⟩
    case refine_2 =>
      exact q H2
    obtain ⟨⟨x2, x3, x4, x5, x6, x7, x8, x9, x10, x11, x12, x13, x14, x15, rfl⟩, T2, k, hk, hp⟩ := hinv
    have hi : i < 3 := hi
    refine ⟨_, rfl, p, c, k, 9, 5, rfl, hp, by omega, by decide, by decide, by decide, by decide, fun r H3 n us k3 B3 nr hw3 good hlt hasc n2_ nle hlen hk3 hp3 => ?_⟩
    have T3 : Tabs TT H3 := tabs_but T2 B3 hp.at_lst.choose_spec
    obtain ⟨W, _⟩ := WebP.of (good_web good hlt hasc n2_ (by omega))
    rw [show ((n : Int)).toNat = n by omega] at W
    have hlen1 : us.length ≤ 1000 := by omega
    have okW := ok_webT_ W hlen1
    have n40 := W.n40
    have isW := webT_is W
    have tl : tiesOf (webT n us) ≤ 100000 := okW.ties
    -- text, due
    refine ⟨_, rfl, _, _, rfl, (webH_th LS.nil hw3).seen, okW.show_.1, okW.nd, Nat.le_trans okW.dep (by decide), okW.show_.2, _, rfl, r, n, us, rfl, hw3, W, by omega, by omega, fun o xs bs H4 S4 no ho hE hB => ⟨_, _, rfl, ?_⟩⟩
    have hw4 := hw3.mono fun b xs hb => S4 _ _ hb
    have lx : xs.length = bs.length := each_len hE
    -- doors
    refine ⟨_, rfl, o, rfl, ⟨_, SqL.of ho⟩, fun D hD => lc_list (K := K) (a := o) (xs := xs) (fun i H' => Same H4 H' ∧ ∃ gs : List Int, H' D = some (.lst (gs.map V.int)) ∧ EachIs (GateOf n us) gs (bs.take i)) ⟨same_upd hD, [], upd_same, by rw [List.take_zero]; exact .nil⟩ (fun i H' _ ⟨S, _⟩ => SqL.of (S _ _ ho)) ?_ ?_⟩
    · rintro i y H5 hi5 ⟨S5, gs, h5, he⟩
      obtain ⟨b, hb, a', rfl, ha⟩ := each_get hE hi5
      obtain ⟨t, ht⟩ := hB.each b (List.mem_of_getElem? hb)
      have lb := blkS_len W ht
      have lg : gs.length = i := by
        rw [each_len he, List.length_take]
        have := (List.getElem?_eq_some_iff.mp hb).1
        omega
      have lt : i < bs.length := (List.getElem?_eq_some_iff.mp hb).1
      have lbs := blks_len W hB
      have hw5 := hw4.mono fun b xs hb => S5 _ _ hb
      refine ⟨rfl, _, rfl, _, rfl, .ref r, n, us, a', b, t, rfl, hw5.at, W, by omega, SqT.of (S5 _ _ ha), by omega, ht, fun H6 S6 => ⟨_, S6 _ _ h5, by rw [List.length_map, lg]; unfold sizeLine; omega, fun u w' hu' => by rw [upd_ne (ne_of_none hu' hD)]; exact S6 _ _ (S5 _ _ hu'), gs ++ [wPar n us t], by rw [upd_same, List.map_append]; rfl, ?_⟩⟩
      rw [take_more hb]
      exact each_snoc he ⟨t, ht, rfl⟩
    rintro H5 ⟨S5, gs, h5, he⟩
    rw [lx, List.take_length] at he
    have lg : gs.length = bs.length := each_len he
    have lbs := blks_len W hB
    have S35 := S4.trans S5
    have hw5 := hw3.mono fun b xs hb => S35 _ _ hb
    have hp5 := hp3.same S35
    have T5 := T3.ext S35
    have ho5 := S5 _ _ ho
    have hE5 : EachIs (TupB H5) xs bs := each_imp (fun x b ⟨a, e, h⟩ => ⟨a, e, S5 _ _ h⟩) hE
    have okB := bg_ok W hB he (by omega)
    -- twice
    refine ⟨2, rfl, by decide, by decide, for_range (lo := 0) (n := (2 : Int).toNat) (fun _ => AgInv TT H5 _ _ _ _ _ _ _) ⟨⟨_, _, _, _, _, _, _, _, _, rfl⟩, ExtN.refl _, T5⟩ (fun ai σ H6 hai hinv => ?_) (fun σ H6 hinv => ?_)⟩
    · obtain ⟨⟨y7, y8, y9, y10, y11, y12, y13, y14, y15, rfl⟩, E6, T6⟩ := hinv
      have hw6 := webH_ext hw5 E6
      refine ⟨_, rfl, .ref r, webT n us, rfl, (webH_th LS.nil hw6).seen, tl, T6, (fun e => by rw [isW] at e; cases e), fun m1 us1 es W1 o1 xs1 bs1 H7 E7 T7 f1 h1 hE1 B1 => ?_⟩
      obtain ⟨rfl, rfl⟩ := webT_eq es
      have hw7 := webH_ext hw6 E7
      refine ⟨_, rfl, .ref r, webT m1 us1, rfl, (webH_th LS.nil hw7).seen, tl, T7, (fun e => by rw [isW] at e; cases e), fun m2 us2 es2 W2 o2 bs2 H8 E8 T8 f2 h2 B2 => ?_⟩
      obtain ⟨rfl, rfl⟩ := webT_eq es2
      have hw8 := webH_ext hw7 E8
      have e1 : bs1.map Prod.fst = bs := blks_eq (w_gt W) B1.blk hB
      have e2 : bs2.map Prod.fst = bs := blks_eq (w_gt W) B2.blk hB
      rw [gates_eq W B2 e2 he] at h2
      rw [e1] at hE1
      have E58 := (E6.trans E7).trans E8
      have h1' := lst_ext E8 h1
      have hE1' := tupB_ext E8 hE1
      have n12 : o1 ≠ o2 := f2 o1 _ h1 (by intro ps z; cases z)
      have f1' : FreshN H5 o1 := freshN_ext E6 f1
      have f2' : FreshN H5 o2 := freshN_ext (E6.trans E7) f2
      -- what is told and what is due
      refine ⟨_, _, rfl, ?_⟩
      refine ⟨_, rfl, _, rfl, by show 2 ≤ sizeLine; decide, fun L1 H9 m9 S9 h9 => ?_⟩
      have t9 : Th H9 (.ref L1) (bgText bs gs) := bg_th h9 (S9 _ _ h1') (tupB_ext (extS S9) hE1') (S9 _ _ h2)
      refine ⟨_, _, rfl, t9, okB.show_.1, okB.nd, Nat.le_trans okB.dep (by decide), okB.show_.2, _, rfl, _, rfl, by show 2 ≤ sizeLine; decide, fun L2 H10 m10 S10 h10 => ?_⟩
      have E510 : ExtN H5 H10 := (E58.trans (extS S9)).trans (extS S10)
      have t10 : Th H10 (.ref L2) (bgText bs gs) := bg_th h10 (lst_ext E510 ho5) (tupB_ext E510 hE5) (lst_ext E510 h5)
      refine ⟨_, _, rfl, t10, okB.show_.1, okB.nd, Nat.le_trans okB.dep (by decide), okB.show_.2, rfl, _, rfl, iteC (by rw [decide_eq_true rfl]; rfl) ?_⟩
      -- kinds
      have hw10 := webH_ext hw5 E510
      have T10 : Tabs TT H10 := (T8.ext S9).ext S10
      refine ⟨_, rfl, .ref r, webT m2 us2, rfl, (webH_th LS.nil hw10).seen, tl, T10, (fun e => by rw [isW] at e; cases e), fun m3 us3 es3 W3 o3 ks bs3 H11 E11 T11 f3 h3 hk3 B3' => ?_⟩
      obtain ⟨rfl, rfl⟩ := webT_eq es3
      have e3 : bs3.map Prod.fst = bs := blks_eq (w_gt W) B3'.blk hB
      have E511 := E510.trans E11
      have lk3 : (ks.map V.str).length = xs.length := by rw [List.length_map, each_len hk3, e3, lx]
      refine ⟨o3, _, rfl, .inl (SqL.of h3), _, rfl, o, _, rfl, .inl (SqL.of (lst_ext E511 ho5)), rfl, _, rfl, iteC (by rw [lk3, decide_eq_true rfl]; rfl) ?_⟩
      have hw11 := webH_ext hw5 E511
      refine ⟨_, rfl, _, _, rfl, (webH_th LS.nil hw11).seen, okW.show_.1, okW.nd, Nat.le_trans okW.dep (by decide), okW.show_.2, _, rfl, rfl, _, rfl, iteC (by rw [decide_eq_true rfl]; rfl) ?_⟩
      have E811 : ExtN H8 H11 := ((extS S9).trans (extS S10)).trans E11
      have l1 : xs1.length = bs.length := each_len hE1
      refine ⟨_, rfl, .inl ⟨rfl, _, SqL.of (lst_ext E811 h1')⟩, o1, _, _, rfl, rfl, lst_ext E811 h1', by rw [l1]; unfold sizeLine; omega, fun H12 B12 h12 => ?_⟩
      have T12 : Tabs TT H12 := tabs_but T11 B12 (lst_ext E811 h1')
      have E512 : ExtN H5 H12 := ext_butF E511 f1' B12
      have h2'' := B12 _ _ n12.symm (lst_ext E811 h2)
      refine ⟨_, rfl, .inl ⟨rfl, _, SqL.of h2''⟩, o2, _, _, rfl, rfl, h2'', by rw [List.length_map, lg]; unfold sizeLine; omega, fun H13 B13 h13 => ?_⟩
      exact ⟨⟨_, _, _, _, _, _, _, _, _, rfl⟩, ext_butF E512 f2' B13, tabs_but T12 B13 h2''⟩
    obtain ⟨⟨y7, y8, y9, y10, y11, y12, y13, y14, y15, rfl⟩, E6, T6⟩ := hinv
    have hw6 := webH_ext hw5 E6
    -- held
    refine ⟨by show 0 ≤ sizeLine; decide, fun hl H7 m7 S7 h7 => ?_⟩
    have S7' := S7
    have ho7 := S7 _ _ (lst_ext E6 ho5)
    have h57 := S7 _ _ (lst_ext E6 h5)
    have hE7 : EachIs (TupB H7) xs bs := tupB_ext (E6.trans (extS S7)) hE5
    obtain ⟨znd, zmem, zlen⟩ := zip_gates W hB he
    have lz : (bs.zip gs).length = bs.length := by rw [List.length_zip, lg, Nat.min_self]
    refine ⟨_, rfl, _, rfl, o, D, _, _, rfl, SqL.of ho7, SqL.of h57, for_it (walk_zip (K := K) (a := o) (b := D) (xs := xs) (ys := gs.map V.int) (n := bs.length) (by rw [List.length_map, lx, lg, Nat.min_self])) (HeldInv H7 (bs.zip gs) _ _ _ _ _ _ _ _ _ _) ⟨hl, ⟨_, _, _, _, _, rfl⟩, Same.refl _, by rw [List.take_zero]; exact h7⟩ (fun j σ H8 _ hinv => ?_) (fun j x σ H8 H9 hj hinv hy => ?_) (fun σ H8 hinv => ?_)⟩
    · obtain ⟨h, _, S8, _⟩ := hinv
      exact ⟨SqL.of (S8 _ _ ho7), SqL.of (S8 _ _ h57)⟩
    · obtain ⟨h, ⟨x11, x12, x13, x14, x15, rfl⟩, S8, hh⟩ := hinv
      obtain ⟨t0, y1, y2, rfl, nt, rfl, hx, hy⟩ := hy
      obtain ⟨b, hb, a', rfl, ha⟩ := each_get hE7 hx
      obtain ⟨g, hg, rfl⟩ := getMap (show (gs.map V.int)[j]? = some y2 from hy)
      have hz : (bs.zip gs)[j]? = some (b, g) := List.getElem?_zip_eq_some.mpr ⟨hb, hg⟩
      have St : Same H8 (upd H8 t0 (.tup [V.ref a', V.int g])) := same_upd nt
      have S9 := S8.trans St
      have hh9 := St _ _ hh
      refine ⟨t0, _, rfl, .inl (.inl upd_same), rfl, _, _, rfl, _, _, rfl, rfl, ?_⟩
      generalize upd H8 t0 (.tup [V.ref a', V.int g]) = H9 at S9 hh9
      have ha9 := S9 _ _ ha
      have lb : b.length ≤ n := by
        obtain ⟨t, ht⟩ := hB.each b (List.mem_of_getElem? hb)
        exact blkS_len W ht
      refine ⟨_, rfl, _, rfl, a', rfl, ⟨_, SqT.of ha9⟩, fun N hN => lc_tup (K := K) (a := a') (xs := b.map V.int) (fun i H' => Same H9 H' ∧ H' N = some (.lst (((b.take i).filter fun x => decide (x ≠ g)).map V.int))) ⟨same_upd hN, by rw [upd_same, List.take_zero]; rfl⟩ (fun i H' _ ⟨S, _⟩ => SqT.of (S _ _ ha9)) ?_ ?_⟩
      · rintro i y H10 hi10 ⟨S10, h10⟩
        obtain ⟨z, hz10, rfl⟩ := getMap hi10
        have fm := filter_more (p := fun x => decide (x ≠ g)) hz10
        refine ⟨rfl, _, rfl, _, rfl, rfl, _, rfl, ?_⟩
        by_cases hc : z = g
        · rw [if_neg (by simp [hc]), List.append_nil] at fm
          exact iteC (by rw [hc, decide_eq_true rfl]; rfl) ⟨S10, by rw [h10, fm]⟩
        · rw [if_pos (by simp [hc])] at fm
          refine iteD (by rw [decide_eq_false fun q => hc (V.int.inj q)]; rfl) ⟨_, rfl, _, h10, ?_, fun u w' hu' => by rw [upd_ne (ne_of_none hu' hN)]; exact S10 _ _ hu', ?_⟩
          · rw [List.length_map]
            have h1 := List.length_filter_le (fun x => decide (x ≠ g)) (b.take i)
            rw [List.length_take] at h1
            unfold sizeLine
            omega
          · rw [upd_same, fm, List.map_append]
            rfl
      rintro H10 ⟨S10, h10⟩
      rw [List.length_map, List.take_length] at h10
      have ht := heldI_take (Q := bs.zip gs) (i := j)
      have lf := List.length_filter_le (fun x => decide (x ≠ g)) b
      refine ⟨h, N, _, _, rfl, rfl, S10 _ _ hh9, h10, by rw [List.length_map, List.length_map]; unfold sizeLine; omega, fun l2 H11 m11 S11 h11 => ?_⟩
      refine ⟨l2, ⟨_, _, _, _, _, rfl⟩, (S9.trans S10).trans S11, ?_⟩
      rw [h11, take_more hz, heldI_app, List.map_append]
      unfold heldI
      rw [List.flatMap_singleton]
    · obtain ⟨h, ⟨x11, x12, x13, x14, x15, rfl⟩, S8, hh⟩ := hinv
      rw [← lz, List.take_length] at hh
      have hw8 := (webH_ext hw6 (extS S7)).mono fun b xs hb => S8 _ _ hb
      obtain ⟨wt, hr8, hT8⟩ := id hw8
      have hr8 : H8 r = some (.tup [V.int (n : Int), V.ref wt]) := hr8
      refine ⟨_, rfl, h, _, rfl, SqL.of hh, by omega, fun ns op hpm hps nop => ?_⟩
      have S9 := same_upd (o := .lst (ns.map V.int)) nop
      have h9 : (upd H8 op (.lst (ns.map V.int))) op = some (.lst (ns.map V.int)) := upd_same
      generalize upd H8 op (.lst (ns.map V.int)) = H9 at S9 h9
      refine ⟨_, rfl, r, _, _, _, rfl, rfl, SqT.of (S9 _ _ hr8), at_of (j := 0) rfl rfl, _, _, rfl, rfl, ⟨by omega, by omega, by omega, by omega⟩, fun oq nq => ?_⟩
      have S10 := same_upd (o := .lst (rgV 1 (n : Int))) nq
      have h10 : (upd H9 oq (.lst (rgV 1 (n : Int)))) oq = some (.lst (((List.range (n - 1)).map fun i => (1 : Int) + (i : Nat)).map V.int)) := by rw [upd_same, rg1]
      generalize upd H9 oq (.lst (rgV 1 (n : Int))) = H10 at S10 h10
      have esort := held_sorted (by omega) znd zmem hpm hps
      refine ⟨.list (ns.map PyData.int), .list (((List.range (n - 1)).map fun i => (1 : Int) + (i : Nat)).map PyData.int), .lst (SqL.of (S10 _ _ h9)) (dp_ints _), .lst (SqL.of h10) (dp_ints _), shaped_ints _, shaped_ints _, _, rfl, iteC (by
        rw [esort]
        simp only [PyData.eqv]
        rw [eqv_ints, decide_eq_true rfl]
        rfl) ?_⟩
      -- values that are none
      have S810 := S9.trans S10
      have hw10 := hw8.mono fun b xs hb => S810 _ _ hb
      refine ⟨by show 0 ≤ sizeLine; decide, fun t1 H11 m11 S11 h11 => ⟨by show 0 ≤ sizeLine; decide, fun t2 H12 m12 S12 h12 => ⟨by show 2 ≤ sizeLine; decide, fun t3 H13 m13 S13 h13 => ?_⟩⟩⟩
      have S1013 := (S11.trans S12).trans S13
      have hr13 := S1013 _ _ (S810 _ _ hr8)
      refine ⟨_, rfl, r, _, rfl, .inr (SqT.of hr13), fun t4 H14 m14 S14 h14 => ?_⟩
      have hr14 := S14 _ _ hr13
      refine ⟨_, rfl, r, _, _, _, rfl, rfl, SqT.of hr14, at_of (j := 0) rfl rfl, _, _, rfl, rfl, _, rfl, r, _, _, _, rfl, rfl, SqT.of hr14, at_of (j := 1) rfl rfl, by show 2 ≤ sizeLine; decide, fun t5 H15 m15 S15 h15 => ⟨by show 6 ≤ sizeLine; decide, fun lo H16 m16 S16 h16 => ?_⟩⟩
      have S1016 := ((S1013.trans S14).trans S15).trans S16
      have hw16 := hw10.mono fun b xs hb => S1016 _ _ hb
      have E516 : ExtN H5 H16 := (((E6.trans (extS S7)).trans (extS S8)).trans (extS S810)).trans (extS S1016)
      have T16 : Tabs TT H16 := (((T6.ext S7).ext S8).ext S810).ext S1016
      have hr16 := S1016 _ _ (S810 _ _ hr8)
      obtain ⟨ra, vs, era, _, hvs, thv⟩ := th_is_tup (webH_th LS.nil hw16)
      cases era
      have evs : vs = [V.int (n : Int), V.ref wt] := by
        have z : some (HO.tup vs) = some (HO.tup [V.int (n : Int), V.ref wt]) := hvs.symm.trans hr16
        injection z with z
        injection z
      subst evs
      have thv := thv.seen
      have thT : Th H16 (.ref wt) (.tuple (us.map tieT)) := by
        cases thv with
        | cons _ r => cases r with
          | cons h _ => exact h
      have S1416 := (S14.trans S15).trans S16
      have thAll : ThAll H16 [.non, .ref t1, .ref t3, .ref t4, .ref t5, .str "web"] (oddD n us) :=
        .cons .non (.cons (.tup (S1416 _ _ (S13 _ _ (S12 _ _ h11))) .nil) (.cons (.tup (S1416 _ _ h13) (.cons (.int 2) (.cons (.tup (S1416 _ _ (S13 _ _ h12)) .nil) .nil))) (.cons (.lst ((S15.trans S16) _ _ h14) (.cons (.int _) (.cons thT .nil))) (.cons (.tup (S16 _ _ h15) (.cons (.int _) (.cons thT .nil))) (.cons (.str _) .nil)))))
      have facts := odd_facts W hlen1
      refine ⟨lo, rfl, ⟨_, SqL.of h16⟩, for_list (K := K) (a := lo) (fun _ => OddInv TT H16 _ _) ⟨⟨_, _, _, _, _, _, _, _, _, _, _, _, _, _, rfl⟩, ExtN.refl _, T16⟩ (fun j σ H17 _ hinv => SqL.of (lst_ext hinv.2.1 h16)) (fun j x σ H17 hx hinv => ?_) (fun σ H17 hinv => ?_)⟩
      · obtain ⟨⟨x2, x3, x4, x5, x6, x7, x8, x9, x10, x11, x12, x13, x14, x15, rfl⟩, E17, T17⟩ := hinv
        obtain ⟨d, hd, hxd⟩ := thAll_get thAll hx
        obtain ⟨hweb, hm⟩ := facts d (List.mem_of_getElem? hd)
        have hv := hxd.ext E17
        have no : ∀ (n : Nat) ts, shapeD d = some ((n : Int), ts) → WebP n ts → False := fun n ts es W => absurd (webD_of es W) (by rw [hweb]; exact Bool.false_ne_true)
        refine ⟨T17, fun H18 e18 T18 => ⟨_, rfl, x, d, rfl, hv.ext e18, hm, T18, fun _ H19 S19 => ⟨rfl, by show 1 ≤ sizeLine; decide, fun fd H20 n20 S20 h20 => ?_⟩, fun n ts es W => (no n ts es W).elim⟩⟩
        have T20 : Tabs TT H20 := (T18.ext S19).ext S20
        have e19 : ExtN H17 H19 := e18.trans (extS S19)
        have hv20 := (hv.ext e19).mono S20
        refine ⟨_, rfl, .inl ⟨rfl, _, SqL.of h20⟩, T20, fun H21 e21 T21 => ⟨_, rfl, x, d, rfl, hv20.ext e21, hm, T21, fun _ H22 S22 => ⟨rfl, fd, _, _, rfl, rfl, S22 _ _ (lst_ext e21 h20), by show 1 < sizeLine; decide, fun H23 B23 h23 => ?_⟩, fun n ts es W => (no n ts es W).elim⟩⟩
        have T23 : Tabs TT H23 := tabs_but (T21.ext S22) B23 (S22 _ _ (lst_ext e21 h20))
        have e23 : ExtN H19 H23 := ext_butF (((extS S20).trans e21).trans (extS S22)) (freshN (ExtN.refl _) n20) B23
        refine ⟨_, rfl, .inl ⟨rfl, _, SqL.of h23⟩, T23, fun H24 e24 T24 => ⟨_, rfl, x, d, rfl, ((hv.ext e19).ext e23).ext e24, hm, T24, fun _ H25 S25 => ⟨rfl, fd, _, _, rfl, rfl, S25 _ _ (lst_ext e24 h23), by show 2 < sizeLine; decide, fun H26 B26 h26 => ?_⟩, fun n ts es W => (no n ts es W).elim⟩⟩
        have T26 : Tabs TT H26 := tabs_but (T24.ext S25) B26 (S25 _ _ (lst_ext e24 h23))
        have e26 : ExtN H19 H26 := ext_butF ((e23.trans e24).trans (extS S25)) (freshN (ExtN.refl _) n20) B26
        refine ⟨_, rfl, by show 1 ≤ sizeLine; decide, fun w1 H27 n27 S27 h27 => ⟨w1, 3, _, rfl, rfl, h27, by decide, by decide, by show 1 * 3 ≤ sizeLine; decide, fun w2 H28 n28 S28 h28 => ?_⟩⟩
        refine ⟨.list [.str "web", .str "web", .str "web"], .list [.str "web", .str "web", .str "web"], .lst (SqL.of (S28 _ _ (S27 _ _ h26))) (.cons (.str _) (.cons (.str _) (.cons (.str _) .nil))), .lst (SqL.of h28) (.cons (.str _) (.cons (.str _) (.cons (.str _) .nil))), shaped_w, shaped_w, ?_⟩
        rw [SeqAt.eqv_refl _ (SeqAt.canLay_of_shaped shaped_w)]
        refine ⟨_, rfl, iteC rfl ?_⟩
        exact ⟨⟨_, _, _, _, _, _, _, _, _, _, _, _, _, _, rfl⟩, ((E17.trans e19).trans e26).trans (extS (S27.trans S28)), (T26.ext S27).ext S28⟩
      · obtain ⟨⟨x2, x3, x4, x5, x6, x7, x8, x9, x10, x11, x12, x13, x14, x15, rfl⟩, E17, T17⟩ := hinv
        exact ⟨⟨_, _, _, _, _, _, _, _, _, _, _, _, _, _, rfl⟩, T17, k3, by omega, pen_ext (pen_ext hp5 E516) E17⟩
end
end Sb

/-! ## H32 -/
set_option maxHeartbeats 0
/-! What the head leaves. -/
namespace Sb
open PySem PySem.Spec PyProof.Rows L2
def dDef (x : Str) (i : Nat) : He.DefD := ⟨(x, none), x, x, defArgs (top i), defBody (top i), defScope (top i), [], []⟩
def fns : List He.DefD := [dDef "is_whole" 4, dDef "rows_of" 5, dDef "steps_from" 6, dDef "two_sides" 7, dDef "bays_above" 8, dDef "bays_climbed" 9, dDef "groups_held" 10, dDef "blocks_with_gates" 11, dDef "is_web" 15, dDef "is_tie" 16, dDef "need_web" 17, dDef "blocks" 19, dDef "gates" 20, dDef "kinds" 21, dDef "kind_of" 22, dDef "rows_within" 23, dDef "ways_of_seven" 24, dDef "forks_of" 25, dDef "bays_passed" 26, dDef "_law_open" 28, dDef "_law_spread" 29, dDef "_law_take" 30, dDef "_law_one_of" 31, dDef "_law_near" 32, dDef "_law_reached" 33, dDef "_law_any_names" 34, dDef "_law_renamed" 35, dDef "_law_ways" 36, dDef "_law_piece" 37, dDef "_law_any_web" 38, dDef "_law_word" 39, dDef "_law_rings" 40, dDef "_law_blocks" 41, dDef "_law_gate" 42, dDef "law" 43]
def defNames : List Str := (["is_whole", "rows_of", "steps_from", "two_sides", "bays_above", "bays_climbed", "groups_held", "blocks_with_gates", "is_web", "is_tie", "need_web", "blocks", "gates", "kinds", "kind_of", "rows_within"] : List Str) ++ (["ways_of_seven", "forks_of", "bays_passed", "_law_open", "_law_spread", "_law_take", "_law_one_of", "_law_near", "_law_reached", "_law_any_names", "_law_renamed", "_law_ways", "_law_piece", "_law_any_web", "_law_word", "_law_rings"] : List Str) ++ (["_law_blocks", "_law_gate", "law"] : List Str)
def freeNames : List Str := (["len", "int", "list", "enumerate", "range", "isinstance", "tuple", "all", "min", "bool", "set", "sorted", "any", "zip", "max", "sum"] : List Str) ++ (["repr", "dict"] : List Str)
def fas : List He.Fa := (defNames).map .glo ++ freeNames.map .free ++ [.int "FEWEST_BAYS" 2, .int "MOST_BAYS" 40]
def clsNames : List Str := (["NoWeb", "BayError"] : List Str)
def cOf (K : PySem.W.Frag) (i : Nat) : Addr := He.ga K (clsNames.getD i "")
def exOne (K : PySem.W.Frag) (i : Nat) : Bool :=
  PySem.W.keepIn K (.ref (cOf K i)) && (PySem.W.excIn K (cOf K i) He.veBase "ValueError.__new__" && (decide (PySem.W.subIn K (.ref (cOf K i)) (.type "BaseException") = some true) && (decide (PySem.W.typeIn K (.ref (cOf K i)) = some (.type "type")) &&
  (List.range 1).all fun j => decide (PySem.W.exmOne K (.ref (cOf K i)) (.ref (cOf K j)) = some (decide (i = j))))))
def exs (K : PySem.W.Frag) : Bool := (List.range 1).all (exOne K) && ((List.range 2).all (fun i => He.eqO (PySem.W.nsIn K mainGlobals (clsNames.getD i "")) (some (some (.ref (cOf K i))))) &&
  decide ((He.cT K ("law", none)).2 ≠ (He.cT K ("blocks_with_gates", none)).2))
def tfs : List He.Defn := [("law", none), ("blocks_with_gates", none)]
abbrev theRow : PySem.W.OpenRow := PySem.W.OpenLaw.row PySem.Challenge.rw_sparebay_k32_blocks_and_gates
abbrev hk : PySem.W.Hook := He.hookX 4 fas fns [] tfs exs
def ob (s : PySem.W.SharedT) : He.AlX := He.obsX 4 fas fns [] tfs exs (HandSHeadRun.getT s)
theorem ob_eq (s : PySem.W.SharedT) : ob s = hk.obs s.abs := He.obsX_eq (HandSHeadRun.getT_eq s)
def loose : List Str := (["BayError", "NoWeb", "FEWEST_BAYS", "MOST_BAYS", "is_whole", "rows_of", "steps_from", "two_sides", "bays_above", "bays_climbed", "groups_held", "blocks_with_gates", "is_web", "is_tie", "need_web", "blocks"] : List Str) ++ (["gates", "kinds", "kind_of", "rows_within", "ways_of_seven", "forks_of", "bays_passed", "_law_open", "_law_spread", "_law_take", "_law_one_of", "_law_near", "_law_reached", "_law_any_names", "_law_renamed", "_law_ways"] : List Str) ++ (["_law_piece", "_law_any_web", "_law_word", "_law_rings", "_law_blocks", "_law_gate"] : List Str)
theorem run (w : World) : HandSHeadRun.RunEq theRow (PySem.W.view theRow.prog [43]) hk ob 6000 loose w := by
  intro os
  kernel_rfl
end Sb

/-! ## F32 -/
/-! The end. -/
namespace Sb
open PySem PySem.Spec PyProof.Rows L2
theorem exs_cls {K : PySem.W.Frag} (e : exs K = true) : exOne K 0 = true ∧ (∀ i, i < 2 → PySem.W.nsIn K mainGlobals (clsNames.getD i "") = some (some (.ref (cOf K i)))) ∧ (He.cT K ("law", none)).2 ≠ (He.cT K ("blocks_with_gates", none)).2 := by
  unfold exs at e
  obtain ⟨e1, e2⟩ := He.ba e
  obtain ⟨e3, e4⟩ := He.ba e2
  exact ⟨List.all_eq_true.mp e1 0 (List.mem_range.mpr (by decide)), fun i hi => He.eqO_ok (List.all_eq_true.mp e3 i (List.mem_range.mpr hi)), of_decide_eq_true e4⟩
theorem err_of {K : PySem.W.Frag} {h : Heap} {mg : Str → Option Value} (X : K.In h) (G : h.Ns mainGlobals mg) (e : exs K = true) : ErrV K mg (cOf K 0) (cOf K 1) := by
  obtain ⟨h, e2, _⟩ := exs_cls e
  unfold exOne at h
  obtain ⟨a1, h⟩ := He.ba h
  obtain ⟨a2, h⟩ := He.ba h
  obtain ⟨a3, h⟩ := He.ba h
  obtain ⟨a4, a5⟩ := He.ba h
  have a5 := of_decide_eq_true (List.all_eq_true.mp a5 0 (List.mem_range.mpr (by decide)))
  exact { gs := PySem.W.mg_of X G (e2 0 (by decide)), kp := a1, ex := a2, su := of_decide_eq_true a3, ty := of_decide_eq_true a4, gb := PySem.W.mg_of X G (e2 1 (by decide)), exm := a5 }
theorem law_at {w : World} {K : PySem.W.Frag} {h : Heap} {mg : Str → Option Value} {fa : Addr} (X : K.In h) (G : h.Ns mainGlobals mg) (hfa : mg ("law" : Str) = some (.ref fa)) (c : He.SaysX fas fns [] tfs exs w h K) :
    LawG PySem.Challenge.rw_sparebay_k32_blocks_and_gates w K CX0 8 63 "script" mg fa h := by
  have d := He.SaysT.d c.t
  have glo : ∀ (i : Nat) (x : Str), fas[i]? = some (.glo x) → mg x = some (.ref (He.ga K x)) := fun i x hi => He.glo_ok X G (d.fact i (f := .glo x) hi)
  have free : ∀ (i : Nat) (x : Str), fas[i]? = some (.free x) → mg x = none := fun i x hi => He.free_ok X G (d.fact i (f := .free x) hi)
  obtain ⟨fd_is_whole, F_is_whole⟩ := d.def_ 0 (d := dDef "is_whole" 4) rfl
  have g_is_whole := glo 0 "is_whole" rfl
  obtain ⟨fd_rows_of, F_rows_of⟩ := d.def_ 1 (d := dDef "rows_of" 5) rfl
  have g_rows_of := glo 1 "rows_of" rfl
  obtain ⟨fd_steps_from, F_steps_from⟩ := d.def_ 2 (d := dDef "steps_from" 6) rfl
  have g_steps_from := glo 2 "steps_from" rfl
  obtain ⟨fd_two_sides, F_two_sides⟩ := d.def_ 3 (d := dDef "two_sides" 7) rfl
  have g_two_sides := glo 3 "two_sides" rfl
  obtain ⟨fd_bays_above, F_bays_above⟩ := d.def_ 4 (d := dDef "bays_above" 8) rfl
  have g_bays_above := glo 4 "bays_above" rfl
  obtain ⟨fd_bays_climbed, F_bays_climbed⟩ := d.def_ 5 (d := dDef "bays_climbed" 9) rfl
  have g_bays_climbed := glo 5 "bays_climbed" rfl
  obtain ⟨fd_groups_held, F_groups_held⟩ := d.def_ 6 (d := dDef "groups_held" 10) rfl
  have g_groups_held := glo 6 "groups_held" rfl
  obtain ⟨fd_blocks_with_gates, F_blocks_with_gates⟩ := d.def_ 7 (d := dDef "blocks_with_gates" 11) rfl
  have g_blocks_with_gates := glo 7 "blocks_with_gates" rfl
  obtain ⟨fd_is_web, F_is_web⟩ := d.def_ 8 (d := dDef "is_web" 15) rfl
  have g_is_web := glo 8 "is_web" rfl
  obtain ⟨fd_is_tie, F_is_tie⟩ := d.def_ 9 (d := dDef "is_tie" 16) rfl
  have g_is_tie := glo 9 "is_tie" rfl
  obtain ⟨fd_need_web, F_need_web⟩ := d.def_ 10 (d := dDef "need_web" 17) rfl
  have g_need_web := glo 10 "need_web" rfl
  obtain ⟨fd_blocks, F_blocks⟩ := d.def_ 11 (d := dDef "blocks" 19) rfl
  have g_blocks := glo 11 "blocks" rfl
  obtain ⟨fd_gates, F_gates⟩ := d.def_ 12 (d := dDef "gates" 20) rfl
  have g_gates := glo 12 "gates" rfl
  obtain ⟨fd_kinds, F_kinds⟩ := d.def_ 13 (d := dDef "kinds" 21) rfl
  have g_kinds := glo 13 "kinds" rfl
  obtain ⟨fd_kind_of, F_kind_of⟩ := d.def_ 14 (d := dDef "kind_of" 22) rfl
  have g_kind_of := glo 14 "kind_of" rfl
  obtain ⟨fd_rows_within, F_rows_within⟩ := d.def_ 15 (d := dDef "rows_within" 23) rfl
  have g_rows_within := glo 15 "rows_within" rfl
  obtain ⟨fd_ways_of_seven, F_ways_of_seven⟩ := d.def_ 16 (d := dDef "ways_of_seven" 24) rfl
  have g_ways_of_seven := glo 16 "ways_of_seven" rfl
  obtain ⟨fd_forks_of, F_forks_of⟩ := d.def_ 17 (d := dDef "forks_of" 25) rfl
  have g_forks_of := glo 17 "forks_of" rfl
  obtain ⟨fd_bays_passed, F_bays_passed⟩ := d.def_ 18 (d := dDef "bays_passed" 26) rfl
  have g_bays_passed := glo 18 "bays_passed" rfl
  obtain ⟨fd__law_open, F__law_open⟩ := d.def_ 19 (d := dDef "_law_open" 28) rfl
  have g__law_open := glo 19 "_law_open" rfl
  obtain ⟨fd__law_spread, F__law_spread⟩ := d.def_ 20 (d := dDef "_law_spread" 29) rfl
  have g__law_spread := glo 20 "_law_spread" rfl
  obtain ⟨fd__law_take, F__law_take⟩ := d.def_ 21 (d := dDef "_law_take" 30) rfl
  have g__law_take := glo 21 "_law_take" rfl
  obtain ⟨fd__law_one_of, F__law_one_of⟩ := d.def_ 22 (d := dDef "_law_one_of" 31) rfl
  have g__law_one_of := glo 22 "_law_one_of" rfl
  obtain ⟨fd__law_near, F__law_near⟩ := d.def_ 23 (d := dDef "_law_near" 32) rfl
  have g__law_near := glo 23 "_law_near" rfl
  obtain ⟨fd__law_reached, F__law_reached⟩ := d.def_ 24 (d := dDef "_law_reached" 33) rfl
  have g__law_reached := glo 24 "_law_reached" rfl
  obtain ⟨fd__law_any_names, F__law_any_names⟩ := d.def_ 25 (d := dDef "_law_any_names" 34) rfl
  have g__law_any_names := glo 25 "_law_any_names" rfl
  obtain ⟨fd__law_renamed, F__law_renamed⟩ := d.def_ 26 (d := dDef "_law_renamed" 35) rfl
  have g__law_renamed := glo 26 "_law_renamed" rfl
  obtain ⟨fd__law_ways, F__law_ways⟩ := d.def_ 27 (d := dDef "_law_ways" 36) rfl
  have g__law_ways := glo 27 "_law_ways" rfl
  obtain ⟨fd__law_piece, F__law_piece⟩ := d.def_ 28 (d := dDef "_law_piece" 37) rfl
  have g__law_piece := glo 28 "_law_piece" rfl
  obtain ⟨fd__law_any_web, F__law_any_web⟩ := d.def_ 29 (d := dDef "_law_any_web" 38) rfl
  have g__law_any_web := glo 29 "_law_any_web" rfl
  obtain ⟨fd__law_word, F__law_word⟩ := d.def_ 30 (d := dDef "_law_word" 39) rfl
  have g__law_word := glo 30 "_law_word" rfl
  obtain ⟨fd__law_rings, F__law_rings⟩ := d.def_ 31 (d := dDef "_law_rings" 40) rfl
  have g__law_rings := glo 31 "_law_rings" rfl
  obtain ⟨fd__law_blocks, F__law_blocks⟩ := d.def_ 32 (d := dDef "_law_blocks" 41) rfl
  have g__law_blocks := glo 32 "_law_blocks" rfl
  obtain ⟨fd__law_gate, F__law_gate⟩ := d.def_ 33 (d := dDef "_law_gate" 42) rfl
  have g__law_gate := glo 33 "_law_gate" rfl
  obtain ⟨fd_law, F_law⟩ := d.def_ 34 (d := dDef "law" 43) rfl
  have g_law := glo 34 "law" rfl
  have f_len := free 35 "len" rfl
  have f_int := free 36 "int" rfl
  have f_list := free 37 "list" rfl
  have f_enumerate := free 38 "enumerate" rfl
  have f_range := free 39 "range" rfl
  have f_isinstance := free 40 "isinstance" rfl
  have f_tuple := free 41 "tuple" rfl
  have f_all := free 42 "all" rfl
  have f_min := free 43 "min" rfl
  have f_bool := free 44 "bool" rfl
  have f_set := free 45 "set" rfl
  have f_sorted := free 46 "sorted" rfl
  have f_any := free 47 "any" rfl
  have f_zip := free 48 "zip" rfl
  have f_max := free 49 "max" rfl
  have f_sum := free 50 "sum" rfl
  have f_repr := free 51 "repr" rfl
  have f_dict := free 52 "dict" rfl
  have i_FEWEST_BAYS := He.int_ok X G (d.fact 53 (f := .int "FEWEST_BAYS" 2) rfl)
  have i_MOST_BAYS := He.int_ok X G (d.fact 54 (f := .int "MOST_BAYS" 40) rfl)
  have T0 : PenTxt mg := ⟨f_len, f_int, f_list, f_enumerate⟩
  have T : WebTxt mg := ⟨f_len, f_range, f_isinstance, f_int, f_bool, f_tuple, f_all, f_min⟩
  have T2 : WebTxt2 mg := ⟨i_FEWEST_BAYS, i_MOST_BAYS⟩
  have TW : WTxt mg := ⟨f_len, f_range, f_list, f_zip, f_sorted, f_tuple, f_min, f_max, f_sum⟩
  have TN : NearTxt mg := ⟨f_sorted, f_int, f_min, f_tuple, f_range⟩
  have T3 : TwoTxt mg := ⟨f_enumerate, f_any, f_tuple⟩
  have TS : SetTxt mg := ⟨f_set, f_sorted, f_list, f_enumerate⟩
  have TK : BlkTxt mg := ⟨f_len, f_range, f_set, f_sorted, f_tuple, f_min⟩
  have T7 : SevTxt mg := ⟨f_len, f_range, f_sum, f_sorted⟩
  have TD : KndTxt mg := ⟨f_len, f_all⟩
  have TL : LBTxt mg := ⟨f_range, f_len, f_min, f_dict, f_list, f_set, f_tuple, f_sorted, f_enumerate⟩
  have TR : RingTxt mg := ⟨f_range, f_len, f_min, f_max, f_zip⟩
  have TQ : LawTxt mg := ⟨f_range, f_repr, f_len, f_zip, f_sorted, f_list⟩
  have E : ErrV K mg (cOf K 0) (cOf K 1) := err_of X G c.more
  obtain ⟨_, _, hPP⟩ := exs_cls c.more
  have e := hfa.symm.trans g_law
  cases e
  have bL := FunD.bindsA (ps := ["script"]) F_law fun _ _ _ _ _ _ us hl => match us, hl with | [_], _ => rfl
  let TT : List (Addr × Str) := [((He.cT K ("law", none)).2, qOf "law"), ((He.cT K ("blocks_with_gates", none)).2, qOf "blocks_with_gates")]
  have mR : ((He.cT K ("law", none)).2, qOf "law") ∈ TT := List.mem_cons_self
  have mB : ((He.cT K ("blocks_with_gates", none)).2, qOf "blocks_with_gates") ∈ TT := List.mem_cons_of_mem _ List.mem_cons_self
  have uR : ∀ p ∈ TT, p.1 = (He.cT K ("law", none)).2 → p.2 = qOf "law" := fun p hp e => by
    rcases List.mem_cons.mp hp with z | z
    · rw [z]
    · rw [List.mem_singleton.mp z] at e
      exact absurd e.symm hPP
  have uB : ∀ p ∈ TT, p.1 = (He.cT K ("blocks_with_gates", none)).2 → p.2 = qOf "blocks_with_gates" := fun p hp e => by
    rcases List.mem_cons.mp hp with z | z
    · rw [z] at e
      exact absurd e hPP
    · rw [List.mem_singleton.mp z]
  obtain ⟨oc1, od1, dV1, kV1, doc1, pm1, an1, cd1, ct1, osl1, rfl, lk1, hc1, _, _⟩ := F_law.ex
  obtain ⟨cl1, rfl⟩ := He.codeIn_ref hc1
  have ec1 : (He.cT K ("law", none)).1 = cl1 := He.codeOf_eq lk1 rfl
  obtain ⟨oc2, od2, dV2, kV2, doc2, pm2, an2, cd2, ct2, osl2, rfl, lk2, hc2, _, _⟩ := F_blocks_with_gates.ex
  obtain ⟨cl2, rfl⟩ := He.codeIn_ref hc2
  have ec2 : (He.cT K ("blocks_with_gates", none)).1 = cl2 := He.codeOf_eq lk2 rfl
  refine ⟨_, tfs.map (He.cT K), spLaw K TT, fun p hp => ?_, fun p hp => ?_, fun p hp => ?_, fun s v => bL s [v] rfl, fun H a ns hl _ hT hS => ?_, fun base KB GB TBs => ?_⟩
  · obtain ⟨q, hq, rfl⟩ := List.mem_map.mp hp
    exact c.empty q hq
  · obtain ⟨q, hq, rfl⟩ := List.mem_map.mp hp
    exact c.out q hq
  · obtain ⟨q, hq, rfl⟩ := List.mem_map.mp hp
    exact PySem.W.codeHd_of_K X (c.hd q hq)
  · refine ⟨a, ns, rfl, hS, hl, fun z hz => ?_, fun _ => rfl⟩
    rcases List.mem_cons.mp hz with e | e
    · rw [e]
      exact LamX.TabS.nil (hT _ List.mem_cons_self)
    · rw [List.mem_singleton.mp e]
      exact LamX.TabS.nil (hT _ (List.mem_cons_of_mem _ List.mem_cons_self))
  · have TB1 := TBs _ (List.mem_cons_self : He.cT K ("law", none) ∈ tfs.map (He.cT K))
    rw [ec1] at TB1
    have TB2 := TBs _ (List.mem_cons_of_mem _ List.mem_cons_self : He.cT K ("blocks_with_gates", none) ∈ tfs.map (He.cT K))
    rw [ec2] at TB2
    have Gtake : FnOk PySem.Challenge.rw_sparebay_k32_blocks_and_gates.prog w K mg base CX0 2 _ fd__law_take ["pen", "many"] spTake := ok_take F__law_take T0 F__law_spread g__law_spread
    have Gopen : FnOk PySem.Challenge.rw_sparebay_k32_blocks_and_gates.prog w K mg base CX0 1 _ fd__law_open ["script"] (spOpen K) := ok_open F__law_open T0
    have Gone : FnOk PySem.Challenge.rw_sparebay_k32_blocks_and_gates.prog w K mg base CX0 3 _ fd__law_one_of ["pen", "some"] (spOneOf K) := ok_oneOf F__law_one_of T0 F__law_take Gtake g__law_take
    have Gnames := ok_names (P := PySem.Challenge.rw_sparebay_k32_blocks_and_gates.prog) (w := w) (base := base) F__law_any_names TW F__law_take g__law_take Gtake
    have Gways := ok_ways (P := PySem.Challenge.rw_sparebay_k32_blocks_and_gates.prog) (w := w) (mg := mg) (base := base) F__law_ways TW
    have Gren := ok_renamed (P := PySem.Challenge.rw_sparebay_k32_blocks_and_gates.prog) (w := w) (mg := mg) (base := base) F__law_renamed TW
    have Gpiece := ok_piece (P := PySem.Challenge.rw_sparebay_k32_blocks_and_gates.prog) (w := w) (base := base) F__law_piece TW F__law_take g__law_take Gtake F__law_one_of g__law_one_of Gone F__law_ways g__law_ways Gways
    have Gany := ok_anyWeb (P := PySem.Challenge.rw_sparebay_k32_blocks_and_gates.prog) (w := w) (base := base) F__law_any_web TW F__law_take g__law_take Gtake F__law_piece g__law_piece Gpiece F__law_any_names g__law_any_names Gnames F__law_renamed g__law_renamed Gren
    have Gweb := ok_webT (P := PySem.Challenge.rw_sparebay_k32_blocks_and_gates.prog) (w := w) (base := base) F_is_web T T2 F_is_whole g_is_whole F_is_tie g_is_tie F_rows_of g_rows_of F_steps_from g_steps_from
    have Gneed := ok_needT (P := PySem.Challenge.rw_sparebay_k32_blocks_and_gates.prog) (w := w) (base := base) F_need_web E.toErrW F_is_web g_is_web Gweb
    have Grows := ok_rows (P := PySem.Challenge.rw_sparebay_k32_blocks_and_gates.prog) (w := w) (base := base) F_rows_of T
    have Gsteps := ok_steps (P := PySem.Challenge.rw_sparebay_k32_blocks_and_gates.prog) (w := w) (base := base) F_steps_from T
    have Gabove := ok_above (P := PySem.Challenge.rw_sparebay_k32_blocks_and_gates.prog) (w := w) (base := base) F_bays_above T
    have Ggroups := ok_groups (P := PySem.Challenge.rw_sparebay_k32_blocks_and_gates.prog) (w := w) (base := base) F_groups_held T TS F_bays_climbed g_bays_climbed
    have Gbwg := ok_blocks (P := PySem.Challenge.rw_sparebay_k32_blocks_and_gates.prog) (w := w) (base := base) (TT := TT) lk2 hc2 TK F_steps_from g_steps_from Gsteps F_bays_above g_bays_above Gabove F_groups_held g_groups_held Ggroups TB2 mB uB
    have kit : KitB PySem.Challenge.rw_sparebay_k32_blocks_and_gates.prog w K mg base (cOf K 0) TT := ⟨⟨_, _, F_need_web, g_need_web, Gneed⟩, ⟨_, _, F_rows_of, g_rows_of, Grows⟩, ⟨_, _, F_blocks_with_gates, g_blocks_with_gates, Gbwg⟩⟩
    have Gblk := ok_blkT F_blocks kit
    have Ggts := ok_gtsT F_gates kit
    have Gtwo := ok_two (P := PySem.Challenge.rw_sparebay_k32_blocks_and_gates.prog) (w := w) (base := base) F_two_sides T3 F_steps_from g_steps_from Gsteps
    have Gwithin := ok_within (P := PySem.Challenge.rw_sparebay_k32_blocks_and_gates.prog) (w := w) (base := base) F_rows_within f_enumerate
    have Gpassed := ok_passed (P := PySem.Challenge.rw_sparebay_k32_blocks_and_gates.prog) (w := w) (base := base) F_bays_passed f_len
    have Gseven := ok_seven (P := PySem.Challenge.rw_sparebay_k32_blocks_and_gates.prog) (w := w) (base := base) F_ways_of_seven T7 F_forks_of g_forks_of F_bays_passed g_bays_passed Gpassed
    have Gkind := ok_kind (P := PySem.Challenge.rw_sparebay_k32_blocks_and_gates.prog) (w := w) (base := base) F_kind_of TD F_rows_within g_rows_within Gwithin F_ways_of_seven g_ways_of_seven Gseven F_two_sides g_two_sides Gtwo
    have Gkinds := ok_kinds F_kinds kit F_kind_of g_kind_of Gkind
    have Gnear := ok_near (P := PySem.Challenge.rw_sparebay_k32_blocks_and_gates.prog) (w := w) (mg := mg) (base := base) F__law_near TN
    have Greach := ok_reached F__law_reached F__law_near g__law_near Gnear
    have Grings := ok_rings F__law_rings TR F__law_near g__law_near Gnear
    have Glb := ok_lblocks F__law_blocks TL F__law_rings g__law_rings Grings
    have Gg := ok_gate F__law_gate F__law_reached g__law_reached Greach
    exact ok_law lk1 hc1 TQ E F__law_open g__law_open Gopen F__law_any_web g__law_any_web Gany F__law_blocks g__law_blocks Glb F__law_gate g__law_gate Gg F_blocks g_blocks Gblk F_gates g_gates Ggts F_kinds g_kinds Gkinds F__law_word g__law_word TB1 mR uR
end Sb

open PySem PySem.W PySem.Calls PyProof.Rows in
set_option maxRecDepth 100000 in
set_option maxHeartbeats 0 in
theorem PySem.Challenge.cw_sparebay_k32_blocks_and_gates_holds : PySem.Challenge.rw_sparebay_k32_blocks_and_gates.Holds := by
  w_on; o_law
  refine HandSHeadRun.head_any (r := OpenLaw.row PySem.Challenge.rw_sparebay_k32_blocks_and_gates) (q := view (OpenLaw.row PySem.Challenge.rw_sparebay_k32_blocks_and_gates).prog [43]) (H := Sb.hk) (ob := Sb.ob) (M := 6000) (loose := Sb.loose) (d := HandSHeadRun.topDef (OpenLaw.row PySem.Challenge.rw_sparebay_k32_blocks_and_gates).prog 43) (kwd := []) Sb.ob_eq
    (by kernel_rfl) (fun s => by kernel_rfl) Sb.run (by kernel_rfl) (by kernel_rfl) (by kernel_rfl) (by rfl) (by first | assumption | decide +kernel) (by decide +kernel) ⟨rfl, rfl, rfl, rfl, rfl, by decide +kernel⟩ ?hw ?hc
  case hw => w_witness2
  case hc =>
    refine Sb.walkG (l := PySem.Challenge.rw_sparebay_k32_blocks_and_gates) (n := 63) (k := 8) (x := "script") (CX := fun _ => L2.CX0) rfl (by decide) (by kernel_rfl) ⟨rfl, by decide, by decide⟩ ?F (fun _ _ _ _ _ z => z)
    intro w mg fa h Y G hmg0
    obtain ⟨K, KX, c⟩ := Y
    have hmg : mg ("law" : PySem.Str) = some (.ref fa) := by
      have e : (HandSHeadRun.topDef (OpenLaw.row PySem.Challenge.rw_sparebay_k32_blocks_and_gates).prog 43).name = ("law" : PySem.Str) := by kernel_rfl
      rw [← e]
      exact hmg0
    exact ⟨K, KX, Sb.law_at KX G hmg c⟩
