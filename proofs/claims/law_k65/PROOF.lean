import PyProof.Rows.All
import Wide.All
import OpenK.AllK
import Wide.FinOn
import HandS.ForMost
import HandS.Walk
import HandS.Defaults
import HandS.Codes
import HandS.ForExc
import HandS.ExcValue
import HandS.ExcIs
import HandS.IsInst
import KE.KExcStr
import HandS.HeadHook2
import HandS.HotCalls
import HandS.Lambda
import HandS.HeadHook4
import HandS.HeadWalk
import KE.KStateDown
import HandS.Head0
import HandS.Head1
import HandS.Head2
import HandS.HeadEnd
import HandS.Conv
import HandS.Zip
import KE.KMinKey
import PyProof.NsMap
import HandS.SetFor
import HandS.Strs
import KE.GoesEnum
import HandS.DictComp
import HandS.SortOrd
import PySem.Challenge.RW_sparebay_k65_errors
set_option Elab.async false
set_option linter.all false
set_option maxRecDepth 100000
set_option maxHeartbeats 0

/-! ## P65 -/
/-! The pen: a row of numbers made of the script, from which numbers below a bound are taken. -/
namespace Sb
open PySem PySem.Spec PyProof.Rows L2
def top (i : Nat) : Stmt := PySem.Challenge.pw_sparebay_k65_errors.main.body.getD i (.Pass ⟨0, 0, 0, 0⟩)
abbrev sOpen : Stmt := top 49
abbrev sSpread : Stmt := top 50
abbrev sTake : Stmt := top 51
abbrev sOneOf : Stmt := top 52
abbrev FnP (K : PySem.W.Frag) (x : Str) (st : Stmt) (f : Addr) (fd : FuncData) : Prop := FunD K x x (defArgs st) (defBody st) (defScope st) [] [] f fd
/-- all that stood but the object at p stands as it was -/
def But (p : Addr) (H H' : Hp) : Prop := ∀ b o, b ≠ p → H b = some o → H' b = some o
theorem But.refl (p : Addr) (H : Hp) : But p H H := fun _ _ _ h => h
theorem But.trans {p : Addr} {H H1 H2 : Hp} (a : But p H H1) (b : But p H1 H2) : But p H H2 := fun c o n h => b c o n (a c o n h)
theorem sameBut {p : Addr} {H H' : Hp} (a : Same H H') : But p H H' := fun c o _ h => a c o h
theorem same_upd {H : Hp} {p : Addr} {o : HO} (h : H p = none) : Same H (upd H p o) := fun b u e => by
  rw [upd_ne (ne_of_none e h)]
  exact e
theorem but_upd {H : Hp} {p : Addr} {o : HO} : But p H (upd H p o) := fun b u n e => by
  rw [upd_ne n]
  exact e
/-- a pen at p, from which k cells have been taken -/
def Pen (H : Hp) (p : Addr) (k : Nat) : Prop := ∃ (c : Addr) (cells : List Int) (x : Int), H p = some (.lst [.ref c, .int (k : Int), .int x]) ∧ H c = some (.lst (cells.map V.int)) ∧ 0 ≤ x ∧ cells.length ≤ 12
theorem pen_ne {c : Addr} {k x : V} {cells : List Int} : HO.lst [.ref c, k, x] ≠ .lst (cells.map V.int) := fun q => by
  have q := HO.lst.inj q
  cases cells with
  | nil => cases q
  | cons a r => 
    rw [List.map_cons] at q
    cases (List.cons.inj q).1
theorem Pen.same {H H' : Hp} {p : Addr} {k : Nat} (h : Pen H p k) (s : Same H H') : Pen H' p k := by
  obtain ⟨c, cells, x, h1, h2, h3, h4⟩ := h
  exact ⟨c, cells, x, s _ _ h1, s _ _ h2, h3, h4⟩
/-! ### the promises -/
def spOpen (K : PySem.W.Frag) : Sp := fun vs H Q _ => ∃ (a : Addr) (ns : List Int), vs = [.ref a] ∧ SqL K H a (ns.map V.int) ∧ ns.length ≤ 63 ∧ ∀ (p : Addr) H', Same H H' → H p = none → Pen H' p 0 → Q (.ref p) H'
def spSpread : Sp := fun vs H Q _ => ∃ (cell : Int) (k : Nat), vs = [.int cell, .int (k : Int)] ∧ k < 1000000 ∧ ∀ r H', 0 ≤ r → Same H H' → Q (.int r) H'
def spTake : Sp := fun vs H Q _ => ∃ (p : Addr) (k : Nat) (many : Int), vs = [.ref p, .int many] ∧ Pen H p k ∧ 0 < many ∧ many < 1073741824 ∧ k < 1000000 ∧
  ∀ r H' k', 0 ≤ r → r < many → But p H H' → k' ≤ k + 1 → Pen H' p k' → Q (.int r) H'
def spOneOf (K : PySem.W.Frag) : Sp := fun vs H Q _ => ∃ (p a : Addr) (k : Nat) (xs : List V), vs = [.ref p, .ref a] ∧ Pen H p k ∧ SqL K H a xs ∧ a ≠ p ∧ 0 < xs.length ∧ xs.length < 1000000 ∧ k < 1000000 ∧
  ∀ (i : Nat) v H' k', xs[i]? = some v → But p H H' → k' ≤ k + 1 → Pen H' p k' → Q v H'
structure PenTxt (mg : Str → Option Value) : Prop where
  len : mg "len" = none
  int : mg "int" = none
  list : mg "list" = none
  enumerate : mg "enumerate" = none

section
variable {X : Cx}
theorem OpR.weak {f : Value → Value → Sem Value} {r r' : R2} (h : OpR X f r) (w : ∀ x y H Q, r' x y H Q → r x y H Q) : OpR X f r' := fun pins s σ H x y v u Q I rx ry q => h pins s σ H x y v u Q I rx ry (w x y H Q q)
/-- operators that hand on a letter -/
def rIL (C : Int → Int → Prop) (g : Int → Int → Int) : R2 := fun x y H Q => ∃ i j, x = .int i ∧ y = .int j ∧ C i j ∧ ∀ r, r = g i j → Q (.int r) H
def rIL0 (g : Int → Int → Int) : R2 := fun x y H Q => ∃ i j, x = .int i ∧ y = .int j ∧ ∀ r, r = g i j → Q (.int r) H
theorem op_addL : OpR X (binaryOp .Add) (rIL0 fun i j => i + j) := OpR.weak op_add fun _ _ _ _ ⟨i, j, a, b, q⟩ => ⟨i, j, a, b, q _ rfl⟩
theorem op_subL : OpR X (binaryOp .Sub) (rIL0 fun i j => i - j) := OpR.weak op_sub fun _ _ _ _ ⟨i, j, a, b, q⟩ => ⟨i, j, a, b, q _ rfl⟩
theorem op_mulL : OpR X (binaryOp .Mult) (rIL CMul fun i j => i * j) := OpR.weak op_mul fun _ _ _ _ ⟨i, j, a, b, c, q⟩ => ⟨i, j, a, b, c, q _ rfl⟩
theorem op_powL : OpR X (binaryOp .Pow) (rIL CPow fun i j => i ^ j.toNat) := OpR.weak op_pow fun _ _ _ _ ⟨i, j, a, b, c, q⟩ => ⟨i, j, a, b, c, q _ rfl⟩
theorem op_modL : OpR X (binaryOp .Mod) (rIL (fun _ j => 0 < j) fun i j => i % j) := OpR.weak op_mod fun _ _ _ _ ⟨i, j, a, b, c, q⟩ => ⟨i, j, a, b, c, q _ rfl⟩
/-- a rest: its bounds alone -/
def rMB : R2 := fun x y H Q => ∃ i j, x = .int i ∧ y = .int j ∧ 0 < j ∧ ∀ r, 0 ≤ r → r < j → Q (.int r) H
theorem op_modB : OpR X (binaryOp .Mod) rMB := OpR.weak op_mod fun _ _ _ _ ⟨i, j, a, b, c, q⟩ => ⟨i, j, a, b, c, q _ (Int.emod_nonneg _ (by omega)) (Int.emod_lt_of_pos _ c)⟩
/-- a new object -/
def New (H : Hp) (o : HO) (Q : VK) : Prop := ∀ p H', H p = none → Same H H' → H' p = some o → Q (.ref p) H'
theorem New.go {H : Hp} {o : HO} {Q : VK} (h : New H o Q) : ∀ p, H p = none → Q (.ref p) (upd H p o) := fun p n => h p _ n (same_upd n) upd_same
theorem PE.weak {e : Expr} {t t' : TE} (h : PE X e t) (w : ∀ σ H Q, t' σ H Q → t σ H Q) : PE X e t' := ⟨fun pins s σ H Q I q => h.run pins s σ H Q I (w σ H Q q)⟩
def TAMono (t : TA) : Prop := ∀ σ H (Q Q' : List V → Hp → Prop), (∀ xs H', Q xs H' → Q' xs H') → t σ H Q → t σ H Q'
def tLstN (t : TA) : TE := fun σ H Q => t σ H fun xs H1 => xs.length ≤ sizeLine ∧ New H1 (.lst xs) Q
def tTupN (t : TA) : TE := fun σ H Q => t σ H fun xs H1 => xs.length ≤ sizeLine ∧ New H1 (.tup xs) Q
theorem pe_lstL {es : List Expr} {t : TA} {pos : Pos} (h : PA X es t) : PE X (.List es pos) (tLstN t) := by
  refine ⟨fun pins s σ H Q I hq => ?_⟩
  refine wpAny_List_spliced (thn (h.run pos pins s σ H _ I hq) fun us s1 ⟨xs, H1, I1, r, z, q⟩ => ⟨by rw [← r.length]; exact z, ?_⟩)
  have hf : H1 s1.heap.objs.size = none := I1.hok.fresh (Nat.le_refl _)
  refine ⟨.ref s1.heap.objs.size, upd H1 s1.heap.objs.size (.lst xs), I1.laid (t' := s1.toks) (fun b u e => Heap.get?_push_of_some _ e) (Nat.le_refl _) ?_, rfl, q.go _ hf⟩
  exact ⟨z, us, 0, r, Heap.get?_push_size _ rfl⟩
theorem pe_tupL {es : List Expr} {t : TA} {pos : Pos} {x1} (h : PA X es t) : PE X (.Tuple es x1 pos) (tTupN t) := by
  refine ⟨fun pins s σ H Q I hq => ?_⟩
  refine wpAny_Tuple_spliced (thn (h.run pos pins s σ H _ I hq) fun us s1 ⟨xs, H1, I1, r, z, q⟩ => ⟨by rw [← r.length]; exact z, ?_⟩)
  have hf : H1 s1.heap.objs.size = none := I1.hok.fresh (Nat.le_refl _)
  refine ⟨.ref s1.heap.objs.size, upd H1 s1.heap.objs.size (.tup xs), I1.laid (t' := s1.toks) (fun b u e => Heap.get?_push_of_some _ e) (Nat.le_refl _) ?_, rfl, q.go _ hf⟩
  exact ⟨z, us, r, ⟨_, Heap.get?_push_size _ rfl, rfl, _, rfl⟩⟩
def rCatN : R2 := fun x y H Q => ∃ l b xs zs, x = .ref l ∧ y = .ref b ∧ H l = some (.lst xs) ∧ H b = some (.lst zs) ∧ xs.length + zs.length ≤ sizeLine ∧ New H (.lst (xs ++ zs)) Q
theorem op_catL : OpR X (binaryOp .Add) rCatN := OpR.weak op_cat fun _ _ _ _ ⟨l, b, xs, zs, a1, a2, a3, a4, a5, q⟩ => ⟨l, b, xs, zs, a1, a2, a3, a4, a5, q.go⟩
def rSlN (K : PySem.W.Frag) : V → Option Int → Option Int → Hp → VK → Prop := fun x lo hi H Q => ∃ a xs, x = .ref a ∧ SqL K H a xs ∧ New H (.lst (cutV xs lo hi)) Q
theorem sl_listL : SlR X (rSlN X.K) := by
  intro pins s σ H x v vl vu lo hi sl Q I rx hs pl pu h
  obtain ⟨a, xs, e, hS, q⟩ := h
  exact sl_list pins s σ H x v vl vu lo hi sl Q I rx hs pl pu ⟨a, xs, e, hS, q.go⟩
theorem call_list_ofL : CallR X (.type "list") (fun xs H Q => ∃ p ys, xs = [.ref p] ∧ (SqL X.K H p ys ∨ SqT X.K H p ys) ∧ New H (.lst ys) Q) := fun pins s σ H xs us Q I r ⟨p, ys, e, h, q⟩ => call_list_of pins s σ H xs us Q I r ⟨p, ys, e, h, q.go⟩
def rSetN : V → V → V → Hp → (Hp → Prop) → Prop := fun o i v H Q => ∃ p xs k j, o = .ref p ∧ i = .int k ∧ H p = some (.lst xs) ∧ ixN xs.length k = some j ∧ ∀ H', But p H H' → H' p = some (.lst (xs.set j v)) → Q H'
theorem set_listL : PSet X rSetN := fun pins s σ H o i v ov iv u Q I ro ri rv ⟨p, xs, k, j, a1, a2, a3, a4, q⟩ => set_list pins s σ H o i v ov iv u Q I ro ri rv ⟨p, xs, k, j, a1, a2, a3, a4, q _ but_upd upd_same⟩
theorem op_fdivL : OpR X (binaryOp .FloorDiv) (rIL CDiv fun i j => i / j) := OpR.weak op_fdiv fun _ _ _ _ ⟨i, j, a, b, c, q⟩ => ⟨i, j, a, b, c, q _ rfl⟩
end
section
variable {P : Program} {w : World} {K : PySem.W.Frag} {mg : Str → Option Value} {base : Heap} {x qual : Str} {params : Arguments} {body : List Stmt} {scope : Scope} {dvs : List V} {kws : List (Str × V)} {f : Addr} {fd : FuncData}
/-- a def that lets nothing out -/
theorem ok0 {N ps : List Str} {k : Nat} {sp : Sp} (F : FunD K x qual params body scope dvs kws f fd) (S : FnScope N ps scope) (len : ∀ vs H Q E, sp vs H Q E → vs.length = ps.length)
    (hbody : ∀ (cdv : Value) (A : Around) (outer : List Env) (s : Shared) (H : Hp) (vs : List V) (Q : VK) (E : XK), Room k (A.deeper (envOfC qual scope s.heap.objs.size f cdv)) → sp vs H Q E →
      ∃ t, PSs (cxOf CX0 P w K mg base N qual scope f cdv A outer s H E).nox body t ∧ t { nx := fun _ H' => Q .non H', rt := Q } (start N vs) H) : FnOk P w K mg base CX0 (k + 1) f fd ps sp := by
  refine F.ok S len fun cdv A outer s H vs Q E hr hsp => ?_
  obtain ⟨t, h, q⟩ := hbody cdv A outer s H vs Q E hr hsp
  exact ⟨t, h.nox, q⟩
end
section
variable {P : Program} {w : World} {K : PySem.W.Frag} {mg : Str → Option Value} {base : Heap}
theorem scSpread : FnScope ["cell", "k", "primes", "one", "two", "three"] ["cell", "k"] (defScope sSpread) := ⟨rfl, rfl, rfl, by decide +kernel, rfl, by decide +kernel, by decide +kernel⟩
/-- a place of a list of 13 -/
theorem at13 {xs : List V} (h : xs.length = 13) (k : Int) : ∃ v, atI xs (k % 13) = some v ∧ v ∈ xs := by
  have h1 : 0 ≤ k % 13 := Int.emod_nonneg _ (by decide)
  have h2 : k % 13 < 13 := Int.emod_lt_of_pos _ (by decide)
  have h3 : (k % 13).toNat < xs.length := by omega
  refine ⟨xs[(k % 13).toNat], ?_, List.getElem_mem h3⟩
  exact at_of (j := (k % 13).toNat) (by omega) (by simp [h3])
def prA : List Int := [2147483629, 2147483587, 2147483579, 2147483563, 2147483549, 2147483543, 2147483497, 2147483489]
def prB : List Int := [2147483477, 2147483423, 2147483399, 2147483353, 2147483323]
theorem pr_mem {v : V} (h : v ∈ (prA ++ prB).map V.int) : ∃ p : Int, v = .int p ∧ 0 < p ∧ p < 2147483648 := by
  obtain ⟨p, hp, rfl⟩ := List.mem_map.mp h
  refine ⟨p, rfl, ?_⟩
  have q : ∀ p ∈ prA ++ prB, 0 < p ∧ p < 2147483648 := by decide
  exact q p hp
theorem ok_spread {f : Addr} {fd : FuncData} (F : FnP K "_law_spread" sSpread f fd) (T : PenTxt mg) : FnOk P w K mg base CX0 1 f fd ["cell", "k"] spSpread := by
  refine ok0 F scSpread (fun vs H Q E h => ?_) (fun cdv A outer s H vs Q E hr h => ?_)
  · obtain ⟨cell, k, rfl, _⟩ := h
    rfl
  · obtain ⟨cell, k, rfl, hk, q⟩ := h
    refine ⟨_, (pss_cons (ps_if (pt_cmpR op_ge (pv 0) (pe_op op_pow pe_int pe_int) (nomark _))
      (pss_one (ps_ret (pv 0)))
      pss_nil)
    (pss_cons (ps_set (i := 2) scSpread.nd rfl (Or.inl rfl) (pe_lstL (pa_cons pe_int (pa_cons pe_int (pa_cons pe_int (pa_cons pe_int (pa_cons pe_int (pa_cons pe_int (pa_cons pe_int (pa_cons pe_int pa_nil))))))))))
    (pss_cons (ps_set (i := 2) scSpread.nd rfl (Or.inl rfl) (pe_op op_catL (pv 2) (pe_lstL (pa_cons pe_int (pa_cons pe_int (pa_cons pe_int (pa_cons pe_int (pa_cons pe_int pa_nil))))))))
    (pss_cons (ps_set (i := 3) scSpread.nd rfl (Or.inl rfl) (pe_op op_mulL (pe_op op_modB (pe_callTy call_int1 (by rfl) T.int (by decide +kernel) (pa_cons (pv 0) pa_nil)) pe_int) (pe_op op_add (pe_op op_mul pe_int (pv 1)) pe_int)))
    (pss_cons (ps_set (i := 3) scSpread.nd rfl (Or.inl rfl) (pe_op op_modB (pe_callTy call_int1 (by rfl) T.int (by decide +kernel) (pa_cons (pe_op op_powL (pe_op op_add (pe_op op_add (pv 3) (pe_op op_mul (pv 1) pe_int)) pe_int) pe_int) pa_nil)) (pe_ix ix_list (pv 2) (pe_op op_mod (pe_callTy call_int1 (by rfl) T.int (by decide +kernel) (pa_cons (pv 1) pa_nil)) pe_int) (fun _ _ => rfl))))
    (pss_cons (ps_set (i := 4) scSpread.nd rfl (Or.inl rfl) (pe_op op_modB (pe_callTy call_int1 (by rfl) T.int (by decide +kernel) (pa_cons (pe_op op_powL (pe_op op_add (pe_op op_add (pe_op op_mulL (pv 3) (pe_op op_add (pv 1) pe_int)) (pe_op op_modB (pe_callTy call_int1 (by rfl) T.int (by decide +kernel) (pa_cons (pv 0) pa_nil)) pe_int)) pe_int) pe_int) pa_nil)) (pe_ix ix_list (pv 2) (pe_op op_mod (pe_callTy call_int1 (by rfl) T.int (by decide +kernel) (pa_cons (pe_op op_add (pv 1) pe_int) pa_nil)) pe_int) (fun _ _ => rfl))))
    (pss_cons (ps_set (i := 5) scSpread.nd rfl (Or.inl rfl) (pe_op op_modB (pe_callTy call_int1 (by rfl) T.int (by decide +kernel) (pa_cons (pe_op op_powL (pe_op op_add (pe_op op_add (pv 4) (pe_op op_modB (pe_callTy call_int1 (by rfl) T.int (by decide +kernel) (pa_cons (pv 3) pa_nil)) pe_int)) (pv 1)) pe_int) pa_nil)) (pe_ix ix_list (pv 2) (pe_op op_mod (pe_callTy call_int1 (by rfl) T.int (by decide +kernel) (pa_cons (pe_op op_add (pv 1) pe_int) pa_nil)) pe_int) (fun _ _ => rfl))))
    (pss_one (ps_ret (pe_op op_add (pe_op op_mulL (pe_op op_add (pe_op op_mulL (pv 3) pe_int) (pv 4)) pe_int) (pv 5))))))))))), ?_⟩
    refine ⟨_, rfl, _, _, rfl, rfl, ⟨by decide, by decide, by decide⟩, _, _, rfl, rfl, _, rfl, ?_⟩
    refine ite2 (fun c => ?_) (fun _ => ?_)
    · have c := of_decide_eq_true c
      exact ⟨_, rfl, q cell H (Int.le_trans (by decide) c) (Same.refl H)⟩
    · refine ⟨by show 8 ≤ sizeLine; decide, fun l1 H1 n1 s1 h1 => ⟨_, rfl, by show 5 ≤ sizeLine; decide, fun l2 H2 n2 s2 h2 => ⟨l1, l2, prA.map V.int, prB.map V.int, rfl, rfl, s2 _ _ h1, h2, by show 13 ≤ sizeLine; decide, fun p H3 n3 s3 hp => ?_⟩⟩⟩
      have S : Same H H3 := (s1.trans s2).trans s3
      rw [← List.map_append] at hp
      have Kp : ∀ z : Int, ∃ v : Int, atI ((prA ++ prB).map V.int) (z % 13) = some (V.int v) ∧ 0 < v ∧ v < 2147483648 := fun z => by
        obtain ⟨v, h1, h2⟩ := at13 (xs := (prA ++ prB).map V.int) rfl z
        obtain ⟨w', rfl, h3⟩ := pr_mem h2
        exact ⟨w', h1, h3⟩
      obtain ⟨p1, hp1, lp1, up1⟩ := Kp k
      obtain ⟨p2, hp2, lp2, up2⟩ := Kp (k + 5)
      obtain ⟨p3, hp3, lp3, up3⟩ := Kp (k + 7)
      have hS : SqL K H3 p ((prA ++ prB).map V.int) := SqL.of hp
      -- one
      refine ⟨_, rfl, .inl ⟨_, rfl, _, _, rfl, rfl, (by show (0 : Int) < 1000000007; decide), fun a a0 a1 => ⟨_, rfl, _, _, rfl, rfl, .inl ⟨by decide, by decide⟩, _, _, rfl, rfl, _, _, rfl, rfl, .inl ⟨by omega, by omega⟩, fun one e1 => ?_⟩⟩⟩
      have f1 : 0 ≤ one := by rw [e1]; exact Int.mul_nonneg a0 (by omega)
      have f2 : one ≤ 1000000007 * 2069069 := by rw [e1]; exact Int.mul_le_mul (by omega) (by omega) (by omega) (by omega)
      refine ⟨_, rfl, _, rfl, _, _, rfl, rfl, .inr ⟨by decide, by decide⟩, _, _, rfl, rfl, _, _, rfl, rfl, _, _, rfl, rfl, ⟨by decide, by decide, by omega⟩, fun r1 g1 => .inl ⟨_, rfl, ?_⟩⟩
      refine ⟨_, rfl, _, rfl, .inl ⟨_, rfl, _, _, rfl, rfl, (by show (0 : Int) < 13; decide), p, _, _, _, rfl, rfl, hS, hp1, _, _, rfl, rfl, lp1, fun o o0 o1 => ?_⟩⟩
      -- two
      refine ⟨_, rfl, _, rfl, _, _, rfl, rfl, _, _, rfl, rfl, .inl ⟨by omega, by omega⟩, fun m em => ⟨_, rfl, .inl ⟨_, rfl, _, _, rfl, rfl, (by show (0 : Int) < 65537; decide), fun b b0 b1 => ?_⟩⟩⟩
      have g2 : 0 ≤ m := by rw [em]; exact Int.mul_nonneg o0 (by omega)
      have g3 : m ≤ 2147483648 * 1000003 := by rw [em]; exact Int.mul_le_mul (by omega) (by omega) (by omega) (by omega)
      refine ⟨_, _, rfl, rfl, _, _, rfl, rfl, _, _, rfl, rfl, ⟨by decide, by decide, by omega⟩, fun r2 _ => .inl ⟨_, rfl, _, rfl, _, rfl, _, _, rfl, rfl, .inl ⟨_, rfl, _, _, rfl, rfl, (by show (0 : Int) < 13; decide), p, _, _, _, rfl, rfl, hS, hp2, _, _, rfl, rfl, lp2, fun t t0 t1 => ?_⟩⟩⟩
      -- three
      refine ⟨_, rfl, _, rfl, .inl ⟨_, rfl, _, _, rfl, rfl, (by show (0 : Int) < 1009; decide), fun b2 b20 b21 => ⟨_, _, rfl, rfl, _, rfl, _, _, rfl, rfl, _, _, rfl, rfl, ⟨by decide, by decide, by omega⟩, fun r3 _ => .inl ⟨_, rfl, _, rfl, _, rfl, _, _, rfl, rfl, .inl ⟨_, rfl, _, _, rfl, rfl, (by show (0 : Int) < 13; decide), p, _, _, _, rfl, rfl, hS, hp3, _, _, rfl, rfl, lp3, fun u u0 u1 => ?_⟩⟩⟩⟩⟩
      refine ⟨_, rfl, _, _, rfl, rfl, .inr ⟨by decide, by decide⟩, fun z1 y1 => ⟨_, rfl, _, _, rfl, rfl, _, _, rfl, rfl, .inr ⟨by decide, by decide⟩, fun z2 y2 => ⟨_, rfl, _, _, rfl, rfl, ?_⟩⟩⟩
      have y1 : z1 = o * 2147483647 := y1
      have y2 : z2 = (z1 + t) * 2147483647 := y2
      exact q _ _ (by omega) S
theorem scTake : FnScope ["pen", "many", "k", "cell", "found"] ["pen", "many"] (defScope sTake) := ⟨rfl, rfl, rfl, by decide +kernel, rfl, by decide +kernel, by decide +kernel⟩
theorem at_pos {xs : List V} {n : Nat} (h : xs.length = n) (hn : 0 < n) (k : Int) : ∃ v, atI xs (k % (n : Int)) = some v ∧ v ∈ xs := by
  have h1 : 0 ≤ k % (n : Int) := Int.emod_nonneg _ (by omega)
  have h2 : k % (n : Int) < (n : Int) := Int.emod_lt_of_pos _ (by omega)
  have h3 : (k % (n : Int)).toNat < xs.length := by omega
  exact ⟨xs[(k % (n : Int)).toNat], at_of (j := (k % (n : Int)).toNat) (by omega) (by simp [h3]), List.getElem_mem h3⟩
theorem ix_pos {xs : List V} {n : Nat} (h : xs.length = n) (hn : 0 < n) (k : Int) : ixN xs.length (k % (n : Int)) = some (k % (n : Int)).toNat := by
  have h1 : 0 ≤ k % (n : Int) := Int.emod_nonneg _ (by omega)
  have h2 : k % (n : Int) < (n : Int) := Int.emod_lt_of_pos _ (by omega)
  unfold ixN
  rw [if_pos h1, if_pos (by omega)]
theorem ok_take {f fS : Addr} {fd fdS : FuncData} (F : FnP K "_law_take" sTake f fd) (T : PenTxt mg) (FS : FnP K "_law_spread" sSpread fS fdS) (gS : mg "_law_spread" = some (.ref fS)) : FnOk P w K mg base CX0 2 f fd ["pen", "many"] spTake := by
  have G_l_spread : FnOk P w K mg base CX0 1 fS fdS ["cell", "k"] spSpread := ok_spread FS T
  have b_l_spread : Binds K fdS ["cell", "k"] [] := FS.bindsN fun _ _ _ _ _ _ us hl => match us, hl with | [_, _], _ => rfl
  refine ok0 F scTake (fun vs H Q E h => ?_) (fun cdv A outer s H vs Q E hr h => ?_)
  · obtain ⟨p, k, many, rfl, _⟩ := h
    rfl
  · obtain ⟨p, k, many, rfl, ⟨c, cells, x, hp, hc, x0, cl⟩, m0, m1, hk, q⟩ := h
    have hr_l_spread : Room 1 _ := hr
    refine ⟨_, (C8.pss_cut (ps_if (pt_cmpR op_lt (pe_ix ix_list (pv 0) pe_int (fun _ _ => rfl)) (pv 1) (nomark _))
      (pss_cons (ps_set (i := 2) scTake.nd rfl (Or.inl rfl) (pe_ix ix_list (pv 0) pe_int (fun _ _ => rfl)))
    (pss_cons (ps_set (i := 3) scTake.nd rfl (Or.inl rfl) pe_int)
    (C8.pss_cut (ps_if (pt_cmpR op_lt (pv 2) (pe_callB call_len_seq (by rfl) T.len (by decide +kernel) (pa_cons (pe_ix ix_list (pv 0) pe_int (fun _ _ => rfl)) pa_nil)) (nomark _))
      (pss_one (ps_set (i := 3) scTake.nd rfl (Or.inl rfl) (pe_ix ix_list (pe_ix ix_list (pv 0) pe_int (fun _ _ => rfl)) (pv 2) (fun _ _ => rfl))))
      (pss_one (ps_if (pt_cmpR op_gt (pe_callB call_len_seq (by rfl) T.len (by decide +kernel) (pa_cons (pe_ix ix_list (pv 0) pe_int (fun _ _ => rfl)) pa_nil)) pe_int (nomark _))
      (pss_one (ps_set (i := 3) scTake.nd rfl (Or.inl rfl) (pe_op op_modL (pe_callTy call_int1 (by rfl) T.int (by decide +kernel) (pa_cons (pe_ix ix_list (pe_ix ix_list (pv 0) pe_int (fun _ _ => rfl)) (pe_op op_mod (pe_callTy call_int1 (by rfl) T.int (by decide +kernel) (pa_cons (pe_op op_add (pe_op op_mul (pv 2) pe_int) pe_int) pa_nil)) (pe_callB call_len_seq (by rfl) T.len (by decide +kernel) (pa_cons (pe_ix ix_list (pv 0) pe_int (fun _ _ => rfl)) pa_nil))) (fun _ _ => rfl)) pa_nil)) (pe_op op_add (pe_op op_pow pe_int pe_int) (pv 2)))))
      pss_nil)))
    (pss_cons (ps_asg (pe_op op_add (pv 2) pe_int) (pg_sub (pv 0) pe_int set_listL))
    (pss_one (ps_asg (pe_call G_l_spread hr_l_spread rfl gS FS.kp b_l_spread .nil pass0 (pa_cons (pv 3) (pa_cons (pv 2) pa_nil))) (pg_sub (pv 0) pe_int set_listL)))))))
      pss_nil)
    (pss_cons (ps_set (i := 4) scTake.nd rfl (Or.inl rfl) (pe_op op_modB (pe_callTy call_int1 (by rfl) T.int (by decide +kernel) (pa_cons (pe_ix ix_list (pv 0) pe_int (fun _ _ => rfl)) pa_nil)) (pv 1)))
    (pss_cons (ps_asg (pe_op op_fdivL (pe_ix ix_list (pv 0) pe_int (fun _ _ => rfl)) (pv 1)) (pg_sub (pv 0) pe_int set_listL))
    (pss_one (ps_ret (pv 4)))))), ?_⟩
    have ne : c ≠ p := ne_of hc hp (fun z => pen_ne z.symm)
    refine ⟨fun σ' H' => (∃ a b e, σ' = [some (.ref p), some (.int many), a, b, e]) ∧ But p H H' ∧ ∃ k', k' ≤ k + 1 ∧ Pen H' p k', ?_, ?_⟩
    · -- if pen[2] < many:
      have hS : SqL K H p [.ref c, .int (k : Int), .int x] := SqL.of hp
      have hC : SqL K H c (cells.map V.int) := SqL.of hc
      have a0 : atI [V.ref c, .int (k : Int), .int x] 0 = some (.ref c) := rfl
      have a1 : atI [V.ref c, .int (k : Int), .int x] 1 = some (.int (k : Int)) := rfl
      have a2 : atI [V.ref c, .int (k : Int), .int x] 2 = some (.int x) := rfl
      refine ⟨_, rfl, p, _, _, _, rfl, rfl, hS, a2, _, rfl, _, _, rfl, rfl, _, rfl, ?_⟩
      refine ite2 (fun _ => ?_) (fun _ => ⟨⟨none, none, none, rfl⟩, But.refl _ _, k, Nat.le_succ _, c, cells, x, hp, hc, x0, cl⟩)
      refine ⟨_, rfl, p, _, _, _, rfl, rfl, hS, a1, ?_⟩
      refine ⟨fun σ' H' => H' = H ∧ ∃ cell : Int, σ' = [some (.ref p), some (.int many), some (.int (k : Int)), some (.int cell), none], ?_, ?_⟩
      · refine ⟨_, rfl, _, rfl, p, _, _, _, rfl, rfl, hS, a0, c, _, rfl, .inl hC, _, _, rfl, rfl, _, rfl, ?_⟩
        refine ite2 (fun e => ?_) (fun _ => ?_)
        · have e := of_decide_eq_true e
          have e1 : k < (cells.map V.int).length := by omega
          have e2 : k < cells.length := by rw [List.length_map] at e1; exact e1
          refine ⟨_, rfl, p, _, _, _, rfl, rfl, hS, a0, _, rfl, c, _, _, _, rfl, rfl, hC, at_of (j := k) rfl (by rw [List.getElem?_map, List.getElem?_eq_getElem e2]; rfl), rfl, cells[k], rfl⟩
        · refine ⟨_, rfl, p, _, _, _, rfl, rfl, hS, a0, c, _, rfl, .inl hC, _, _, rfl, rfl, _, rfl, ?_⟩
          refine ite2 (fun e => ?_) (fun _ => ⟨rfl, 0, rfl⟩)
          have e := of_decide_eq_true e
          have e1 : 0 < (cells.map V.int).length := by omega
          obtain ⟨v, h1, h2⟩ := at_pos (n := (cells.map V.int).length) rfl e1 ((k : Int) * 5 + 3)
          obtain ⟨z, hz, rfl⟩ := List.mem_map.mp h2
          refine ⟨_, rfl, p, _, _, _, rfl, rfl, hS, a0, _, rfl, _, _, rfl, rfl, .inr ⟨by decide, by decide⟩, _, _, rfl, rfl, .inl ⟨_, rfl, _, rfl, p, _, _, _, rfl, rfl, hS, a0, c, _, rfl, .inl hC, _, _, rfl, rfl, by omega, c, _, _, _, rfl, rfl, hC, h1, .inl ⟨_, rfl, _, _, rfl, rfl, ⟨by decide, by decide, by decide⟩, _, rfl, _, _, rfl, rfl, _, _, rfl, rfl, ?_, fun r _ => ⟨rfl, r, rfl⟩⟩⟩⟩
          show (0 : Int) < 10 ^ Int.toNat 17 + (k : Int)
          have : (0 : Int) < 10 ^ Int.toNat 17 := by decide
          omega
      · rintro σ' H' ⟨rfl, cell, rfl⟩
        refine ⟨_, rfl, _, _, rfl, rfl, _, rfl, p, _, 1, 1, rfl, rfl, hp, rfl, fun H1 B1 h1 => ⟨_, rfl, _, rfl, cell, k, rfl, hk, fun r H2 r0 s2 => ⟨_, rfl, p, _, 2, 2, rfl, rfl, s2 _ _ h1, rfl, fun H3 B3 h3 => ?_⟩⟩⟩
        exact ⟨⟨_, _, _, rfl⟩, (B1.trans (sameBut s2)).trans B3, k + 1, Nat.le_refl _, c, cells, r, h3, B3 _ _ ne (s2 _ _ (B1 _ _ ne hc)), r0, cl⟩
    · rintro σ' H' ⟨⟨a, b, e, rfl⟩, B, k', hk', c', cells', x', hp', hc', x0', cl'⟩
      have hS : SqL K H' p [.ref c', .int (k' : Int), .int x'] := SqL.of hp'
      have ne' : c' ≠ p := ne_of hc' hp' (fun z => pen_ne z.symm)
      refine ⟨_, rfl, p, _, _, _, rfl, rfl, hS, (show atI [V.ref c', .int (k' : Int), .int x'] 2 = some (.int x') from rfl), .inl ⟨_, rfl, _, rfl, _, _, rfl, rfl, m0, fun r r0 r1 => ?_⟩⟩
      refine ⟨_, rfl, p, _, _, _, rfl, rfl, hS, (show atI [V.ref c', .int (k' : Int), .int x'] 2 = some (.int x') from rfl), _, rfl, _, _, rfl, rfl, ⟨m0, m1⟩, fun d ed => ⟨_, rfl, p, _, 2, 2, rfl, rfl, hp', rfl, fun H2 B2 h2 => ⟨_, rfl, ?_⟩⟩⟩
      have d0 : 0 ≤ d := by rw [ed]; exact Int.ediv_nonneg x0' (by omega)
      exact q r H2 k' r0 r1 (B.trans B2) hk' ⟨c', cells', d, h2, B2 _ _ ne' hc', d0, cl'⟩
theorem scOneOf : FnScope ["pen", "some"] ["pen", "some"] (defScope sOneOf) := ⟨rfl, rfl, rfl, by decide +kernel, rfl, by decide +kernel, by decide +kernel⟩
theorem SqL.but {p a : Addr} {H H' : Hp} {xs : List V} (h : SqL K H a xs) (n : a ≠ p) (B : But p H H') : SqL K H' a xs := by
  rcases h with (h | ⟨o, h⟩) | h
  · exact .inl (.inl (B _ _ n h))
  · exact .inl (.inr ⟨o, B _ _ n h⟩)
  · exact .inr h
theorem ok_oneOf {f fT : Addr} {fd fdT : FuncData} (F : FnP K "_law_one_of" sOneOf f fd) (T : PenTxt mg) (FT : FnP K "_law_take" sTake fT fdT) (GT : FnOk P w K mg base CX0 2 fT fdT ["pen", "many"] spTake) (gT : mg "_law_take" = some (.ref fT)) : FnOk P w K mg base CX0 3 f fd ["pen", "some"] (spOneOf K) := by
  have bT : Binds K fdT ["pen", "many"] [] := FT.bindsN fun _ _ _ _ _ _ us hl => match us, hl with | [_, _], _ => rfl
  refine ok0 F scOneOf (fun vs H Q E h => ?_) (fun cdv A outer s H vs Q E hr h => ?_)
  · obtain ⟨p, a, k, xs, rfl, _⟩ := h
    rfl
  · obtain ⟨p, a, k, xs, rfl, hp, ha, na, x0, x1, hk, q⟩ := h
    refine ⟨_, (pss_one (ps_ret (pe_ix ix_list (pv 1) (pe_call GT hr rfl gT FT.kp bT .nil pass0 (pa_cons (pv 0) (pa_cons (pe_callB call_len_seq (by rfl) T.len (by decide +kernel) (pa_cons (pv 1) pa_nil)) pa_nil))) (fun _ _ => rfl)))), ?_⟩
    refine ⟨_, rfl, _, rfl, _, rfl, a, _, rfl, .inl ha, p, k, _, rfl, hp, by omega, by omega, hk, fun r H' k' r0 r1 B hk' hp' => ?_⟩
    have hi : r.toNat < xs.length := by omega
    refine ⟨a, xs, _, xs[r.toNat], rfl, rfl, SqL.but ha na B, at_of (j := r.toNat) (by omega) (by simp [hi]), ?_⟩
    exact q r.toNat _ H' k' (by simp [hi]) B hk' hp'
theorem scOpen : FnScope ["script", "cells", "k", "cell"] ["script"] (defScope sOpen) := ⟨rfl, rfl, rfl, by decide +kernel, rfl, by decide +kernel, by decide +kernel⟩
theorem ok_open {f : Addr} {fd : FuncData} (F : FnP K "_law_open" sOpen f fd) (T : PenTxt mg) : FnOk P w K mg base CX0 1 f fd ["script"] (spOpen K) := by
  refine ok0 F scOpen (fun vs H Q E h => ?_) (fun cdv A outer s H vs Q E hr h => ?_)
  · obtain ⟨a, ns, rfl, _⟩ := h
    rfl
  · obtain ⟨a, ns, rfl, hS, hl, q⟩ := h
    refine ⟨_, (pss_cons (ps_set (i := 1) scOpen.nd rfl (Or.inl rfl) (pe_callTy call_list_ofL (by rfl) T.list (by decide +kernel) (pa_cons (pe_slice sl_listL (pv 0) po_none (po_some pe_int)) pa_nil)))
    (pss_cons (ps_for PassesOwn.never rfl (pi_enum (by rfl) T.enumerate (pa_cons (pe_slice sl_listL (pv 0) (po_some pe_int) (po_some pe_int)) pa_nil)) (pg_tup (by rfl) (pgs_cons (pg_name (i := 2) scOpen.nd rfl (Or.inl rfl)) (pgs_cons (pg_name (i := 3) scOpen.nd rfl (Or.inl rfl)) pgs_nil)))
      (pss_one (ps_asg (pe_op op_add (pe_ix ix_list (pv 1) (pe_op op_mod (pe_callTy call_int1 (by rfl) T.int (by decide +kernel) (pa_cons (pv 2) pa_nil)) pe_int) (fun _ _ => rfl)) (pv 3)) (pg_sub (pv 1) (pe_op op_mod (pe_callTy call_int1 (by rfl) T.int (by decide +kernel) (pa_cons (pv 2) pa_nil)) pe_int) set_listL))))
    (pss_one (ps_ret (pe_lstL (pa_cons (pv 1) (pa_cons pe_int (pa_cons pe_int pa_nil)))))))), ?_⟩
    refine ⟨_, rfl, 12, rfl, a, _, rfl, hS, fun l1 H1 n1 s1 h1 => ⟨l1, _, rfl, .inl (SqL.of h1), fun c H2 n2 s2 h2 => ?_⟩⟩
    refine ⟨_, rfl, 12, rfl, 63, rfl, a, _, rfl, (s1.trans s2).seq hS, fun l3 H3 n3 s3 h3 => ?_⟩
    -- for k, cell in enumerate(script[12:63]): cells[int(k) % 12] = cells[int(k) % 12] + cell
    have e1 : cutV (ns.map V.int) none (some 12) = (ns.take 12).map V.int := by
      unfold cutV
      rw [HT.sIx_none, show ((12 : Int)) = ((12 : Nat) : Int) from rfl, HT.sIx_nat, List.drop_zero, List.map_take, List.length_map]
      rw [Nat.sub_zero]
      by_cases h : 12 ≤ ns.length
      · rw [Nat.min_eq_left h]
      · rw [Nat.min_eq_right (by omega), List.take_of_length_le (by simp), List.take_of_length_le (by simp; omega)]
    have e2 : (cutV (ns.map V.int) (some 12) (some 63)).length ≤ ns.length - 12 := by
      unfold cutV
      rw [List.length_take, List.length_drop, show ((12 : Int)) = ((12 : Nat) : Int) from rfl, HT.sIx_nat, List.length_map]
      omega
    have e3 : ∀ y ∈ cutV (ns.map V.int) (some 12) (some 63), ∃ z : Int, y = .int z := fun y hy => by
      have hy := List.mem_of_mem_drop (List.mem_of_mem_take hy)
      obtain ⟨z, _, rfl⟩ := List.mem_map.mp hy
      exact ⟨z, rfl⟩
    rw [e1] at h2
    generalize hX : cutV (ns.map V.int) (some 12) (some 63) = xs3 at h3 e2 e3
    have n3c : l3 ≠ c := (ne_of_none h2 n3).symm
    have hL3 : SqL K H3 l3 xs3 := SqL.of h3
    refine ⟨l3, xs3, rfl, SqL.of h3, for_it walk_enum (fun i σ H' => ∃ (u v : Option V) (cells : List Int), σ = [some (.ref a), some (.ref c), u, v] ∧ H' c = some (.lst (cells.map V.int)) ∧ cells.length = (ns.take 12).length ∧ But c H3 H')
      ⟨none, none, ns.take 12, rfl, s3 _ _ h2, rfl, But.refl _ _⟩ (fun i σ H' _ ⟨_, _, _, _, _, _, B⟩ => SqL.but hL3 n3c B) ?_ ?_⟩
    · rintro i x σ H' H'' hi ⟨u, v, cells, rfl, hc, hn, B⟩ ⟨t, y1, y2, rfl, nt, rfl, hx, hy⟩
      cases hx
      obtain ⟨z, rfl⟩ := e3 y2 (List.mem_of_getElem? hy)
      have hn : cells.length = 12 := by
        rw [hn, List.length_take]
        omega
      have ntc : c ≠ t := ne_of_none hc nt
      have S4 : Same H' (upd H' t (.tup [V.int (i : Nat), .int z])) := same_upd nt
      refine ⟨t, _, rfl, .inl (.inl upd_same), rfl, ?_⟩
      obtain ⟨v, h1, h2'⟩ := at_pos (n := 12) (xs := cells.map V.int) (by rw [List.length_map]; exact hn) (by decide) (i : Int)
      obtain ⟨z', _, rfl⟩ := List.mem_map.mp h2'
      refine ⟨_, _, rfl, _, _, rfl, rfl, _, rfl, _, rfl, .inl ⟨_, rfl, _, _, rfl, rfl, (by show (0 : Int) < 12; decide), c, _, _, _, rfl, rfl, SqL.of (S4 _ _ hc), h1, _, rfl, _, _, rfl, rfl, _, rfl, _, rfl, .inl ⟨_, rfl, _, _, rfl, rfl, (by show (0 : Int) < 12; decide), c, _, _, _, rfl, rfl, S4 _ _ hc, (ix_pos (n := 12) (by rw [List.length_map]; exact hn) (by decide) (i : Int)), fun H5 B5 h5 => ?_⟩⟩⟩
      refine ⟨_, _, cells.set ((i : Int) % 12).toNat (z' + z), rfl, ?_, by rw [List.length_set, hn, List.length_take]; omega, (B.trans (sameBut S4)).trans B5⟩
      rw [h5, List.map_set]
      rfl
    · rintro σ H' ⟨u, v, cells, rfl, hc, hn, B⟩
      refine ⟨_, rfl, by show 3 ≤ sizeLine; decide, fun p H5 n5 s5 h5 => ?_⟩
      have S0 : Same H H3 := (s1.trans s2).trans s3
      have S1 : Same H H' := fun b o e => by
        have nb : b ≠ c := ne_of_none e (s1.free n2)
        exact B b o nb (S0 b o e)
      refine q p H5 (S1.trans s5) (S1.free n5) ⟨c, cells, 0, h5, s5 _ _ hc, Int.le_refl 0, ?_⟩
      rw [hn, List.length_take]
      omega
end
end Sb

/-! ## X65 -/
/-! Exceptions held as values. -/
namespace Sb
open PySem PySem.Spec PyProof.Rows L2
/-- an exception object of the class at C; its arguments stand in the tuple at t -/
def ExT (C a t : Addr) : HO := .ext fun h => ∃ (oe : Obj) (vs : Array Value), h.get? a = some oe ∧ Zc (.ref C) none oe ∧ oe.data = .fields vs ∧ vs[0]? = some (.ref t)
theorem exT_ok {P : Program} {w : World} {H : Hp} {h : Heap} {C a t : Addr} {oe : Obj} {vs : Array Value} (e : h.get? a = some oe) (z : Zc (.ref C) none oe) (d : oe.data = .fields vs) (h0 : vs[0]? = some (.ref t)) : ObjOk P w H h a (ExT C a t) :=
  ⟨⟨oe, vs, e, z, d, h0⟩, ⟨oe, e⟩, fun _ _ ⟨o, v, q, r⟩ k => ⟨o, v, k o q, r⟩⟩
/-- some exception object of the class at C -/
def ExcAt (H : Hp) (a C : Addr) : Prop := ∃ φ : Heap → Prop, H a = some (.ext φ) ∧ ∀ h, φ h → ∃ (oe : Obj) (vs : Array Value), h.get? a = some oe ∧ Zc (.ref C) none oe ∧ oe.data = .fields vs
theorem ExcAt.of {H : Hp} {a C t : Addr} (h : H a = some (ExT C a t)) : ExcAt H a C := ⟨_, h, fun _ ⟨oe, vs, e, z, d, _⟩ => ⟨oe, vs, e, z, d⟩⟩
theorem ExcAt.same {H H' : Hp} {a C : Addr} (h : ExcAt H a C) (s : Same H H') : ExcAt H' a C := by
  obtain ⟨φ, e, k⟩ := h
  exact ⟨φ, s _ _ e, k⟩
/-- isinstance(e, c), e an exception held as a value -/
def rIsX (K : PySem.W.Frag) : List V → Hp → VK → Prop := fun xs H Q => ∃ (a C : Addr) (c : V) (cv : Value) (b : Bool), xs = [.ref a, c] ∧ ExcAt H a C ∧ L2.ExcC K C ∧ (∀ u, RelV c u → u = cv) ∧ PySem.W.kitOne K (.ref C) cv = some b ∧ Q (.bl b) H
theorem call_isX {X : Cx} : CallR X (.builtin "isinstance") (rIsX X.K) := by
  intro pins s σ H xs us Q I r h
  obtain ⟨a, C, c, cv, b, rfl, ⟨φ, ha, hφ⟩, G, hcv, e, q⟩ := h
  obtain ⟨u1, u2, rfl, r1, r2⟩ := vals2 r
  cases (show u1 = Value.ref a from r1)
  have ec := hcv _ r2
  subst ec
  obtain ⟨oe, vs, hg, hz, hd⟩ := hφ _ (I.hok a _ ha).1
  have J : PySem.W.InstAt s.heap a oe C none := by
    obtain ⟨oc, od, oda, osl⟩ := oe
    obtain ⟨h1, h2⟩ := hz
    dsimp only at h1 h2 hd
    subst h1 h2 hd
    exact ⟨hg, rfl, rfl, trivial⟩
  exact PySem.W.kia_one (PySem.W.handS_kitx_exc G.hg G.hk G.hs G.hd G.ha G.hn G.ht G.hm) I.kIn J e (fun z => nomatch z) fun tk => ⟨.bl b, H, I.kept (t' := tk) fun _ _ z => z, rfl, q⟩
theorem call_isK {X : Cx} {K : PySem.W.Frag} (hK : X.K = K := by rfl) : CallR X (.builtin "isinstance") (rIsX K) := hK ▸ call_isX
/-- str(e), e an exception of one text -/
def rStrX (K : PySem.W.Frag) : List V → Hp → VK → Prop := fun xs H Q => ∃ (a C t : Addr) (x : Str), xs = [.ref a] ∧ H a = some (ExT C a t) ∧ H t = some (.tup [.str x]) ∧ PySem.W.findIn K (.ref C) "__str__" = some (some (.builtin "BaseException.__str__")) ∧ PySem.W.subIn K (.ref C) (.type "BaseException") = some true ∧ Q (.str x) H
theorem call_strX {X : Cx} (hu : X.A.units + 2 < cLine) : CallR X (.type "str") (rStrX X.K) := by
  intro pins s σ H xs us Q I r h
  obtain ⟨a, C, t, x, rfl, ha, ht, hs, hB, q⟩ := h
  obtain ⟨u1, rfl, r1⟩ := vals1 r
  cases (show u1 = Value.ref a from r1)
  obtain ⟨⟨oe, vs, hg, hz, hd, h0⟩, _, _⟩ := I.hok a _ ha
  obtain ⟨_, its, rv, o, h1, h2, n, h3⟩ := (show ObjOk X.prog X.w H s.heap t (.tup [.str x]) from I.hok t _ ht)
  obtain ⟨u, rfl, tk, rfl⟩ := vals1 rv
  exact PySem.P.str_of_C_one hu ⟨I.kIn, oe, vs, hg, hz.1, hd, h0⟩ ⟨o, n, h1, h2, h3⟩ hs hB ⟨.str x, H, I, ⟨tk, rfl⟩, q⟩
theorem call_strK {X : Cx} {K : PySem.W.Frag} (hu : X.A.units + 2 < cLine) (hK : X.K = K := by rfl) : CallR X (.type "str") (rStrX K) := hK ▸ call_strX hu
section
variable {fs ex : List Addr} {H : Hp} {h h' : Heap} {a b : Addr} {o u : HO}
theorem un_laid2 (k : ∀ b u, h.get? b = some u → h'.get? b = some u) (ha : h.get? a = none) (hb : h.get? b = none) (na : H a = none) (nb : H b = none) : Un fs ex H (upd (upd H b u) a o) h h' where
  keep := fun c v q _ _ _ => k c v q
  slot := fun c v q _ _ _ => ⟨v.slots, k c v q⟩
  free := fun c v q n _ => by rw [upd_ne (fun z => by rw [z, ha] at q; cases q), upd_ne (fun z => by rw [z, hb] at q; cases q)]; exact n
  there := fun c v q _ => ⟨v, k c v q⟩
  tups := fun c xs q => by rw [upd_ne (ne_of_none q na), upd_ne (ne_of_none q nb)]; exact q
  frzs := fun c v xs q => by rw [upd_ne (ne_of_none q na), upd_ne (ne_of_none q nb)]; exact q
  tbls := fun c ps q => ⟨#[], by rw [upd_ne (ne_of_none q na), upd_ne (ne_of_none q nb), q]; simp⟩
theorem hok_laid2 {P : Program} {w : World} (x : HOk P w H h) (k : ∀ b u, h.get? b = some u → h'.get? b = some u) (na : H a = none) (nb : H b = none) (new1 : ObjOk P w (upd (upd H b u) a o) h' b u) (new2 : ObjOk P w (upd (upd H b u) a o) h' a o) : HOk P w (upd (upd H b u) a o) h' := fun c v e => by
  by_cases hc : c = a
  · subst hc
    rw [upd_same] at e
    cases e
    exact new2
  · rw [upd_ne hc] at e
    by_cases hc2 : c = b
    · subst hc2
      rw [upd_same] at e
      cases e
      exact new1
    · rw [upd_ne hc2] at e
      exact (x c v e).stay (fun d z _ q => k d z q) (fun d q => by rw [upd_ne (ne_of_none q na), upd_ne (ne_of_none q nb)]; exact q) fun d xs q => by rw [upd_ne (ne_of_none q na), upd_ne (ne_of_none q nb)]; exact q
end
section
variable {X : Cx}
/-- X(e), an own exception class without own __init__, as a value: a new exception object, its argument kept -/
theorem pe_excT {C : Addr} {bmB : List Value} {B newId initId : String} {x : Str} {e : Expr} {te : TE} {p pos : Pos} (F : ExcBaseFacts B newId initId bmB) (q : PySem.W.excIn X.K C bmB newId = true) (gC : X.mg x = some (.ref C)) (kC : PySem.W.keepIn X.K (.ref C) = true) (hg : Gl X x)
    (he : PE X e te) (hs : starEach [e] X.env = (false, eval e X.env) :: starEach [] X.env := by rfl) (hdb : (x == ("__debug__" : Str)) = false := by decide) :
    PE X (.Call (.Name x p) [e] [] pos) (fun σ H Q => te σ H fun v H1 => ∀ a t H2, H1 a = none → H1 t = none → Same H1 H2 → H2 a = some (ExT C a t) → H2 t = some (.tup [v]) → Q (.ref a) H2) := by
  refine ⟨fun pins s σ H Q I h => ?_⟩
  refine wpAny_Call_Name_kw (ld_glob I hg gC ?_ hdb)
  refine PySem.W.callWith_K (h₀ := X.base) I.ok.mod.kin kC ?_ hs (by rfl)
  rw [hs]
  show wpAny _ _ (spliced ((false, eval e X.env) :: backTo pos (starEach [] X.env))) _ _ s
  refine Calls.spliced_cons (thn (he.run pins s σ H _ I h) fun u s1 ⟨v, H1, I1, r1, q1⟩ => ?_)
  refine Calls.spliced_nil ⟨I1.kIn, ?_⟩
  show wpAny _ _ (call (.ref C) [u]) _ _ _
  obtain ⟨bm, N, nm, qn, bs, hdct, sn, sub, ab, col, dd, k0, k1, k2, k3, k5, mN, hC, hN, hni, T⟩ := exc_obj I1.kIn q
  refine wpAny_call_exc_subT F T hC hN hni (fun h' a hm => ?_) (by show 1 ≤ sizeLine; rw [sizeLine_eq]; omega)
  have hn : H1 a = none := I1.hok.gone hm.new
  obtain ⟨t, ht, tn, htt⟩ := hm.there
  have hnt : H1 t = none := I1.hok.gone tn
  have nat : t ≠ a := fun z => by
    rw [z, ht] at htt
    cases htt
  have S : Same H1 (upd (upd H1 t (.tup [v])) a (ExT C a t)) := (same_upd hnt).trans (same_upd (by rw [upd_ne nat.symm]; exact hn))
  have et : (upd (upd H1 t (.tup [v])) a (ExT C a t)) t = some (.tup [v]) := by rw [upd_ne nat, upd_same]
  have ok := hok_laid2 (P := X.prog) (w := X.w) (o := ExT C a t) (u := .tup [v]) I1.hok hm.keeps hn hnt ⟨by show 1 ≤ sizeLine; rw [sizeLine_eq]; omega, [u], .cons r1 .nil, _, htt, rfl, _, rfl⟩ (exT_ok ht ⟨rfl, rfl⟩ rfl rfl)
  exact ⟨.ref a, _, I1.un (t' := s1.toks) (un_laid2 hm.keeps hm.new tn hn hnt) ok, rfl, q1 a t _ hn hnt S upd_same et⟩
end
end Sb

/-! ## X265 -/
namespace Sb
open PySem PySem.Spec PyProof.Rows L2
abbrev sTable : Stmt := top 53
abbrev sKinds : Stmt := top 54
abbrev sCaught : Stmt := top 55
abbrev sLaw : Stmt := top 56
def nm (i : Nat) : Str := (["NoWeb", "NoBay", "NoBlock", "NoStanding", "NoMatch", "BadMove", "NoMoves", "NoTour", "NoCount", "NoWish", "NoYard", "NoPiece", "NoWay", "NoDeed", "NoUndo", "NoThings", "TooGreat", "NoTie", "Parted", "NotKept", "BayError"] : List Str).getD i ""
/-- what the top has written of the errors: the i-th class stands at C i, BayError at C 20 -/
structure ErrTxt (K : PySem.W.Frag) (mg : Str → Option Value) (C : Nat → Addr) : Prop where
  gs : ∀ i, i < 21 → mg (nm i) = some (.ref (C i))
  kp : ∀ i, i < 21 → PySem.W.keepIn K (.ref (C i)) = true
  ex : ∀ i, i < 21 → PySem.W.excIn K (C i) He.veBase "ValueError.__new__" = true
  G : ∀ i, i < 21 → L2.ExcC K (C i)
  st : ∀ i, i < 21 → PySem.W.findIn K (.ref (C i)) "__str__" = some (some (.builtin "BaseException.__str__"))
  su : ∀ i, i < 21 → PySem.W.subIn K (.ref (C i)) (.type "BaseException") = some true
  kit : ∀ i j, i < 21 → j < 20 → PySem.W.kitOne K (.ref (C i)) (.ref (C j)) = some (decide (i = j))
  kitB : ∀ i, i < 21 → PySem.W.kitOne K (.ref (C i)) (.ref (C 20)) = some true
  kitV : ∀ i, i < 21 → PySem.W.kitOne K (.ref (C i)) (.type "ValueError") = some true
  kitL : ∀ i, i < 21 → PySem.W.kitOne K (.ref (C i)) (.type "LookupError") = some false
  ty : ∀ i, i < 21 → PySem.W.typeIn K (.ref (C i)) = some (.type "type")
  exm : ∀ i, i < 21 → PySem.W.exmOne K (.ref (C i)) (.ref (C 20)) = some true
  isi : mg "isinstance" = none
  str : mg "str" = none
  ve : mg "ValueError" = none
  le : mg "LookupError" = none
/-- a row of answers: the i-th is True -/
def row (i : Nat) : List V := (List.range 20).map fun j => V.bl (decide (i = j))
def spKinds (C : Nat → Addr) : Sp := fun vs H Q _ => ∃ (a : Addr) (i : Nat), vs = [.ref a] ∧ ExcAt H a (C i) ∧ i < 21 ∧ ∀ p H', Same H H' → H' p = some (.lst (row i)) → Q (.ref p) H'
section
variable {P : Program} {w : World} {K : PySem.W.Frag} {mg : Str → Option Value} {base : Heap} {C : Nat → Addr}
theorem scKinds : FnScope ["held", "found"] ["held"] (defScope sKinds) := ⟨rfl, rfl, rfl, by decide +kernel, rfl, by decide +kernel, by decide +kernel⟩
theorem ok_kinds {f : Addr} {fd : FuncData} (F : FnP K "_law_kinds" sKinds f fd) (E : ErrTxt K mg C) : FnOk P w K mg base CX0 1 f fd ["held"] (spKinds C) := by
  refine ok0 F scKinds (fun vs H Q E h => ?_) (fun cdv A outer s H vs Q E0 hr h => ?_)
  · obtain ⟨a, i, rfl, _⟩ := h
    rfl
  · obtain ⟨a, i, rfl, hA, hi, q⟩ := h
    refine ⟨_, (pss_cons (ps_set (i := 1) scKinds.nd rfl (Or.inl rfl) (pe_lstL (pa_cons (pe_callB (id := "isinstance") call_isX (by rfl) E.isi (by decide +kernel) (pa_cons (pv 0) (pa_cons (pe_glob (v := .ref (C 0)) rfl (E.gs 0 (by decide)) rfl) pa_nil))) (pa_cons (pe_callB (id := "isinstance") call_isX (by rfl) E.isi (by decide +kernel) (pa_cons (pv 0) (pa_cons (pe_glob (v := .ref (C 1)) rfl (E.gs 1 (by decide)) rfl) pa_nil))) (pa_cons (pe_callB (id := "isinstance") call_isX (by rfl) E.isi (by decide +kernel) (pa_cons (pv 0) (pa_cons (pe_glob (v := .ref (C 2)) rfl (E.gs 2 (by decide)) rfl) pa_nil))) (pa_cons (pe_callB (id := "isinstance") call_isX (by rfl) E.isi (by decide +kernel) (pa_cons (pv 0) (pa_cons (pe_glob (v := .ref (C 3)) rfl (E.gs 3 (by decide)) rfl) pa_nil))) pa_nil))))))
    (pss_cons (ps_set (i := 1) scKinds.nd rfl (Or.inl rfl) (pe_op op_catL (pv 1) (pe_lstL (pa_cons (pe_callB (id := "isinstance") call_isX (by rfl) E.isi (by decide +kernel) (pa_cons (pv 0) (pa_cons (pe_glob (v := .ref (C 4)) rfl (E.gs 4 (by decide)) rfl) pa_nil))) (pa_cons (pe_callB (id := "isinstance") call_isX (by rfl) E.isi (by decide +kernel) (pa_cons (pv 0) (pa_cons (pe_glob (v := .ref (C 5)) rfl (E.gs 5 (by decide)) rfl) pa_nil))) (pa_cons (pe_callB (id := "isinstance") call_isX (by rfl) E.isi (by decide +kernel) (pa_cons (pv 0) (pa_cons (pe_glob (v := .ref (C 6)) rfl (E.gs 6 (by decide)) rfl) pa_nil))) pa_nil))))))
    (pss_cons (ps_set (i := 1) scKinds.nd rfl (Or.inl rfl) (pe_op op_catL (pv 1) (pe_lstL (pa_cons (pe_callB (id := "isinstance") call_isX (by rfl) E.isi (by decide +kernel) (pa_cons (pv 0) (pa_cons (pe_glob (v := .ref (C 7)) rfl (E.gs 7 (by decide)) rfl) pa_nil))) (pa_cons (pe_callB (id := "isinstance") call_isX (by rfl) E.isi (by decide +kernel) (pa_cons (pv 0) (pa_cons (pe_glob (v := .ref (C 8)) rfl (E.gs 8 (by decide)) rfl) pa_nil))) (pa_cons (pe_callB (id := "isinstance") call_isX (by rfl) E.isi (by decide +kernel) (pa_cons (pv 0) (pa_cons (pe_glob (v := .ref (C 9)) rfl (E.gs 9 (by decide)) rfl) pa_nil))) pa_nil))))))
    (pss_cons (ps_set (i := 1) scKinds.nd rfl (Or.inl rfl) (pe_op op_catL (pv 1) (pe_lstL (pa_cons (pe_callB (id := "isinstance") call_isX (by rfl) E.isi (by decide +kernel) (pa_cons (pv 0) (pa_cons (pe_glob (v := .ref (C 10)) rfl (E.gs 10 (by decide)) rfl) pa_nil))) (pa_cons (pe_callB (id := "isinstance") call_isX (by rfl) E.isi (by decide +kernel) (pa_cons (pv 0) (pa_cons (pe_glob (v := .ref (C 11)) rfl (E.gs 11 (by decide)) rfl) pa_nil))) (pa_cons (pe_callB (id := "isinstance") call_isX (by rfl) E.isi (by decide +kernel) (pa_cons (pv 0) (pa_cons (pe_glob (v := .ref (C 12)) rfl (E.gs 12 (by decide)) rfl) pa_nil))) pa_nil))))))
    (pss_cons (ps_set (i := 1) scKinds.nd rfl (Or.inl rfl) (pe_op op_catL (pv 1) (pe_lstL (pa_cons (pe_callB (id := "isinstance") call_isX (by rfl) E.isi (by decide +kernel) (pa_cons (pv 0) (pa_cons (pe_glob (v := .ref (C 13)) rfl (E.gs 13 (by decide)) rfl) pa_nil))) (pa_cons (pe_callB (id := "isinstance") call_isX (by rfl) E.isi (by decide +kernel) (pa_cons (pv 0) (pa_cons (pe_glob (v := .ref (C 14)) rfl (E.gs 14 (by decide)) rfl) pa_nil))) pa_nil)))))
    (pss_cons (ps_set (i := 1) scKinds.nd rfl (Or.inl rfl) (pe_op op_catL (pv 1) (pe_lstL (pa_cons (pe_callB (id := "isinstance") call_isX (by rfl) E.isi (by decide +kernel) (pa_cons (pv 0) (pa_cons (pe_glob (v := .ref (C 15)) rfl (E.gs 15 (by decide)) rfl) pa_nil))) (pa_cons (pe_callB (id := "isinstance") call_isX (by rfl) E.isi (by decide +kernel) (pa_cons (pv 0) (pa_cons (pe_glob (v := .ref (C 16)) rfl (E.gs 16 (by decide)) rfl) pa_nil))) pa_nil)))))
    (pss_one (ps_ret (pe_op op_catL (pv 1) (pe_lstL (pa_cons (pe_callB (id := "isinstance") call_isX (by rfl) E.isi (by decide +kernel) (pa_cons (pv 0) (pa_cons (pe_glob (v := .ref (C 17)) rfl (E.gs 17 (by decide)) rfl) pa_nil))) (pa_cons (pe_callB (id := "isinstance") call_isX (by rfl) E.isi (by decide +kernel) (pa_cons (pv 0) (pa_cons (pe_glob (v := .ref (C 18)) rfl (E.gs 18 (by decide)) rfl) pa_nil))) (pa_cons (pe_callB (id := "isinstance") call_isX (by rfl) E.isi (by decide +kernel) (pa_cons (pv 0) (pa_cons (pe_glob (v := .ref (C 19)) rfl (E.gs 19 (by decide)) rfl) pa_nil))) pa_nil))))))))))))), ?_⟩
    refine ⟨_, rfl, a, C i, _, .ref (C 0), _, rfl, hA, E.G i hi, (fun u r => r), E.kit i 0 hi (by decide), _, rfl, a, C i, _, .ref (C 1), _, rfl, hA, E.G i hi, (fun u r => r), E.kit i 1 hi (by decide), _, rfl, a, C i, _, .ref (C 2), _, rfl, hA, E.G i hi, (fun u r => r), E.kit i 2 hi (by decide), _, rfl, a, C i, _, .ref (C 3), _, rfl, hA, E.G i hi, (fun u r => r), E.kit i 3 hi (by decide), by show 4 ≤ sizeLine; decide, fun l0 H0 n0 s0 h0 => ?_⟩
    have A0 := hA.same s0
    refine ⟨_, rfl, _, rfl, a, C i, _, .ref (C 4), _, rfl, A0, E.G i hi, (fun u r => r), E.kit i 4 hi (by decide), _, rfl, a, C i, _, .ref (C 5), _, rfl, A0, E.G i hi, (fun u r => r), E.kit i 5 hi (by decide), _, rfl, a, C i, _, .ref (C 6), _, rfl, A0, E.G i hi, (fun u r => r), E.kit i 6 hi (by decide), by show 3 ≤ sizeLine; decide, fun l1 H1 n1 s1 h1 => ?_⟩
    refine ⟨l0, l1, _, _, rfl, rfl, s1 _ _ h0, h1, by show 4+3 ≤ sizeLine; decide, fun m1 M1 o1 t1 k1 => ?_⟩
    have A1 := (A0.same s1).same t1
    refine ⟨_, rfl, _, rfl, a, C i, _, .ref (C 7), _, rfl, A1, E.G i hi, (fun u r => r), E.kit i 7 hi (by decide), _, rfl, a, C i, _, .ref (C 8), _, rfl, A1, E.G i hi, (fun u r => r), E.kit i 8 hi (by decide), _, rfl, a, C i, _, .ref (C 9), _, rfl, A1, E.G i hi, (fun u r => r), E.kit i 9 hi (by decide), by show 3 ≤ sizeLine; decide, fun l2 H2 n2 s2 h2 => ?_⟩
    refine ⟨m1, l2, _, _, rfl, rfl, s2 _ _ k1, h2, by show 7+3 ≤ sizeLine; decide, fun m2 M2 o2 t2 k2 => ?_⟩
    have A2 := (A1.same s2).same t2
    refine ⟨_, rfl, _, rfl, a, C i, _, .ref (C 10), _, rfl, A2, E.G i hi, (fun u r => r), E.kit i 10 hi (by decide), _, rfl, a, C i, _, .ref (C 11), _, rfl, A2, E.G i hi, (fun u r => r), E.kit i 11 hi (by decide), _, rfl, a, C i, _, .ref (C 12), _, rfl, A2, E.G i hi, (fun u r => r), E.kit i 12 hi (by decide), by show 3 ≤ sizeLine; decide, fun l3 H3 n3 s3 h3 => ?_⟩
    refine ⟨m2, l3, _, _, rfl, rfl, s3 _ _ k2, h3, by show 10+3 ≤ sizeLine; decide, fun m3 M3 o3 t3 k3 => ?_⟩
    have A3 := (A2.same s3).same t3
    refine ⟨_, rfl, _, rfl, a, C i, _, .ref (C 13), _, rfl, A3, E.G i hi, (fun u r => r), E.kit i 13 hi (by decide), _, rfl, a, C i, _, .ref (C 14), _, rfl, A3, E.G i hi, (fun u r => r), E.kit i 14 hi (by decide), by show 2 ≤ sizeLine; decide, fun l4 H4 n4 s4 h4 => ?_⟩
    refine ⟨m3, l4, _, _, rfl, rfl, s4 _ _ k3, h4, by show 13+2 ≤ sizeLine; decide, fun m4 M4 o4 t4 k4 => ?_⟩
    have A4 := (A3.same s4).same t4
    refine ⟨_, rfl, _, rfl, a, C i, _, .ref (C 15), _, rfl, A4, E.G i hi, (fun u r => r), E.kit i 15 hi (by decide), _, rfl, a, C i, _, .ref (C 16), _, rfl, A4, E.G i hi, (fun u r => r), E.kit i 16 hi (by decide), by show 2 ≤ sizeLine; decide, fun l5 H5 n5 s5 h5 => ?_⟩
    refine ⟨m4, l5, _, _, rfl, rfl, s5 _ _ k4, h5, by show 15+2 ≤ sizeLine; decide, fun m5 M5 o5 t5 k5 => ?_⟩
    have A5 := (A4.same s5).same t5
    refine ⟨_, rfl, _, rfl, a, C i, _, .ref (C 17), _, rfl, A5, E.G i hi, (fun u r => r), E.kit i 17 hi (by decide), _, rfl, a, C i, _, .ref (C 18), _, rfl, A5, E.G i hi, (fun u r => r), E.kit i 18 hi (by decide), _, rfl, a, C i, _, .ref (C 19), _, rfl, A5, E.G i hi, (fun u r => r), E.kit i 19 hi (by decide), by show 3 ≤ sizeLine; decide, fun l6 H6 n6 s6 h6 => ?_⟩
    refine ⟨m5, l6, _, _, rfl, rfl, s6 _ _ k5, h6, by show 17+3 ≤ sizeLine; decide, fun m6 M6 o6 t6 k6 => ?_⟩
    have A6 := (A5.same s6).same t6
    have SS : Same H M6 := ((((((((((((s0).trans s1).trans t1).trans s2).trans t2).trans s3).trans t3).trans s4).trans t4).trans s5).trans t5).trans s6).trans t6
    exact q m6 M6 SS k6
end
end Sb

/-! ## X365 -/
namespace Sb
open PySem PySem.Spec PyProof.Rows L2
section
variable {X : Cx}
/-- text * int: some text -/
theorem op_mulS : OpR X (binaryOp .Mult) (fun x y H Q => ∃ z n, x = .str z ∧ y = .int n ∧ z.length = 1 ∧ 0 ≤ n ∧ n < 1000 ∧ ∀ z', Q (.str z') H) := by
  intro pins s σ H x y v u Q I rx ry h
  obtain ⟨z, n, rfl, rfl, hz, n0, n1, q⟩ := h
  obtain ⟨t, rfl⟩ := rx
  obtain ⟨t2, rfl⟩ := ry
  have ok : PySem.MulOk z n := by
    refine ⟨?_, fun h1 _ => ?_, fun h1 _ => ?_⟩
    · rw [decide_eq_false (by omega), decide_eq_false (by omega)]; rfl
    · have h2 : (1 : Int) ≤ (2 ^ 63 - 1) / n := (Int.le_ediv_iff_mul_le (by omega)).mpr (by omega)
      rw [hz]
      omega
    · unfold Builtin.Str.tooLong
      rw [hz]
      refine decide_eq_false fun h3 => ?_
      rw [sizeLine_eq] at h3
      omega
  exact PySem.SB.mul ok fun t' k => ⟨.str _, H, I.tok k, ⟨t', rfl⟩, q _⟩
end
/-- an exception of the k-th class, made from the text x -/
def MadeAt (C : Nat → Addr) (H : Hp) (x : Str) (k : Nat) (v : V) : Prop := ∃ a t, v = .ref a ∧ H a = some (ExT (C k) a t) ∧ H t = some (.tup [.str x])
theorem MadeAt.same {C : Nat → Addr} {H H' : Hp} {x : Str} {k : Nat} {v : V} (h : MadeAt C H x k v) (s : Same H H') : MadeAt C H' x k v := by
  obtain ⟨a, t, e, h1, h2⟩ := h
  exact ⟨a, t, e, s _ _ h1, s _ _ h2⟩
def AllMade (C : Nat → Addr) (H : Hp) (x : Str) : Nat → List V → Prop
  | _, [] => True
  | k, v :: r => MadeAt C H x k v ∧ AllMade C H x (k + 1) r
theorem AllMade.same {C : Nat → Addr} {H H' : Hp} {x : Str} (s : Same H H') : ∀ {k : Nat} {vs : List V}, AllMade C H x k vs → AllMade C H' x k vs
  | _, [], _ => trivial
  | _, _ :: _, ⟨h1, h2⟩ => ⟨h1.same s, AllMade.same s h2⟩
theorem AllMade.get {C : Nat → Addr} {H : Hp} {x : Str} : ∀ {k : Nat} {vs : List V} {i : Nat} {v : V}, AllMade C H x k vs → vs[i]? = some v → MadeAt C H x (k + i) v
  | _, [], _, _, _, h => by simp at h
  | _, v :: r, 0, _, ⟨h1, _⟩, h => by
    have e : v = _ := Option.some.inj h
    subst e
    exact h1
  | k, v :: r, i + 1, u, ⟨_, h2⟩, h => by
    have z := AllMade.get (k := k + 1) h2 (i := i) (v := u) h
    have e : k + 1 + i = k + (i + 1) := by omega
    rw [e] at z
    exact z
theorem AllMade.snoc {C : Nat → Addr} {H : Hp} {x : Str} : ∀ {k : Nat} {vs : List V} {v : V}, AllMade C H x k vs → MadeAt C H x (k + vs.length) v → AllMade C H x k (vs ++ [v])
  | k, [], v, _, h => ⟨h, trivial⟩
  | k, u :: r, v, ⟨h1, h2⟩, h => ⟨h1, AllMade.snoc h2 (by rw [show k + 1 + r.length = k + (r.length + 1) by omega]; exact h)⟩
/-- the rows of answers -/
def RowsAt (H : Hp) : Nat → List V → Prop
  | _, [] => True
  | k, v :: r => (∃ p, v = .ref p ∧ H p = some (.lst (row k))) ∧ RowsAt H (k + 1) r
theorem RowsAt.mono {H H' : Hp} (s : ∀ p k, H p = some (.lst (row k)) → H' p = some (.lst (row k))) : ∀ {k : Nat} {vs : List V}, RowsAt H k vs → RowsAt H' k vs
  | _, [], _ => trivial
  | _, _ :: _, ⟨⟨p, e, h⟩, h2⟩ => ⟨⟨p, e, s _ _ h⟩, RowsAt.mono s h2⟩
theorem RowsAt.snoc {H : Hp} {p : Addr} : ∀ {k : Nat} {vs : List V}, RowsAt H k vs → H p = some (.lst (row (k + vs.length))) → RowsAt H k (vs ++ [.ref p])
  | k, [], _, h => ⟨⟨p, rfl, h⟩, trivial⟩
  | k, v :: r, ⟨h1, h2⟩, h => ⟨h1, RowsAt.snoc h2 (by rw [show k + 1 + r.length = k + (r.length + 1) by omega]; exact h)⟩
theorem iteC {c : Bool} {A B : Prop} (hc : c = false) (h : B) : if c = true then A else B := by
  rw [hc, if_neg Bool.false_ne_true]
  exact h
theorem iteD {c : Bool} {A B : Prop} (hc : c = true) (h : A) : if c = true then A else B := by
  rw [if_pos hc]
  exact h
theorem row_len (k : Nat) : (row k).length = 20 := by
  unfold row
  rw [List.length_map, List.length_range]
def spTable : Sp := fun vs H Q _ => ∃ (p : Addr) (k : Nat), vs = [.ref p] ∧ Pen H p k ∧ k < 999999 ∧ ∀ l H' rs, But p H H' → H' l = some (.lst rs) → rs.length = 20 → RowsAt H' 0 rs → Q (.ref l) H'
structure TabTxt (mg : Str → Option Value) : Prop where
  ve : mg "ValueError" = none
  le : mg "LookupError" = none
section
variable {P : Program} {w : World} {K : PySem.W.Frag} {mg : Str → Option Value} {base : Heap} {C : Nat → Addr}
abbrev scTableN : List Str := ["pen", "text", "made", "held"]
abbrev scTableS : Scope := defScope sTable
theorem scTable : FnScope ["pen", "text", "made", "held"] ["pen"] (defScope sTable) := ⟨rfl, rfl, rfl, by decide +kernel, rfl, by decide +kernel, by decide +kernel⟩
theorem ok_table {f fT fO fK : Addr} {fd fdT fdO fdK : FuncData} (F : FnP K "_law_table" sTable f fd) (E : ErrTxt K mg C) (V0 : TabTxt mg)
    (FT : FnP K "_law_take" sTake fT fdT) (GT : FnOk P w K mg base CX0 2 fT fdT ["pen", "many"] spTake) (gT : mg "_law_take" = some (.ref fT))
    (FO : FnP K "_law_one_of" sOneOf fO fdO) (GO : FnOk P w K mg base CX0 3 fO fdO ["pen", "some"] (spOneOf K)) (gO : mg "_law_one_of" = some (.ref fO))
    (FK : FnP K "_law_kinds" sKinds fK fdK) (GK : FnOk P w K mg base CX0 1 fK fdK ["held"] (spKinds C)) (gK : mg "_law_kinds" = some (.ref fK)) : FnOk P w K mg base CX0 4 f fd ["pen"] spTable := by
  have bT : Binds K fdT ["pen", "many"] [] := FT.bindsN fun _ _ _ _ _ _ us hl => match us, hl with | [_, _], _ => rfl
  have bO : Binds K fdO ["pen", "some"] [] := FO.bindsN fun _ _ _ _ _ _ us hl => match us, hl with | [_, _], _ => rfl
  have bK : Binds K fdK ["held"] [] := FK.bindsN fun _ _ _ _ _ _ us hl => match us, hl with | [_], _ => rfl
  refine ok0 F scTable (fun vs H Q E h => ?_) (fun cdv A outer s H vs Q E0 hr h => ?_)
  · obtain ⟨p, k, rfl, _⟩ := h
    rfl
  · obtain ⟨p, k, rfl, hp, hk, q⟩ := h
    have hr3 : Room 3 _ := hr
    have hr2 : Room 2 _ := hr.mono (by decide)
    have hr1 : Room 1 _ := hr.mono (by decide)
    have hu2 : (A.deeper (envOfC "_law_table" (defScope sTable) s.heap.objs.size f cdv)).units + 2 < cLine := by have := hr.un; omega
    refine ⟨_, (pss_cons (ps_set (i := 1) scTable.nd rfl (Or.inr rfl) (pe_call GO hr3 rfl gO FO.kp bO .nil pass0 (pa_cons (pv 0) (pa_cons (pe_lstL (pa_cons pe_str (pa_cons pe_str (pa_cons pe_str (pa_cons (pe_op op_mulS pe_str (pe_call GT hr2 rfl gT FT.kp bT .nil pass0 (pa_cons (pv 0) (pa_cons pe_int pa_nil)))) pa_nil))))) pa_nil))))
    (pss_cons (ps_set (i := 2) scTable.nd rfl (Or.inl rfl) (pe_lstL (pa_cons (pe_excT PySem.F.excBase_ValueError (E.ex 0 (by decide)) (E.gs 0 (by decide)) (E.kp 0 (by decide)) rfl (pv 1)) (pa_cons (pe_excT PySem.F.excBase_ValueError (E.ex 1 (by decide)) (E.gs 1 (by decide)) (E.kp 1 (by decide)) rfl (pv 1)) (pa_cons (pe_excT PySem.F.excBase_ValueError (E.ex 2 (by decide)) (E.gs 2 (by decide)) (E.kp 2 (by decide)) rfl (pv 1)) (pa_cons (pe_excT PySem.F.excBase_ValueError (E.ex 3 (by decide)) (E.gs 3 (by decide)) (E.kp 3 (by decide)) rfl (pv 1)) (pa_cons (pe_excT PySem.F.excBase_ValueError (E.ex 4 (by decide)) (E.gs 4 (by decide)) (E.kp 4 (by decide)) rfl (pv 1)) (pa_cons (pe_excT PySem.F.excBase_ValueError (E.ex 5 (by decide)) (E.gs 5 (by decide)) (E.kp 5 (by decide)) rfl (pv 1)) (pa_cons (pe_excT PySem.F.excBase_ValueError (E.ex 6 (by decide)) (E.gs 6 (by decide)) (E.kp 6 (by decide)) rfl (pv 1)) pa_nil)))))))))
    (pss_cons (ps_set (i := 2) scTable.nd rfl (Or.inl rfl) (pe_op op_catL (pv 2) (pe_lstL (pa_cons (pe_excT PySem.F.excBase_ValueError (E.ex 7 (by decide)) (E.gs 7 (by decide)) (E.kp 7 (by decide)) rfl (pv 1)) (pa_cons (pe_excT PySem.F.excBase_ValueError (E.ex 8 (by decide)) (E.gs 8 (by decide)) (E.kp 8 (by decide)) rfl (pv 1)) (pa_cons (pe_excT PySem.F.excBase_ValueError (E.ex 9 (by decide)) (E.gs 9 (by decide)) (E.kp 9 (by decide)) rfl (pv 1)) (pa_cons (pe_excT PySem.F.excBase_ValueError (E.ex 10 (by decide)) (E.gs 10 (by decide)) (E.kp 10 (by decide)) rfl (pv 1)) (pa_cons (pe_excT PySem.F.excBase_ValueError (E.ex 11 (by decide)) (E.gs 11 (by decide)) (E.kp 11 (by decide)) rfl (pv 1)) (pa_cons (pe_excT PySem.F.excBase_ValueError (E.ex 12 (by decide)) (E.gs 12 (by decide)) (E.kp 12 (by decide)) rfl (pv 1)) (pa_cons (pe_excT PySem.F.excBase_ValueError (E.ex 13 (by decide)) (E.gs 13 (by decide)) (E.kp 13 (by decide)) rfl (pv 1)) pa_nil))))))))))
    (pss_cons (ps_set (i := 2) scTable.nd rfl (Or.inl rfl) (pe_op op_catL (pv 2) (pe_lstL (pa_cons (pe_excT PySem.F.excBase_ValueError (E.ex 14 (by decide)) (E.gs 14 (by decide)) (E.kp 14 (by decide)) rfl (pv 1)) (pa_cons (pe_excT PySem.F.excBase_ValueError (E.ex 15 (by decide)) (E.gs 15 (by decide)) (E.kp 15 (by decide)) rfl (pv 1)) (pa_cons (pe_excT PySem.F.excBase_ValueError (E.ex 16 (by decide)) (E.gs 16 (by decide)) (E.kp 16 (by decide)) rfl (pv 1)) (pa_cons (pe_excT PySem.F.excBase_ValueError (E.ex 17 (by decide)) (E.gs 17 (by decide)) (E.kp 17 (by decide)) rfl (pv 1)) (pa_cons (pe_excT PySem.F.excBase_ValueError (E.ex 18 (by decide)) (E.gs 18 (by decide)) (E.kp 18 (by decide)) rfl (pv 1)) (pa_cons (pe_excT PySem.F.excBase_ValueError (E.ex 19 (by decide)) (E.gs 19 (by decide)) (E.kp 19 (by decide)) rfl (pv 1)) pa_nil)))))))))
    (pss_cons (ps_if (pt_cmpR (op_neD hr.units) (pe_lc (own := [("held", 3)]) (g := gName 3) (by rfl) scTable.nd (pi_list (pe_op op_catL (pv 2) (pe_lstL (pa_cons (pe_excT PySem.F.excBase_ValueError (E.ex 20 (by decide)) (E.gs 20 (by decide)) (E.kp 20 (by decide)) rfl (pv 1)) pa_nil)))) (blkOk_by (own := [("held", 3)]) (N := scTableN) (sc := scTableS) (by decide +kernel)) (fun _ _ _ _ _ => pg_name (i := 3) scTable.nd rfl (Or.inl rfl)) (fun _ _ _ _ _ => pts_one (PW.pt (pw_or (pt_cmpR op_ne (pe_callTy (T := "str") (call_strK (K := K) hu2) (by rfl) E.str (by decide +kernel) (pa_cons (pv 3) pa_nil)) (pv 1) (nomark _)) (pw_or1 (pt_not (pt_val (pe_callB (id := "isinstance") (call_isK (K := K)) (by rfl) E.isi (by decide +kernel) (pa_cons (pv 3) (pa_cons (pe_bltn (v := .ty "ValueError") rfl E.ve (by decide +kernel) rfl) pa_nil))))))))) (fun _ _ _ _ _ => pe_int)) (pe_lstL pa_nil) (nomark _))
      (pss_one (ps_ret (pe_lstL pa_nil)))
      pss_nil)
    (pss_cons (ps_if (pt_cmpR (op_neD hr.units) (pe_lc (own := [("held", 3)]) (g := gName 3) (by rfl) scTable.nd (pi_list (pv 2)) (blkOk_by (own := [("held", 3)]) (N := scTableN) (sc := scTableS) (by decide +kernel)) (fun _ _ _ _ _ => pg_name (i := 3) scTable.nd rfl (Or.inl rfl)) (fun _ _ _ _ _ => pts_one (PW.pt (pw_or (pt_not (pt_val (pe_callB (id := "isinstance") (call_isK (K := K)) (by rfl) E.isi (by decide +kernel) (pa_cons (pv 3) (pa_cons (pe_glob (v := .ref (C 20)) rfl (E.gs 20 (by decide)) rfl) pa_nil))))) (pw_or1 (pt_val (pe_callB (id := "isinstance") (call_isK (K := K)) (by rfl) E.isi (by decide +kernel) (pa_cons (pv 3) (pa_cons (pe_bltn (v := .ty "LookupError") rfl E.le (by decide +kernel) rfl) pa_nil)))))))) (fun _ _ _ _ _ => pe_int)) (pe_lstL pa_nil) (nomark _))
      (pss_one (ps_ret (pe_lstL pa_nil)))
      pss_nil)
    (pss_one (ps_ret (pe_lc (own := [("held", 3)]) (g := gName 3) (by rfl) scTable.nd (pi_list (pv 2)) (blkOk_by (own := [("held", 3)]) (N := scTableN) (sc := scTableS) (by decide +kernel)) (fun _ _ _ _ _ => pg_name (i := 3) scTable.nd rfl (Or.inl rfl)) (fun _ _ _ _ _ => pts_nil) (fun _ _ _ _ _ => (pe_call GK hr1 rfl gK FK.kp bK .nil pass0 (pa_cons (pv 3) pa_nil)))))))))))), ?_⟩
    -- text
    refine ⟨_, rfl, _, rfl, p, k, _, rfl, hp, by decide, by decide, by omega, fun r H1 k1 r0 r1 B1 hk1 hp1 => ⟨_, _, rfl, rfl, rfl, r0, by omega, fun z' => ⟨by show 4 ≤ sizeLine; decide, fun la Ha na sa ha => ?_⟩⟩⟩
    obtain ⟨c1, cells1, x1, hp1a, _⟩ := id hp1
    have npl : la ≠ p := (ne_of_none hp1a na).symm
    refine ⟨p, la, k1, _, rfl, Pen.same hp1 sa, SqL.of ha, npl, by show 0 < 4; decide, by show 4 < 1000000; decide, by omega, fun i v HA k2 hv BA hk2 hpA => ?_⟩
    obtain ⟨x, rfl⟩ : ∃ x, v = V.str x := by
      have hm := List.mem_of_getElem? hv
      simp only [List.mem_cons, List.mem_nil_iff, or_false] at hm
      rcases hm with e | e | e | e
      all_goals exact ⟨_, e⟩
    have BHA : But p H HA := (B1.trans (sameBut sa)).trans BA
    -- made
    refine ⟨_, rfl, fun a0 t0 K0 u0 v0 e0 f0 g0 => ⟨_, rfl, fun a1 t1 K1 u1 v1 e1 f1 g1 => ⟨_, rfl, fun a2 t2 K2 u2 v2 e2 f2 g2 => ⟨_, rfl, fun a3 t3 K3 u3 v3 e3 f3 g3 => ⟨_, rfl, fun a4 t4 K4 u4 v4 e4 f4 g4 => ⟨_, rfl, fun a5 t5 K5 u5 v5 e5 f5 g5 => ⟨_, rfl, fun a6 t6 K6 u6 v6 e6 f6 g6 => ⟨by show 7 ≤ sizeLine; decide, fun l0 L0 n0 s0 h0 => ?_⟩⟩⟩⟩⟩⟩⟩⟩
    have m0 : MadeAt C L0 x 0 (.ref a0) := ⟨a0, t0, rfl, (e1.trans (e2.trans (e3.trans (e4.trans (e5.trans (e6.trans s0)))))) _ _ f0, (e1.trans (e2.trans (e3.trans (e4.trans (e5.trans (e6.trans s0)))))) _ _ g0⟩
    have m1 : MadeAt C L0 x 1 (.ref a1) := ⟨a1, t1, rfl, (e2.trans (e3.trans (e4.trans (e5.trans (e6.trans s0))))) _ _ f1, (e2.trans (e3.trans (e4.trans (e5.trans (e6.trans s0))))) _ _ g1⟩
    have m2 : MadeAt C L0 x 2 (.ref a2) := ⟨a2, t2, rfl, (e3.trans (e4.trans (e5.trans (e6.trans s0)))) _ _ f2, (e3.trans (e4.trans (e5.trans (e6.trans s0)))) _ _ g2⟩
    have m3 : MadeAt C L0 x 3 (.ref a3) := ⟨a3, t3, rfl, (e4.trans (e5.trans (e6.trans s0))) _ _ f3, (e4.trans (e5.trans (e6.trans s0))) _ _ g3⟩
    have m4 : MadeAt C L0 x 4 (.ref a4) := ⟨a4, t4, rfl, (e5.trans (e6.trans s0)) _ _ f4, (e5.trans (e6.trans s0)) _ _ g4⟩
    have m5 : MadeAt C L0 x 5 (.ref a5) := ⟨a5, t5, rfl, (e6.trans s0) _ _ f5, (e6.trans s0) _ _ g5⟩
    have m6 : MadeAt C L0 x 6 (.ref a6) := ⟨a6, t6, rfl, s0 _ _ f6, s0 _ _ g6⟩
    have W0 : Same HA L0 := (e0.trans (e1.trans (e2.trans (e3.trans (e4.trans (e5.trans (e6.trans s0)))))))
    refine ⟨_, rfl, _, rfl, fun a7 t7 K7 u7 v7 e7 f7 g7 => ⟨_, rfl, fun a8 t8 K8 u8 v8 e8 f8 g8 => ⟨_, rfl, fun a9 t9 K9 u9 v9 e9 f9 g9 => ⟨_, rfl, fun a10 t10 K10 u10 v10 e10 f10 g10 => ⟨_, rfl, fun a11 t11 K11 u11 v11 e11 f11 g11 => ⟨_, rfl, fun a12 t12 K12 u12 v12 e12 f12 g12 => ⟨_, rfl, fun a13 t13 K13 u13 v13 e13 f13 g13 => ⟨by show 7 ≤ sizeLine; decide, fun l1 L1 n1 s1 h1 => ?_⟩⟩⟩⟩⟩⟩⟩⟩
    have m7 : MadeAt C L1 x 7 (.ref a7) := ⟨a7, t7, rfl, (e8.trans (e9.trans (e10.trans (e11.trans (e12.trans (e13.trans s1)))))) _ _ f7, (e8.trans (e9.trans (e10.trans (e11.trans (e12.trans (e13.trans s1)))))) _ _ g7⟩
    have m8 : MadeAt C L1 x 8 (.ref a8) := ⟨a8, t8, rfl, (e9.trans (e10.trans (e11.trans (e12.trans (e13.trans s1))))) _ _ f8, (e9.trans (e10.trans (e11.trans (e12.trans (e13.trans s1))))) _ _ g8⟩
    have m9 : MadeAt C L1 x 9 (.ref a9) := ⟨a9, t9, rfl, (e10.trans (e11.trans (e12.trans (e13.trans s1)))) _ _ f9, (e10.trans (e11.trans (e12.trans (e13.trans s1)))) _ _ g9⟩
    have m10 : MadeAt C L1 x 10 (.ref a10) := ⟨a10, t10, rfl, (e11.trans (e12.trans (e13.trans s1))) _ _ f10, (e11.trans (e12.trans (e13.trans s1))) _ _ g10⟩
    have m11 : MadeAt C L1 x 11 (.ref a11) := ⟨a11, t11, rfl, (e12.trans (e13.trans s1)) _ _ f11, (e12.trans (e13.trans s1)) _ _ g11⟩
    have m12 : MadeAt C L1 x 12 (.ref a12) := ⟨a12, t12, rfl, (e13.trans s1) _ _ f12, (e13.trans s1) _ _ g12⟩
    have m13 : MadeAt C L1 x 13 (.ref a13) := ⟨a13, t13, rfl, s1 _ _ f13, s1 _ _ g13⟩
    have W1a : Same L0 L1 := (e7.trans (e8.trans (e9.trans (e10.trans (e11.trans (e12.trans (e13.trans s1)))))))
    refine ⟨l0, l1, _, _, rfl, rfl, W1a _ _ h0, h1, by show 7 + 7 ≤ sizeLine; decide, fun q1 M1 o1 r1 k1 => ?_⟩
    have W1 : Same L0 M1 := W1a.trans r1
    refine ⟨_, rfl, _, rfl, fun a14 t14 K14 u14 v14 e14 f14 g14 => ⟨_, rfl, fun a15 t15 K15 u15 v15 e15 f15 g15 => ⟨_, rfl, fun a16 t16 K16 u16 v16 e16 f16 g16 => ⟨_, rfl, fun a17 t17 K17 u17 v17 e17 f17 g17 => ⟨_, rfl, fun a18 t18 K18 u18 v18 e18 f18 g18 => ⟨_, rfl, fun a19 t19 K19 u19 v19 e19 f19 g19 => ⟨by show 6 ≤ sizeLine; decide, fun l2 L2 n2 s2 h2 => ?_⟩⟩⟩⟩⟩⟩⟩
    have m14 : MadeAt C L2 x 14 (.ref a14) := ⟨a14, t14, rfl, (e15.trans (e16.trans (e17.trans (e18.trans (e19.trans s2))))) _ _ f14, (e15.trans (e16.trans (e17.trans (e18.trans (e19.trans s2))))) _ _ g14⟩
    have m15 : MadeAt C L2 x 15 (.ref a15) := ⟨a15, t15, rfl, (e16.trans (e17.trans (e18.trans (e19.trans s2)))) _ _ f15, (e16.trans (e17.trans (e18.trans (e19.trans s2)))) _ _ g15⟩
    have m16 : MadeAt C L2 x 16 (.ref a16) := ⟨a16, t16, rfl, (e17.trans (e18.trans (e19.trans s2))) _ _ f16, (e17.trans (e18.trans (e19.trans s2))) _ _ g16⟩
    have m17 : MadeAt C L2 x 17 (.ref a17) := ⟨a17, t17, rfl, (e18.trans (e19.trans s2)) _ _ f17, (e18.trans (e19.trans s2)) _ _ g17⟩
    have m18 : MadeAt C L2 x 18 (.ref a18) := ⟨a18, t18, rfl, (e19.trans s2) _ _ f18, (e19.trans s2) _ _ g18⟩
    have m19 : MadeAt C L2 x 19 (.ref a19) := ⟨a19, t19, rfl, s2 _ _ f19, s2 _ _ g19⟩
    have W2a : Same M1 L2 := (e14.trans (e15.trans (e16.trans (e17.trans (e18.trans (e19.trans s2))))))
    refine ⟨q1, l2, _, _, rfl, rfl, W2a _ _ k1, h2, by show 14 + 6 ≤ sizeLine; decide, fun q2 M2 o2 r2 k2 => ?_⟩
    have W2 : Same M1 M2 := W2a.trans r2
    have AM : AllMade C M2 x 0 ([V.ref a0, V.ref a1, V.ref a2, V.ref a3, V.ref a4, V.ref a5, V.ref a6] ++ [V.ref a7, V.ref a8, V.ref a9, V.ref a10, V.ref a11, V.ref a12, V.ref a13] ++ [V.ref a14, V.ref a15, V.ref a16, V.ref a17, V.ref a18, V.ref a19]) := ⟨((m0.same W1).same W2), ((m1.same W1).same W2), ((m2.same W1).same W2), ((m3.same W1).same W2), ((m4.same W1).same W2), ((m5.same W1).same W2), ((m6.same W1).same W2), ((m7.same r1).same W2), ((m8.same r1).same W2), ((m9.same r1).same W2), ((m10.same r1).same W2), ((m11.same r1).same W2), ((m12.same r1).same W2), ((m13.same r1).same W2), (m14.same r2), (m15.same r2), (m16.same r2), (m17.same r2), (m18.same r2), (m19.same r2), trivial⟩
    have LM : ([V.ref a0, V.ref a1, V.ref a2, V.ref a3, V.ref a4, V.ref a5, V.ref a6] ++ [V.ref a7, V.ref a8, V.ref a9, V.ref a10, V.ref a11, V.ref a12, V.ref a13] ++ [V.ref a14, V.ref a15, V.ref a16, V.ref a17, V.ref a18, V.ref a19]).length = 20 := rfl
    have W : Same HA M2 := (W0.trans W1).trans W2
    generalize [V.ref a0, V.ref a1, V.ref a2, V.ref a3, V.ref a4, V.ref a5, V.ref a6] ++ [V.ref a7, V.ref a8, V.ref a9, V.ref a10, V.ref a11, V.ref a12, V.ref a13] ++ [V.ref a14, V.ref a15, V.ref a16, V.ref a17, V.ref a18, V.ref a19] = ms at AM LM k2
    -- if [1 for held in made + [BayError(text)] if str(held) != text or not isinstance(held, ValueError)] != []: return []
    refine ⟨_, rfl, _, rfl, fun a20 t20 N0 b1 b2 b3 b4 b5 => ⟨by show 1 ≤ sizeLine; decide, fun lb N1 b6 b7 b8 => ⟨q2, lb, _, _, rfl, rfl, b7 _ _ (b3 _ _ k2), b8, by rw [LM]; show 20 + 1 ≤ sizeLine; decide, fun lm N2 b9 c0 c1 => ?_⟩⟩⟩
    have Z1 : Same M2 N2 := (b3.trans b7).trans c0
    have AM1 : AllMade C N2 x 0 (ms ++ [V.ref a20]) := by
      have z : MadeAt C N2 x 20 (.ref a20) := ⟨a20, t20, rfl, c0 _ _ (b7 _ _ b4), c0 _ _ (b7 _ _ b5)⟩
      exact AllMade.snoc (AM.same Z1) (by rw [LM]; exact z)
    refine ⟨lm, rfl, ⟨_, SqL.of c1⟩, fun D hD => lc_list (K := K) (a := lm) (xs := ms ++ [V.ref a20]) (fun i H' => Same N2 H' ∧ H' D = some (.lst [])) ⟨same_upd hD, upd_same⟩ (fun i H' _ ⟨S, _⟩ => S.seq (SqL.of c1)) ?_ ?_⟩
    · rintro i v H' hi ⟨S, e⟩
      obtain ⟨a, t, rfl, h1, h2⟩ := (AM1.get hi).same S
      have hi21 : 0 + i < 21 := by
        have z := (List.getElem?_eq_some_iff.mp hi).1
        rw [List.length_append, LM] at z
        simp only [List.length_singleton] at z
        omega
      refine ⟨rfl, _, rfl, a, C (0 + i), t, x, rfl, h1, h2, E.st _ hi21, E.su _ hi21, _, rfl, rfl, _, rfl, ?_⟩
      refine iteNS rfl ?_
      refine ⟨_, rfl, a, C (0 + i), _, .type "ValueError", _, rfl, ExcAt.of h1, E.G _ hi21, (fun u r => r), E.kitV _ hi21, _, rfl, ?_⟩
      exact iteF ⟨S, e⟩
    rintro HB ⟨SB, eB⟩
    refine ⟨by show 0 ≤ sizeLine; decide, fun ln H3 b1 s3 h3 => ?_⟩
    refine ⟨.list [], .list [], .lst (SqL.of (s3 _ _ eB)) .nil, .lst (SqL.of h3) .nil, by decide, by decide, _, rfl, iteC (by decide) ?_⟩
    have Z2 : Same M2 H3 := (Z1.trans SB).trans s3
    have AM2 : AllMade C H3 x 0 ms := AM.same Z2
    -- if [1 for held in made if not isinstance(held, BayError) or isinstance(held, LookupError)] != []: return []
    refine ⟨_, rfl, q2, rfl, ⟨_, SqL.of (Z2 _ _ k2)⟩, fun D2 hD2 => lc_list (K := K) (a := q2) (xs := ms) (fun i H' => Same H3 H' ∧ H' D2 = some (.lst [])) ⟨same_upd hD2, upd_same⟩ (fun i H' _ ⟨S, _⟩ => S.seq (SqL.of (Z2 _ _ k2))) ?_ ?_⟩
    · rintro i v H' hi ⟨S, e⟩
      obtain ⟨a, t, rfl, h1, h2⟩ := (AM2.get hi).same S
      have hi21 : 0 + i < 21 := by
        have z := (List.getElem?_eq_some_iff.mp hi).1
        rw [LM] at z
        omega
      refine ⟨rfl, _, rfl, a, C (0 + i), _, .ref (C 20), _, rfl, ExcAt.of h1, E.G _ hi21, (fun u r => r), E.kitB _ hi21, _, rfl, ?_⟩
      refine iteF ?_
      refine ⟨_, rfl, a, C (0 + i), _, .type "LookupError", _, rfl, ExcAt.of h1, E.G _ hi21, (fun u r => r), E.kitL _ hi21, _, rfl, ?_⟩
      exact iteF ⟨S, e⟩
    rintro HC ⟨SC, eC⟩
    refine ⟨by show 0 ≤ sizeLine; decide, fun ln2 H4 b1 s4 h4 => ?_⟩
    refine ⟨.list [], .list [], .lst (SqL.of (s4 _ _ eC)) .nil, .lst (SqL.of h4) .nil, by decide, by decide, _, rfl, iteC (by decide) ?_⟩
    have Z3 : Same M2 H4 := (Z2.trans SC).trans s4
    have AM3 : AllMade C H4 x 0 ms := AM.same Z3
    -- return [_law_kinds(held) for held in made]
    refine ⟨_, rfl, q2, rfl, ⟨_, SqL.of (Z3 _ _ k2)⟩, fun D3 hD3 => lc_list (K := K) (a := q2) (xs := ms) (fun i H' => ∃ acc, Same H4 H' ∧ H' D3 = some (.lst acc) ∧ acc.length = i ∧ RowsAt H' 0 acc) ⟨[], same_upd hD3, upd_same, rfl, trivial⟩ (fun i H' _ ⟨_, S, _⟩ => S.seq (SqL.of (Z3 _ _ k2))) ?_ ?_⟩
    · rintro i v H' hi ⟨acc, S, e, la, R⟩
      obtain ⟨a, t, rfl, h1, h2⟩ := (AM3.get hi).same S
      have hi20 : i < 20 := by
        have z := (List.getElem?_eq_some_iff.mp hi).1
        rw [LM] at z
        exact z
      refine ⟨rfl, ?_⟩
      refine ⟨_, rfl, a, i, rfl, (by have z := ExcAt.of h1; rw [Nat.zero_add] at z; exact z), by omega, fun p' H5 s5 h5 => ⟨acc, s5 _ _ e, by rw [la]; exact Nat.lt_trans hi20 (by decide), ?_⟩⟩
      have nD : ∀ (p : Addr) (k : Nat), H5 p = some (.lst (row k)) → p ≠ D3 := fun p k hp z => by
        rw [z, s5 _ _ e] at hp
        have z2 := congrArg List.length (HO.lst.inj (Option.some.inj hp))
        rw [row_len, la] at z2
        omega
      refine ⟨acc ++ [.ref p'], (fun b o hb => by rw [upd_ne (ne_of_none hb hD3)]; exact s5 _ _ (S _ _ hb)), upd_same, by rw [List.length_append, la]; rfl, RowsAt.snoc (RowsAt.mono (fun p k hp => ?_) R) ?_⟩
      · rw [upd_ne (nD p k (s5 _ _ hp))]
        exact s5 _ _ hp
      · rw [upd_ne (nD p' i h5), la, Nat.zero_add]
        exact h5
    · rintro HD ⟨acc, S, e, la, R⟩
      exact q D3 HD acc (BHA.trans (sameBut ((W.trans Z3).trans S))) e (by rw [la, LM]) R
end
end Sb

/-! ## X465 -/
/-! A caught error handed on to a def, within its suite. -/
namespace Sb
open PySem PySem.Spec PyProof.Rows L2
open L2H (RoomH PinOk cxH inv_startH)
/-- isinstance(e, c), e an exception that the context pins -/
def rIsP (K : PySem.W.Frag) (C a : Addr) : List V → Hp → VK → Prop := fun xs H Q => ∃ (c : V) (cv : Value) (b : Bool), xs = [.ref a, c] ∧ (∀ u, RelV c u → u = cv) ∧ PySem.W.kitOne K (.ref C) cv = some b ∧ Q (.bl b) H
theorem call_isP {X : Cx} {K : PySem.W.Frag} {a C : Addr} {oe : Obj} (hp : (a, oe) ∈ X.pn) (G : L2.ExcC K C) (hz : Zc (.ref C) none oe) (hf : ∃ vs, oe.data = .fields vs) (hK : X.K = K := by rfl) : CallR X (.builtin "isinstance") (rIsP K C a) := by
  subst hK
  intro pins s σ H xs us Q I r h
  obtain ⟨c, cv, b, rfl, hcv, e, q⟩ := h
  obtain ⟨u1, u2, rfl, r1, r2⟩ := vals2 r
  cases (show u1 = Value.ref a from r1)
  have ec := hcv _ r2
  subst ec
  obtain ⟨hget, _⟩ := I.pin (a, oe) (List.mem_append_left _ hp)
  obtain ⟨vs, hv⟩ := hf
  have J : PySem.W.InstAt s.heap a oe C none := by
    obtain ⟨oc, od, oda, osl⟩ := oe
    obtain ⟨h1, h2⟩ := hz
    dsimp only at h1 h2 hv
    subst h1 h2 hv
    exact ⟨hget, rfl, rfl, trivial⟩
  exact PySem.W.kia_one (PySem.W.handS_kitx_exc G.hg G.hk G.hs G.hd G.ha G.hn G.ht G.hm) I.kIn J e (fun z => nomatch z) fun tk => ⟨.bl b, H, I.kept (t' := tk) fun _ _ z => z, rfl, q⟩
section
variable {P : Program} {w : World} {K : PySem.W.Frag} {mg : Str → Option Value} {base : Heap} {C : Nat → Addr}
/-- a def called where the object of p is pinned -/
theorem fn_at {CX : CXT} {k : Nat} {f : Addr} {name qual : Str} {params : Arguments} {body : List Stmt} {scope : Scope} {dV kV doc pm cdv ct oc : Value} {an od : Option Addr}
    {osl : Array (Option Value)} {N ps : List Str} (lk : K.lookup f = some ⟨oc, od, .func (PySem.W.fnOf name qual params body scope dV kV doc pm an cdv ct), osl⟩) (hcd : PySem.W.codeIn K cdv qual = true) (S : FnScope N ps scope)
    {A : Around} {outer : List Env} {s : Shared} {H : Hp} {args : Args} {us : List Value} {vs : List V} {Q : VK} {E : XK} {p : Addr × Obj} (hr : RoomH (k + 1) A) (hpin : PinOk outer H s p) (e0 : Env0 P w K mg base A outer s H)
    (hb : BindsTo s (PySem.W.fnOf name qual params body scope dV kV doc pm an cdv ct) args (ps.zip us)) (r : Vals vs us) (hl : vs.length = ps.length)
    (hbody : RoomH k (A.deeper (envOfC qual scope s.heap.objs.size f cdv)) → ∃ t, PSs (cxH CX P w K mg base N qual scope f cdv A outer s H E p) body t ∧ t { nx := fun _ H' => Q .non H', rt := Q } (L2.start N vs) H) :
    codeAny (model P w) A (.call (.ref f) args) (CR CX outer P w H s Q E) s := by
  have KX : K.In s.heap := e0.mod.kin.keeps fun b o e => (e0.bs b o e).1
  have lim : s.heap.NoLimit := e0.mod.nolimit.keeps fun b o e => (e0.bs b o e).1
  have hkind : ∀ y ∈ ps.zip us, scope.names.lookup y.1 = some .local ∨ (scope.names.lookup y.1 = some .cell ∧ ((cellsFrom (s.heap.objs.size + 1) scope.names []).lookup y.1).isSome = true) := fun ⟨n, v⟩ hy => by
    rcases S.par n (List.of_mem_zip hy).1 with q | q
    · exact .inl q
    · exact .inr ⟨q, PySem.W.cellsFrom_some _ _ _ (.inl q)⟩
  refine codeAny_call_function hr.depth (KX _ _ lk) rfl S.co S.gen rfl (PySem.W.codeRec_of KX hcd) (hb _ _ _ _ ?_)
  refine wpAny_newFunctionEnv_cells S.kind hkind fun env he s1 x => ?_
  subst he
  refine ⟨lim.keeps x.toInCall.keep, codeAny_func ?_⟩
  obtain ⟨t, ht, hq⟩ := hbody (hr.deeper _)
  have I : Inv (cxH CX P w K mg base N qual scope f cdv A outer s H E p) [] (L2.start N vs) H s1 := inv_startH S hpin e0 hl r x
  refine wpAny_mono (ht.run [] s1 (L2.start N vs) H _ I hq) (fun fl s' hs => ?_) fun e s' hs => hs
  have fin : ∀ {σ' : L2.St} {H' : Hp} {v : V} {u : Value}, Inv (cxH CX P w K mg base N qual scope f cdv A outer s H E p) [] σ' H' s' → L2.RelV v u → Q v H' → CE outer P w H s Q u s' :=
    fun {σ' H' v u} J rv q => ⟨v, H', J.os, J.bare, J.base, J.hok, rv, q⟩
  cases fl with
  | ret u =>
    obtain ⟨v, σ', H', J, rv, q⟩ := hs
    exact fin J rv q
  | next =>
    obtain ⟨σ', H', J, q⟩ := hs
    exact fin (v := V.non) (u := Value.none) J rfl q
  | brk =>
    obtain ⟨_, _, _, q⟩ := hs
    exact False.elim q
  | cont =>
    obtain ⟨_, _, _, q⟩ := hs
    exact False.elim q
theorem kinds_at {f : Addr} {fd : FuncData} (F : FnP K "_law_kinds" sKinds f fd) (E : ErrTxt K mg C) {A : Around} {outer : List Env} {s : Shared} {H : Hp} {a : Addr} {oe : Obj} {i : Nat} {Q : VK} {E0 : XK} (hr : RoomH 1 A) (hpin : PinOk outer H s (a, oe))
    (hz : Zc (.ref (C i)) none oe) (hf : ∃ vs, oe.data = .fields vs) (hi : i < 21) (e0 : Env0 P w K mg base A outer s H) (q : ∀ p H', Same H H' → H' p = some (.lst (row i)) → Q (.ref p) H') :
    codeAny (model P w) A (.call (.ref f) ⟨[.ref a], []⟩) (CR CX0 outer P w H s Q E0) s := by
  have bK : Binds K fd ["held"] [] := F.bindsN fun _ _ _ _ _ _ us hl => match us, hl with | [_], _ => rfl
  obtain ⟨oc, od, dV, kV, doc, pm, an, cdv, ct, osl, rfl, lk, hcd, _, _⟩ := F.ex
  have KX : K.In s.heap := e0.mod.kin.keeps fun b o e => (e0.bs b o e).1
  refine fn_at (k := 0) (ps := ["held"]) (us := [.ref a]) (vs := [.ref a]) lk hcd scKinds hr hpin e0 (bK s [.ref a] KX rfl) (.cons rfl .nil) rfl fun hr' => ?_
  · refine ⟨_, (pss_cons (ps_set (i := 1) scKinds.nd rfl (Or.inl rfl) (pe_lstL (pa_cons (pe_callB (id := "isinstance") (call_isP (K := K) (C := C i) (a := a) (oe := oe) List.mem_cons_self (E.G i hi) hz hf) (by rfl) E.isi (by decide +kernel) (pa_cons (pv 0) (pa_cons (pe_glob (v := .ref (C 0)) rfl (E.gs 0 (by decide)) rfl) pa_nil))) (pa_cons (pe_callB (id := "isinstance") (call_isP (K := K) (C := C i) (a := a) (oe := oe) List.mem_cons_self (E.G i hi) hz hf) (by rfl) E.isi (by decide +kernel) (pa_cons (pv 0) (pa_cons (pe_glob (v := .ref (C 1)) rfl (E.gs 1 (by decide)) rfl) pa_nil))) (pa_cons (pe_callB (id := "isinstance") (call_isP (K := K) (C := C i) (a := a) (oe := oe) List.mem_cons_self (E.G i hi) hz hf) (by rfl) E.isi (by decide +kernel) (pa_cons (pv 0) (pa_cons (pe_glob (v := .ref (C 2)) rfl (E.gs 2 (by decide)) rfl) pa_nil))) (pa_cons (pe_callB (id := "isinstance") (call_isP (K := K) (C := C i) (a := a) (oe := oe) List.mem_cons_self (E.G i hi) hz hf) (by rfl) E.isi (by decide +kernel) (pa_cons (pv 0) (pa_cons (pe_glob (v := .ref (C 3)) rfl (E.gs 3 (by decide)) rfl) pa_nil))) pa_nil))))))
    (pss_cons (ps_set (i := 1) scKinds.nd rfl (Or.inl rfl) (pe_op op_catL (pv 1) (pe_lstL (pa_cons (pe_callB (id := "isinstance") (call_isP (K := K) (C := C i) (a := a) (oe := oe) List.mem_cons_self (E.G i hi) hz hf) (by rfl) E.isi (by decide +kernel) (pa_cons (pv 0) (pa_cons (pe_glob (v := .ref (C 4)) rfl (E.gs 4 (by decide)) rfl) pa_nil))) (pa_cons (pe_callB (id := "isinstance") (call_isP (K := K) (C := C i) (a := a) (oe := oe) List.mem_cons_self (E.G i hi) hz hf) (by rfl) E.isi (by decide +kernel) (pa_cons (pv 0) (pa_cons (pe_glob (v := .ref (C 5)) rfl (E.gs 5 (by decide)) rfl) pa_nil))) (pa_cons (pe_callB (id := "isinstance") (call_isP (K := K) (C := C i) (a := a) (oe := oe) List.mem_cons_self (E.G i hi) hz hf) (by rfl) E.isi (by decide +kernel) (pa_cons (pv 0) (pa_cons (pe_glob (v := .ref (C 6)) rfl (E.gs 6 (by decide)) rfl) pa_nil))) pa_nil))))))
    (pss_cons (ps_set (i := 1) scKinds.nd rfl (Or.inl rfl) (pe_op op_catL (pv 1) (pe_lstL (pa_cons (pe_callB (id := "isinstance") (call_isP (K := K) (C := C i) (a := a) (oe := oe) List.mem_cons_self (E.G i hi) hz hf) (by rfl) E.isi (by decide +kernel) (pa_cons (pv 0) (pa_cons (pe_glob (v := .ref (C 7)) rfl (E.gs 7 (by decide)) rfl) pa_nil))) (pa_cons (pe_callB (id := "isinstance") (call_isP (K := K) (C := C i) (a := a) (oe := oe) List.mem_cons_self (E.G i hi) hz hf) (by rfl) E.isi (by decide +kernel) (pa_cons (pv 0) (pa_cons (pe_glob (v := .ref (C 8)) rfl (E.gs 8 (by decide)) rfl) pa_nil))) (pa_cons (pe_callB (id := "isinstance") (call_isP (K := K) (C := C i) (a := a) (oe := oe) List.mem_cons_self (E.G i hi) hz hf) (by rfl) E.isi (by decide +kernel) (pa_cons (pv 0) (pa_cons (pe_glob (v := .ref (C 9)) rfl (E.gs 9 (by decide)) rfl) pa_nil))) pa_nil))))))
    (pss_cons (ps_set (i := 1) scKinds.nd rfl (Or.inl rfl) (pe_op op_catL (pv 1) (pe_lstL (pa_cons (pe_callB (id := "isinstance") (call_isP (K := K) (C := C i) (a := a) (oe := oe) List.mem_cons_self (E.G i hi) hz hf) (by rfl) E.isi (by decide +kernel) (pa_cons (pv 0) (pa_cons (pe_glob (v := .ref (C 10)) rfl (E.gs 10 (by decide)) rfl) pa_nil))) (pa_cons (pe_callB (id := "isinstance") (call_isP (K := K) (C := C i) (a := a) (oe := oe) List.mem_cons_self (E.G i hi) hz hf) (by rfl) E.isi (by decide +kernel) (pa_cons (pv 0) (pa_cons (pe_glob (v := .ref (C 11)) rfl (E.gs 11 (by decide)) rfl) pa_nil))) (pa_cons (pe_callB (id := "isinstance") (call_isP (K := K) (C := C i) (a := a) (oe := oe) List.mem_cons_self (E.G i hi) hz hf) (by rfl) E.isi (by decide +kernel) (pa_cons (pv 0) (pa_cons (pe_glob (v := .ref (C 12)) rfl (E.gs 12 (by decide)) rfl) pa_nil))) pa_nil))))))
    (pss_cons (ps_set (i := 1) scKinds.nd rfl (Or.inl rfl) (pe_op op_catL (pv 1) (pe_lstL (pa_cons (pe_callB (id := "isinstance") (call_isP (K := K) (C := C i) (a := a) (oe := oe) List.mem_cons_self (E.G i hi) hz hf) (by rfl) E.isi (by decide +kernel) (pa_cons (pv 0) (pa_cons (pe_glob (v := .ref (C 13)) rfl (E.gs 13 (by decide)) rfl) pa_nil))) (pa_cons (pe_callB (id := "isinstance") (call_isP (K := K) (C := C i) (a := a) (oe := oe) List.mem_cons_self (E.G i hi) hz hf) (by rfl) E.isi (by decide +kernel) (pa_cons (pv 0) (pa_cons (pe_glob (v := .ref (C 14)) rfl (E.gs 14 (by decide)) rfl) pa_nil))) pa_nil)))))
    (pss_cons (ps_set (i := 1) scKinds.nd rfl (Or.inl rfl) (pe_op op_catL (pv 1) (pe_lstL (pa_cons (pe_callB (id := "isinstance") (call_isP (K := K) (C := C i) (a := a) (oe := oe) List.mem_cons_self (E.G i hi) hz hf) (by rfl) E.isi (by decide +kernel) (pa_cons (pv 0) (pa_cons (pe_glob (v := .ref (C 15)) rfl (E.gs 15 (by decide)) rfl) pa_nil))) (pa_cons (pe_callB (id := "isinstance") (call_isP (K := K) (C := C i) (a := a) (oe := oe) List.mem_cons_self (E.G i hi) hz hf) (by rfl) E.isi (by decide +kernel) (pa_cons (pv 0) (pa_cons (pe_glob (v := .ref (C 16)) rfl (E.gs 16 (by decide)) rfl) pa_nil))) pa_nil)))))
    (pss_one (ps_ret (pe_op op_catL (pv 1) (pe_lstL (pa_cons (pe_callB (id := "isinstance") (call_isP (K := K) (C := C i) (a := a) (oe := oe) List.mem_cons_self (E.G i hi) hz hf) (by rfl) E.isi (by decide +kernel) (pa_cons (pv 0) (pa_cons (pe_glob (v := .ref (C 17)) rfl (E.gs 17 (by decide)) rfl) pa_nil))) (pa_cons (pe_callB (id := "isinstance") (call_isP (K := K) (C := C i) (a := a) (oe := oe) List.mem_cons_self (E.G i hi) hz hf) (by rfl) E.isi (by decide +kernel) (pa_cons (pv 0) (pa_cons (pe_glob (v := .ref (C 18)) rfl (E.gs 18 (by decide)) rfl) pa_nil))) (pa_cons (pe_callB (id := "isinstance") (call_isP (K := K) (C := C i) (a := a) (oe := oe) List.mem_cons_self (E.G i hi) hz hf) (by rfl) E.isi (by decide +kernel) (pa_cons (pv 0) (pa_cons (pe_glob (v := .ref (C 19)) rfl (E.gs 19 (by decide)) rfl) pa_nil))) pa_nil))))))))))))), ?_⟩
    refine ⟨_, rfl, _, .ref (C 0), _, rfl, (fun u r => r), E.kit i 0 hi (by decide), _, rfl, _, .ref (C 1), _, rfl, (fun u r => r), E.kit i 1 hi (by decide), _, rfl, _, .ref (C 2), _, rfl, (fun u r => r), E.kit i 2 hi (by decide), _, rfl, _, .ref (C 3), _, rfl, (fun u r => r), E.kit i 3 hi (by decide), by show 4 ≤ sizeLine; decide, fun l0 H0 n0 s0 h0 => ?_⟩
    refine ⟨_, rfl, _, rfl, _, .ref (C 4), _, rfl, (fun u r => r), E.kit i 4 hi (by decide), _, rfl, _, .ref (C 5), _, rfl, (fun u r => r), E.kit i 5 hi (by decide), _, rfl, _, .ref (C 6), _, rfl, (fun u r => r), E.kit i 6 hi (by decide), by show 3 ≤ sizeLine; decide, fun l1 H1 n1 s1 h1 => ?_⟩
    refine ⟨l0, l1, _, _, rfl, rfl, s1 _ _ h0, h1, by show 4+3 ≤ sizeLine; decide, fun m1 M1 o1 t1 k1 => ?_⟩
    refine ⟨_, rfl, _, rfl, _, .ref (C 7), _, rfl, (fun u r => r), E.kit i 7 hi (by decide), _, rfl, _, .ref (C 8), _, rfl, (fun u r => r), E.kit i 8 hi (by decide), _, rfl, _, .ref (C 9), _, rfl, (fun u r => r), E.kit i 9 hi (by decide), by show 3 ≤ sizeLine; decide, fun l2 H2 n2 s2 h2 => ?_⟩
    refine ⟨m1, l2, _, _, rfl, rfl, s2 _ _ k1, h2, by show 7+3 ≤ sizeLine; decide, fun m2 M2 o2 t2 k2 => ?_⟩
    refine ⟨_, rfl, _, rfl, _, .ref (C 10), _, rfl, (fun u r => r), E.kit i 10 hi (by decide), _, rfl, _, .ref (C 11), _, rfl, (fun u r => r), E.kit i 11 hi (by decide), _, rfl, _, .ref (C 12), _, rfl, (fun u r => r), E.kit i 12 hi (by decide), by show 3 ≤ sizeLine; decide, fun l3 H3 n3 s3 h3 => ?_⟩
    refine ⟨m2, l3, _, _, rfl, rfl, s3 _ _ k2, h3, by show 10+3 ≤ sizeLine; decide, fun m3 M3 o3 t3 k3 => ?_⟩
    refine ⟨_, rfl, _, rfl, _, .ref (C 13), _, rfl, (fun u r => r), E.kit i 13 hi (by decide), _, rfl, _, .ref (C 14), _, rfl, (fun u r => r), E.kit i 14 hi (by decide), by show 2 ≤ sizeLine; decide, fun l4 H4 n4 s4 h4 => ?_⟩
    refine ⟨m3, l4, _, _, rfl, rfl, s4 _ _ k3, h4, by show 13+2 ≤ sizeLine; decide, fun m4 M4 o4 t4 k4 => ?_⟩
    refine ⟨_, rfl, _, rfl, _, .ref (C 15), _, rfl, (fun u r => r), E.kit i 15 hi (by decide), _, rfl, _, .ref (C 16), _, rfl, (fun u r => r), E.kit i 16 hi (by decide), by show 2 ≤ sizeLine; decide, fun l5 H5 n5 s5 h5 => ?_⟩
    refine ⟨m4, l5, _, _, rfl, rfl, s5 _ _ k4, h5, by show 15+2 ≤ sizeLine; decide, fun m5 M5 o5 t5 k5 => ?_⟩
    refine ⟨_, rfl, _, rfl, _, .ref (C 17), _, rfl, (fun u r => r), E.kit i 17 hi (by decide), _, rfl, _, .ref (C 18), _, rfl, (fun u r => r), E.kit i 18 hi (by decide), _, rfl, _, .ref (C 19), _, rfl, (fun u r => r), E.kit i 19 hi (by decide), by show 3 ≤ sizeLine; decide, fun l6 H6 n6 s6 h6 => ?_⟩
    refine ⟨m5, l6, _, _, rfl, rfl, s6 _ _ k5, h6, by show 17+3 ≤ sizeLine; decide, fun m6 M6 o6 t6 k6 => ?_⟩
    have SS : Same H M6 := ((((((((((((s0).trans s1).trans t1).trans s2).trans t2).trans s3).trans t3).trans s4).trans t4).trans s5).trans t5).trans s6).trans t6
    exact q m6 M6 SS k6
end
section
variable {X : Cx} {C : Nat → Addr}
/-- a name whose slot has just been set -/
theorem pe_setVar {x : Str} {i : Nat} {pos : Pos} (hN : X.N[i]? = some x) (hv : Vis X.env.scope x) (hd : (x == ("__debug__" : Str)) = false := by decide) (hcd : (x == ("__classdict__" : Str)) = false := by decide) :
    PE X (.Name x pos) (fun σ H Q => ∃ (σ0 : L2.St) (v : V), σ = σ0.set i (some v) ∧ Q v H) := by
  refine ⟨fun pins s σ H Q I h => ?_⟩
  obtain ⟨σ0, v, rfl, q⟩ := h
  have hl := I.len
  rw [List.length_set] at hl
  have hi : i < σ0.length := by
    rw [hl]
    exact (List.getElem?_eq_some_iff.mp hN).1
  exact (pe_var hN hv hd hcd).run pins s _ H Q I ⟨v, by rw [List.getElem?_set_self hi], q⟩
/-- _law_kinds(e), e the exception of the suite -/
theorem pe_kindsPin {fK : Addr} {fdK : FuncData} {a : Addr} {oe : Obj} {cls : Value} {d : Option Addr} {e : Expr} {t : TA} {q pos : Pos} (hp : (a, oe) ∈ X.pn) (hz : Zc cls d oe) (hf : ∃ vs, oe.data = .fields vs) (E : ErrTxt X.K X.mg C)
    (F : FnP X.K "_law_kinds" sKinds fK fdK) (hr : RoomH 1 X.A) (hg : Gl X "_law_kinds") (hm : X.mg "_law_kinds" = some (.ref fK)) (ha : PA X [e] t) (he : starEach [e] X.env = (false, eval e X.env) :: starEach [] X.env := by rfl) :
    PE X (.Call (.Name "_law_kinds" q) [e] [] pos) (fun σ H Q => ∃ i, i < 21 ∧ cls = .ref (C i) ∧ d = none ∧ t σ H fun vs H1 => vs = [.ref a] ∧ ∀ p H', Same H1 H' → H' p = some (.lst (row i)) → Q (.ref p) H') := by
  refine ⟨fun pins s σ H Q I h => ?_⟩
  obtain ⟨i, hi, rfl, rfl, h⟩ := h
  refine wpAny_Call_Name_kw (ld_glob I hg hm ?_ (by decide))
  refine PySem.W.callWith_K (h₀ := X.base) I.ok.mod.kin F.kp (thn (ha.run pos pins s σ H _ I h) fun us s1 ⟨vs, H1, I1, r, ev, q⟩ => ⟨I1.kIn, ?_⟩) he (by rfl)
  subst ev
  obtain ⟨u, rfl, ru⟩ := vals1 r
  cases (show u = Value.ref a from ru)
  have P1 := I1.pin (a, oe) (List.mem_append_left _ hp)
  have hpin : PinOk X.stack H1 s1 (a, oe) := ⟨P1.1, P1.2.1, fun hm => (List.mem_cons.mp (I1.stkSub a hm)).elim P1.2.2.1 P1.2.2.2.1, P1.2.2.2.2⟩
  refine wpAny_call (codeAny_mono (kinds_at (Q := Q) (E0 := fun _ _ _ => False) F E hr hpin hz hf hi I1.env0 q) fun r s' hq => ?_)
  cases r with
  | error e => exact (show False from hq).elim
  | ok fl =>
    cases fl with
    | ret u => exact I1.after hq
    | next => exact False.elim hq
    | brk => exact False.elim hq
    | cont => exact False.elim hq
/-- what _law_caught makes of a call that raises -/
def TCaught (K : PySem.W.Frag) (C : Nat → Addr) : (XK → Hp → VK → Prop) → Hp → VK → Prop := fun tl H Q =>
  tl (fun cls d H' => ∃ i, i < 21 ∧ cls = .ref (C i) ∧ d = none ∧ ∀ p H'', Same H' H'' → H'' p = some (.lst (row i)) → Q (.ref p) H'') H (fun _ H' => ([] : List V).length ≤ sizeLine ∧ New H' (.lst []) Q)
theorem caught_gives {fK g : Addr} {fdK : FuncData} {cdg : Value} {q : Str} (E : ErrTxt X.K X.mg C) (hB : ∀ i, i < 21 → PySem.W.exmOne X.K (.ref (C i)) (.ref (C 20)) = some true)
    (F : FnP X.K "_law_kinds" sKinds fK fdK) (hm : X.mg "_law_kinds" = some (.ref fK)) (hr : Room 2 X.A) :
    LamX.GivesTo X ["call", "e"] "_law_caught" (defScope sCaught) g cdg (defBody sCaught) "call" q (TCaught X.K C) := by
  intro f c' s H Q tl act hc h
  have gB : X.mg "BayError" = some (.ref (C 20)) := E.gs 20 (by decide)
  refine ⟨_, pss_cons (ps_try_as (i := 1) (c := .ref (C 20)) (Wout := fun _ _ _ _ => False)
      (tb := fun W D σ H => ∃ Ech : XK, (∀ cls d σ' H', Ech cls d H' → W cls d σ' H') ∧ σ[0]? = some (some (.ref f)) ∧ H c' = some (LamX.CodeO c' q) ∧ tl Ech H (fun _ H' => D.nx σ H'))
      rfl rfl (show (["call", "e"] : List Str).Nodup by decide +kernel) rfl rfl ⟨rfl, by decide, .inl gB⟩ takes0 (fun W pn xe tk _ => ?_)
      (fun a oe cls d pn hz hf => pss_one (ps_ret (pe_kindsPin (a := a) (oe := oe) List.mem_cons_self hz hf E F ?_ rfl hm (pa_cons (pe_setVar (i := 1) rfl (.inl rfl)) pa_nil)))))
      (pss_one (ps_ret (pe_lstL pa_nil))), ?_⟩
  · refine ⟨fun pins s' σ H' D I h' => ?_⟩
    obtain ⟨Ech, hW, h1, h2, h3⟩ := h'
    exact (pss_one (ps_expr (act W pn xe Ech _ _ tk hW))).run pins s' σ H' D I ⟨h1, h2, h3⟩
  · refine ⟨?_, ?_⟩
    · have := hr.dp
      show X.A.depth + 1 + 3 * 1 + 5 < _
      omega
    · have := hr.un
      show X.A.units + 3 + 16 * 1 + 200 < _
      omega
  · refine ⟨_, fun cls d σ' H' hw => ?_, rfl, hc, h⟩
    obtain ⟨i, hi, rfl, rfl, k⟩ := hw
    exact ⟨true, hB i hi, fun _ a na => ⟨i, hi, rfl, rfl, _, _, rfl, rfl, k⟩, fun q => Bool.noConfusion q⟩
end
end Sb

/-! ## D65 -/
/-! The program's defs over webs: rows, steps, is_web. -/
namespace Sb
open PySem PySem.Spec PyProof.Rows L2
abbrev sWhole : Stmt := top 23
abbrev sRows : Stmt := top 24
abbrev sSteps : Stmt := top 25
section
variable {X : Cx}
def rAppN : V → List V → Hp → VK → Prop := fun x vs H Q => ∃ l xs y, x = .ref l ∧ vs = [y] ∧ H l = some (.lst xs) ∧ xs.length < sizeLine ∧ ∀ H', But l H H' → H' l = some (.lst (xs ++ [y])) → Q .non H'
theorem mt_appendL : MtM X "list.append" rAppN := by
  intro pins s σ H x vs v us Q I rx rv h
  obtain ⟨l, xs, y, a1, a2, a3, a4, q⟩ := h
  exact mt_append pins s σ H x vs v us Q I rx rv ⟨l, xs, y, a1, a2, a3, a4, q _ but_upd upd_same⟩
end
theorem same_but {H0 H H' : Hp} {p : Addr} (s : Same H0 H) (n : H0 p = none) (b : But p H H') : Same H0 H' := fun c o h => b c o (ne_of_none h n) (s c o h)
theorem sqT_same {K : PySem.W.Frag} {H H' : Hp} {a : Addr} {xs : List V} (e : Same H H') (h : SqT K H a xs) : SqT K H' a xs := by
  rcases h with (h | ⟨o, h⟩) | h
  · exact .inl (.inl (e _ _ h))
  · exact .inl (.inr ⟨o, e _ _ h⟩)
  · exact .inr h
/-! ### rows of lists -/
def app (rss : List (List Int)) (i : Nat) (x : Int) : List (List Int) := rss.set i (rss.getD i [] ++ [x])
theorem app_len (rss : List (List Int)) (i : Nat) (x : Int) : (app rss i x).length = rss.length := List.length_set
theorem setD_self {α : Type} {l : List α} {i : Nat} {x d : α} (h : i < l.length) : (l.set i x).getD i d = x := by
  rw [List.getD_eq_getElem?_getD, List.getElem?_set_self h]
  rfl
theorem setD_ne {α : Type} {l : List α} {i j : Nat} {x d : α} (h : i ≠ j) : (l.set i x).getD j d = l.getD j d := by
  rw [List.getD_eq_getElem?_getD, List.getElem?_set_ne h, ← List.getD_eq_getElem?_getD]
structure RowsL (H : Hp) (l : Addr) (ps : List Addr) (rss : List (List Int)) : Prop where
  at_ : H l = some (.lst (ps.map V.ref))
  len : ps.length = rss.length
  nd : ps.Nodup
  out : l ∉ ps
  row : ∀ (i : Nat) (p : Addr), ps[i]? = some p → H p = some (.lst ((rss.getD i []).map V.int))
theorem RowsL.same {H H' : Hp} {l : Addr} {ps : List Addr} {rss : List (List Int)} (h : RowsL H l ps rss) (s : Same H H') : RowsL H' l ps rss := ⟨s _ _ h.at_, h.len, h.nd, h.out, fun i p e => s _ _ (h.row i p e)⟩
theorem RowsL.app {H H' : Hp} {l p : Addr} {ps : List Addr} {rss : List (List Int)} {i : Nat} {x : Int} (h : RowsL H l ps rss) (hi : ps[i]? = some p) (b : But p H H') (hp : H' p = some (.lst ((rss.getD i [] ++ [x]).map V.int))) : RowsL H' l ps (app rss i x) := by
  have hl : i < rss.length := by
    rw [← h.len]
    exact (List.getElem?_eq_some_iff.mp hi).1
  refine ⟨b _ _ (fun z => h.out (by rw [z]; exact List.mem_of_getElem? hi)) h.at_, by rw [app_len]; exact h.len, h.nd, h.out, fun j q e => ?_⟩
  by_cases hj : j = i
  · subst hj
    rw [hi] at e
    cases e
    rw [hp]
    unfold Sb.app
    rw [setD_self hl]
  · have hq : q ≠ p := fun z => hj (by rw [z] at e; exact nd_ix h.nd e hi)
    rw [b _ _ hq (h.row j q e)]
    unfold Sb.app
    rw [setD_ne (Ne.symm hj)]
theorem RowsL.get {H : Hp} {l : Addr} {ps : List Addr} {rss : List (List Int)} (h : RowsL H l ps rss) {i : Int} (h0 : 0 ≤ i) (h1 : i < (rss.length : Int)) : ∃ p, ps[i.toNat]? = some p ∧ atI (ps.map V.ref) i = some (.ref p) := by
  have hl : i.toNat < ps.length := by rw [h.len]; omega
  exact ⟨ps[i.toNat], by simp [hl], at_of (j := i.toNat) (by omega) (by simp [hl])⟩
/-- the tuple of ties -/
def Ties (K : PySem.W.Frag) (H : Hp) (t : Addr) (ts : List (Int × Int)) : Prop := ∃ qs : List Addr, SqT K H t (qs.map V.ref) ∧ qs.length = ts.length ∧ ∀ (i : Nat) (q : Addr) (a b : Int), qs[i]? = some q → ts[i]? = some (a, b) → SqT K H q [.int a, .int b]
theorem Ties.same {K : PySem.W.Frag} {H H' : Hp} {t : Addr} {ts : List (Int × Int)} (h : Ties K H t ts) (s : Same H H') : Ties K H' t ts := by
  obtain ⟨qs, h1, h2, h3⟩ := h
  exact ⟨qs, sqT_same s h1, h2, fun i q a b e1 e2 => sqT_same s (h3 i q a b e1 e2)⟩
/-- a web as it stands: its n, its ties -/
def WebAt (K : PySem.W.Frag) (H : Hp) (v : V) (n : Int) (ts : List (Int × Int)) : Prop := ∃ a t, v = .ref a ∧ SqT K H a [.int n, .ref t] ∧ Ties K H t ts
theorem WebAt.same {K : PySem.W.Frag} {H H' : Hp} {v : V} {n : Int} {ts : List (Int × Int)} (h : WebAt K H v n ts) (s : Same H H') : WebAt K H' v n ts := by
  obtain ⟨a, t, e, h1, h2⟩ := h
  exact ⟨a, t, e, sqT_same s h1, h2.same s⟩
def tieIn (n : Int) (t : Int × Int) : Prop := 0 ≤ t.1 ∧ t.1 < n ∧ 0 ≤ t.2 ∧ t.2 < n
def addTie (r : List (List Int)) (t : Int × Int) : List (List Int) := app (app r t.1.toNat t.2) t.2.toNat t.1
def rowsOf (n : Nat) (ts : List (Int × Int)) : List (List Int) := ts.foldl addTie (List.replicate n [])
theorem fold_len : ∀ (ts : List (Int × Int)) (r : List (List Int)), (ts.foldl addTie r).length = r.length
  | [], _ => rfl
  | t :: ts, r => by
    rw [List.foldl_cons, fold_len ts]
    unfold addTie
    rw [app_len, app_len]
theorem rowsOf_len (n : Nat) (ts : List (Int × Int)) : (rowsOf n ts).length = n := by
  unfold rowsOf
  rw [fold_len, List.length_replicate]
theorem take_more {α : Type} : ∀ {l : List α} {i : Nat} {x : α}, l[i]? = some x → l.take (i + 1) = l.take i ++ [x]
  | [], i, x, h => by simp at h
  | a :: l, 0, x, h => by
    have e : a = x := Option.some.inj h
    subst e
    rfl
  | a :: l, i + 1, x, h => by
    have ih := take_more (l := l) (i := i) (x := x) h
    show a :: l.take (i + 1) = a :: l.take i ++ [x]
    rw [ih]
    rfl
theorem rowsOf_more {n : Nat} {ts : List (Int × Int)} {i : Nat} {t : Int × Int} (h : ts[i]? = some t) : rowsOf n (ts.take (i + 1)) = addTie (rowsOf n (ts.take i)) t := by
  unfold rowsOf
  rw [take_more h, List.foldl_append]
  rfl
theorem app_small {r : List (List Int)} {m i : Nat} {x : Int} (h : ∀ k, (r.getD k []).length ≤ m) (k : Nat) : ((app r i x).getD k []).length ≤ m + 1 := by
  unfold app
  by_cases hk : i = k
  · subst hk
    by_cases hl : i < r.length
    · rw [setD_self hl, List.length_append, List.length_singleton]
      exact Nat.succ_le_succ (h i)
    · rw [List.getD_eq_getElem?_getD, List.getElem?_eq_none (by rw [List.length_set]; omega)]
      exact Nat.zero_le _
  · rw [setD_ne hk]
    exact Nat.le_succ_of_le (h k)
theorem rowsOf_small (n : Nat) (ts : List (Int × Int)) : ∀ (i k : Nat), ((rowsOf n (ts.take i)).getD k []).length ≤ 2 * i
  | 0, k => by
    rw [List.take_zero]
    unfold rowsOf
    rw [List.foldl_nil, List.getD_eq_getElem?_getD, List.getElem?_replicate]
    split <;> exact Nat.le_refl 0
  | i + 1, k => by
    cases h : ts[i]? with
    | none =>
      have e : ts.length ≤ i := List.getElem?_eq_none_iff.mp h
      have z := rowsOf_small n ts i k
      rw [List.take_of_length_le e] at z
      rw [List.take_of_length_le (by omega)]
      omega
    | some t =>
      rw [rowsOf_more h]
      unfold addTie
      exact app_small (app_small fun k => rowsOf_small n ts i k) k
def spRows (K : PySem.W.Frag) : Sp := fun vs H Q _ => ∃ (v : V) (n : Nat) (ts : List (Int × Int)), vs = [v] ∧ WebAt K H v n ts ∧ n ≤ 1000 ∧ ts.length ≤ 100000 ∧ (∀ t ∈ ts, tieIn n t) ∧ ∀ l ps H', Same H H' → H l = none → (∀ p ∈ ps, H p = none) → RowsL H' l ps (rowsOf n ts) → Q (.ref l) H'
structure WebTxt (mg : Str → Option Value) : Prop where
  len : mg "len" = none
  range : mg "range" = none
  isinstance : mg "isinstance" = none
  int : mg "int" = none
  bool : mg "bool" = none
  tuple : mg "tuple" = none
  all : mg "all" = none
  min : mg "min" = none
section
variable {P : Program} {w : World} {K : PySem.W.Frag} {mg : Str → Option Value} {base : Heap}
abbrev scRowsN : List Str := ["web", "n", "ties", "rows", "a", "b", "_"]
abbrev scRowsS : Scope := defScope sRows
theorem scRows : FnScope ["web", "n", "ties", "rows", "a", "b", "_"] ["web"] (defScope sRows) := ⟨rfl, rfl, rfl, by decide +kernel, rfl, by decide +kernel, by decide +kernel⟩
theorem ok_rows {f : Addr} {fd : FuncData} (F : FnP K "rows_of" sRows f fd) (T : WebTxt mg) : FnOk P w K mg base CX0 1 f fd ["web"] (spRows K) := by
  refine ok0 F scRows (fun vs H Q E h => ?_) (fun cdv A outer s H vs Q E hr h => ?_)
  · obtain ⟨v, n, ts, rfl, _⟩ := h
    rfl
  · obtain ⟨v, n, ts, rfl, ⟨wa, wt, rfl, hw, hT⟩, hn, htl, hts, q⟩ := h
    refine ⟨_, (pss_cons (ps_asg (pv 0) (pg_tup (by rfl) (pgs_cons (pg_name (i := 1) scRows.nd rfl (Or.inl rfl)) (pgs_cons (pg_name (i := 2) scRows.nd rfl (Or.inl rfl)) pgs_nil))))
    (pss_cons (ps_setLc (i := 3) (own := [("_", 6)]) (g := gName 6) (by rfl) scRows.nd rfl rfl (sw_true rfl rfl rfl (by decide +kernel)) (pi_range1 (by rfl) T.range (pa_cons (pv 1) pa_nil)) (blkOk_by (own := [("_", 6)]) (N := scRowsN) (sc := scRowsS) (by decide +kernel)) (fun _ _ _ _ _ => pg_name (i := 6) scRows.nd rfl (Or.inl rfl)) (fun _ _ _ _ _ => pts_nil) (fun _ _ _ _ _ => (pe_lstL pa_nil)))
    (pss_cons (ps_for PassesOwn.never rfl (pi_tup (pv 2)) (pg_tup (by rfl) (pgs_cons (pg_name (i := 4) scRows.nd rfl (Or.inl rfl)) (pgs_cons (pg_name (i := 5) scRows.nd rfl (Or.inl rfl)) pgs_nil)))
      (pss_cons (ps_expr (pe_bm PySem.F.plainAttrs_list PySem.F.slot_list_append PySem.F.type_list_append mt_appendL (pe_ix ix_list (pv 3) (pv 4) (fun _ _ => rfl)) (pa_cons (pv 5) pa_nil)))
    (pss_one (ps_expr (pe_bm PySem.F.plainAttrs_list PySem.F.slot_list_append PySem.F.type_list_append mt_appendL (pe_ix ix_list (pv 3) (pv 5) (fun _ _ => rfl)) (pa_cons (pv 4) pa_nil))))))
    (pss_one (ps_ret (pv 3)))))), ?_⟩
    refine ⟨_, rfl, wa, _, rfl, hw, rfl, _, _, rfl, _, _, rfl, rfl, ?_⟩
    refine ⟨_, rfl, n, rfl, by omega, by omega, fun D hD => lc_range (lo := 0) (n := (n : Int).toNat) (fun i H' => ∃ ps : List Addr, Same H H' ∧ H' D = some (.lst (ps.map V.ref)) ∧ ps.length = i ∧ ps.Nodup ∧ ∀ p ∈ ps, H p = none ∧ p ≠ D ∧ H' p = some (.lst []))
      ⟨[], same_upd hD, upd_same, rfl, List.nodup_nil, fun p hp => by cases hp⟩ ?_ ?_⟩
    · rintro i H' hi ⟨ps, S, e, hl, nd, hp⟩
      refine ⟨rfl, by show 0 ≤ sizeLine; decide, fun p H2 n2 s2 h2 => ⟨ps.map V.ref, s2 _ _ e, by rw [List.length_map, hl]; exact small1000 (by omega), ps ++ [p], fun b o hb => by rw [upd_ne (ne_of_none hb hD)]; exact s2 _ _ (S _ _ hb), by rw [upd_same, List.map_append]; rfl, by rw [List.length_append, hl]; rfl, ?_, fun p' hp' => ?_⟩⟩
      · refine List.nodup_append.mpr ⟨nd, by simp, fun a ha b hb => ?_⟩
        rw [List.mem_singleton.mp hb]
        exact ne_of_none (hp a ha).2.2 n2
      · have nDp : p ≠ D := (ne_of_none e n2).symm
        rcases List.mem_append.mp hp' with h | h
        · obtain ⟨h1, h3, h4⟩ := hp p' h
          exact ⟨h1, h3, by rw [upd_ne h3]; exact s2 _ _ h4⟩
        · rw [List.mem_singleton.mp h]
          exact ⟨S.free n2, nDp, by rw [upd_ne nDp]; exact h2⟩
    rintro H1 ⟨ps, S, e, hl, nd, hp⟩
    have hl : ps.length = n := by rw [hl]; omega
    have nDp : D ∉ ps := fun z => (hp D z).2.1 rfl
    have R0 : RowsL H1 D ps (rowsOf n []) := ⟨e, by rw [hl, rowsOf_len], nd, nDp, fun i p hi => by
      rw [(hp p (List.mem_of_getElem? hi)).2.2]
      have z : (rowsOf n []).getD i [] = [] := by
        unfold rowsOf
        rw [List.foldl_nil, List.getD_eq_getElem?_getD, List.getElem?_replicate]
        split <;> rfl
      rw [z]
      rfl⟩
    obtain ⟨qs, hq1, hq2, hq3⟩ := hT
    refine ⟨_, rfl, wt, rfl, ⟨_, sqT_same S hq1⟩, for_tup (K := K) (a := wt) (xs := qs.map V.ref) (fun i σ H' => (∃ u v x, σ = [some (.ref wa), some (.int n), some (.ref wt), some (.ref D), u, v, x]) ∧ Same H H' ∧ RowsL H' D ps (rowsOf n (ts.take i))) ⟨⟨none, none, none, rfl⟩, S, by rw [List.take_zero]; exact R0⟩ (fun i σ H' _ ⟨_, S', _⟩ => sqT_same S' hq1) ?_ ?_⟩
    · rintro i y σ H' hi ⟨⟨u, v, x, rfl⟩, S', R⟩
      rw [List.getElem?_map] at hi
      obtain ⟨qa, hqa, rfl⟩ : ∃ qa, qs[i]? = some qa ∧ y = V.ref qa := by
        cases eq : qs[i]? with
        | none => rw [eq] at hi; cases hi
        | some z => rw [eq] at hi; exact ⟨z, rfl, (Option.some.inj hi).symm⟩
      have hit : i < ts.length := by rw [← hq2]; exact (List.getElem?_eq_some_iff.mp hqa).1
      obtain ⟨a, b, hab⟩ : ∃ a b, ts[i]? = some (a, b) := ⟨(ts[i]).1, (ts[i]).2, List.getElem?_eq_getElem hit⟩
      obtain ⟨ha0, ha1, hb0, hb1⟩ := hts (a, b) (List.mem_of_getElem? hab)
      have hqt := sqT_same S' (hq3 i qa a b hqa hab)
      have L0 : (rowsOf n (ts.take i)).length = n := rowsOf_len _ _
      obtain ⟨pa, ga, xa⟩ := R.get (i := a) ha0 (by rw [L0]; exact ha1)
      have len1 : ∀ (k : Nat), ((rowsOf n (ts.take i)).getD k []).length ≤ 2 * i := fun k => rowsOf_small n ts i k
      have hi1 : i < 100000 := by omega
      refine ⟨qa, _, rfl, hqt, rfl, _, _, rfl, _, _, rfl, rfl, ?_⟩
      -- rows[a].append(b)
      refine ⟨_, rfl, _, rfl, D, _, _, _, rfl, rfl, SqL.of R.at_, xa, .inl ⟨rfl, _, SqL.of (R.row _ _ ga)⟩, _, rfl, pa, _, _, rfl, rfl, R.row _ _ ga, by rw [List.length_map]; exact Nat.lt_of_le_of_lt (len1 _) (by rw [sizeLine_eq]; omega), fun H2 B2 h2 => ?_⟩
      have R2 : RowsL H2 D ps (app (rowsOf n (ts.take i)) a.toNat b) := R.app ga B2 (by rw [h2, List.map_append]; rfl)
      have S2 : Same H H2 := same_but S' (hp pa (List.mem_of_getElem? ga)).1 B2
      have L2 : (app (rowsOf n (ts.take i)) a.toNat b).length = n := by rw [app_len]; exact L0
      obtain ⟨pb, gb, xb⟩ := R2.get (i := b) hb0 (by rw [L2]; exact hb1)
      have len2 : ((app (rowsOf n (ts.take i)) a.toNat b).getD b.toNat []).length ≤ 2 * i + 1 := app_small len1 _
      refine ⟨_, rfl, _, rfl, D, _, _, _, rfl, rfl, SqL.of R2.at_, xb, .inl ⟨rfl, _, SqL.of (R2.row _ _ gb)⟩, _, rfl, pb, _, _, rfl, rfl, R2.row _ _ gb, by rw [List.length_map]; exact Nat.lt_of_le_of_lt len2 (by rw [sizeLine_eq]; omega), fun H3 B3 h3 => ?_⟩
      refine ⟨⟨_, _, _, rfl⟩, same_but S2 (hp pb (List.mem_of_getElem? gb)).1 B3, ?_⟩
      rw [rowsOf_more hab]
      exact R2.app gb B3 (by rw [h3, List.map_append]; rfl)
    · rintro σ H' ⟨⟨u, v, x, rfl⟩, S', R⟩
      rw [List.length_map, hq2, List.take_length] at R
      exact ⟨_, rfl, q D ps H' S' hD (fun p h => (hp p h).1) R⟩
end
/-! ### steps -/
def bstep (bay : Nat) (st : List Int × List Int) (near : Int) : List Int × List Int := if st.1.getD near.toNat 0 < 0 then (st.1.set near.toNat (st.1.getD bay 0 + 1), st.2 ++ [near]) else st
def brow (rss : List (List Int)) (st : List Int × List Int) (bay : Int) : List Int × List Int := (rss.getD bay.toNat []).foldl (bstep bay.toNat) st
def level (rss : List (List Int)) (away front : List Int) : List Int × List Int := front.foldl (brow rss) (away, [])
def bfs (rss : List (List Int)) : Nat → List Int → List Int → List Int
  | 0, away, _ => away
  | k + 1, away, front => if front = [] then away else bfs rss k (level rss away front).1 (level rss away front).2
def stepsOf (rss : List (List Int)) (s : Nat) : List Int := bfs rss (2 * rss.length + 1) ((List.replicate rss.length (-1)).set s 0) [(s : Int)]
def neg (away : List Int) : Nat := away.countP fun z => decide (z < 0)
theorem neg_set : ∀ {l : List Int} {i : Nat} {x : Int}, i < l.length → l.getD i 0 < 0 → 0 ≤ x → neg (l.set i x) + 1 = neg l
  | [], i, x, h, _, _ => by simp at h
  | a :: r, 0, x, _, h, hx => by
    have h : a < 0 := h
    show neg (x :: r) + 1 = neg (a :: r)
    unfold neg
    rw [List.countP_cons_of_neg (by simpa using hx), List.countP_cons_of_pos (by simpa using h)]
  | a :: r, i + 1, x, hi, h, hx => by
    have ih := neg_set (l := r) (i := i) (x := x) (Nat.lt_of_succ_lt_succ hi) h hx
    show neg (a :: r.set i x) + 1 = neg (a :: r)
    unfold neg at ih ⊢
    rw [List.countP_cons, List.countP_cons]
    omega
/-- what holds of the pair within a level: n bays, all entries at least -1, the found ones bays -/
structure BOk (n m : Nat) (st : List Int × List Int) : Prop where
  len : st.1.length = n
  low : ∀ z ∈ st.1, -1 ≤ z
  rng : ∀ z ∈ st.2, 0 ≤ z ∧ z < (n : Int)
  mes : neg st.1 + st.2.length ≤ m
theorem getD_low {l : List Int} (h : ∀ z ∈ l, -1 ≤ z) (i : Nat) : -1 ≤ l.getD i 0 := by
  rw [List.getD_eq_getElem?_getD]
  cases e : l[i]? with
  | none => decide
  | some z => exact h z (List.mem_of_getElem? e)
theorem bstep_ok {n m bay : Nat} {st : List Int × List Int} {near : Int} (h : BOk n m st) (h0 : 0 ≤ near) (h1 : near < (n : Int)) : BOk n m (bstep bay st near) := by
  unfold bstep
  split
  · rename_i hc
    have hl : near.toNat < st.1.length := by rw [h.len]; omega
    have hx : 0 ≤ st.1.getD bay 0 + 1 := by have := getD_low h.low bay; omega
    refine ⟨by rw [List.length_set]; exact h.len, fun z hz => ?_, fun z hz => ?_, ?_⟩
    · rcases List.mem_or_eq_of_mem_set hz with q | q
      · exact h.low z q
      · omega
    · rcases List.mem_append.mp hz with q | q
      · exact h.rng z q
      · rw [List.mem_singleton.mp q]
        exact ⟨h0, h1⟩
    · have e := neg_set (l := st.1) (x := st.1.getD bay 0 + 1) hl hc hx
      have z := h.mes
      show neg (st.1.set near.toNat (st.1.getD bay 0 + 1)) + (st.2 ++ [near]).length ≤ m
      rw [List.length_append, List.length_singleton]
      omega
  · exact h
theorem fold_ok {n m bay : Nat} : ∀ {l : List Int} {st : List Int × List Int}, (∀ z ∈ l, 0 ≤ z ∧ z < (n : Int)) → BOk n m st → BOk n m (l.foldl (bstep bay) st)
  | [], _, _, h => h
  | x :: r, st, hl, h => fold_ok (l := r) (fun z hz => hl z (List.mem_cons_of_mem _ hz)) (bstep_ok h (hl x List.mem_cons_self).1 (hl x List.mem_cons_self).2)
def RowsIn (n : Nat) (rss : List (List Int)) : Prop := ∀ k, ∀ z ∈ rss.getD k [], 0 ≤ z ∧ z < (n : Int)
theorem front_ok {n m : Nat} {rss : List (List Int)} (hr : RowsIn n rss) : ∀ {l : List Int} {st : List Int × List Int}, BOk n m st → BOk n m (l.foldl (brow rss) st)
  | [], _, h => h
  | x :: r, st, h => front_ok hr (l := r) (fold_ok (hr x.toNat) h)
def spSteps : Sp := fun vs H Q _ => ∃ (l : Addr) (ps : List Addr) (rss : List (List Int)) (s : Nat), vs = [.ref l, .int s] ∧ RowsL H l ps rss ∧ RowsIn rss.length rss ∧ rss.length ≤ 1000 ∧ s < rss.length ∧
  ∀ a H', Same H H' → H a = none → H' a = some (.lst ((stepsOf rss s).map V.int)) → (stepsOf rss s).length = rss.length → Q (.ref a) H'
section
variable {X : Cx}
def rRepN : R2 := fun x y H Q => ∃ l k xs, x = .ref l ∧ y = .int k ∧ H l = some (.lst xs) ∧ -(2 ^ 63) ≤ k ∧ k < 2 ^ 63 ∧ xs.length * k.toNat ≤ sizeLine ∧ New H (.lst (List.replicate k.toNat xs).flatten) Q
theorem op_repL : OpR X (binaryOp .Mult) rRepN := OpR.weak op_rep fun _ _ _ _ ⟨l, k, xs, a1, a2, a3, a4, a5, a6, q⟩ => ⟨l, k, xs, a1, a2, a3, a4, a5, a6, q.go⟩
end
section
variable {P : Program} {w : World} {K : PySem.W.Frag} {mg : Str → Option Value} {base : Heap}
theorem bfs_nil {rss : List (List Int)} {aw : List Int} : ∀ m, bfs rss m aw [] = aw
  | 0 => rfl
  | _ + 1 => if_pos rfl
/-- behind some turns of the while: m turns at most are left -/
def StepsInv (H : Hp) (l A0 : Addr) (rss : List (List Int)) (st : Nat) (m : Nat) (σ : L2.St) (H' : Hp) : Prop :=
  ∃ (Fr : Addr) (aw fr : List Int) (u v x : Option V), σ = [some (.ref l), some (.int st), some (.ref A0), some (.ref Fr), u, v, x] ∧ Same H H' ∧ H' A0 = some (.lst (aw.map V.int)) ∧ H' Fr = some (.lst (fr.map V.int)) ∧ A0 ≠ Fr ∧ H Fr = none ∧
    BOk rss.length rss.length (aw, []) ∧ (∀ z ∈ fr, 0 ≤ z ∧ z < (rss.length : Int)) ∧ 2 * neg aw + (if fr = [] then 0 else 1) ≤ m ∧ bfs rss m aw fr = stepsOf rss st
theorem ixN_nat {n j : Nat} (h : j < n) : ixN n (j : Int) = some j := by
  unfold ixN
  rw [if_pos (by omega), if_pos (by omega), Int.toNat_natCast]
theorem ixN_map {l : List Int} {i : Int} (h0 : 0 ≤ i) (h1 : i < (l.length : Int)) : ixN (l.map V.int).length i = some i.toNat := by
  rw [List.length_map]
  unfold ixN
  rw [if_pos h0, if_pos h1]
theorem atI_map {l : List Int} {i : Int} (h0 : 0 ≤ i) (h1 : i < (l.length : Int)) : atI (l.map V.int) i = some (.int (l.getD i.toNat 0)) := by
  have hl : i.toNat < l.length := by omega
  refine at_of (j := i.toNat) (by omega) ?_
  rw [List.getElem?_map, List.getD_eq_getElem?_getD, List.getElem?_eq_getElem hl]
  rfl
theorem getMap {l : List Int} {i : Nat} {y : V} (h : (l.map V.int)[i]? = some y) : ∃ z, l[i]? = some z ∧ y = .int z := by
  rw [List.getElem?_map] at h
  cases e : l[i]? with
  | none => rw [e] at h; cases h
  | some z => rw [e] at h; exact ⟨z, rfl, (Option.some.inj h).symm⟩
theorem rep1 (n : Nat) (z : Int) : (List.replicate n [V.int z]).flatten = (List.replicate n z).map V.int := by
  induction n with
  | zero => rfl
  | succ n ih => rw [List.replicate_succ, List.flatten_cons, ih, List.replicate_succ]; rfl
theorem scSteps : FnScope ["rows", "start", "away", "front", "following", "bay", "near"] ["rows", "start"] (defScope sSteps) := ⟨rfl, rfl, rfl, by decide +kernel, rfl, by decide +kernel, by decide +kernel⟩
theorem ok_steps {f : Addr} {fd : FuncData} (F : FnP K "steps_from" sSteps f fd) (T : WebTxt mg) : FnOk P w K mg base CX0 1 f fd ["rows", "start"] spSteps := by
  refine ok0 F scSteps (fun vs H Q E h => ?_) (fun cdv A outer s H vs Q E hr h => ?_)
  · obtain ⟨l, ps, rss, s, rfl, _⟩ := h
    rfl
  · obtain ⟨l, ps, rss, st, rfl, R, hR, hn, hs, q⟩ := h
    refine ⟨_, (pss_cons (ps_set (i := 2) scSteps.nd rfl (Or.inl rfl) (pe_op op_repL (pe_lstL (pa_cons (pe_un un_neg pe_int) pa_nil)) (pe_callB (id := "len") call_len_seq (by rfl) T.len (by decide +kernel) (pa_cons (pv 0) pa_nil))))
    (pss_cons (ps_asg pe_int (pg_sub (pv 2) (pv 1) set_listL))
    (pss_cons (ps_set (i := 3) scSteps.nd rfl (Or.inl rfl) (pe_lstL (pa_cons (pv 1) pa_nil)))
    (pss_cons (ps_while PassesOwn.never (pt_truth (pv 3) (by intro _; rfl))
      (pss_cons (ps_set (i := 4) scSteps.nd rfl (Or.inl rfl) (pe_lstL pa_nil))
    (pss_cons (ps_for PassesOwn.never rfl (pi_list (pv 3)) (pg_name (i := 5) scSteps.nd rfl (Or.inl rfl))
      (pss_one (ps_for PassesOwn.never rfl (pi_list (pe_ix ix_list (pv 0) (pv 5) (fun _ _ => rfl))) (pg_name (i := 6) scSteps.nd rfl (Or.inl rfl))
      (pss_one (ps_if (pt_cmpR op_lt (pe_ix ix_list (pv 2) (pv 6) (fun _ _ => rfl)) pe_int (nomark _))
      (pss_cons (ps_asg (pe_op op_add (pe_ix ix_list (pv 2) (pv 5) (fun _ _ => rfl)) pe_int) (pg_sub (pv 2) (pv 6) set_listL))
    (pss_one (ps_expr (pe_bm PySem.F.plainAttrs_list PySem.F.slot_list_append PySem.F.type_list_append mt_appendL (pv 4) (pa_cons (pv 6) pa_nil)))))
      pss_nil)))))
    (pss_one (ps_set (i := 3) scSteps.nd rfl (Or.inl rfl) (pv 4))))))
    (pss_one (ps_ret (pv 2))))))), ?_⟩
    refine ⟨_, rfl, by show 1 ≤ sizeLine; decide, fun l1 H1 n1 s1 h1 => ⟨_, rfl, l, _, rfl, .inl (SqL.of (s1 _ _ R.at_)), l1, _, _, rfl, rfl, h1, by omega, by rw [List.length_map, R.len]; omega, by rw [List.length_map, R.len]; show 1 * _ ≤ _; rw [sizeLine_eq]; omega, fun A0 H2 n2 s2 h2 => ?_⟩⟩
    have h2 : H2 A0 = some (.lst ((List.replicate rss.length (-1)).map V.int)) := by
      rw [h2, List.length_map, R.len, Int.toNat_natCast]
      exact congrArg (fun z => some (HO.lst z)) (rep1 _ _)
    refine ⟨_, rfl, _, rfl, A0, _, st, st, rfl, rfl, h2, ixN_nat (by rw [List.length_map, List.length_replicate]; exact hs), fun H3 B3 h3 => ?_⟩
    have h3 : H3 A0 = some (.lst (((List.replicate rss.length (-1)).set st 0).map V.int)) := by rw [h3, List.map_set]
    have nA0 : H A0 = none := s1.free n2
    have S3 : Same H H3 := same_but (s1.trans s2) nA0 B3
    refine ⟨_, rfl, by show 1 ≤ sizeLine; decide, fun F0 H4 n4 s4 h4 => ?_⟩
    have B0 : BOk rss.length rss.length ((List.replicate rss.length (-1)).set st 0, []) := by
      refine ⟨by rw [List.length_set, List.length_replicate], fun z hz => ?_, fun z hz => (by cases hz), ?_⟩
      · rcases List.mem_or_eq_of_mem_set hz with h | h
        · rw [(List.mem_replicate.mp h).2]
          decide
        · rw [h]
          decide
      · have z : neg ((List.replicate rss.length (-1)).set st 0) ≤ ((List.replicate rss.length (-1 : Int)).set st 0).length := List.countP_le_length
        rw [List.length_set, List.length_replicate] at z
        exact z
    refine ⟨StepsInv H l A0 rss st, ⟨2 * rss.length + 1, F0, _, [(st : Int)], none, none, none, rfl, S3.trans s4, s4 _ _ h3, h4, ne_of_none h3 n4, S3.free n4, B0, fun z hz => ?_, ?_, rfl⟩, ?_⟩
    · rw [List.mem_singleton.mp hz]
      omega
    · have z := B0.mes
      have z2 : neg ((List.replicate rss.length (-1)).set st 0) ≤ rss.length := z
      rw [if_neg (List.cons_ne_nil _ _)]
      omega
    rintro m σ H' ⟨Fr, aw, fr, u, v, x, rfl, S', hA, hF, nAF, nF, B, rng, hm, hb⟩
    refine ⟨_, rfl, _, .inl ⟨_, SqL.of hF, rfl⟩, ?_⟩
    by_cases hfr : fr = []
    · subst hfr
      refine iteC rfl ⟨_, rfl, q A0 H' S' nA0 ?_ ?_⟩
      · rw [← hb, bfs_nil]
        exact hA
      · rw [← hb, bfs_nil]
        exact B.len
    · obtain ⟨m', rfl⟩ : ∃ m', m = m' + 1 := ⟨m - 1, by rw [if_neg hfr] at hm; omega⟩
      refine iteD (by cases fr with
        | nil => exact absurd rfl hfr
        | cons a r => rfl) ⟨StepsInv H l A0 rss st m', fun σ' H'' h => ⟨m', Nat.lt_succ_self _, h⟩, ?_⟩
      refine ⟨by show 0 ≤ sizeLine; decide, fun G H5 n5 s5 h5 => ?_⟩
      have nGA : A0 ≠ G := ne_of_none hA n5
      have nGF : Fr ≠ G := ne_of_none hF n5
      have nG : H G = none := S'.free n5
      refine ⟨_, rfl, Fr, rfl, ⟨_, SqL.of (s5 _ _ hF)⟩, for_list (K := K) (a := Fr) (xs := fr.map V.int) (fun i σ H' => ∃ (v x : Option V) (st' : List Int × List Int), σ = [some (.ref l), some (.int st), some (.ref A0), some (.ref Fr), some (.ref G), v, x] ∧ Same H H' ∧ H' A0 = some (.lst (st'.1.map V.int)) ∧ H' G = some (.lst (st'.2.map V.int)) ∧ H' Fr = some (.lst (fr.map V.int)) ∧ st' = (fr.take i).foldl (brow rss) (aw, []) ∧ BOk rss.length (neg aw) st')
        ⟨v, x, (aw, []), rfl, S'.trans s5, s5 _ _ hA, h5, s5 _ _ hF, by rw [List.take_zero]; rfl, ⟨B.len, B.low, fun z hz => (by cases hz), Nat.le_refl _⟩⟩ (fun i σ H' _ ⟨_, _, _, _, _, _, _, h, _⟩ => SqL.of h) ?_ ?_⟩
      · rintro i y σ H6 hi ⟨v, x, st1, rfl, S6, hA6, hG6, hF6, e6, B6⟩
        obtain ⟨bay, hbay, rfl⟩ := getMap hi
        obtain ⟨b0, b1⟩ := rng bay (List.mem_of_getElem? hbay)
        obtain ⟨p, gp, xp⟩ := R.get b0 b1
        have rp := R.row _ _ gp
        refine ⟨_, rfl, _, rfl, l, _, _, _, rfl, rfl, SqL.of (S6 _ _ R.at_), xp, p, rfl, ⟨_, SqL.of (S6 _ _ rp)⟩, for_list (K := K) (a := p) (xs := (rss.getD bay.toNat []).map V.int) (fun j σ H' => ∃ (x : Option V) (st' : List Int × List Int), σ = [some (.ref l), some (.int st), some (.ref A0), some (.ref Fr), some (.ref G), some (.int bay), x] ∧ Same H H' ∧ H' A0 = some (.lst (st'.1.map V.int)) ∧ H' G = some (.lst (st'.2.map V.int)) ∧ H' Fr = some (.lst (fr.map V.int)) ∧ st' = ((rss.getD bay.toNat []).take j).foldl (bstep bay.toNat) st1 ∧ BOk rss.length (neg aw) st')
          ⟨x, st1, rfl, S6, hA6, hG6, hF6, by rw [List.take_zero]; rfl, B6⟩ (fun j σ H' _ ⟨_, _, _, S, _⟩ => SqL.of (S _ _ rp)) ?_ ?_⟩
        · rintro j y σ H7 hj ⟨x, st2, rfl, S7, hA7, hG7, hF7, e7, B7⟩
          obtain ⟨near, hnear, rfl⟩ := getMap hj
          obtain ⟨c0, c1⟩ := hR bay.toNat near (List.mem_of_getElem? hnear)
          have e8 : bstep bay.toNat st2 near = ((rss.getD bay.toNat []).take (j + 1)).foldl (bstep bay.toNat) st1 := by
            rw [take_more hnear, List.foldl_append, ← e7]
            rfl
          have B8 : BOk rss.length (neg aw) (bstep bay.toNat st2 near) := bstep_ok B7 c0 c1
          refine ⟨_, rfl, _, rfl, A0, _, _, _, rfl, rfl, SqL.of hA7, atI_map c0 (by rw [B7.len]; exact c1), _, _, rfl, rfl, _, rfl, ?_⟩
          refine ite2 (fun hc => ?_) (fun hc => ?_)
          · have hc : st2.1.getD near.toNat 0 < 0 := of_decide_eq_true hc
            have es : bstep bay.toNat st2 near = (st2.1.set near.toNat (st2.1.getD bay.toNat 0 + 1), st2.2 ++ [near]) := if_pos hc
            refine ⟨_, rfl, _, rfl, A0, _, _, _, rfl, rfl, SqL.of hA7, atI_map b0 (by rw [B7.len]; exact b1), _, _, rfl, rfl, _, rfl, _, rfl, A0, _, near, near.toNat, rfl, rfl, hA7, ixN_map c0 (by rw [B7.len]; exact c1), fun H8 B8' h8 => ?_⟩
            have hG8 : H8 G = some (.lst (st2.2.map V.int)) := B8' _ _ nGA.symm hG7
            have len2 : st2.2.length ≤ 1000 := by have z := B7.mes; have z2 := B.mes; have z2 : neg aw ≤ rss.length := z2; omega
            refine ⟨_, rfl, .inl ⟨rfl, _, SqL.of hG8⟩, _, rfl, G, _, _, rfl, rfl, hG8, by rw [List.length_map]; exact small1000 len2, fun H9 B9 h9 => ?_⟩
            refine ⟨_, bstep bay.toNat st2 near, rfl, same_but (same_but S7 nA0 B8') nG B9, ?_, ?_, B9 _ _ nGF (B8' _ _ nAF.symm hF7), e8, B8⟩
            · rw [B9 _ _ nGA h8, es, List.map_set]
            · rw [h9, es, List.map_append]
              rfl
          · have hc : ¬ st2.1.getD near.toNat 0 < 0 := fun z => hc (decide_eq_true z)
            have es : bstep bay.toNat st2 near = st2 := if_neg hc
            rw [es] at e8
            exact ⟨_, st2, rfl, S7, hA7, hG7, hF7, e8, B7⟩
        · rintro σ H7 ⟨x, st2, rfl, S7, hA7, hG7, hF7, e7, B7⟩
          rw [List.length_map, List.take_length] at e7
          refine ⟨_, _, st2, rfl, S7, hA7, hG7, hF7, ?_, B7⟩
          rw [take_more hbay, List.foldl_append, ← e6, e7]
          rfl
      · rintro σ H6 ⟨v, x, st1, rfl, S6, hA6, hG6, hF6, e6, B6⟩
        rw [List.length_map, List.take_length] at e6
        have e6 : st1 = level rss aw fr := e6
        refine ⟨_, rfl, G, st1.1, st1.2, _, _, _, rfl, S6, hA6, hG6, nGA, nG, ⟨B6.len, B6.low, fun z hz => (by cases hz), ?_⟩, B6.rng, ?_, ?_⟩
        · have z := B6.mes
          have z2 := B.mes
          have z2 : neg aw ≤ rss.length := z2
          show neg st1.1 + 0 ≤ _
          omega
        · have z := B6.mes
          rw [if_neg hfr] at hm
          by_cases h : st1.2 = []
          · rw [if_pos h]
            omega
          · rw [if_neg h]
            have z3 : 0 < st1.2.length := List.length_pos_iff.mpr h
            omega
        · rw [← hb, e6]
          show _ = (if fr = [] then aw else bfs rss m' (level rss aw fr).1 (level rss aw fr).2)
          rw [if_neg hfr]
end
end Sb

/-! ## E65 -/
/-! is_web and what raises. -/
namespace Sb
open PySem PySem.Spec PyProof.Rows L2
abbrev sTie : Stmt := top 35
abbrev sWeb : Stmt := top 34
abbrev sNeed : Stmt := top 36
abbrev sIsBay : Stmt := top 37
abbrev sBay : Stmt := top 38
abbrev sNb : Stmt := top 39
section
variable {X : Cx}
theorem call_isT {K : PySem.W.Frag} (hK : X.K = K := by rfl) : CallR X (.builtin "isinstance") (rIsi K) := hK ▸ call_isi
theorem ix_tupK {K : PySem.W.Frag} (hK : X.K = K := by rfl) : IxR X (rIxT K) := hK ▸ ix_tup
theorem op_ltTK {K : PySem.W.Frag} (hu : X.A.units < cLine) (hK : X.K = K := by rfl) : OpR X (compareOp .Lt) (rLtT K) := hK ▸ op_ltT hu
def tChain3 (r1 r2 r3 : R2) (ta tb tc td : TE) : TE := fun σ H Q => ta σ H fun x H1 => tb σ H1 fun y H2 => r1 x y H2 fun z H3 => ∃ k, z = .bl k ∧
  (if k = true then tc σ H3 fun w' H4 => r2 y w' H4 fun z2 H5 => ∃ k2, z2 = .bl k2 ∧ (if k2 = true then td σ H5 fun u' H6 => r3 w' u' H6 Q else Q (.bl false) H5) else Q (.bl false) H3)
theorem pe_chain3 {o1 o2 o3 : CmpOp} {r1 r2 r3 : R2} {a b c d : Expr} {ta tb tc td : TE} {pos : Pos} (h1 : OpR X (compareOp o1) r1) (h2 : OpR X (compareOp o2) r2) (h3 : OpR X (compareOp o3) r3) (ha : PE X a ta) (hb : PE X b tb) (hc : PE X c tc) (hd : PE X d td)
    (hm : lastMarks [o1, o2, o3] [b, c, d] = false := by with_unfolding_all rfl) : PE X (.Compare a [o1, o2, o3] [b, c, d] pos) (tChain3 r1 r2 r3 ta tb tc td) := by
  refine ⟨fun pins s σ H Q I h => ?_⟩
  refine Compare_chain (thn (ha.run pins s σ H _ I h) fun v s1 ⟨x, H1, I1, rx1, q1⟩ => chain_link (thn (hb.run pins s1 σ H1 _ I1 q1) fun u s2 ⟨y, H2, I2, rx2, q2⟩ =>
    thn (h1 pins s2 σ H2 x y v u _ I2 rx1 rx2 q2) fun d' s3 ⟨z, H3, I3, rx3, k, e, q3⟩ => ?_)) hm
  subst e
  cases rx3
  refine wpAny_truthy_bool ?_
  cases k with
  | false => exact ite_ff ⟨.bl false, H3, I3, rfl, q3⟩
  | true =>
    refine ite_tt (chain_link (thn (hc.run pins s3 σ H3 _ I3 q3) fun w' s4 ⟨z', H4, I4, rx4, q4⟩ => thn (h2 pins s4 σ H4 y z' u w' _ I4 rx2 rx4 q4) fun d2 s5 ⟨z2, H5, I5, rx5, k2, e2, q5⟩ => ?_))
    subst e2
    cases rx5
    refine wpAny_truthy_bool ?_
    cases k2 with
    | false => exact ite_ff ⟨.bl false, H5, I5, rfl, q5⟩
    | true => exact ite_tt (chain_last (thn (hd.run pins s5 σ H5 _ I5 q5) fun u' s6 ⟨z6, H6, I6, rx6, q6⟩ => h3 pins s6 σ H6 z' z6 w' u' Q I6 rx4 rx6 q6))
end
theorem ty_tup {K : PySem.W.Frag} {H : Hp} {a : Addr} {xs : List V} (h : SqT K H a xs) : TyX K H (.ref a) (.type "tuple") := by
  rcases h with (h | ⟨o, h⟩) | h
  · exact .base (.tup h)
  · exact .fTuple h
  · obtain ⟨o, its, n, e, c, _⟩ := h
    exact .kTuple e c
/-! ### promises -/
/-- is_whole of an int, of None -/
def spWhole : Sp := fun vs H Q _ => (∃ i, vs = [.int i] ∧ Q (.bl true) H) ∨ (vs = [.non] ∧ Q (.bl false) H)
def tieOK (n : Int) (t : Int × Int) : Bool := decide (0 ≤ t.1) && (decide (t.1 < t.2) && decide (t.2 < n))
def spTie (K : PySem.W.Frag) : Sp := fun vs H Q _ => ∃ (n a b : Int) (q : Addr), vs = [.int n, .ref q] ∧ SqT K H q [.int a, .int b] ∧ Q (.bl (tieOK n (a, b))) H
def lt2 (s t : Int × Int) : Bool := HT.lexLt [s.1, s.2] [t.1, t.2]
def asc (ts : List (Int × Int)) : Bool := (List.range (ts.length - 1)).all fun k => lt2 (ts.getD k (0, 0)) (ts.getD (k + 1) (0, 0))
def reach (n : Nat) (ts : List (Int × Int)) : Bool := (stepsOf (rowsOf n ts) 0).all fun z => decide (0 ≤ z)
def webOK (n : Int) (ts : List (Int × Int)) : Bool := (decide (2 ≤ n) && decide (n ≤ 40)) && (ts.all (tieOK n) && (asc ts && reach n.toNat ts))
/-- is_web of None, of what is like a web -/
def spWeb (K : PySem.W.Frag) : Sp := fun vs H Q _ => (vs = [.non] ∧ Q (.bl false) H) ∨
  (∃ v n ts, vs = [v] ∧ WebAt K H v n ts ∧ ts.length ≤ 100000 ∧ ∀ H', Same H H' → Q (.bl (webOK n ts)) H')
structure WebTxt2 (mg : Str → Option Value) : Prop where
  few : ∃ t, mg "FEWEST_BAYS" = some (.int 2 t)
  most : ∃ t, mg "MOST_BAYS" = some (.int 40 t)
section
variable {P : Program} {w : World} {K : PySem.W.Frag} {mg : Str → Option Value} {base : Heap}
theorem scWhole : FnScope ["thing"] ["thing"] (defScope sWhole) := ⟨rfl, rfl, rfl, by decide +kernel, rfl, by decide +kernel, by decide +kernel⟩
theorem ok_whole {f : Addr} {fd : FuncData} (F : FnP K "is_whole" sWhole f fd) (T : WebTxt mg) : FnOk P w K mg base CX0 1 f fd ["thing"] spWhole := by
  refine ok0 F scWhole (fun vs H Q E h => ?_) (fun cdv A outer s H vs Q E hr h => ?_)
  · rcases h with ⟨i, rfl, _⟩ | ⟨rfl, _⟩ <;> rfl
  · rcases h with ⟨i, rfl, q⟩ | ⟨rfl, q⟩
    · refine ⟨_, (pss_one (ps_ret (pe_and (pe_callB (id := "isinstance") (call_isT (K := K)) (by rfl) T.isinstance (by decide +kernel) (pa_cons (pv 0) (pa_cons (pe_bltn (v := .ty "int") rfl T.int (by decide +kernel) rfl) pa_nil))) (pe_one (pe_not (pe_callB (id := "isinstance") (call_isT (K := K)) (by rfl) T.isinstance (by decide +kernel) (pa_cons (pv 0) (pa_cons (pe_bltn (v := .ty "bool") rfl T.bool (by decide +kernel) rfl) pa_nil)))))))), ?_⟩
      refine ⟨_, rfl, _, _, _, .type "int", true, rfl, .ty "int", .base (.int i), kit_ty (by decide +kernel), _, rfl, iteD rfl ?_⟩
      exact ⟨_, rfl, _, _, _, .type "bool", false, rfl, .ty "bool", .base (.int i), kit_ty (by decide +kernel), _, rfl, q⟩
    · refine ⟨_, (pss_one (ps_ret (pe_and (pe_callB (id := "isinstance") (call_isT (K := K)) (by rfl) T.isinstance (by decide +kernel) (pa_cons (pv 0) (pa_cons (pe_bltn (v := .ty "int") rfl T.int (by decide +kernel) rfl) pa_nil))) (pe_one (pe_not (pe_callB (id := "isinstance") (call_isT (K := K)) (by rfl) T.isinstance (by decide +kernel) (pa_cons (pv 0) (pa_cons (pe_bltn (v := .ty "bool") rfl T.bool (by decide +kernel) rfl) pa_nil)))))))), ?_⟩
      exact ⟨_, rfl, _, _, _, .type "int", false, rfl, .ty "int", .base .non, kit_ty (by decide +kernel), _, rfl, iteC rfl q⟩
theorem scTie : FnScope ["n", "thing", "a", "b"] ["n", "thing"] (defScope sTie) := ⟨rfl, rfl, rfl, by decide +kernel, rfl, by decide +kernel, by decide +kernel⟩
theorem ok_tie {f fW : Addr} {fd fdW : FuncData} (F : FnP K "is_tie" sTie f fd) (T : WebTxt mg) (FW : FnP K "is_whole" sWhole fW fdW) (gW : mg "is_whole" = some (.ref fW)) : FnOk P w K mg base CX0 2 f fd ["n", "thing"] (spTie K) := by
  have GW : FnOk P w K mg base CX0 1 fW fdW ["thing"] spWhole := ok_whole FW T
  have bW : Binds K fdW ["thing"] [] := FW.bindsN fun _ _ _ _ _ _ us hl => match us, hl with | [_], _ => rfl
  refine ok0 F scTie (fun vs H Q E h => ?_) (fun cdv A outer s H vs Q E hr h => ?_)
  · obtain ⟨n, a, b, q, rfl, _⟩ := h
    rfl
  · obtain ⟨n, a, b, p, rfl, hp, q⟩ := h
    refine ⟨_, (pss_cons (ps_if (PW.pt (pw_or (pt_not (pt_val (pe_callB (id := "isinstance") (call_isT (K := K)) (by rfl) T.isinstance (by decide +kernel) (pa_cons (pv 1) (pa_cons (pe_bltn (v := .ty "tuple") rfl T.tuple (by decide +kernel) rfl) pa_nil))))) (pw_or1 (pt_cmpR op_ne (pe_callB (id := "len") call_len_seq (by rfl) T.len (by decide +kernel) (pa_cons (pv 1) pa_nil)) pe_int (nomark _)))))
      (pss_one (ps_ret pe_bl))
      pss_nil)
    (pss_cons (ps_asg (pv 1) (pg_tup (by rfl) (pgs_cons (pg_name (i := 2) scTie.nd rfl (Or.inl rfl)) (pgs_cons (pg_name (i := 3) scTie.nd rfl (Or.inl rfl)) pgs_nil))))
    (pss_one (ps_ret (pe_and (pe_call GW hr rfl gW FW.kp bW .nil pass0 (pa_cons (pv 2) pa_nil)) (pe_and (pe_call GW hr rfl gW FW.kp bW .nil pass0 (pa_cons (pv 3) pa_nil)) (pe_one (pe_chain3 op_le op_lt op_lt pe_int (pv 2) (pv 3) (pv 0))))))))), ?_⟩
    refine ⟨_, rfl, _, _, _, .type "tuple", true, rfl, .ty "tuple", ty_tup hp, kit_ty (by decide +kernel), _, rfl, iteC rfl ?_⟩
    refine ⟨_, rfl, p, _, rfl, .inr hp, rfl, _, rfl, iteC rfl ?_⟩
    refine ⟨_, rfl, p, _, rfl, hp, rfl, _, _, rfl, _, _, rfl, rfl, ?_⟩
    refine ⟨_, rfl, .inl ⟨a, rfl, _, rfl, iteD rfl ?_⟩⟩
    refine ⟨_, rfl, .inl ⟨b, rfl, _, rfl, iteD rfl ?_⟩⟩
    refine ⟨_, rfl, _, _, rfl, rfl, _, rfl, ?_⟩
    have e : tieOK n (a, b) = (decide (0 ≤ a) && (decide (a < b) && decide (b < n))) := rfl
    rw [e] at q
    refine ite2 (fun h1 => ?_) (fun h1 => ?_)
    · rw [h1] at q
      refine ⟨_, rfl, _, _, rfl, rfl, _, rfl, ?_⟩
      refine ite2 (fun h2 => ?_) (fun h2 => ?_)
      · rw [h2] at q
        exact ⟨_, rfl, _, _, rfl, rfl, q⟩
      · rw [Bool.eq_false_iff.mpr h2] at q
        exact q
    · rw [Bool.eq_false_iff.mpr h1] at q
      exact q
end
theorem app_in {n : Nat} {r : List (List Int)} {i : Nat} {x : Int} (h : RowsIn n r) (h0 : 0 ≤ x) (h1 : x < (n : Int)) : RowsIn n (app r i x) := by
  intro k z hz
  unfold app at hz
  by_cases hk : i = k
  · subst hk
    by_cases hl : i < r.length
    · rw [setD_self hl] at hz
      rcases List.mem_append.mp hz with q | q
      · exact h i z q
      · rw [List.mem_singleton.mp q]
        exact ⟨h0, h1⟩
    · rw [List.getD_eq_getElem?_getD, List.getElem?_eq_none (by rw [List.length_set]; omega)] at hz
      cases hz
  · rw [setD_ne hk] at hz
    exact h k z hz
theorem fold_in {n : Nat} : ∀ {ts : List (Int × Int)} {r : List (List Int)}, (∀ t ∈ ts, tieIn n t) → RowsIn n r → RowsIn n (ts.foldl addTie r)
  | [], _, _, h => h
  | t :: ts, r, ht, h => fold_in (ts := ts) (fun z hz => ht z (List.mem_cons_of_mem _ hz)) (by
    obtain ⟨a0, a1, b0, b1⟩ := ht t List.mem_cons_self
    exact app_in (app_in h b0 b1) a0 a1)
theorem rowsOf_in {n : Nat} {ts : List (Int × Int)} (h : ∀ t ∈ ts, tieIn n t) : RowsIn n (rowsOf n ts) := fold_in h fun k z hz => by
  rw [List.getD_eq_getElem?_getD, List.getElem?_replicate] at hz
  split at hz <;> cases hz
theorem tieIn_of {n : Int} {t : Int × Int} (h : tieOK n t = true) : 0 ≤ t.1 ∧ t.1 < t.2 ∧ t.2 < n := by
  unfold tieOK at h
  simp only [Bool.and_eq_true, decide_eq_true_eq] at h
  exact h
section
variable {P : Program} {w : World} {K : PySem.W.Frag} {mg : Str → Option Value} {base : Heap}
abbrev scWebN : List Str := ["thing", "n", "ties", "tie", "k"]
abbrev scWebS : Scope := defScope sWeb
theorem scWeb : FnScope ["thing", "n", "ties", "tie", "k"] ["thing"] (defScope sWeb) := ⟨rfl, rfl, rfl, by decide +kernel, rfl, by decide +kernel, by decide +kernel⟩
theorem getMapR {l : List Addr} {i : Nat} {y : V} (h : (l.map V.ref)[i]? = some y) : ∃ z, l[i]? = some z ∧ y = .ref z := by
  rw [List.getElem?_map] at h
  cases e : l[i]? with
  | none => rw [e] at h; cases h
  | some z => rw [e] at h; exact ⟨z, rfl, (Option.some.inj h).symm⟩
theorem ok_web {f fW fT fR fS : Addr} {fd fdW fdT fdR fdS : FuncData} (F : FnP K "is_web" sWeb f fd) (T : WebTxt mg) (T2 : WebTxt2 mg) (FW : FnP K "is_whole" sWhole fW fdW) (gW : mg "is_whole" = some (.ref fW))
    (FT : FnP K "is_tie" sTie fT fdT) (gT : mg "is_tie" = some (.ref fT)) (FR : FnP K "rows_of" sRows fR fdR) (gR : mg "rows_of" = some (.ref fR)) (FS : FnP K "steps_from" sSteps fS fdS) (gS : mg "steps_from" = some (.ref fS)) :
    FnOk P w K mg base CX0 3 f fd ["thing"] (spWeb K) := by
  have GW : FnOk P w K mg base CX0 1 fW fdW ["thing"] spWhole := ok_whole FW T
  have bW : Binds K fdW ["thing"] [] := FW.bindsN fun _ _ _ _ _ _ us hl => match us, hl with | [_], _ => rfl
  have GT : FnOk P w K mg base CX0 2 fT fdT ["n", "thing"] (spTie K) := ok_tie FT T FW gW
  have bT : Binds K fdT ["n", "thing"] [] := FT.bindsN fun _ _ _ _ _ _ us hl => match us, hl with | [_, _], _ => rfl
  have GR : FnOk P w K mg base CX0 1 fR fdR ["web"] (spRows K) := ok_rows FR T
  have bR : Binds K fdR ["web"] [] := FR.bindsN fun _ _ _ _ _ _ us hl => match us, hl with | [_], _ => rfl
  have GS : FnOk P w K mg base CX0 1 fS fdS ["rows", "start"] spSteps := ok_steps FS T
  have bS : Binds K fdS ["rows", "start"] [] := FS.bindsN fun _ _ _ _ _ _ us hl => match us, hl with | [_, _], _ => rfl
  obtain ⟨tf, hfew⟩ := T2.few
  obtain ⟨tm, hmost⟩ := T2.most
  refine ok0 F scWeb (fun vs H Q E h => ?_) (fun cdv A outer s H vs Q E hr h => ?_)
  · rcases h with ⟨rfl, _⟩ | ⟨v, n, ts, rfl, _⟩ <;> rfl
  · have hr1 : Room 1 _ := hr.mono (by decide)
    have hu : (A.deeper (envOfC "is_web" (defScope sWeb) s.heap.objs.size f cdv)).units < cLine := by have := hr.un; omega
    refine ⟨_, (pss_cons (ps_if (PW.pt (pw_or (pt_not (pt_val (pe_callB (id := "isinstance") (call_isT (K := K)) (by rfl) T.isinstance (by decide +kernel) (pa_cons (pv 0) (pa_cons (pe_bltn (v := .ty "tuple") rfl T.tuple (by decide +kernel) rfl) pa_nil))))) (pw_or1 (pt_cmpR op_ne (pe_callB (id := "len") call_len_seq (by rfl) T.len (by decide +kernel) (pa_cons (pv 0) pa_nil)) pe_int (nomark _)))))
      (pss_one (ps_ret pe_bl))
      pss_nil)
    (pss_cons (ps_asg (pv 0) (pg_tup (by rfl) (pgs_cons (pg_name (i := 1) scWeb.nd rfl (Or.inr rfl)) (pgs_cons (pg_name (i := 2) scWeb.nd rfl (Or.inr rfl)) pgs_nil))))
    (pss_cons (ps_if (PW.pt (pw_or (pt_not (pt_val (pe_call GW hr1 rfl gW FW.kp bW .nil pass0 (pa_cons (pv 1) pa_nil)))) (pw_or1 (pt_not (pt_chain op_le op_le (pe_glob (v := .int 2) rfl hfew ⟨_, rfl⟩) (pv 1) (pe_glob (v := .int 40) rfl hmost ⟨_, rfl⟩))))))
      (pss_one (ps_ret pe_bl))
      pss_nil)
    (pss_cons (ps_if (PW.pt (pw_or (pt_not (pt_val (pe_callB (id := "isinstance") (call_isT (K := K)) (by rfl) T.isinstance (by decide +kernel) (pa_cons (pv 2) (pa_cons (pe_bltn (v := .ty "tuple") rfl T.tuple (by decide +kernel) rfl) pa_nil))))) (pw_or1 (pt_not (pt_val (pe_callB (id := "all") (cr_all rfl) (by rfl) T.all (by decide +kernel) (pa_cons (pe_lc (own := [("tie", 3)]) (g := gName 3) (by rfl) scWeb.nd (pi_tup (pv 2)) (blkOk_by (own := [("tie", 3)]) (N := scWebN) (sc := scWebS) (by decide +kernel)) (fun _ _ _ _ _ => pg_name (i := 3) scWeb.nd rfl (Or.inl rfl)) (fun _ _ _ _ _ => pts_nil) (fun _ _ _ _ _ => (pe_call GT hr rfl gT FT.kp bT .nil pass0 (pa_cons (pv 1) (pa_cons (pv 3) pa_nil))))) pa_nil)))))))
      (pss_one (ps_ret pe_bl))
      pss_nil)
    (pss_cons (ps_if (pt_not (pt_val (pe_callB (id := "all") (cr_all rfl) (by rfl) T.all (by decide +kernel) (pa_cons (pe_lc (own := [("k", 4)]) (g := gName 4) (by rfl) scWeb.nd (pi_range1 (by rfl) T.range (pa_cons (pe_op op_sub (pe_callB (id := "len") call_len_seq (by rfl) T.len (by decide +kernel) (pa_cons (pv 2) pa_nil)) pe_int) pa_nil)) (blkOk_by (own := [("k", 4)]) (N := scWebN) (sc := scWebS) (by decide +kernel)) (fun _ _ _ _ _ => pg_name (i := 4) scWeb.nd rfl (Or.inl rfl)) (fun _ _ _ _ _ => pts_nil) (fun _ _ _ _ _ => (pe_cmpR (op_ltTK (K := K) hu) (pe_ix (ix_tupK (K := K)) (pv 2) (pv 4) (fun _ _ => rfl)) (pe_ix (ix_tupK (K := K)) (pv 2) (pe_op op_add (pv 4) pe_int) (fun _ _ => rfl)) (nomark _)))) pa_nil))))
      (pss_one (ps_ret pe_bl))
      pss_nil)
    (pss_one (ps_ret (pe_cmpR op_ge (pe_callB (id := "min") (cr_min rfl) (by rfl) T.min (by decide +kernel) (pa_cons (pe_call GS hr1 rfl gS FS.kp bS .nil pass0 (pa_cons (pe_call GR hr1 rfl gR FR.kp bR .nil pass0 (pa_cons (pv 0) pa_nil)) (pa_cons pe_int pa_nil))) pa_nil)) pe_int (nomark _))))))))), ?_⟩
    rcases h with ⟨rfl, q⟩ | ⟨v, n, ts, rfl, hW, htl, q⟩
    · exact ⟨_, rfl, _, _, _, .type "tuple", false, rfl, .ty "tuple", .base .non, kit_ty (by decide +kernel), _, rfl, iteD rfl (iteD rfl q)⟩
    · obtain ⟨wa, wt, rfl, hw, hT⟩ := id hW
      obtain ⟨qs, hq1, hq2, hq3⟩ := id hT
      refine ⟨_, rfl, _, _, _, .type "tuple", true, rfl, .ty "tuple", ty_tup hw, kit_ty (by decide +kernel), _, rfl, iteC rfl ?_⟩
      refine ⟨_, rfl, wa, _, rfl, .inr hw, rfl, _, rfl, iteC rfl ?_⟩
      refine ⟨_, rfl, wa, _, rfl, hw, rfl, _, _, rfl, _, _, rfl, rfl, ?_⟩
      -- the number of bays
      refine ⟨_, rfl, .inl ⟨n, rfl, _, rfl, iteC rfl ?_⟩⟩
      refine ⟨_, rfl, _, _, rfl, rfl, _, rfl, ?_⟩
      refine ite2 (fun h1 => ?_) (fun h1 => ⟨_, rfl, iteD rfl (by
        have z : webOK n ts = false := by
          unfold webOK
          rw [Bool.eq_false_iff.mpr h1]
          rfl
        have q' := q H (Same.refl H)
        rw [z] at q'
        exact q')⟩)
      refine ⟨_, _, rfl, rfl, _, rfl, ?_⟩
      refine ite2 (fun h2 => ?_) (fun h2 => ?_)
      · have h2 : ¬ n ≤ 40 := by
          intro z
          rw [decide_eq_true z] at h2
          cases h2
        have z : webOK n ts = false := by
          unfold webOK
          rw [decide_eq_false h2, Bool.and_false]
          rfl
        have q' := q H (Same.refl H)
        rw [z] at q'
        exact q'
      have h2 : n ≤ 40 := by
        refine Decidable.byContradiction fun z => h2 ?_
        rw [decide_eq_false z]
        rfl
      have h1 : 2 ≤ n := of_decide_eq_true h1
      -- the ties
      refine ⟨_, rfl, _, _, _, .type "tuple", true, rfl, .ty "tuple", ty_tup hq1, kit_ty (by decide +kernel), _, rfl, iteC rfl ?_⟩
      refine ⟨_, rfl, wt, rfl, ⟨_, hq1⟩, fun D hD => lc_tup (K := K) (a := wt) (xs := qs.map V.ref) (fun i H' => Same H H' ∧ H' D = some (.lst (((ts.take i).map (tieOK n)).map V.bl))) ⟨same_upd hD, by rw [upd_same, List.take_zero]; rfl⟩ (fun i H' _ ⟨S, _⟩ => sqT_same S hq1) ?_ ?_⟩
      · rintro i y H' hi ⟨S, e⟩
        obtain ⟨qa, hqa, rfl⟩ := getMapR hi
        have hit : i < ts.length := by rw [← hq2]; exact (List.getElem?_eq_some_iff.mp hqa).1
        obtain ⟨a, b, hab⟩ : ∃ a b, ts[i]? = some (a, b) := ⟨(ts[i]).1, (ts[i]).2, List.getElem?_eq_getElem hit⟩
        refine ⟨rfl, _, rfl, _, rfl, n, a, b, qa, rfl, sqT_same S (hq3 i qa a b hqa hab), _, e, ?_, fun c o hc => by rw [upd_ne (ne_of_none hc hD)]; exact S _ _ hc, ?_⟩
        · rw [List.length_map, List.length_map, List.length_take, sizeLine_eq]
          omega
        · rw [upd_same, take_more hab, List.map_append, List.map_append]
          rfl
      rintro H1 ⟨S1, e1⟩
      rw [List.length_map, hq2, List.take_length] at e1
      refine ⟨D, _, rfl, SqL.of e1, _, rfl, ?_⟩
      have ea : ((ts.map (tieOK n)).all id) = ts.all (tieOK n) := by rw [List.all_map]; rfl
      rw [ea]
      refine ite2 (fun h3 => ?_) (fun h3 => ?_)
      · have z : webOK n ts = false := by
          unfold webOK
          rw [(Bool.not_eq_true' _).mp h3, Bool.false_and, Bool.and_false]
        have q' := q H1 S1
        rw [z] at q'
        exact q'
      have h3 : ts.all (tieOK n) = true := by
        cases e : ts.all (tieOK n) with
        | true => rfl
        | false => exact absurd (by rw [e]; rfl) h3
      -- ascending
      refine ⟨_, rfl, wt, _, rfl, .inr (sqT_same S1 hq1), _, _, rfl, rfl, _, rfl, by rw [List.length_map]; omega, by rw [List.length_map]; omega, fun D2 hD2 => lc_range (lo := 0) (n := (((qs.map V.ref).length : Int) - 1).toNat) (fun i H' => Same H1 H' ∧ H' D2 = some (.lst (((List.range i).map fun k => lt2 (ts.getD k (0, 0)) (ts.getD (k + 1) (0, 0))).map V.bl))) ⟨same_upd hD2, by rw [upd_same]; rfl⟩ ?_ ?_⟩
      · rintro i H' hi ⟨S, e⟩
        rw [List.length_map, hq2] at hi
        have i1 : i < qs.length := by omega
        have i2 : i + 1 < qs.length := by omega
        have t1 : i < ts.length := by omega
        have t2 : i + 1 < ts.length := by omega
        have S' := S1.trans S
        have g1 : ts.getD i (0, 0) = ts[i] := by rw [List.getD_eq_getElem?_getD, List.getElem?_eq_getElem t1]; rfl
        have g2 : ts.getD (i + 1) (0, 0) = ts[i + 1] := by rw [List.getD_eq_getElem?_getD, List.getElem?_eq_getElem t2]; rfl
        refine ⟨rfl, _, rfl, _, rfl, wt, _, _, .ref qs[i], rfl, rfl, sqT_same S' hq1, at_of (j := i) (by omega) (by simp [i1]), _, rfl, _, rfl, _, _, rfl, rfl, wt, _, _, .ref qs[i + 1], rfl, rfl, sqT_same S' hq1, at_of (j := i + 1) (by omega) (by simp [i2]), _, _, [(ts[i]).1, (ts[i]).2], [(ts[i + 1]).1, (ts[i + 1]).2], rfl, rfl, sqT_same S' (hq3 i _ _ _ (List.getElem?_eq_getElem i1) (List.getElem?_eq_getElem t1)), sqT_same S' (hq3 (i + 1) _ _ _ (List.getElem?_eq_getElem i2) (List.getElem?_eq_getElem t2)), _, e, ?_, fun c o hc => by rw [upd_ne (ne_of_none hc hD2)]; exact S _ _ hc, ?_⟩
        · rw [List.length_map, List.length_map, List.length_range, sizeLine_eq]
          omega
        · rw [upd_same, List.range_succ, List.map_append, List.map_append]
          show some (HO.lst _) = some (HO.lst (_ ++ [V.bl (lt2 (ts.getD i (0, 0)) (ts.getD (i + 1) (0, 0)))]))
          rw [g1, g2]
          rfl
      rintro H2 ⟨S2, e2⟩
      have en : (((qs.map V.ref).length : Int) - 1).toNat = ts.length - 1 := by rw [List.length_map, hq2]; omega
      rw [en] at e2
      refine ⟨D2, _, rfl, SqL.of e2, _, rfl, ?_⟩
      have eb : (((List.range (ts.length - 1)).map fun k => lt2 (ts.getD k (0, 0)) (ts.getD (k + 1) (0, 0))).all id) = asc ts := by rw [List.all_map]; rfl
      rw [eb]
      have S12 := S1.trans S2
      refine ite2 (fun h4 => ?_) (fun h4 => ?_)
      · have z : webOK n ts = false := by
          unfold webOK
          rw [(Bool.not_eq_true' _).mp h4, Bool.false_and, Bool.and_false, Bool.and_false]
        have q' := q H2 S12
        rw [z] at q'
        exact q'
      have h4 : asc ts = true := by
        cases e : asc ts with
        | true => rfl
        | false => exact absurd (by rw [e]; rfl) h4
      -- whether all is reached
      have hin : ∀ t ∈ ts, tieIn (n.toNat : Int) t := fun t ht => by
        obtain ⟨a0, a1, a2⟩ := tieIn_of (List.all_eq_true.mp h3 t ht)
        exact ⟨a0, by omega, by omega, by omega⟩
      have en2 : ((n.toNat : Nat) : Int) = n := by omega
      refine ⟨_, rfl, .ref wa, n.toNat, ts, rfl, (by rw [en2]; exact hW.same S12), by omega, htl, hin, fun l ps H3 S3 nl nps R3 => ?_⟩
      have rl : (rowsOf n.toNat ts).length = n.toNat := rowsOf_len _ _
      refine ⟨l, ps, rowsOf n.toNat ts, 0, rfl, R3, (by rw [rl]; exact rowsOf_in hin), by rw [rl]; omega, by rw [rl]; omega, fun aw H4 S4 na4 h4' len4 => ?_⟩
      refine ⟨aw, _, rfl, SqL.of h4', by rw [len4, rl]; omega, fun m hm hmin => ⟨_, _, rfl, rfl, ?_⟩⟩
      have z : webOK n ts = decide (0 ≤ m) := by
        unfold webOK
        rw [decide_eq_true h1, decide_eq_true h2, h3, h4]
        show reach n.toNat ts = decide (0 ≤ m)
        unfold reach
        by_cases hm0 : 0 ≤ m
        · rw [decide_eq_true hm0]
          exact List.all_eq_true.mpr fun z hz => decide_eq_true (Int.le_trans hm0 (hmin z hz))
        · rw [decide_eq_false hm0]
          refine Bool.eq_false_iff.mpr fun e => hm0 ?_
          exact of_decide_eq_true (List.all_eq_true.mp e m hm)
      have q' := q H4 ((S12.trans S3).trans S4)
      rw [z] at q'
      exact q'
end
end Sb

/-! ## G65 -/
/-! What raises: need_web, need_bay, neighbours. -/
namespace Sb
open PySem PySem.Spec PyProof.Rows L2
def spNeed (K : PySem.W.Frag) (C : Nat → Addr) : Sp := fun vs H Q E => (vs = [.non] ∧ E (.ref (C 0)) none H) ∨
  (∃ v n ts, vs = [v] ∧ WebAt K H v n ts ∧ ts.length ≤ 100000 ∧ (webOK n ts = true → ∀ H', Same H H' → Q .non H') ∧ (webOK n ts = false → ∀ H', Same H H' → E (.ref (C 0)) none H'))
def spBay (K : PySem.W.Frag) (C : Nat → Addr) : Sp := fun vs H Q E => ∃ v n ts b, vs = [v, .int b] ∧ WebAt K H v n ts ∧ (0 ≤ b → b < n → Q .non H) ∧ (¬ (0 ≤ b ∧ b < n) → E (.ref (C 1)) none H)
def spNb (K : PySem.W.Frag) (C : Nat → Addr) : Sp := fun vs H Q E => (∃ b, vs = [.non, .int b] ∧ E (.ref (C 0)) none H) ∨
  (∃ v n ts b, vs = [v, .int b] ∧ WebAt K H v n ts ∧ ts.length ≤ 100000 ∧ (webOK n ts = true → 0 ≤ b → b < n → ∀ p H', Same H H' → H' p = some (.lst (((rowsOf n.toNat ts).getD b.toNat []).map V.int)) → Q (.ref p) H') ∧
    (webOK n ts = false → ∀ H', Same H H' → E (.ref (C 0)) none H') ∧ (webOK n ts = true → ¬ (0 ≤ b ∧ b < n) → ∀ H', Same H H' → E (.ref (C 1)) none H'))
section
variable {P : Program} {w : World} {K : PySem.W.Frag} {mg : Str → Option Value} {base : Heap} {x qual : Str} {params : Arguments} {body : List Stmt} {scope : Scope} {dvs : List V} {kws : List (Str × V)} {f : Addr} {fd : FuncData}
/-- a def that may raise -/
theorem okX {N ps : List Str} {k : Nat} {sp : Sp} (F : FunD K x qual params body scope dvs kws f fd) (S : FnScope N ps scope) (len : ∀ vs H Q E, sp vs H Q E → vs.length = ps.length)
    (hbody : ∀ (cdv : Value) (A : Around) (outer : List Env) (s : Shared) (H : Hp) (vs : List V) (Q : VK) (E : XK), Room k (A.deeper (envOfC qual scope s.heap.objs.size f cdv)) → sp vs H Q E →
      ∃ t, PSs (cxOf (L2.CX P w) P w K mg base N qual scope f cdv A outer s H E) body t ∧ t { nx := fun _ H' => Q .non H', rt := Q } (start N vs) H) : FnOk P w K mg base (L2.CX P w) (k + 1) f fd ps sp :=
  F.ok S len fun cdv A outer s H vs Q E hr hsp => hbody cdv A outer s H vs Q E hr hsp
end
section
variable {P : Program} {w : World} {K : PySem.W.Frag} {mg : Str → Option Value} {base : Heap} {C : Nat → Addr}
theorem scNeed : FnScope ["web"] ["web"] (defScope sNeed) := ⟨rfl, rfl, rfl, by decide +kernel, rfl, by decide +kernel, by decide +kernel⟩
theorem ok_need {f fW : Addr} {fd fdW : FuncData} (F : FnP K "need_web" sNeed f fd) (E : ErrTxt K mg C) (FW : FnP K "is_web" sWeb fW fdW) (gW : mg "is_web" = some (.ref fW)) (GW : FnOk P w K mg base CX0 3 fW fdW ["thing"] (spWeb K)) : FnOk P w K mg base (L2.CX P w) 4 f fd ["web"] (spNeed K C) := by
  have bW : Binds K fdW ["thing"] [] := FW.bindsN fun _ _ _ _ _ _ us hl => match us, hl with | [_], _ => rfl
  refine okX F scNeed (fun vs H Q E h => ?_) (fun cdv A outer s H vs Q E0 hr h => ?_)
  · rcases h with ⟨rfl, _⟩ | ⟨v, n, ts, rfl, _⟩ <;> rfl
  · refine ⟨_, (pss_one (ps_if (pt_not (pt_val (pe_call GW hr rfl gW FW.kp bW .nil pass0 (pa_cons (pv 0) pa_nil))))
      (pss_one (ps_raise rfl (takes_of rfl rfl rfl rfl) (pmk_own PySem.F.excBase_ValueError (E.ex 0 (by decide)) (E.gs 0 (by decide)) (E.kp 0 (by decide)) (raises_own (E.su 0 (by decide)) (E.ty 0 (by decide))) rfl)))
      pss_nil)), ?_⟩
    rcases h with ⟨rfl, q⟩ | ⟨v, n, ts, rfl, hW, hl, q1, q2⟩
    · exact ⟨_, rfl, .inl ⟨rfl, _, rfl, iteD rfl q⟩⟩
    · refine ⟨_, rfl, .inr ⟨v, n, ts, rfl, hW, hl, fun H' S => ⟨_, rfl, ?_⟩⟩⟩
      cases e : webOK n ts with
      | true => exact iteC rfl (q1 e H' S)
      | false => exact iteD rfl (q2 e H' S)
theorem scBay : FnScope ["web", "bay"] ["web", "bay"] (defScope sBay) := ⟨rfl, rfl, rfl, by decide +kernel, rfl, by decide +kernel, by decide +kernel⟩
theorem scIsBay : FnScope ["web", "thing"] ["web", "thing"] (defScope sIsBay) := ⟨rfl, rfl, rfl, by decide +kernel, rfl, by decide +kernel, by decide +kernel⟩
def spIsBay (K : PySem.W.Frag) : Sp := fun vs H Q _ => ∃ v n ts b, vs = [v, .int b] ∧ WebAt K H v n ts ∧ Q (.bl (decide (0 ≤ b) && decide (b < n))) H
theorem ok_isBay {f fW : Addr} {fd fdW : FuncData} (F : FnP K "is_bay" sIsBay f fd) (T : WebTxt mg) (FW : FnP K "is_whole" sWhole fW fdW) (gW : mg "is_whole" = some (.ref fW)) : FnOk P w K mg base CX0 2 f fd ["web", "thing"] (spIsBay K) := by
  have GW : FnOk P w K mg base CX0 1 fW fdW ["thing"] spWhole := ok_whole FW T
  have bW : Binds K fdW ["thing"] [] := FW.bindsN fun _ _ _ _ _ _ us hl => match us, hl with | [_], _ => rfl
  refine ok0 F scIsBay (fun vs H Q E h => ?_) (fun cdv A outer s H vs Q E hr h => ?_)
  · obtain ⟨v, n, ts, b, rfl, _⟩ := h
    rfl
  · obtain ⟨v, n, ts, b, rfl, ⟨wa, wt, rfl, hw, hT⟩, q⟩ := h
    refine ⟨_, (pss_one (ps_ret (pe_and (pe_call GW hr rfl gW FW.kp bW .nil pass0 (pa_cons (pv 1) pa_nil)) (pe_one (pe_chain op_le op_lt pe_int (pv 1) (pe_ix ix_tup (pv 0) pe_int (fun _ _ => rfl))))))), ?_⟩
    refine ⟨_, rfl, .inl ⟨b, rfl, _, rfl, iteD rfl ?_⟩⟩
    refine ⟨_, rfl, _, _, rfl, rfl, _, rfl, ?_⟩
    by_cases h1 : 0 ≤ b
    · rw [decide_eq_true h1, Bool.true_and] at q
      exact iteD (decide_eq_true h1) ⟨_, rfl, wa, _, _, _, rfl, rfl, hw, rfl, _, _, rfl, rfl, q⟩
    · rw [decide_eq_false h1, Bool.false_and] at q
      exact iteC (decide_eq_false h1) q
theorem ok_bay {f fQ : Addr} {fd fdQ : FuncData} (F : FnP K "need_bay" sBay f fd) (E : ErrTxt K mg C) (FQ : FnP K "is_bay" sIsBay fQ fdQ) (gQ : mg "is_bay" = some (.ref fQ)) (GQ : FnOk P w K mg base CX0 2 fQ fdQ ["web", "thing"] (spIsBay K)) : FnOk P w K mg base (L2.CX P w) 3 f fd ["web", "bay"] (spBay K C) := by
  have bQ : Binds K fdQ ["web", "thing"] [] := FQ.bindsN fun _ _ _ _ _ _ us hl => match us, hl with | [_, _], _ => rfl
  refine okX F scBay (fun vs H Q E h => ?_) (fun cdv A outer s H vs Q E0 hr h => ?_)
  · obtain ⟨v, n, ts, b, rfl, _⟩ := h
    rfl
  · obtain ⟨v, n, ts, b, rfl, hW, q1, q2⟩ := h
    refine ⟨_, (pss_one (ps_if (pt_not (pt_val (pe_call GQ hr rfl gQ FQ.kp bQ .nil pass0 (pa_cons (pv 0) (pa_cons (pv 1) pa_nil)))))
      (pss_one (ps_raise rfl (takes_of rfl rfl rfl rfl) (pmk_own PySem.F.excBase_ValueError (E.ex 1 (by decide)) (E.gs 1 (by decide)) (E.kp 1 (by decide)) (raises_own (E.su 1 (by decide)) (E.ty 1 (by decide))) rfl)))
      pss_nil)), ?_⟩
    refine ⟨_, rfl, _, rfl, v, n, ts, b, rfl, hW, _, rfl, ?_⟩
    by_cases h1 : 0 ≤ b ∧ b < n
    · exact iteC (by rw [decide_eq_true h1.1, decide_eq_true h1.2]; rfl) (q1 h1.1 h1.2)
    · exact iteD (by
        rw [← Bool.decide_and, decide_eq_false h1]
        rfl) (q2 h1)
theorem scNb : FnScope ["web", "bay"] ["web", "bay"] (defScope sNb) := ⟨rfl, rfl, rfl, by decide +kernel, rfl, by decide +kernel, by decide +kernel⟩
theorem webOK_in {n : Int} {ts : List (Int × Int)} (h : webOK n ts = true) : 2 ≤ n ∧ n ≤ 40 ∧ ∀ t ∈ ts, tieIn (n.toNat : Int) t := by
  unfold webOK at h
  simp only [Bool.and_eq_true, decide_eq_true_eq] at h
  obtain ⟨⟨h1, h2⟩, h3, _⟩ := h
  refine ⟨h1, h2, fun t ht => ?_⟩
  obtain ⟨a0, a1, a2⟩ := tieIn_of (List.all_eq_true.mp h3 t ht)
  exact ⟨a0, by omega, by omega, by omega⟩
theorem ok_nb {f fN fB fR : Addr} {fd fdN fdB fdR : FuncData} (F : FnP K "neighbours" sNb f fd) (FN : FnP K "need_web" sNeed fN fdN) (gN : mg "need_web" = some (.ref fN)) (GN : FnOk P w K mg base (L2.CX P w) 4 fN fdN ["web"] (spNeed K C))
    (FB : FnP K "need_bay" sBay fB fdB) (gB : mg "need_bay" = some (.ref fB)) (GB : FnOk P w K mg base (L2.CX P w) 3 fB fdB ["web", "bay"] (spBay K C)) (FR : FnP K "rows_of" sRows fR fdR) (gR : mg "rows_of" = some (.ref fR)) (GR : FnOk P w K mg base CX0 1 fR fdR ["web"] (spRows K)) :
    FnOk P w K mg base (L2.CX P w) 5 f fd ["web", "bay"] (spNb K C) := by
  have bN : Binds K fdN ["web"] [] := FN.bindsN fun _ _ _ _ _ _ us hl => match us, hl with | [_], _ => rfl
  have bB : Binds K fdB ["web", "bay"] [] := FB.bindsN fun _ _ _ _ _ _ us hl => match us, hl with | [_, _], _ => rfl
  have bR : Binds K fdR ["web"] [] := FR.bindsN fun _ _ _ _ _ _ us hl => match us, hl with | [_], _ => rfl
  refine okX F scNb (fun vs H Q E h => ?_) (fun cdv A outer s H vs Q E0 hr h => ?_)
  · rcases h with ⟨b, rfl, _⟩ | ⟨v, n, ts, b, rfl, _⟩ <;> rfl
  · have hr1 : Room 1 _ := hr.mono (by decide)
    have hr2 : Room 3 _ := hr.mono (by decide)
    refine ⟨_, (pss_cons (ps_expr (pe_call GN hr rfl gN FN.kp bN .nil (passes_call (takes_of rfl rfl rfl rfl) (fun _ _ _ _ h => h)) (pa_cons (pv 0) pa_nil)))
    (pss_cons (ps_expr (pe_call GB hr2 rfl gB FB.kp bB .nil (passes_call (takes_of rfl rfl rfl rfl) (fun _ _ _ _ h => h)) (pa_cons (pv 0) (pa_cons (pv 1) pa_nil))))
    (pss_one (ps_ret (pe_ix ix_list (pe_call GR hr1 rfl gR FR.kp bR .nil pass0 (pa_cons (pv 0) pa_nil)) (pv 1) (fun _ _ => rfl)))))), ?_⟩
    rcases h with ⟨b, rfl, q⟩ | ⟨v, n, ts, b, rfl, hW, hl, q1, q2, q3⟩
    · exact ⟨_, rfl, .inl ⟨rfl, q⟩⟩
    · refine ⟨_, rfl, .inr ⟨v, n, ts, rfl, hW, hl, fun e H1 S1 => ?_, fun e H1 S1 => q2 e H1 S1⟩⟩
      refine ⟨_, rfl, _, rfl, v, n, ts, b, rfl, hW.same S1, fun b0 b1 => ?_, fun hb => q3 e hb H1 S1⟩
      obtain ⟨n2, n40, hin⟩ := webOK_in e
      have en2 : ((n.toNat : Nat) : Int) = n := by omega
      refine ⟨_, rfl, v, n.toNat, ts, rfl, (by rw [en2]; exact hW.same S1), by omega, hl, hin, fun l ps H3 S3 nl nps R3 => ?_⟩
      obtain ⟨p, gp, xp⟩ := R3.get b0 (by rw [rowsOf_len]; omega)
      exact ⟨_, rfl, l, _, _, _, rfl, rfl, SqL.of R3.at_, xp, q1 e b0 b1 p H3 (S1.trans S3) (R3.row _ _ gp)⟩
end
end Sb

/-! ## L65 -/
/-! The law. -/
namespace Sb
open PySem PySem.Spec PyProof.Rows L2
open LamX (ExtN Tabs TabS)
abbrev sRound : Stmt := top 41
def qOf (x : Str) : Str := (x ++ ".<locals>." : Str) ++ ("<lambda>" : Str)
/-- round_of of the web of one tie, number 0 -/
def spRound (K : PySem.W.Frag) (C : Nat → Addr) (T : List (Addr × Str)) : Sp := fun vs H Q E => ∃ v, vs = [v, .int 0] ∧ WebAt K H v 2 [(0, 1)] ∧ Tabs T H ∧ ∀ H', ExtN H H' → Tabs T H' → E (.ref (C 2)) none H'
/-- the two tables -/
abbrev TTof (Pl Pb : Addr) : List (Addr × Str) := [(Pl, qOf "law"), (Pb, qOf "blocks_with_gates")]
theorem sqT_ext {K : PySem.W.Frag} {H H' : Hp} {a : Addr} {xs : List V} (e : ExtN H H') (h : SqT K H a xs) : SqT K H' a xs := by
  rcases h with (h | ⟨o, h⟩) | h
  · exact .inl (.inl (e _ _ h (by intro ps z; cases z)))
  · exact .inl (.inr ⟨o, e _ _ h (by intro ps z; cases z)⟩)
  · exact .inr h
theorem web_ext {K : PySem.W.Frag} {H H' : Hp} {v : V} {n : Int} {ts : List (Int × Int)} (h : WebAt K H v n ts) (e : ExtN H H') : WebAt K H' v n ts := by
  obtain ⟨a, t, ev, h1, qs, h2, h3, h4⟩ := h
  exact ⟨a, t, ev, sqT_ext e h1, qs, sqT_ext e h2, h3, fun i q a b e1 e2 => sqT_ext e (h4 i q a b e1 e2)⟩
theorem lst_ext {H H' : Hp} (e : ExtN H H') {a : Addr} {xs : List V} (h : H a = some (.lst xs)) : H' a = some (.lst xs) := e _ _ h (by intro ps z; cases z)
theorem extS {H H' : Hp} (s : Same H H') : ExtN H H' := fun b o h _ => s b o h
/-! ### rows of answers as data -/
def rowD (i : Nat) : PyData := .list ((List.range 20).map fun j => PyData.bool (decide (i = j)))
theorem dp_row {K : PySem.W.Frag} {H : Hp} {p : Addr} {i : Nat} (h : H p = some (.lst (row i))) : Dp K H (.ref p) (rowD i) := by
  refine .lst (SqL.of h) ?_
  have key : ∀ l : List Nat, DpAll K H (l.map fun j => V.bl (decide (i = j))) (l.map fun j => PyData.bool (decide (i = j))) := fun l => by
    induction l with
    | nil => exact .nil
    | cons a r ih => exact .cons (.bl _) ih
  exact key _
theorem dp_rows {K : PySem.W.Frag} {H : Hp} : ∀ {vs : List V} {k : Nat}, RowsAt H k vs → DpAll K H vs ((List.range' k vs.length).map rowD)
  | [], _, _ => .nil
  | v :: r, k, ⟨⟨p, e, h⟩, h2⟩ => by
    rw [e]
    exact .cons (dp_row h) (dp_rows h2)
theorem RowsAt.get {H : Hp} : ∀ {vs : List V} {k i : Nat} {v : V}, RowsAt H k vs → vs[i]? = some v → ∃ p, v = .ref p ∧ H p = some (.lst (row (k + i)))
  | [], _, _, _, _, h => by simp at h
  | v :: r, k, 0, u, ⟨h1, _⟩, h => by
    have e : v = u := Option.some.inj h
    subst e
    exact h1
  | v :: r, k, i + 1, u, ⟨_, h2⟩, h => by
    have z := RowsAt.get (k := k + 1) (i := i) (v := u) h2 h
    rw [show k + 1 + i = k + (i + 1) by omega] at z
    exact z
def spLaw (K : PySem.W.Frag) (Pl Pb : Addr) : Sp := fun vs H Q _ => ∃ (a : Addr) (ns : List Int), vs = [.ref a] ∧ SqL K H a (ns.map V.int) ∧ ns.length ≤ 63 ∧ TabS H Pl (qOf "law") ∧ TabS H Pb (qOf "blocks_with_gates") ∧ ∀ H', Q (.bl true) H'
section
variable {P : Program} {w : World} {K : PySem.W.Frag} {mg : Str → Option Value} {base : Heap} {C : Nat → Addr}
abbrev scLawN : List Str := ["script", "pen", "table", "due", "one", "found", "web", "other"]
abbrev scLawS : Scope := defScope sLaw
theorem scLaw : FnScope ["script", "pen", "table", "due", "one", "found", "web", "other"] ["script"] (defScope sLaw) := ⟨rfl, rfl, rfl, by decide +kernel, rfl, by decide +kernel, by decide +kernel⟩
theorem scCaught : FnScope ["call", "e"] ["call"] (defScope sCaught) := ⟨rfl, rfl, rfl, by decide +kernel, rfl, by decide +kernel, by decide +kernel⟩
theorem shaped20 : SeqAt.shaped (.list ((List.range' 0 20).map rowD)) = true := by decide +kernel
theorem shaped3 : SeqAt.shaped (.list [rowD 1, rowD 2, rowD 0]) = true := by decide +kernel
theorem ok_law {f fO fT fC fK fN fR Pl Pb cl : Addr} {fdO fdT fdC fdK fdN fdR : FuncData} {oc : Value} {od : Option Addr} {dV kV doc pm ct : Value} {an : Option Addr} {osl : Array (Option Value)}
    (lk : K.lookup f = some ⟨oc, od, .func (PySem.W.fnOf "law" "law" (defArgs sLaw) (defBody sLaw) (defScope sLaw) dV kV doc pm an (.ref cl) ct), osl⟩) (hcd : PySem.W.codeIn K (.ref cl) "law" = true) (E : ErrTxt K mg C) (T : WebTxt mg)
    (FO : FnP K "_law_open" sOpen fO fdO) (gO : mg "_law_open" = some (.ref fO)) (GO : FnOk P w K mg base CX0 1 fO fdO ["script"] (spOpen K))
    (FT : FnP K "_law_table" sTable fT fdT) (gT : mg "_law_table" = some (.ref fT)) (GT : FnOk P w K mg base CX0 4 fT fdT ["pen"] spTable)
    (FC : FnP K "_law_caught" sCaught fC fdC) (gC : mg "_law_caught" = some (.ref fC)) (FK : FnP K "_law_kinds" sKinds fK fdK) (gK : mg "_law_kinds" = some (.ref fK))
    (FN : FnP K "neighbours" sNb fN fdN) (gN : mg "neighbours" = some (.ref fN)) (GN : FnOk P w K mg base (L2.CX P w) 5 fN fdN ["web", "bay"] (spNb K C))
    (FR : FnP K "round_of" sRound fR fdR) (gR : mg "round_of" = some (.ref fR)) (GR : FnOk P w K mg base (L2.CX P w) 8 fR fdR ["web", "k"] (spRound K C (TTof Pl Pb)))
    (TB : LamX.TabB base mg cl Pl) (hP : Pl ≠ Pb) : ∃ fd, fd = PySem.W.fnOf "law" "law" (defArgs sLaw) (defBody sLaw) (defScope sLaw) dV kV doc pm an (.ref cl) ct ∧ FnOk P w K mg base CX0 13 f fd ["script"] (spLaw K Pl Pb) := by
  refine ⟨_, rfl, ?_⟩
  have bO : Binds K fdO ["script"] [] := FO.bindsN fun _ _ _ _ _ _ us hl => match us, hl with | [_], _ => rfl
  have bT : Binds K fdT ["pen"] [] := FT.bindsN fun _ _ _ _ _ _ us hl => match us, hl with | [_], _ => rfl
  have bC : Binds K fdC ["call"] [] := FC.bindsN fun _ _ _ _ _ _ us hl => match us, hl with | [_], _ => rfl
  have bN : Binds K fdN ["web", "bay"] [] := FN.bindsN fun _ _ _ _ _ _ us hl => match us, hl with | [_, _], _ => rfl
  have bR : Binds K fdR ["web", "k"] [] := FR.bindsN fun _ _ _ _ _ _ us hl => match us, hl with | [_, _], _ => rfl
  obtain ⟨ocC, odC, dVC, kVC, docC, pmC, anC, cdC, ctC, oslC, rfl, lkC, hcC, _, _⟩ := FC.ex
  refine fn_of lk hcd scLaw (fun vs H Q E h => ?_) (fun A outer s H vs Q E0 hr h => ?_)
  · obtain ⟨a, ns, rfl, _⟩ := h
    rfl
  · obtain ⟨a, ns, rfl, hS, hl, tl, tb, q⟩ := h
    have hr1 : Room 1 _ := hr.mono (by decide)
    have hr2 : Room 2 _ := hr.mono (by decide)
    have hr4 : Room 4 _ := hr.mono (by decide)
    have hrL : Room (10 + 2) _ := hr
    let TT : List (Addr × Str) := TTof Pl Pb
    have hmT : (Pl, qOf "law") ∈ TT := List.mem_cons_self
    have hu : ∀ p ∈ TT, p.1 = Pl → p.2 = qOf "law" := fun p hp e => by
      rcases List.mem_cons.mp hp with z | z
      · rw [z]
      · rw [List.mem_singleton.mp z] at e
        exact absurd e.symm hP
    refine ⟨_, PSs.nox (pss_cons (ps_set (i := 1) scLaw.nd rfl (Or.inl rfl) (pe_call GO hr1 rfl gO FO.kp bO .nil pass0 (pa_cons (pv 0) pa_nil)))
    (pss_cons (ps_set (i := 2) scLaw.nd rfl (Or.inl rfl) (pe_call GT hr4 rfl gT FT.kp bT .nil pass0 (pa_cons (pv 1) pa_nil)))
    (pss_cons (ps_set (i := 3) scLaw.nd rfl (Or.inl rfl) (pe_lstL pa_nil))
    (pss_cons (ps_for PassesOwn.never rfl (pi_range1 (by rfl) T.range (pa_cons pe_int pa_nil)) (pg_name (i := 4) scLaw.nd rfl (Or.inr rfl))
      (pss_one (ps_expr (pe_bm PySem.F.plainAttrs_list PySem.F.slot_list_append PySem.F.type_list_append mt_appendL (pv 3) (pa_cons (pe_lc (own := [("other", 7)]) (g := gName 7) (by rfl) scLaw.nd (pi_range1 (by rfl) T.range (pa_cons pe_int pa_nil)) (blkOk_by (own := [("other", 7)]) (N := scLawN) (sc := scLawS) (by decide +kernel)) (fun _ _ _ _ _ => pg_name (i := 7) scLaw.nd rfl (Or.inl rfl)) (fun _ _ _ _ _ => pts_nil) (fun _ _ _ _ _ => (pe_cmpR op_eq (pv 4) (pv 7) (nomark _)))) pa_nil)))))
    (pss_cons (ps_if (pt_cmpR (op_neD hr.units) (pv 2) (pv 3) (nomark _))
      (pss_one (ps_ret pe_bl))
      pss_nil)
    (pss_cons (ps_set (i := 6) scLaw.nd rfl (Or.inr rfl) (pe_tupL (pa_cons pe_int (pa_cons (pe_tupL (pa_cons (pe_tupL (pa_cons pe_int (pa_cons pe_int pa_nil))) pa_nil)) pa_nil))))
    (pss_cons (ps_set (i := 5) scLaw.nd rfl (Or.inl rfl) (pe_lstL (pa_cons (LamX.pe_lamcall (T := TT) (a := "call") (k := 10) (Ng := ["call", "e"]) rfl gC FC.kp lkC hcC bC scCaught rfl (.inl rfl) (caught_gives E E.exm FK gK hr2) TB rfl hmT hu hrL (LamX.lamS_by (show LamX.lamSB (defScope sLaw) _ = true from by decide +kernel)) rfl (fun _ _ _ _ _ => rfl) (fun A outer s H E f c' hr' => pe_call GN (hr'.mono (by decide)) rfl gN FN.kp bN .nil (passes_call (takes_of rfl rfl rfl rfl) (fun _ _ _ _ h => h)) (pa_cons (pv 6) (pa_cons pe_int pa_nil)))) pa_nil)))
    (pss_cons (ps_expr (pe_bm PySem.F.plainAttrs_list PySem.F.slot_list_append PySem.F.type_list_append mt_appendL (pv 5) (pa_cons (LamX.pe_lamcall (T := TT) (a := "call") (k := 10) (Ng := ["call", "e"]) rfl gC FC.kp lkC hcC bC scCaught rfl (.inl rfl) (caught_gives E E.exm FK gK hr2) TB rfl hmT hu hrL (LamX.lamS_by (show LamX.lamSB (defScope sLaw) _ = true from by decide +kernel)) rfl (fun _ _ _ _ _ => rfl) (fun A outer s H E f c' hr' => pe_call GR (hr'.mono (by decide)) rfl gR FR.kp bR .nil (passes_call (takes_of rfl rfl rfl rfl) (fun _ _ _ _ h => h)) (pa_cons (pv 6) (pa_cons pe_int pa_nil)))) pa_nil)))
    (pss_cons (ps_expr (pe_bm PySem.F.plainAttrs_list PySem.F.slot_list_append PySem.F.type_list_append mt_appendL (pv 5) (pa_cons (LamX.pe_lamcall (T := TT) (a := "call") (k := 10) (Ng := ["call", "e"]) rfl gC FC.kp lkC hcC bC scCaught rfl (.inl rfl) (caught_gives E E.exm FK gK hr2) TB rfl hmT hu hrL (LamX.lamS_by (show LamX.lamSB (defScope sLaw) _ = true from by decide +kernel)) rfl (fun _ _ _ _ _ => rfl) (fun A outer s H E f c' hr' => pe_call GN (hr'.mono (by decide)) rfl gN FN.kp bN .nil (passes_call (takes_of rfl rfl rfl rfl) (fun _ _ _ _ h => h)) (pa_cons pe_non (pa_cons pe_int pa_nil)))) pa_nil)))
    (pss_one (ps_ret (pe_cmpR (op_eqD hr.units) (pv 5) (pe_lstL (pa_cons (pe_ix ix_list (pv 2) pe_int (fun _ _ => rfl)) (pa_cons (pe_ix ix_list (pv 2) pe_int (fun _ _ => rfl)) (pa_cons (pe_ix ix_list (pv 2) pe_int (fun _ _ => rfl)) pa_nil)))) (nomark _))))))))))))), ?_⟩
    -- pen, table
    refine ⟨_, rfl, a, ns, rfl, hS, hl, fun p H1 S1 n1 hp1 => ⟨_, rfl, p, 0, rfl, hp1, by decide, fun l H2 rs B2 hl2 hlen hrows => ?_⟩⟩
    have nlt : ∀ {Q : Addr} {qq : Str}, TabS H Q qq → Q ≠ p := fun t z => by
      obtain ⟨ps, e, _⟩ := t
      rw [z, n1] at e
      cases e
    have S2 : Same H H2 := same_but S1 n1 B2
    have tl2 : TabS H2 Pl (qOf "law") := tl.ext S2
    have tb2 : TabS H2 Pb (qOf "blocks_with_gates") := tb.ext S2
    -- due
    refine ⟨by show 0 ≤ sizeLine; decide, fun due H3 n3 S3 h3 => ?_⟩
    refine ⟨20, rfl, by decide, by decide, for_range (lo := 0) (n := (20 : Int).toNat) (fun i σ H' => (∃ u x, σ = [some (.ref a), some (.ref p), some (.ref l), some (.ref due), u, none, none, x]) ∧ Same H2 H' ∧ ∃ acc, H' due = some (.lst acc) ∧ acc.length = i ∧ RowsAt H' 0 acc)
      ⟨⟨none, none, rfl⟩, S3, [], h3, rfl, trivial⟩ ?_ ?_⟩
    · rintro i σ H' hi ⟨⟨u, x, rfl⟩, S, acc, hd, la, R⟩
      refine ⟨_, rfl, .inl ⟨rfl, _, SqL.of hd⟩, 20, rfl, by decide, by decide, fun D hD => lc_range (lo := 0) (n := (20 : Int).toNat) (fun j H4 => Same H' H4 ∧ H4 D = some (.lst ((List.range j).map fun j => V.bl (decide (i = j))))) ⟨same_upd hD, by rw [upd_same]; rfl⟩ ?_ ?_⟩
      · rintro j H4 hj ⟨S4, h4⟩
        refine ⟨rfl, _, rfl, _, rfl, rfl, _, h4, ?_, fun b o hb => by rw [upd_ne (ne_of_none hb hD)]; exact S4 _ _ hb, ?_⟩
        · rw [List.length_map, List.length_range]
          exact small1000 (Nat.le_trans (Nat.le_of_lt hj) (by decide))
        · rw [upd_same, List.range_succ, List.map_append]
          have e : decide (V.int (0 + (i : Nat)) = V.int (0 + (j : Nat))) = decide (i = j) := by
            by_cases hij : i = j
            · rw [hij, decide_eq_true rfl, decide_eq_true rfl]
            · rw [decide_eq_false hij, decide_eq_false (fun z => hij (by have := V.int.inj z; omega))]
          show some (HO.lst (_ ++ [V.bl (decide (V.int (0 + (i : Nat)) = V.int (0 + (j : Nat))))])) = _
          rw [e]
          rfl
      · rintro H4 ⟨S4, h4⟩
        have h4 : H4 D = some (.lst (row i)) := h4
        have hd4 := S4 _ _ hd
        have nD : due ≠ D := ne_of_none hd hD
        have hi20 : i < 20 := hi
        refine ⟨due, _, _, rfl, rfl, hd4, by rw [la]; exact Nat.lt_trans hi20 (by decide), fun H5 B5 h5 => ?_⟩
        have nR : ∀ (q : Addr) (k : Nat), H4 q = some (.lst (row k)) → q ≠ due := fun q k hq z => by
          rw [z, hd4] at hq
          have z2 := congrArg List.length (HO.lst.inj (Option.some.inj hq))
          rw [row_len, la] at z2
          omega
        refine ⟨⟨_, _, rfl⟩, ?_, acc ++ [.ref D], h5, by rw [List.length_append, la]; rfl, ?_⟩
        · exact same_but (S.trans S4) n3 B5
        · refine RowsAt.snoc (RowsAt.mono (fun q k hq => B5 _ _ (nR q k (S4 _ _ hq)) (S4 _ _ hq)) R) ?_
          rw [la, Nat.zero_add]
          exact B5 _ _ nD.symm h4
    rintro σ H4 ⟨⟨u, x, rfl⟩, S4, acc, hd, la, R⟩
    -- if table != due: return False
    have hl4 := S4 _ _ hl2
    have hrows4 : RowsAt H4 0 rs := RowsAt.mono (fun q k hq => S4 _ _ hq) hrows
    have d1 : Dp K H4 (.ref l) (.list ((List.range' 0 20).map rowD)) := .lst (SqL.of hl4) (by have z := dp_rows (K := K) hrows4; rw [hlen] at z; exact z)
    have d2 : Dp K H4 (.ref due) (.list ((List.range' 0 20).map rowD)) := .lst (SqL.of hd) (by have z := dp_rows (K := K) R; rw [la] at z; exact z)
    refine ⟨_, rfl, _, rfl, _, _, d1, d2, shaped20, shaped20, _, rfl, iteC (by rw [SeqAt.eqv_refl _ (SeqAt.canLay_of_shaped shaped20)]; rfl) ?_⟩
    -- web
    refine ⟨by show 2 ≤ sizeLine; decide, fun w1 H5 n5 S5 h5 => ⟨by show 1 ≤ sizeLine; decide, fun w2 H6 n6 S6 h6 => ⟨by show 2 ≤ sizeLine; decide, fun w3 H7 n7 S7 h7 => ?_⟩⟩⟩
    have E7 : ExtN H2 H7 := extS (((S4.trans S5).trans S6).trans S7)
    have hW : WebAt K H7 (.ref w3) 2 [(0, 1)] := ⟨w3, w2, rfl, .inl (.inl h7), [w1], .inl (.inl (S7 _ _ h6)), rfl, fun i q a b e1 e2 => by
      cases i with
      | zero =>
        cases e1
        cases e2
        exact .inl (.inl (S7 _ _ (S6 _ _ h5)))
      | succ i => simp at e1⟩
    have T7 : Tabs TT H7 := fun z hz => by
      rcases List.mem_cons.mp hz with e | e
      · rw [e]
        exact tl2.ext (((S4.trans S5).trans S6).trans S7)
      · rw [List.mem_singleton.mp e]
        exact tb2.ext (((S4.trans S5).trans S6).trans S7)
    have ok1 : webOK 2 [(0, 1)] = true := by decide +kernel
    -- neighbours(web, 2)
    refine ⟨T7, fun H8 e8 T8 => ⟨_, rfl, .inr ⟨_, 2, [(0, 1)], 2, rfl, web_ext hW e8, by decide, fun _ _ h => absurd h (by decide), fun h => absurd (ok1.symm.trans h) (by decide), fun _ _ H9 S9 => ⟨1, by decide, rfl, rfl, fun p1 H10 S10 hp1' => ⟨by show 1 ≤ sizeLine; decide, fun fd H11 n11 S11 h11 => ?_⟩⟩⟩⟩⟩
    have S8 : Same H8 H11 := (S9.trans S10).trans S11
    have T11 : Tabs TT H11 := T8.ext S8
    have E11 : ExtN H7 H11 := e8.trans (extS S8)
    have r1 : H11 p1 = some (.lst (row 1)) := S11 _ _ hp1'
    -- round_of(web, 0)
    refine ⟨_, rfl, .inl ⟨rfl, _, SqL.of h11⟩, T11, fun H12 e12 T12 => ⟨_, rfl, _, rfl, web_ext hW (E11.trans e12), T12, fun H13 e13 T13 => ⟨2, by decide, rfl, rfl, fun p2 H14 S14 hp2' => ?_⟩⟩⟩
    have E14 : ExtN H11 H14 := (e12.trans e13).trans (extS S14)
    have T14 : Tabs TT H14 := T13.ext S14
    refine ⟨fd, _, _, rfl, rfl, lst_ext E14 h11, by show 1 < sizeLine; decide, fun H15 B15 h15 => ?_⟩
    have ne15 : ∀ (z : Addr) (k : Nat), H14 z = some (.lst (row k)) → z ≠ fd := fun z k hz e => by
      rw [e, lst_ext E14 h11] at hz
      have z2 := congrArg List.length (HO.lst.inj (Option.some.inj hz))
      rw [row_len] at z2
      cases z2
    have r1' : H15 p1 = some (.lst (row 1)) := B15 _ _ (ne15 _ _ (lst_ext E14 r1)) (lst_ext E14 r1)
    have r2' : H15 p2 = some (.lst (row 2)) := B15 _ _ (ne15 _ _ hp2') hp2'
    have nft : ∀ {Q : Addr} {qq : Str}, TabS H14 Q qq → Q ≠ fd := fun t z => by
      obtain ⟨ps, e, _⟩ := t
      rw [z, lst_ext E14 h11] at e
      cases e
    have T15 : Tabs TT H15 := fun z hz => by
      obtain ⟨ps, g1, g2, g3⟩ := T14 z hz
      refine ⟨ps, B15 _ _ (nft (T14 z hz)) g1, g2, fun pos cv hc => ?_⟩
      obtain ⟨c, k1, k2⟩ := g3 pos cv hc
      refine ⟨c, k1, B15 _ _ (fun e => ?_) k2⟩
      rw [e, lst_ext E14 h11] at k2
      cases k2
    have E15 : ∀ (z : Addr) (xs : List V), z ≠ fd → H7 z = some (.lst xs) → H15 z = some (.lst xs) := fun z xs n h => B15 _ _ n (lst_ext (E11.trans E14) h)
    -- neighbours(None, 0)
    refine ⟨_, rfl, .inl ⟨rfl, _, SqL.of h15⟩, T15, fun H16 e16 T16 => .inl ⟨0, rfl, 0, by decide, rfl, rfl, fun p3 H17 S17 hp3' => ?_⟩⟩
    have E17 : ExtN H15 H17 := e16.trans (extS S17)
    refine ⟨fd, _, _, rfl, rfl, lst_ext E17 h15, by show 2 < sizeLine; decide, fun H18 B18 h18 => ?_⟩
    have ne18 : ∀ (z : Addr) (k : Nat), H17 z = some (.lst (row k)) → z ≠ fd := fun z k hz e => by
      rw [e, lst_ext E17 h15] at hz
      have z2 := congrArg List.length (HO.lst.inj (Option.some.inj hz))
      rw [row_len] at z2
      cases z2
    have f1 : H18 p1 = some (.lst (row 1)) := B18 _ _ (ne18 _ _ (lst_ext E17 r1')) (lst_ext E17 r1')
    have f2 : H18 p2 = some (.lst (row 2)) := B18 _ _ (ne18 _ _ (lst_ext E17 r2')) (lst_ext E17 r2')
    have f3 : H18 p3 = some (.lst (row 0)) := B18 _ _ (ne18 _ _ hp3') hp3'
    -- the table's rows
    have hl7 : H7 l = some (.lst rs) := lst_ext E7 hl2
    have nfd : ∀ z xs, H7 z = some (.lst xs) → z ≠ fd := fun z xs h => ne_of_none (S10 _ _ (S9 _ _ (lst_ext e8 h))) n11
    have E18 : ∀ z xs, H7 z = some (.lst xs) → H18 z = some (.lst xs) := fun z xs h => B18 _ _ (nfd z xs h) (lst_ext E17 (E15 z xs (nfd z xs h) h))
    have hl18 := E18 _ _ hl7
    have rows7 : RowsAt H7 0 rs := RowsAt.mono (fun q k hq => lst_ext E7 hq) hrows
    have item : ∀ i, i < 20 → ∃ z, rs[i]? = some (.ref z) ∧ H18 z = some (.lst (row i)) := fun i hi => by
      obtain ⟨v, hv⟩ : ∃ v, rs[i]? = some v := ⟨_, List.getElem?_eq_getElem (by rw [hlen]; exact hi)⟩
      obtain ⟨z, rfl, hz⟩ := rows7.get hv
      rw [Nat.zero_add] at hz
      exact ⟨z, hv, E18 _ _ hz⟩
    obtain ⟨z0, i0, g0⟩ := item 0 (by decide)
    obtain ⟨z1, i1, g1⟩ := item 1 (by decide)
    obtain ⟨z2, i2, g2⟩ := item 2 (by decide)
    refine ⟨_, rfl, _, rfl, l, _, _, _, rfl, rfl, SqL.of hl18, at_of (j := 1) rfl i1, _, rfl, l, _, _, _, rfl, rfl, SqL.of hl18, at_of (j := 2) rfl i2, _, rfl, l, _, _, _, rfl, rfl, SqL.of hl18, at_of (j := 0) rfl i0, by show 3 ≤ sizeLine; decide, fun lz HZ nz SZ hz => ?_⟩
    refine ⟨.list [rowD 1, rowD 2, rowD 0], .list [rowD 1, rowD 2, rowD 0], .lst (SqL.of (SZ _ _ h18)) (.cons (dp_row (SZ _ _ f1)) (.cons (dp_row (SZ _ _ f2)) (.cons (dp_row (SZ _ _ f3)) .nil))), .lst (SqL.of hz) (.cons (dp_row (SZ _ _ g1)) (.cons (dp_row (SZ _ _ g2)) (.cons (dp_row (SZ _ _ g0)) .nil))), shaped3, shaped3, ?_⟩
    rw [SeqAt.eqv_refl _ (SeqAt.canLay_of_shaped shaped3)]
    exact q HZ
end
end Sb

/-! ## H65 -/
set_option maxHeartbeats 0
namespace Sb
open PySem PySem.Spec PyProof.Rows L2
def dDef (x : Str) (i : Nat) : He.DefD := ⟨(x, none), x, x, defArgs (top i), defBody (top i), defScope (top i), [], []⟩
def fns : List He.DefD := [dDef "is_whole" 23, dDef "rows_of" 24, dDef "steps_from" 25, dDef "bays_above" 27, dDef "bays_climbed" 28, dDef "groups_held" 29, dDef "blocks_with_gates" 30,
  dDef "is_web" 34, dDef "is_tie" 35, dDef "need_web" 36, dDef "need_bay" 38, dDef "neighbours" 39, dDef "round_of" 41, dDef "kind_of" 42, dDef "rows_within" 43,
  dDef "_law_open" 49, dDef "_law_spread" 50, dDef "_law_take" 51, dDef "_law_one_of" 52, dDef "_law_table" 53, dDef "_law_kinds" 54, dDef "_law_caught" 55, dDef "law" 56, dDef "is_bay" 37]
def defNames : List Str := ["is_whole", "rows_of", "steps_from", "bays_above", "bays_climbed", "groups_held", "blocks_with_gates", "is_web", "is_tie", "need_web", "need_bay", "neighbours", "round_of", "kind_of", "rows_within",
  "_law_open", "_law_spread", "_law_take", "_law_one_of", "_law_table", "_law_kinds", "_law_caught", "law"]
def freeNames : List Str := ["len", "int", "list", "enumerate", "range", "isinstance", "str", "ValueError", "LookupError", "tuple", "all", "min", "set", "sorted", "bool"]
def fas : List He.Fa := defNames.map .glo ++ freeNames.map .free ++ [.int "FEWEST_BAYS" 2, .int "MOST_BAYS" 40, .glo "is_bay"]
/-- what the head says of the errors' classes -/
def exOne (K : PySem.W.Frag) (Cs : List Addr) (i : Nat) (C : Addr) : Bool :=
  He.eqO (PySem.W.nsIn K mainGlobals (nm i)) (some (some (.ref C))) && (PySem.W.keepIn K (.ref C) && (PySem.W.excIn K C He.veBase "ValueError.__new__" &&
  (He.eqO (PySem.W.findIn K (.ref C) "__getattribute__") (some (some (.builtin "BaseException.__getattribute__"))) && (He.eqO (PySem.W.findIn K (.ref C) "__getattr__") (some none) &&
  (decide (PySem.W.subIn K (.ref C) (.type "BaseException") = some true) && (PySem.W.hasDictIn K C && (He.eqO (PySem.W.findIn K (.ref C) "__class__") (some (some (.builtin "object.__class__"))) &&
  (decide (PySem.W.mroIn K C (.type "object") = some true) && (He.eqO (PySem.W.findIn K (.ref C) "__str__") (some (some (.builtin "BaseException.__str__"))) &&
  ((List.range 20).all (fun j => decide (PySem.W.kitOne K (.ref C) (.ref (Cs.getD j 0)) = some (decide (i = j)))) &&
  (decide (PySem.W.kitOne K (.ref C) (.ref (Cs.getD 20 0)) = some true) && (decide (PySem.W.kitOne K (.ref C) (.type "ValueError") = some true) && (decide (PySem.W.kitOne K (.ref C) (.type "LookupError") = some false) &&
  (decide (PySem.W.exmOne K (.ref C) (.ref (Cs.getD 20 0)) = some true) && decide (PySem.W.typeIn K (.ref C) = some (.type "type"))))))))))))))))
def clsAt (K : PySem.W.Frag) : List Addr := (List.range 21).map fun i => He.ga K (nm i)
def exAll (K : PySem.W.Frag) (Cs : List Addr) : Bool := (He.eqO (PySem.W.specialIn K (.builtin "object.__class__") "__get__") (some (some (.builtin "getset_descriptor.__get__"))) && decide (PySem.W.takesIn K (.builtin "object.__class__") = some true)) &&
  (List.range 21).all fun i => exOne K Cs i (Cs.getD i 0)
def exs (K : PySem.W.Frag) : Bool := exAll K (clsAt K) && decide ((He.cT K ("law", none)).2 ≠ (He.cT K ("blocks_with_gates", none)).2)
def tfs : List He.Defn := [("blocks_with_gates", none), ("law", none)]
abbrev R65 : PySem.W.OpenRow := PySem.W.OpenLaw.row PySem.Challenge.rw_sparebay_k65_errors
abbrev hk : PySem.W.Hook := He.hookX 4 fas fns [] tfs exs
def ob (s : PySem.W.SharedT) : He.AlX := He.obsX 4 fas fns [] tfs exs (HandSHeadRun.getT s)
theorem ob_eq (s : PySem.W.SharedT) : ob s = hk.obs s.abs := He.obsX_eq (HandSHeadRun.getT_eq s)
def loose1 : List Str := ["NoWeb", "NoBay", "NoBlock", "NoStanding", "NoMatch", "BadMove", "NoMoves", "NoTour", "NoCount", "NoWish", "NoYard", "NoPiece", "NoWay", "NoDeed", "NoUndo", "NoThings", "TooGreat", "NoTie", "Parted", "NotKept", "BayError", "FEWEST_BAYS", "MOST_BAYS"]
def loose2 : List Str := ["is_whole", "rows_of", "steps_from", "two_sides", "bays_above", "bays_climbed", "groups_held", "blocks_with_gates", "is_web", "is_tie", "need_web", "is_bay", "need_bay", "neighbours", "round_of", "kind_of", "rows_within", "ways_of_seven", "forks_of", "bays_passed", "round_from", "_law_open", "_law_spread", "_law_take", "_law_one_of", "_law_table", "_law_kinds", "_law_caught"]
def loose : List Str := loose1 ++ loose2
theorem run (w : World) : HandSHeadRun.RunEq R65 (PySem.W.view R65.prog [56]) hk ob 6000 loose w := by
  intro os
  kernel_rfl
end Sb

/-! ## B65 -/
/-! Blocks: bays_above, bays_climbed. -/
namespace Sb
open PySem PySem.Spec PyProof.Rows L2
abbrev sAbove : Stmt := top 27
abbrev sClimb : Stmt := top 28
/-- the bays nearer to bay 0 among those tied to a bay -/
def nearer (rss : List (List Int)) (away : List Int) (b : Nat) : List Int := (rss.getD b []).filter fun z => decide (away.getD z.toNat 0 < away.getD b 0)
def aboveOf (rss : List (List Int)) (away : List Int) : List Int := 0 :: (List.range (rss.length - 1)).map fun i => (nearer rss away (i + 1)).headD 0
def spAbove : Sp := fun vs H Q _ => ∃ (l : Addr) (ps : List Addr) (rss : List (List Int)) (a : Addr) (away : List Int), vs = [.ref l, .ref a] ∧ RowsL H l ps rss ∧ H a = some (.lst (away.map V.int)) ∧ RowsIn rss.length rss ∧ away.length = rss.length ∧ 1 ≤ rss.length ∧ rss.length ≤ 1000 ∧
  (∀ k, (rss.getD k []).length ≤ 1000000) ∧ (∀ b, 1 ≤ b → b < rss.length → nearer rss away b ≠ []) ∧ ∀ p H', Same H H' → H p = none → H' p = some (.lst ((aboveOf rss away).map V.int)) → Q (.ref p) H'
section
variable {X : Cx}
theorem ix_listK {K : PySem.W.Frag} (hK : X.K = K := by rfl) : IxR X (rIxL K) := hK ▸ ix_list
end
section
variable {P : Program} {w : World} {K : PySem.W.Frag} {mg : Str → Option Value} {base : Heap} {C : Nat → Addr}
abbrev scAboveN : List Str := ["rows", "away", "above", "bay", "nearer", "near"]
abbrev scAboveS : Scope := defScope sAbove
theorem scAbove : FnScope ["rows", "away", "above", "bay", "nearer", "near"] ["rows", "away"] (defScope sAbove) := ⟨rfl, rfl, rfl, by decide +kernel, rfl, by decide +kernel, by decide +kernel⟩
theorem filter_more {α : Type} {l : List α} {p : α → Bool} {i : Nat} {x : α} (h : l[i]? = some x) : (l.take (i + 1)).filter p = (l.take i).filter p ++ (if p x = true then [x] else []) := by
  rw [take_more h, List.filter_append]
  congr 1
  cases e : p x with
  | true => rw [List.filter_cons_of_pos e]; rfl
  | false => rw [List.filter_cons_of_neg (by rw [e]; exact Bool.false_ne_true)]; rfl
theorem ok_above {f : Addr} {fd : FuncData} (F : FnP K "bays_above" sAbove f fd) (T : WebTxt mg) : FnOk P w K mg base CX0 1 f fd ["rows", "away"] spAbove := by
  refine ok0 F scAbove (fun vs H Q E h => ?_) (fun cdv A outer s H vs Q E hr h => ?_)
  · obtain ⟨l, ps, rss, a, away, rfl, _⟩ := h
    rfl
  · obtain ⟨l, ps, rss, a, away, rfl, R, ha, hR, hal, h1, hn, hsz, hne, q⟩ := h
    refine ⟨_, (pss_cons (ps_set (i := 2) scAbove.nd rfl (Or.inl rfl) (pe_lstL (pa_cons pe_int pa_nil)))
    (pss_cons (ps_for PassesOwn.never rfl (pi_range2 (by rfl) T.range (pa_cons pe_int (pa_cons (pe_callB (id := "len") call_len_seq (by rfl) T.len (by decide +kernel) (pa_cons (pv 0) pa_nil)) pa_nil))) (pg_name (i := 3) scAbove.nd rfl (Or.inr rfl))
      (pss_cons (ps_setLc (i := 4) (own := [("near", 5)]) (g := gName 5) (by rfl) scAbove.nd rfl rfl (sw_true rfl rfl rfl (by decide +kernel)) (pi_list (pe_ix ix_list (pv 0) (pv 3) (fun _ _ => rfl))) (blkOk_by (own := [("near", 5)]) (N := scAboveN) (sc := scAboveS) (by decide +kernel)) (fun _ _ _ _ _ => pg_name (i := 5) scAbove.nd rfl (Or.inl rfl)) (fun _ _ _ _ _ => pts_one (pt_cmpR op_lt (pe_ix (ix_listK (K := K)) (pv 1) (pv 5) (fun _ _ => rfl)) (pe_ix (ix_listK (K := K)) (pv 1) (pv 3) (fun _ _ => rfl)) (nomark _))) (fun _ _ _ _ _ => (pv 5)))
    (pss_one (ps_expr (pe_bm PySem.F.plainAttrs_list PySem.F.slot_list_append PySem.F.type_list_append mt_appendL (pv 2) (pa_cons (pe_ix ix_list (pv 4) pe_int (fun _ _ => rfl)) pa_nil))))))
    (pss_one (ps_ret (pv 2))))), ?_⟩
    refine ⟨by show 1 ≤ sizeLine; decide, fun ab H1 n1 s1 h1' => ?_⟩
    have hlen : (ps.map V.ref).length = rss.length := by rw [List.length_map, R.len]
    refine ⟨_, rfl, l, _, rfl, .inl (SqL.of (s1 _ _ R.at_)), _, _, rfl, ⟨by omega, by omega, by omega, by omega⟩, for_range (lo := 1) (n := (((ps.map V.ref).length : Int) - 1).toNat) (fun i σ H' => (∃ u v x, σ = [some (.ref l), some (.ref a), some (.ref ab), u, v, x]) ∧ Same H H' ∧ H' ab = some (.lst ((0 :: (List.range i).map fun j => (nearer rss away (j + 1)).headD 0).map V.int)))
      ⟨⟨none, none, none, rfl⟩, s1, h1'⟩ ?_ ?_⟩
    · rintro i σ H' hi ⟨⟨u, v, x, rfl⟩, S, hab⟩
      rw [List.length_map, R.len] at hi
      have hi2 : i + 1 < rss.length := by omega
      have bt : ((1 : Int) + (i : Nat)).toNat = i + 1 := by omega
      obtain ⟨p, gp, xp⟩ := R.get (i := 1 + (i : Nat)) (by omega) (by omega)
      rw [bt] at gp
      have rp := R.row _ _ gp
      have ea : atI (away.map V.int) (1 + (i : Nat)) = some (.int (away.getD (i + 1) 0)) := by
        have z := atI_map (l := away) (i := 1 + (i : Nat)) (by omega) (by rw [hal]; omega)
        rw [bt] at z
        exact z
      refine ⟨_, rfl, _, rfl, l, _, _, _, rfl, rfl, SqL.of (S _ _ R.at_), xp, p, rfl, ⟨_, SqL.of (S _ _ rp)⟩, fun D hD => lc_list (K := K) (a := p) (xs := (rss.getD (i + 1) []).map V.int) (fun j H2 => Same H' H2 ∧ H2 D = some (.lst ((((rss.getD (i + 1) []).take j).filter fun z => decide (away.getD z.toNat 0 < away.getD (i + 1) 0)).map V.int)))
        ⟨same_upd hD, by rw [upd_same, List.take_zero]; rfl⟩ (fun j H2 _ ⟨S2, _⟩ => SqL.of (S2 _ _ (S _ _ rp))) ?_ ?_⟩
      · rintro j y H2 hj ⟨S2, e2⟩
        obtain ⟨z, hz, rfl⟩ := getMap hj
        obtain ⟨z0, z1⟩ := hR (i + 1) z (List.mem_of_getElem? hz)
        have S3 := S.trans S2
        refine ⟨rfl, _, rfl, _, rfl, a, _, _, _, rfl, rfl, SqL.of (S3 _ _ ha), atI_map z0 (by rw [hal]; exact z1), _, rfl, _, rfl, a, _, _, _, rfl, rfl, SqL.of (S3 _ _ ha), ea, _, _, rfl, rfl, _, rfl, ?_⟩
        have fm := filter_more (p := fun z => decide (away.getD z.toNat 0 < away.getD (i + 1) 0)) hz
        refine ite2 (fun hc => ?_) (fun hc => ?_)
        · rw [if_pos hc] at fm
          refine ⟨_, rfl, _, e2, ?_, fun b o hb => by rw [upd_ne (ne_of_none hb hD)]; exact S2 _ _ hb, ?_⟩
          · rw [List.length_map]
            refine Nat.lt_of_le_of_lt (List.length_filter_le _ _) ?_
            have hz := hsz (i + 1)
            rw [List.length_take, sizeLine_eq]
            omega
          · rw [upd_same, fm, List.map_append]
            rfl
        · rw [if_neg hc, List.append_nil] at fm
          exact ⟨S2, by rw [e2, fm]⟩
      rintro H2 ⟨S2, e2⟩
      rw [List.length_map, List.take_length] at e2
      have e2 : H2 D = some (.lst ((nearer rss away (i + 1)).map V.int)) := e2
      have hne' := hne (i + 1) (by omega) hi2
      have hd : ∃ z r, nearer rss away (i + 1) = z :: r := by
        cases e : nearer rss away (i + 1) with
        | nil => exact absurd e hne'
        | cons z r => exact ⟨z, r, rfl⟩
      obtain ⟨z, r, ez⟩ := hd
      rw [ez] at e2
      have hab2 := S2 _ _ hab
      refine ⟨_, rfl, .inl ⟨rfl, _, SqL.of hab2⟩, _, rfl, D, _, _, .int z, rfl, rfl, SqL.of e2, at_of (j := 0) rfl rfl, ab, _, _, rfl, rfl, hab2, ?_, fun H3 B3 h3 => ⟨⟨_, _, _, rfl⟩, same_but (S.trans S2) n1 B3, ?_⟩⟩
      · rw [List.length_map, List.length_cons, List.length_map, List.length_range]
        exact small1000 (by omega)
      · rw [h3, List.range_succ, List.map_append, ← List.cons_append, List.map_append]
        show some (HO.lst (_ ++ [V.int z])) = some (HO.lst (_ ++ [V.int ((nearer rss away (i + 1)).headD 0)]))
        rw [ez]
        rfl
    · rintro σ H' ⟨⟨u, v, x, rfl⟩, S, hab⟩
      refine ⟨_, rfl, q ab H' S n1 ?_⟩
      have e : (((ps.map V.ref).length : Int) - 1).toNat = rss.length - 1 := by rw [List.length_map, R.len]; omega
      rw [e] at hab
      exact hab
end
/-! ### bays_climbed -/
def climb (above away : List Int) : Nat → Int → Int → List Int
  | 0, _, _ => []
  | k + 1, a, b => if a = b then [] else if away.getD a.toNat 0 < away.getD b.toNat 0 then b :: climb above away k (above.getD b.toNat 0) a else a :: climb above away k (above.getD a.toNat 0) b
/-- the bays' steps and the bays above them, as a tree of n bays -/
structure Tree (n : Nat) (above away : List Int) : Prop where
  la : above.length = n
  lw : away.length = n
  ra : ∀ z ∈ above, 0 ≤ z ∧ z < (n : Int)
  low : ∀ i, 0 ≤ away.getD i 0
  zero : ∀ i, i < n → away.getD i 0 = 0 → i = 0
  root : away.getD 0 0 = 0
  less : ∀ i, i < n → i ≠ 0 → away.getD (above.getD i 0).toNat 0 < away.getD i 0
def spClimb : Sp := fun vs H Q _ => ∃ (l m : Addr) (above away : List Int) (n : Nat) (a b : Int), vs = [.ref l, .ref m, .int a, .int b] ∧ H l = some (.lst (above.map V.int)) ∧ H m = some (.lst (away.map V.int)) ∧ Tree n above away ∧ 0 ≤ a ∧ a < (n : Int) ∧ 0 ≤ b ∧ b < (n : Int) ∧
  (away.getD a.toNat 0).toNat + (away.getD b.toNat 0).toNat ≤ 1000000 ∧
  ∀ p H', Same H H' → H p = none → H' p = some (.lst ((climb above away ((away.getD a.toNat 0).toNat + (away.getD b.toNat 0).toNat) a b).map V.int)) → Q (.ref p) H'
theorem getD_mem {l : List Int} {i : Nat} (h : i < l.length) : l.getD i 0 ∈ l := by
  rw [List.getD_eq_getElem?_getD, List.getElem?_eq_getElem h]
  exact List.getElem_mem h
theorem Tree.up {n : Nat} {above away : List Int} (T : Tree n above away) {a b : Int} (a0 : 0 ≤ a) (a1 : a < (n : Int)) (b0 : 0 ≤ b) (b1 : b < (n : Int)) (hab : a ≠ b) (hw : away.getD b.toNat 0 ≤ away.getD a.toNat 0) :
    (0 ≤ above.getD a.toNat 0 ∧ above.getD a.toNat 0 < (n : Int)) ∧ (away.getD (above.getD a.toNat 0).toNat 0).toNat < (away.getD a.toNat 0).toNat := by
  have an : a.toNat ≠ 0 := fun z => by
    rw [z, T.root] at hw
    have h1 := T.low b.toNat
    have h2 := T.zero b.toNat (by omega) (by omega)
    omega
  have hl := T.less a.toNat (by omega) an
  have lo := T.low (above.getD a.toNat 0).toNat
  exact ⟨T.ra _ (getD_mem (by rw [T.la]; omega)), by omega⟩
def ClimbInv (H : Hp) (l m p : Addr) (above away : List Int) (n : Nat) (R : List Int) (k : Nat) (σ : L2.St) (H' : Hp) : Prop :=
  ∃ (a b : Int) (acc : List Int), σ = [some (.ref l), some (.ref m), some (.int a), some (.int b), some (.ref p)] ∧ Same H H' ∧ H' p = some (.lst (acc.map V.int)) ∧ 0 ≤ a ∧ a < (n : Int) ∧ 0 ≤ b ∧ b < (n : Int) ∧
    (away.getD a.toNat 0).toNat + (away.getD b.toNat 0).toNat ≤ k ∧ acc.length + k ≤ 1000000 ∧ acc ++ climb above away k a b = R
theorem climb_eq {above away : List Int} {a : Int} : ∀ k, climb above away k a a = []
  | 0 => rfl
  | _ + 1 => if_pos rfl
section
variable {P : Program} {w : World} {K : PySem.W.Frag} {mg : Str → Option Value} {base : Heap} {C : Nat → Addr}
theorem scClimb : FnScope ["above", "away", "a", "b", "climbed"] ["above", "away", "a", "b"] (defScope sClimb) := ⟨rfl, rfl, rfl, by decide +kernel, rfl, by decide +kernel, by decide +kernel⟩
theorem ok_climb {f : Addr} {fd : FuncData} (F : FnP K "bays_climbed" sClimb f fd) : FnOk P w K mg base CX0 1 f fd ["above", "away", "a", "b"] spClimb := by
  refine ok0 F scClimb (fun vs H Q E h => ?_) (fun cdv A outer s H vs Q E hr h => ?_)
  · obtain ⟨l, m, above, away, n, a, b, rfl, _⟩ := h
    rfl
  · obtain ⟨l, m, above, away, n, a, b, rfl, hl, hm, T, a0, a1, b0, b1, hk, q⟩ := h
    refine ⟨_, (pss_cons (ps_set (i := 4) scClimb.nd rfl (Or.inl rfl) (pe_lstL pa_nil))
    (pss_cons (ps_while PassesOwn.never (pt_cmpR op_ne (pv 2) (pv 3) (nomark _))
      (pss_cons (ps_if (pt_cmpR op_lt (pe_ix ix_list (pv 1) (pv 2) (fun _ _ => rfl)) (pe_ix ix_list (pv 1) (pv 3) (fun _ _ => rfl)) (nomark _))
      (pss_one (ps_par (i := 2) (j := 3) (by rfl) scClimb.nd rfl rfl (by decide) rfl rfl (pa_cons (pv 3) (pa_cons (pv 2) pa_nil)) (by rfl)))
      pss_nil)
    (pss_cons (ps_expr (pe_bm PySem.F.plainAttrs_list PySem.F.slot_list_append PySem.F.type_list_append mt_appendL (pv 4) (pa_cons (pv 2) pa_nil)))
    (pss_one (ps_set (i := 2) scClimb.nd rfl (Or.inl rfl) (pe_ix ix_list (pv 0) (pv 2) (fun _ _ => rfl)))))))
    (pss_one (ps_ret (pv 4))))), ?_⟩
    refine ⟨by show 0 ≤ sizeLine; decide, fun p H1 n1 s1 h1 => ?_⟩
    refine ⟨ClimbInv H l m p above away n (climb above away ((away.getD a.toNat 0).toNat + (away.getD b.toNat 0).toNat) a b), ⟨_, a, b, [], rfl, s1, h1, a0, a1, b0, b1, Nat.le_refl _, by rw [List.length_nil]; omega, rfl⟩, ?_⟩
    rintro k σ H' ⟨a, b, acc, rfl, S, hp, a0, a1, b0, b1, hk, hz, hR⟩
    refine ⟨_, rfl, _, rfl, rfl, _, rfl, ?_⟩
    by_cases hab : a = b
    · subst hab
      rw [climb_eq, List.append_nil] at hR
      rw [hR] at hp
      exact iteC (by rw [decide_eq_true rfl]; rfl) ⟨_, rfl, q p H' S n1 hp⟩
    · have hne : (!decide (V.int a = V.int b)) = true := by
        rw [decide_eq_false (fun z => hab (V.int.inj z))]
        rfl
      have hm' : H' m = some (.lst (away.map V.int)) := S _ _ hm
      have ea := atI_map (l := away) a0 (by rw [T.lw]; exact a1)
      have eb := atI_map (l := away) b0 (by rw [T.lw]; exact b1)
      have hk0 : k ≠ 0 := fun z => by
        have h1 := T.low a.toNat
        have h2 := T.low b.toNat
        have h3 := T.zero a.toNat (by omega) (by omega)
        have h4 := T.zero b.toNat (by omega) (by omega)
        omega
      obtain ⟨k', rfl⟩ : ∃ k', k = k' + 1 := ⟨k - 1, by omega⟩
      refine iteD hne ⟨ClimbInv H l m p above away n _ k', fun σ' H'' h => ⟨k', Nat.lt_succ_self _, h⟩, ?_⟩
      refine ⟨_, rfl, _, rfl, m, _, _, _, rfl, rfl, SqL.of hm', ea, _, rfl, _, rfl, m, _, _, _, rfl, rfl, SqL.of hm', eb, _, _, rfl, rfl, _, rfl, ?_⟩
      refine ite2 (fun hc => ?_) (fun hc => ?_)
      · have hc : away.getD a.toNat 0 < away.getD b.toNat 0 := of_decide_eq_true hc
        obtain ⟨⟨u0, u1⟩, ul⟩ := T.up b0 b1 a0 a1 (fun z => hab z.symm) (by omega)
        have eR : acc ++ climb above away (k' + 1) a b = (acc ++ [b]) ++ climb above away k' (above.getD b.toNat 0) a := by
          show acc ++ (if a = b then [] else if away.getD a.toNat 0 < away.getD b.toNat 0 then b :: climb above away k' (above.getD b.toNat 0) a else a :: climb above away k' (above.getD a.toNat 0) b) = _
          rw [if_neg hab, if_pos hc, List.append_assoc]
          rfl
        rw [eR] at hR
        refine ⟨_, rfl, _, rfl, _, _, rfl, ?_⟩
        refine ⟨_, rfl, .inl ⟨rfl, _, SqL.of hp⟩, _, rfl, p, _, _, rfl, rfl, hp, by rw [List.length_map, sizeLine_eq]; omega, fun H2 B2 h2 => ?_⟩
        have S2 := same_but S n1 B2
        refine ⟨_, rfl, _, rfl, l, _, _, _, rfl, rfl, SqL.of (S2 _ _ hl), atI_map b0 (by rw [T.la]; exact b1), ?_⟩
        exact ⟨_, _, acc ++ [b], rfl, S2, by rw [h2, List.map_append]; rfl, u0, u1, a0, a1, by omega, by rw [List.length_append, List.length_singleton]; omega, hR⟩
      · have hc : ¬ away.getD a.toNat 0 < away.getD b.toNat 0 := fun z => hc (decide_eq_true z)
        obtain ⟨⟨u0, u1⟩, ul⟩ := T.up a0 a1 b0 b1 hab (by omega)
        have eR : acc ++ climb above away (k' + 1) a b = (acc ++ [a]) ++ climb above away k' (above.getD a.toNat 0) b := by
          show acc ++ (if a = b then [] else if away.getD a.toNat 0 < away.getD b.toNat 0 then b :: climb above away k' (above.getD b.toNat 0) a else a :: climb above away k' (above.getD a.toNat 0) b) = _
          rw [if_neg hab, if_neg hc, List.append_assoc]
          rfl
        rw [eR] at hR
        refine ⟨_, rfl, .inl ⟨rfl, _, SqL.of hp⟩, _, rfl, p, _, _, rfl, rfl, hp, by rw [List.length_map, sizeLine_eq]; omega, fun H2 B2 h2 => ?_⟩
        have S2 := same_but S n1 B2
        refine ⟨_, rfl, _, rfl, l, _, _, _, rfl, rfl, SqL.of (S2 _ _ hl), atI_map a0 (by rw [T.la]; exact a1), ?_⟩
        exact ⟨_, _, acc ++ [a], rfl, S2, by rw [h2, List.map_append]; rfl, u0, u1, b0, b1, by omega, by rw [List.length_append, List.length_singleton]; omega, hR⟩
end
end Sb

/-! ## K65 -/
/-! groups_held of the web of one tie. -/
namespace Sb
open PySem PySem.Spec PyProof.Rows L2
abbrev sGroups : Stmt := top 29
def rss2 : List (List Int) := [[1], [0]]
theorem tree2 : Tree 2 [0, 0] [0, 1] where
  la := rfl
  lw := rfl
  ra := by decide
  low := fun i => match i with
    | 0 => by decide
    | 1 => by decide
    | i + 2 => by show (0 : Int) ≤ ([] : List Int).getD i 0; simp
  zero := fun i hi h => match i, hi, h with
    | 0, _, _ => rfl
    | 1, _, h => by cases h
  root := rfl
  less := fun i hi h0 => match i, hi, h0 with
    | 0, _, h => absurd rfl h
    | 1, _, _ => by decide
def spGroups : Sp := fun vs H Q _ => ∃ (l m r : Addr) (ps : List Addr), vs = [.ref l, .ref m, .ref r] ∧ RowsL H l ps rss2 ∧ H m = some (.lst ([0, 0].map V.int)) ∧ H r = some (.lst ([0, 1].map V.int)) ∧ ∀ g H', Same H H' → H g = none → H' g = some (.lst ([0, 1].map V.int)) → Q (.ref g) H'
structure SetTxt (mg : Str → Option Value) : Prop where
  set : mg "set" = none
  sorted : mg "sorted" = none
  list : mg "list" = none
  enumerate : mg "enumerate" = none
section
variable {P : Program} {w : World} {K : PySem.W.Frag} {mg : Str → Option Value} {base : Heap} {C : Nat → Addr}
abbrev scGroupsN : List Str := ["rows", "above", "away", "groups", "a", "row", "b", "joined", "bay", "group"]
abbrev scGroupsS : Scope := defScope sGroups
theorem scGroups : FnScope ["rows", "above", "away", "groups", "a", "row", "b", "joined", "bay", "group"] ["rows", "above", "away"] (defScope sGroups) := ⟨rfl, rfl, rfl, by decide +kernel, rfl, by decide +kernel, by decide +kernel⟩
theorem ok_groups {f fC : Addr} {fd fdC : FuncData} (F : FnP K "groups_held" sGroups f fd) (T : WebTxt mg) (T3 : SetTxt mg) (FC : FnP K "bays_climbed" sClimb fC fdC) (gC : mg "bays_climbed" = some (.ref fC)) : FnOk P w K mg base CX0 2 f fd ["rows", "above", "away"] spGroups := by
  have GC : FnOk P w K mg base CX0 1 fC fdC ["above", "away", "a", "b"] spClimb := ok_climb FC
  have bC : Binds K fdC ["above", "away", "a", "b"] [] := FC.bindsN fun _ _ _ _ _ _ us hl => match us, hl with | [_, _, _, _], _ => rfl
  refine ok0 F scGroups (fun vs H Q E h => ?_) (fun cdv A outer s H vs Q E hr h => ?_)
  · obtain ⟨l, m, r, ps, rfl, _⟩ := h
    rfl
  · obtain ⟨l, m, r, ps, rfl, R, hm, hw, q⟩ := h
    refine ⟨_, (pss_cons (ps_set (i := 3) scGroups.nd rfl (Or.inr rfl) (pe_listRg rfl rfl T3.list (prg_1 rfl T.range (pe_callB (id := "len") call_len_seq (by rfl) T.len (by decide +kernel) (pa_cons (pv 0) pa_nil)))))
    (pss_cons (ps_for PassesOwn.never rfl (pi_enum (by rfl) T3.enumerate (pa_cons (pv 0) pa_nil)) (pg_tup (by rfl) (pgs_cons (pg_name (i := 4) scGroups.nd rfl (Or.inl rfl)) (pgs_cons (pg_name (i := 5) scGroups.nd rfl (Or.inl rfl)) pgs_nil)))
      (pss_one (ps_for PassesOwn.never rfl (pi_list (pv 5)) (pg_name (i := 6) scGroups.nd rfl (Or.inl rfl))
      (pss_cons (ps_set (i := 7) scGroups.nd rfl (Or.inr rfl) (pe_lc (own := [("bay", 8)]) (g := gName 8) (by rfl) scGroups.nd (pi_list (pe_call GC hr rfl gC FC.kp bC .nil pass0 (pa_cons (pv 1) (pa_cons (pv 2) (pa_cons (pv 4) (pa_cons (pv 6) pa_nil)))))) (blkOk_by (own := [("bay", 8)]) (N := scGroupsN) (sc := scGroupsS) (by decide +kernel)) (fun _ _ _ _ _ => pg_name (i := 8) scGroups.nd rfl (Or.inl rfl)) (fun _ _ _ _ _ => pts_nil) (fun _ _ _ _ _ => (pe_ix (ix_listK (K := K)) (pv 3) (pv 8) (fun _ _ => rfl)))))
    (pss_one (ps_if (pt_cmpR op_gt (RZ.pe_lenSetI rfl T.len rfl T3.set (pv 7)) pe_int (nomark _))
      (pss_one ps_never)
      pss_nil))))))
    (pss_one (ps_ret (pv 3))))), ?_⟩
    have len2 : (ps.map V.ref).length = 2 := by rw [List.length_map, R.len]; rfl
    refine ⟨_, rfl, l, _, rfl, .inl (SqL.of R.at_), _, rfl, RgOk.of_le (by decide) (by rw [len2]; decide) (by decide) (by rw [len2]; decide), fun g ng => ?_⟩
    have eg : (upd H g (.lst (rgV 0 ((ps.map V.ref).length : Nat)))) g = some (.lst ([0, 1].map V.int)) := by
      rw [upd_same, len2]
      rfl
    have Sg : Same H (upd H g (.lst (rgV 0 ((ps.map V.ref).length : Nat)))) := same_upd ng
    generalize upd H g (.lst (rgV 0 ((ps.map V.ref).length : Nat))) = H1 at eg Sg
    have RL : SqL K H1 l (ps.map V.ref) := SqL.of (Sg _ _ R.at_)
    refine ⟨_, rfl, l, ps.map V.ref, rfl, RL, for_it walk_enum (fun i σ H' => (∃ u v x y, σ = [some (.ref l), some (.ref m), some (.ref r), some (.ref g), u, v, x, y, none, none]) ∧ Same H H' ∧ H' g = some (.lst ([0, 1].map V.int))) ⟨⟨none, none, none, none, rfl⟩, Sg, eg⟩ (fun i σ H' _ ⟨_, S, _⟩ => S.seq (SqL.of R.at_)) ?_ ?_⟩
    · rintro i x σ H2 H3 hi ⟨⟨u, v, x', y', rfl⟩, S, hg⟩ ⟨t, y1, y2, rfl, nt, rfl, hx, hy⟩
      cases hx
      rw [len2] at hi
      obtain ⟨p, hp, rfl⟩ := getMapR (show (ps.map V.ref)[i]? = some y2 from hy)
      have rp := R.row i p hp
      have St : Same H2 (upd H2 t (.tup [V.int (i : Nat), .ref p])) := same_upd nt
      have S3 := S.trans St
      refine ⟨t, _, rfl, .inl (.inl upd_same), rfl, _, _, rfl, _, _, rfl, rfl, ?_⟩
      have hg3 := St _ _ hg
      generalize upd H2 t (.tup [V.int (i : Nat), .ref p]) = H4 at S3 hg3
      refine ⟨_, rfl, p, rfl, ⟨_, SqL.of (S3 _ _ rp)⟩, for_list (K := K) (a := p) (xs := (rss2.getD i []).map V.int) (fun j σ H' => (∃ x y, σ = [some (.ref l), some (.ref m), some (.ref r), some (.ref g), some (.int (i : Nat)), some (.ref p), x, y, none, none]) ∧ Same H H' ∧ H' g = some (.lst ([0, 1].map V.int))) ⟨⟨_, _, rfl⟩, S3, hg3⟩ (fun j σ H' _ ⟨_, S', _⟩ => SqL.of (S' _ _ rp)) ?_ ?_⟩
      · rintro j y σ H5 hj ⟨⟨x, z, rfl⟩, S5, hg5⟩
        obtain ⟨b, hb, rfl⟩ := getMap hj
        have key : (0 : Int) ≤ (i : Nat) ∧ ((i : Nat) : Int) < ((2 : Nat) : Int) ∧ 0 ≤ b ∧ b < ((2 : Nat) : Int) ∧ (([0, 1] : List Int).getD ((i : Nat) : Int).toNat 0).toNat + (([0, 1] : List Int).getD b.toNat 0).toNat ≤ 1000000 ∧
            climb [0, 0] [0, 1] ((([0, 1] : List Int).getD ((i : Nat) : Int).toNat 0).toNat + (([0, 1] : List Int).getD b.toNat 0).toNat) ((i : Nat) : Int) b = [1] := by
          have hm := List.mem_of_getElem? hb
          match i, hi, hm with
          | 0, _, hm =>
            have e : b = 1 := List.mem_singleton.mp hm
            subst e
            decide +kernel
          | 1, _, hm =>
            have e : b = 0 := List.mem_singleton.mp hm
            subst e
            decide +kernel
        obtain ⟨k1, k2, k3, k4, k5, k6⟩ := key
        refine ⟨_, rfl, _, rfl, _, rfl, _, rfl, m, r, [0, 0], [0, 1], 2, _, b, rfl, S5 _ _ hm, S5 _ _ hw, tree2, k1, k2, k3, k4, k5, fun c H6 S6 n6 h6 => ?_⟩
        rw [k6] at h6
        have S56 := S5.trans S6
        have hg6 := S6 _ _ hg5
        refine ⟨c, rfl, ⟨_, SqL.of h6⟩, fun D hD => lc_list (K := K) (a := c) (xs := [1].map V.int) (fun k H' => Same H6 H' ∧ H' D = some (.lst (List.replicate k (V.int 1)))) ⟨same_upd hD, upd_same⟩ (fun k H' _ ⟨S', _⟩ => SqL.of (S' _ _ h6)) ?_ ?_⟩
        · rintro k y H7 hk ⟨S7, h7⟩
          obtain ⟨z, hz, rfl⟩ := getMap hk
          have ez : z = 1 := List.mem_singleton.mp (List.mem_of_getElem? hz)
          subst ez
          have hk1 : k < 1 := (List.getElem?_eq_some_iff.mp hz).1
          refine ⟨rfl, _, rfl, _, rfl, g, _, _, _, rfl, rfl, SqL.of (S7 _ _ hg6), at_of (j := 1) rfl rfl, _, h7, by rw [List.length_replicate]; exact small1000 (by omega), fun b o hb => by rw [upd_ne (ne_of_none hb hD)]; exact S7 _ _ hb, ?_⟩
          rw [upd_same, List.replicate_succ']
        rintro H7 ⟨S7, h7⟩
        have h7 : H7 D = some (.lst ([1].map V.int)) := h7
        refine ⟨_, rfl, D, [1], rfl, SqL.of h7, by decide, by decide, _, _, rfl, rfl, _, rfl, iteC (by decide) ?_⟩
        exact ⟨⟨_, _, rfl⟩, S56.trans S7, S7 _ _ hg6⟩
      · rintro σ H5 ⟨⟨x, z, rfl⟩, S5, hg5⟩
        exact ⟨⟨_, _, _, _, rfl⟩, S5, hg5⟩
    · rintro σ H2 ⟨⟨u, v, x, y, rfl⟩, S, hg⟩
      exact ⟨_, rfl, q g H2 S ng hg⟩
end
end Sb

/-! ## M65 -/
/-! The least by a row of numbers: min(xs, key=lambda a: row[a]). -/
namespace Sb
open PySem PySem.Spec PyProof.Rows L2
section
variable {X : Cx}
/-- the frame's record may have been laid anew with the same names; all else stood -/
theorem inv_framed {pins : List (Addr × Obj)} {s : Shared} {σ : L2.St} {H : Hp} {h' : Heap} {m : Str → Option Value} {t' : Nat} (I : Inv X pins σ H s) (hm : s.heap.Ns X.env.locals m) (hm' : h'.Ns X.env.locals m) (k : ∀ b o, b ≠ X.env.locals → s.heap.get? b = some o → h'.get? b = some o) :
    Inv X pins σ H { s with heap := h', toks := t' } := by
  have ne : ∀ b u, H b = some u → b ≠ X.env.locals := fun b u e z => by
    rw [z, I.free] at e
    cases e
  refine I.step (g' := s.gens) (d' := s.drawn) (ch := []) (fun b hb => absurd hb (by simp)) (fun b o n _ _ e _ => k b o n e) (fun b o n _ _ e _ => ⟨o.slots, k b o n e⟩) (fun _ _ _ _ n => n) (fun b o _ e => ?_) (fun _ _ e => e) (fun _ _ _ e => e)
    (fun b ps e => ⟨#[], by simp [e]⟩) (fun m2 h2 => ?_) (fun b u e => ?_) I.bare
  · by_cases hb : b = X.env.locals
    · obtain ⟨o2, _, _, h2, _⟩ := hm'
      exact ⟨o2, by rw [hb]; exact h2⟩
    · exact ⟨o, k b o hb e⟩
  · rw [h2.eq_nsMap, ← hm.eq_nsMap]
    exact hm'
  · refine (I.hok b u e).stay (fun d v hd q => k d v ?_ q) (fun _ q => q) (fun _ _ q => q)
    rcases hd with z | z
    · rw [z]
      exact ne b u e
    · exact ne d _ z
/-- what is read of min(xs, key=lambda a: row[a]), row the i-th slot -/
def tMinBy (K : PySem.W.Frag) (T : List (Addr × Str)) (i : Nat) (te : TE) : TE := fun σ H Q => te σ H fun x H1 => ∃ (l d : Addr) (ns ds : List Int), x = .ref l ∧ σ[i]? = some (some (.ref d)) ∧ LamX.Tabs T H1 ∧ 0 < ns.length ∧ SqL K H1 l (ns.map V.int) ∧ SqL K H1 d (ds.map V.int) ∧
  (∀ n ∈ ns, 0 ≤ n ∧ n.toNat < ds.length) ∧ ds.length < 1000000 ∧ ∀ H2, LamX.ExtN H1 H2 → LamX.Tabs T H2 → ∀ M ∈ ns, (∀ b ∈ ns, ds.getD M.toNat 0 ≤ ds.getD b.toNat 0) → Q (.int M) H2
theorem sqL_ext {K : PySem.W.Frag} {H H' : Hp} {a : Addr} {xs : List V} (e : LamX.ExtN H H') (h : SqL K H a xs) : SqL K H' a xs := by
  rcases h with (h | ⟨o, h⟩) | h
  · exact .inl (.inl (e _ _ h (by intro ps z; cases z)))
  · exact .inl (.inr ⟨o, e _ _ h (by intro ps z; cases z)⟩)
  · exact .inr h
theorem pe_minBy {T : List (Addr × Str)} {e : Expr} {te : TE} {c P : Addr} {i k : Nat} {y a : Str} {params : Arguments} {scope : Scope} {p p1 p2 p3 lpos pos kpos : Pos}
    (hc : X.calm = true) (hg : Gl X "min") (hm : X.mg "min" = none) (he : PE X e te) (TB : LamX.TabB X.base X.mg c P) (hcode : X.env.code = .ref c) (hmT : (P, X.env.qual ++ "<lambda>") ∈ T) (hu : ∀ p ∈ T, p.1 = P → p.2 = X.env.qual ++ "<lambda>") (hr : Room (k + 2) X.A)
    (hN : X.N[i]? = some y) (hx : X.env.scope.names.lookup y = some .cell ∨ X.env.scope.names.lookup y = some .free) (hy : scope.names.lookup y = some .free) (ha : scope.names.lookup a = some .local)
    (hk : scope.kind = .function) (hco : scope.isCoroutine = false) (hgen : scope.isGenerator = false) (hcell : ∀ z ∈ scope.names, z.2 ≠ .cell) (hfree : ∀ z ∈ scope.names, z.2 = .free → z.1 = y)
    (hdef : defaultsOf params X.env = ([], []))
    (hbind : ∀ (q : Str) (cl : List (Str × Addr)) (pm cv ctv v : Value), bindArgs (PySem.W.kla_fn "<lambda>" q params (.Subscript (.Name y p1) (.Name a p2) p3) scope cl pm cv ctv) ⟨[v], []⟩ = pure [(a, v)])
    (d1 : (y == ("__debug__" : Str)) = false := by decide) (d2 : (y == ("__classdict__" : Str)) = false := by decide) (d3 : (a == ("__debug__" : Str)) = false := by decide)
    (na : starEach [e] X.env = (false, eval e X.env) :: starEach [] X.env := by rfl) (nb : backTo pos (starEach [e] X.env) = (false, eval e X.env) :: backTo pos (starEach [] X.env) := by rfl) (hpl : (backTo pos (starEach [e] X.env)).any (·.1) = false := by rfl) :
    PE X (.Call (.Name "min" p) [e] [⟨some "key", .Lambda params (.Subscript (.Name y p1) (.Name a p2) p3) scope lpos, kpos⟩] pos) (tMinBy X.K T i te) := by
  refine ⟨fun pins s σ H Q I h => ?_⟩
  refine wpAny_Call_Name_kw (ld_blt I hg hm (u := .builtin "min") (by rfl) ?_)
  refine callWith_kw (one_arg he I h (fun u s1 x H1 I1 r1 q1 => ?_) na) nb hpl (by rfl) (by rfl)
  obtain ⟨l, d, ns, ds, rfl, hd, hT, h0, hl, hdl, hb, hbig, q⟩ := q1
  cases (show u = Value.ref l from r1)
  show wpAny _ _ (evalAll [(do let v ← eval (.Lambda params (.Subscript (.Name y p1) (.Name a p2) p3) scope lpos) X.env; standAt pos; pure v)]) _ _ s1
  have hfc : ∀ z ∈ scope.names, z.2 = .free → ∃ c, X.env.cells.lookup z.1 = some c := fun z hz hzf => by
    rw [hfree z hz hzf]
    exact I1.ok.has _ hx
  refine wpAny_evalAll_cons (wpAny_bind (LamX.lam_make2 I1 TB hcode hmT hu hT hdef hfc fun f c' pm ctv H2 s2 I2 eN T2 hf hfn hfr hcc => wpAny_bind (wpAny_standAt (wpAny_pure ?_))))
  refine wpAny_evalAll_nil ?_
  have hl2 := sqL_ext eN hl
  have hd2 := sqL_ext eN hdl
  obtain ⟨its, rv, pl, hz⟩ := I2.list hl2
  obtain ⟨jts, rw', pd, hzd⟩ := I2.list hd2
  have hi := rv.ints
  have hj := rw'.ints
  obtain ⟨m, F⟩ := I2.fr
  have kall : ∀ {h : Heap} {m' : Str → Option Value}, Fr X.base X.env.locals h m' → News X.base X.env.locals h (allNews X.base s2.heap X.env.locals) → ∀ b o, b ≠ X.env.locals → s2.heap.get? b = some o → h.get? b = some o := fun {h m'} F' N' b o n e => by
    cases hq : X.base.get? b with
    | some v =>
      have e2 := I2.bk b v hq
      rw [e] at e2
      cases e2
      exact F'.keep b _ hq
    | none => exact (N' (b, o) (mem_allNews n hq e)).1
  have nel : ∀ {b : Addr} {xs : List V}, SqL X.K H2 b xs → b ≠ X.env.locals := fun {b xs} hs z => by
    obtain ⟨_, _, ⟨o, n, e, _, _, dd⟩, _⟩ := I2.list hs
    obtain ⟨o2, es, ep, e2, d2, _⟩ := F.ns
    rw [z, e2] at e
    cases e
    rw [d2] at dd
    cases dd
  have lst : ∀ {h : Heap} {b : Addr} {zs : List Value}, b ≠ X.env.locals → PlainL s2.heap b zs.toArray → (∀ b o, b ≠ X.env.locals → s2.heap.get? b = some o → h.get? b = some o) → h.IsList b zs.toArray := fun {h b zs} n pz kk => by
    obtain ⟨o, c0, e, e2, e3, e4⟩ := pz
    exact ⟨o, kk _ _ n e, e2, c0, e4⟩
  have hln : 0 < ns.length := h0
  refine kmk_min_letter (m := m) (L := X.env.locals) (h₀ := X.base) (news := allNews X.base s2.heap X.env.locals) (fun n => ds.getD n.toNat 0) (I2.ok.hd hc) F news_all (fun h F' N' => lst (nel hl2) pl (kall F' N')) hi hln (fun n t h tk own hn F' N' => ?_) (fun M t h' tk' F' N' hM hle => ?_)
  · have N1 : News X.base X.env.locals h (allNews X.base s2.heap X.env.locals) := fun z hz => N' z (List.mem_append_left _ hz)
    have kk := kall F' N1
    have nf : f ≠ X.env.locals := fun z => by
      obtain ⟨o2, es, ep, e2, d2, _⟩ := F.ns
      rw [z, e2] at hf
      cases hf
      cases d2
    have nc : c' ≠ X.env.locals := fun z => by
      rw [z, I2.free] at hcc
      cases hcc
    obtain ⟨⟨oc, vs, t0, hoc, hdc, hvc⟩, _, _⟩ := I2.hok c' _ hcc
    have hr1 : Room (k + 1) X.A.in1 := hr.in1
    refine wpAny_call ?_
    refine PySem.W.kla_callFunE hr1.depth (kk _ _ nf hf) rfl hco hgen rfl ⟨c', oc, vs, t0, rfl, kk _ _ nc hoc, hdc, hvc⟩ ?_
    rw [hbind]
    refine wpAny_pure (wpAny_newFunctionEnv hcell (fun z hz => ?_) (fun h₁ hns hsb => ⟨?_, ?_⟩) hk)
    · rw [List.mem_singleton.mp hz]
      exact ha
    · exact ((I2.ok.mod.nolimit.keeps F'.keep).fresh _ hsb)
    show codeAny _ _ (.expr (.Subscript (.Name y p1) (.Name a p2) p3) (LamX.lamEnv X scope h.objs.size f c')) _ _
    have kp : ∀ b o, h.get? b = some o → h₁.get? b = some o := fun b o e => hsb.extBut b o (Nat.ne_of_lt (Heap.lt_size e)) (Heap.get?_push_of_some _ e)
    have kp2 : ∀ b o, b ≠ X.env.locals → s2.heap.get? b = some o → h₁.get? b = some o := fun b o n e => kp b o (kk b o n e)
    -- the captured cell
    obtain ⟨c0, hc0⟩ := I2.ok.has _ hx
    have hcl : (cloFrom X.env.cells scope.names []).lookup y = some c0 := by
      have hin : (y, NameKind.free) ∈ scope.names := PySem.mem_of_lookup hy
      obtain ⟨c1, hc1⟩ := mem_lookup (cloFrom_has (cells := X.env.cells) (acc := []) hin)
      rw [hc1]
      rcases cloFrom_mem (PySem.mem_of_lookup hc1) with z | ⟨_, z⟩
      · cases z
      · rw [z, hc0] <;> rfl
    have hval : s2.heap.IsCell c0 (some (.ref d)) := by
      obtain ⟨m2, _, look⟩ := I2.loc
      obtain ⟨w', r, lk⟩ := look i y (.ref d) hN hd (hx.elim (fun z => .inr (.inl z)) (fun z => .inr (.inr z)))
      cases (show w' = Value.ref d from r)
      rcases lk with ⟨z, _⟩ | ⟨_, c2, e2, hv⟩
      · rcases hx with z2 | z2 <;> rw [show X.env.kindOf y = _ from z2] at z <;> cases z
      · rw [hc0] at e2
        cases e2
        exact hv
    have hcell1 : h₁.IsCell c0 (some (.ref d)) := by
      obtain ⟨o, e1, e2⟩ := hval
      exact ⟨o, kp2 _ _ (I2.cne y c0 hc0) e1, e2⟩
    obtain ⟨hn0, hn1⟩ := hb n hn
    refine PySem.W.kla_codeExpr (Subscript_ (wpAny_Name (wpAny_loadName_free hk hy hcl hcell1 ?_ d2) d1))
    refine wpAny_Name (wpAny_loadName_local (v := .int n t) hk ha hns (by simp [List.lookup]) ?_) d3
    refine item_list_intsR (vs := jts) (ns := ds) (lst (nel hd2) pd kp2) hj hn0 (by omega) (by omega) (fun t' => ?_)
    have F1 : Fr X.base X.env.locals h₁ m := ⟨F'.ns.keeps kp, fun b o e => kp b o (F'.keep b o e), F'.above⟩
    have N2 : News X.base X.env.locals h₁ (allNews X.base s2.heap X.env.locals ++ own) := fun z hz => ⟨kp _ _ (N' z hz).1, (N' z hz).2⟩
    exact ⟨h₁, _, t', rfl, rfl, F1, N2⟩
  · exact ⟨.int M, H2, inv_framed I2 F.ns F'.ns (kall F' N'), ⟨t, rfl⟩, q H2 eN T2 M hM hle⟩
end
end Sb

/-! ## S65 -/
/-! set(xs) of a list of whole numbers, as a set that is known from then on. -/
namespace Sb
open PySem PySem.Spec PyProof.Rows L2
/-- an empty set, as a call of set lays it -/
abbrev bareSet (w : World) : Obj := { cls := .type "set", dict := none, data := .set #[] 0 (.fresh 0 0 (!w.params.followText "set-order")) }

section
variable {P : Program} {w : World} {A : Around} {E : Value → Shared → Prop} {s : Shared}
theorem set_of_list {l : Addr} {vs : List Value} {ns : List Int} {Q : Value → Shared → Prop} (hh : A.handled = none) (hl : s.heap.IsList l vs.toArray) (hi : IntsAre vs ns) (hb : ns.length + 1 < scanBound)
    (q : ∀ h2 tk c, SetR w h2 s.heap.objs.size (fun j => decide (j ∈ ns)) c → c ≤ ns.length → (∀ b o, s.heap.get? b = some o → h2.get? b = some o) → Q (.ref s.heap.objs.size) { s with heap := h2, toks := tk }) :
    wpAny (model P w) A (call (.type "set") [.ref l]) Q E s := by
  have len : vs.toArray.size = ns.length := by rw [List.size_toArray, hi.length]
  have at_ : (s.heap.push (bareSet w)).get? s.heap.objs.size = some (bareSet w) := Heap.get?_push_size _ rfl
  have ll : l < s.heap.objs.size := by
    obtain ⟨o, e, _⟩ := hl
    exact Heap.lt_size e
  -- the type is called: laid, then filled
  have F0 := F.called_set
  obtain ⟨c0, tl, hmro⟩ := F0.mro
  have hmade := F0.made
  have hsub := F0.sub
  have hnt := F0.notType
  have hcc := F0.canCreate
  have hct := F.typeCall_set_1 (.ref l)
  refine wpAny_call (codeAny_of_tree (show wpAny _ _ (callAny (.type "set") _) _ _ _ from wpAny_pure ⟨Code.quiet_builtin _ (by decide +kernel), codeAny_builtin F.entry_type_call ?_⟩))
  rw [Around.under_plain (weight_type_call_type "set" [.ref l] []) rfl]
  all_goals repeat (any_goals first | assumption | wp_step)
  refine codeAny_mono (code_set_led1 (.ref l) (E := E) (Q₁ := fun o s1 => o = .ref s.heap.objs.size ∧ s1 = { s with heap := s.heap.push (bareSet w) }) ⟨rfl, rfl⟩) fun r s1 hs => ?_
  rcases r with e | fl
  · exact hs
  cases fl with
  | next => exact hs.elim
  | brk => exact hs.elim
  | cont => exact hs.elim
  | ret o =>
  obtain ⟨rfl, rfl⟩ := hs
  have tt : Shared.TypeIs { s with heap := s.heap.push (bareSet w) } (.ref s.heap.objs.size) "set" := ⟨_, at_, rfl⟩
  have lk := F0.init.lookup
  have bd := F0.init.bind (.ref s.heap.objs.size)
  all_goals repeat (any_goals first | assumption | wp_step)
  let Done : Shared → Prop := fun s2 => ∃ h2 tk c, s2 = { s with heap := h2, toks := tk } ∧ SetR w h2 s.heap.objs.size (fun j => decide (j ∈ ns)) c ∧ c ≤ ns.length ∧ ∀ b o, s.heap.get? b = some o → h2.get? b = some o
  refine codeAny_mono (codeAny_call_builtin (R := wants (fun r s2 => r = .none ∧ Done s2) E) F0.init.plain F.entry_set_init (check_set_init_1 tt ?_)) fun r s2 hs => ?_
  rotate_left
  · rcases r with e | fl
    · exact hs
    cases fl with
    | next => exact hs.elim
    | brk => exact hs.elim
    | cont => exact hs.elim
    | ret o =>
      obtain ⟨rfl, h2, tk, c, rfl, R, hc, kp⟩ := hs
      all_goals repeat (any_goals first | assumption | wp_step)
      exact q _ _ _ R hc kp
  have hl1 : (s.heap.push (bareSet w)).IsList l vs.toArray := hl.push _
  obtain ⟨⟨ocls, odict, odata, oslots⟩, hol', hcl, nl, hdl⟩ := id hl1
  simp only at hcl hdl
  subst hcl hdl
  have n1 := F.sub_list_set
  have n2 := F.sub_list_frozenset
  have n3 : (Value.type "list" == Value.type "dict") = false := by decide
  have hS := at_
  unfold Builtin.«set.__init__» noKeywords Builtin.Frozenset.updateFrom
  generalize hPI : pyIter = PI
  wp_walk
  subst hPI
  refine wpAny_pyIter_list hl1 (wpAny_bind (wpAny_runValue ?_))
  let h1 := s.heap.push (bareSet w)
  have z1 : h1.objs.size = s.heap.objs.size + 1 := Heap.size_push ..
  have nI : l ≠ h1.objs.size := fun z => Nat.ne_of_lt (Nat.lt_succ_of_lt ll) (z.trans z1)
  have nS : s.heap.objs.size ∉ [h1.objs.size, l] := fun z => by
    rcases List.mem_cons.mp z with z | z
    · exact Nat.ne_of_lt (Nat.lt_succ_self s.heap.objs.size) (z.trans z1)
    · exact Nat.ne_of_gt ll (List.mem_singleton.mp z)
  have vals : ∀ (i : Nat) (v : Value), vs.toArray[i]? = some v → ∃ k t, ns[i]? = some k ∧ v = Value.int k t := fun i v hv => by
    have hv2 : vs[i]? = some v := by simpa using hv
    have hlen := hi.length
    have hlt : i < ns.length := by
      have := (List.getElem?_eq_some_iff.mp hv2).1
      omega
    obtain ⟨t, ht⟩ := hi.get i _ (List.getElem?_eq_getElem hlt)
    rw [hv2] at ht
    exact ⟨_, t, List.getElem?_eq_getElem hlt, Option.some.inj ht⟩
  have st0 := setR_new_at (w := w) (ns := ns) (Heap.get?_push_of_some { cls := .type "list_iterator", data := .fields #[.ref l, .int 0 0] } at_)
  refine set_update_ints ((Walks.list (prog := P) (w := w) (A := A.in1.in1.in1) (by simp [hh]) _ l nI vs.toArray).toS) _ nS ns len hb vals (vs.toArray.size - 0) 0 _ (by omega) (Nat.zero_le _) ⟨⟨_, Heap.get?_push_size _ rfl, rfl, rfl⟩, hl1.push _⟩ ⟨0, Nat.le_refl 0, st0⟩ ?_
  rintro ⟨h2, g2, e2, tk2, o2⟩ c hm hc R
  obtain rfl : g2 = s.gens := hm.gens
  obtain rfl : e2 = s.drawn := hm.drawn
  obtain rfl : o2 = s.os := hm.os
  refine wpAny_pure (show wpAny _ _ (ret Value.none) _ _ _ from wpAny_pure ⟨rfl, h2, tk2, c, rfl, R, by omega, fun b o e => ?_⟩)
  have lb := Heap.lt_size e
  refine hm.heap b o (fun z => ?_) (Heap.get?_push_of_some _ (Heap.get?_push_of_some _ e))
  rcases List.mem_cons.mp z with z | z
  · exact Nat.ne_of_lt lb z
  · exact Nat.ne_of_lt (Nat.lt_succ_of_lt lb) ((List.mem_singleton.mp z).trans z1)
end
section
variable {X : Cx}
/-- set(xs), xs a list of whole numbers -/
def rSetL (K : PySem.W.Frag) (w : World) : List V → Hp → VK → Prop := fun vs H Q => ∃ (l : Addr) (ns : List Int), vs = [.ref l] ∧ SqL K H l (ns.map V.int) ∧ ns.length ≤ 4000 ∧ ∀ p c H2, H p = none → (∀ b u, H b = some u → H2 b = some u) → H2 p = some (SetO w p (fun j => decide (j ∈ ns)) c) → c ≤ ns.length → Q (.ref p) H2
theorem cr_setL (hc : X.calm = true) : CallR X (.type "set") (rSetL X.K X.w) := by
  intro pins s σ H vs us Q I r h
  obtain ⟨l, ns, rfl, hs, hl, q⟩ := h
  obtain rfl := Vals.ref1 r
  obtain ⟨its, rv, pl, _⟩ := I.list hs
  refine set_of_list (I.ok.hd hc) pl.isList rv.ints (by unfold scanBound; omega) fun h2 tk c R hcn kp => ?_
  have I2 : Inv X pins σ (upd H s.heap.objs.size (SetO X.w s.heap.objs.size (fun j => decide (j ∈ ns)) c)) { s with heap := h2, toks := tk } := I.laid (t' := tk) kp (Nat.le_refl _) (setO_new R)
  have n0 : H s.heap.objs.size = none := I.hok.fresh (Nat.le_refl _)
  exact ⟨.ref _, _, I2, rfl, q _ c _ n0 (fun b u e => by rw [upd_ne (ne_of_none e n0)]; exact e) upd_same hcn⟩
end
end Sb

/-! ## N65 -/
/-! enumerate(t), t a tuple; dicts made over what is walked. -/
namespace Sb
open PySem PySem.Spec PyProof.Rows L2
/-! ### enumerate, begun over anything -/
theorem en_new {v : Value} {o : Obj} {G : Heap → Prop} (B : Begins v o G) : Meets (Builtin.«enumerate.__new__» ⟨[.type "enumerate", v], []⟩) (fun _ R s => G s.heap ∧
    R (.ok (.ret (.ref (s.heap.push o).objs.size))) { s with heap := (s.heap.push o).push { cls := .type "enumerate", data := .fields #[.none, .bool false, .ref s.heap.objs.size, rawInt 0, .none, .none] } }) := by
  refine .of_wp fun prog w A R s h => ?_
  obtain ⟨hp, g, d, tk, os⟩ := s
  obtain ⟨h1, h⟩ := h
  have sub0 := sub_enumerate
  have begun : ∀ {A2 : Around} {E Q : Value → Shared → Prop}, Q (.ref hp.objs.size) ⟨hp.push o, g, d, tk, os⟩ → wpAny (model prog w) A2 (pyIter v) Q E ⟨hp, g, d, tk, os⟩ := fun q => B.iter prog w _ _ ⟨hp, g, d, tk, os⟩ _ h1 q
  wp_walk using begun
  refine wpAny_stack_any fun st => wpAny_pure ?_
  split
  · rename_i c _ _ _ _ _
    cases (c == Value.type "enumerate") <;> (wp_walk using begun) <;> exact ⟨_, rfl, h⟩
  · wp_walk using begun
    exact ⟨_, rfl, h⟩
section
variable {P : Program} {w : World} {A : Around} {E : Value → Shared → Prop} {s : Shared}
theorem en_call {v : Value} {o : Obj} {G : Heap → Prop} {Q : Value → Shared → Prop} (B : Begins v o G) (h1 : G s.heap)
    (h : ∀ h2, IsEnum h2 (s.heap.objs.size + 1) s.heap.objs.size 0 .none → h2.get? s.heap.objs.size = some o → (∀ b u, s.heap.get? b = some u → h2.get? b = some u) → Q (.ref (s.heap.objs.size + 1)) { s with heap := h2 }) :
    wpAny (model P w) A (call (.type "enumerate") [v]) Q E s := by
  have z : (s.heap.push o).objs.size = s.heap.objs.size + 1 := Heap.size_push ..
  refine callType_new F.called_enumerate (by decide) (F.typeCall_enumerate_1 _) (F.newCall_enumerate_1 _) (fun u => F.args_object_init_2 u _) F.entry_enumerate_new (en_new B) ⟨h1, ?_⟩
  have at_ := Heap.get?_push_size (s.heap.push o) (o := { cls := .type "enumerate", data := .fields #[.none, .bool false, .ref s.heap.objs.size, rawInt 0, .none, .none] }) rfl
  show _ ∧ _
  rw [z] at at_ ⊢
  exact ⟨⟨_, at_, rfl⟩, h _ at_ (Heap.get?_push_of_some _ (Heap.get?_push_size _ B.free)) fun b u e => Heap.get?_push_of_some _ (Heap.get?_push_of_some _ e)⟩
end
/-! ### over a tuple -/
/-- the tuple at a, each item in a new pair -/
def ItEt (K : PySem.W.Frag) (a : Addr) : It where
  go := fun i H => ∃ (xs : List V) (x : V), SqT K H a xs ∧ xs[i]? = some x
  yld := fun i H v H2 => ∃ (T : Addr) (x : V), v = .ref T ∧ H T = none ∧ H2 = upd H T (.tup [.int (i : Nat), x]) ∧ ∀ xs, SqT K H a xs → xs[i]? = some x
  stop := fun i H => ∃ xs : List V, SqT K H a xs ∧ xs.length = i
theorem Inv.tup_inj {X : Cx} {pins : List (Addr × Obj)} {σ : L2.St} {H : Hp} {s : Shared} {a : Addr} {xs ys : List V} (I : Inv X pins σ H s) (h1 : SqT X.K H a xs) (h2 : SqT X.K H a ys) : xs = ys := by
  obtain ⟨us, r1, ⟨o1, e1, c1, n1, d1⟩, _⟩ := I.tuple h1
  obtain ⟨vs, r2, ⟨o2, e2, c2, n2, d2⟩, _⟩ := I.tuple h2
  rw [e1] at e2
  cases e2
  rw [d1] at d2
  injection d2 with d3 _
  have e : us = vs := by simpa using congrArg Array.toList d3
  subst e
  exact r1.inj r2
theorem turn_et {P : Program} {w : World} {K : PySem.W.Frag} {elts : List Expr} {kk : Nat} {tpos : Pos} (a e it : Addr) (its : Array Value) (hea : e ≠ a) (hia : a ≠ it) (hei : e ≠ it) :
    Turn P w K (.Tuple elts kk tpos) (ItEt K a) [e, it] e (fun i h => (∃ old, IsEnum h e it ((i : Nat) : Int) old) ∧ h.IsTupleIter it a i) where
  mem := List.mem_cons_self
  obj := fun i h st b hb => by
    obtain ⟨⟨old, he⟩, ⟨o, ho, hc, hd⟩⟩ := st
    rcases List.mem_cons.mp hb with z | z
    · rw [z]
      exact ⟨_, he, fun v q => nomatch q⟩
    · rw [List.mem_singleton.mp z]
      exact ⟨o, ho, fun v q => by rw [hd] at q; cases q⟩
  keep := fun i h h2 st k => by
    obtain ⟨⟨old, he⟩, hi⟩ := st
    exact ⟨⟨old, k e List.mem_cons_self _ he⟩, hi.at fun o q => k it (List.mem_cons_of_mem _ List.mem_cons_self) o q⟩
  item := by
    intro X hP hw hK hc i pins s σ H E I hf st hg
    subst hP hw hK
    obtain ⟨⟨old, he⟩, hit⟩ := st
    obtain ⟨xs, x, hq, hx⟩ := hg
    obtain ⟨us, rv, p, hz⟩ := I.tuple hq
    obtain ⟨u, hu, ru⟩ := rv.get hx
    have D := Draws.tuple (prog := X.prog) (w := X.w) (A := X.A.in1) (I.ok.hd hc) it a hia us.toArray
    have hlt : i < us.toArray.size := by
      rw [List.size_toArray]
      exact (List.getElem?_eq_some_iff.mp hu).1
    have hef : e ∉ [it, a] := fun z => by
      rcases List.mem_cons.mp z with z | z
      · exact hei z
      · exact hea (List.mem_singleton.mp z)
    have le : e < s.heap.objs.size := Heap.lt_size he
    have li : it < s.heap.objs.size := by
      obtain ⟨_, q, _⟩ := hit
      exact Heap.lt_size q
    refine wpAny_pyNext_enum_itemD D he ⟨hit, p⟩ hlt hei hef fun y h2 tk hy ho st2 hT hsz hk => ?_
    have ey : y = u := by
      have hy2 : us[i]? = some y := by simpa using hy
      rw [hu] at hy2
      exact (Option.some.inj hy2).symm
    subst ey
    refine ⟨_, rfl, wpAny_letOwnedTupleGo_enum (s := { s with heap := h2, toks := tk + 1 }) ho fun h3 he3 sb => ?_⟩
    have at_ := (sb.2 _ (Nat.ne_of_gt le)).trans hT
    have new : ObjOk X.prog X.w (upd H s.heap.objs.size (.tup [.int (i : Nat), x])) h3 s.heap.objs.size (.tup [.int (i : Nat), x]) := ⟨by show 2 ≤ sizeLine; decide, [.int i tk, y], .cons ⟨_, rfl⟩ (.cons ru .nil), ⟨_, at_, rfl, _, rfl⟩⟩
    have old2 : ∀ b ob, b ∉ [e, it] → s.heap.get? b = some ob → h3.get? b = some ob := fun b ob hb q => by
      have n1 : b ≠ e := fun z => hb (by simp [z])
      have n2 : b ≠ it := fun z => hb (by simp [z])
      exact (sb.2 b n1).trans (hk b ob n1 n2 q)
    have I1 := I.turnedNew (t' := tk + 1) old2 hf (Nat.le_refl _) new
    have st3 : h3.IsTupleIter it a (i + 1) := st2.1.at fun o q => (sb.2 it (Ne.symm hei)).trans q
    refine ⟨.ref s.heap.objs.size, _, I1, rfl, ⟨_, x, rfl, I.hok.fresh (Nat.le_refl _), rfl, fun ys hy => by rw [Inv.tup_inj I hy hq]; exact hx⟩, ⟨⟨y, ?_⟩, st3⟩, fun b hb => ?_⟩
    · have e1 : ((i + 1 : Nat) : Int) = (i : Int) + 1 := by omega
      rw [e1]
      exact he3
    · have lb : b < s.heap.objs.size := by
        rcases List.mem_cons.mp hb with z | z
        · rw [z]
          exact le
        · rw [List.mem_singleton.mp z]
          exact li
      rw [upd_ne (Nat.ne_of_lt lb)]
      exact (hf b hb).1
  done := by
    intro X hP hw hK hc i pins s σ H E I hf st hg
    subst hP hw hK
    obtain ⟨⟨old, he⟩, hit⟩ := st
    obtain ⟨xs, hq, hx⟩ := hg
    obtain ⟨us, rv, p, hz⟩ := I.tuple hq
    obtain ⟨f0, f1, f2, f3, f4, f5⟩ := hf it (List.mem_cons_of_mem _ List.mem_cons_self)
    have hl : us.toArray.size = i := by rw [List.size_toArray, ← rv.length, hx]
    have D := Draws.tuple (prog := X.prog) (w := X.w) (A := X.A.in1) (I.ok.hd hc) it a hia us.toArray
    refine wpAny_pyNext_enum_endD D he ⟨by rw [hl]; exact hit, p⟩ fun h2 eb => ⟨rfl, I.turned (t' := s.toks) (fun b o hb q => eb b o hb q) f0 f1 f3 f4 f5⟩
  self := fun A i s Q E st h => by
    obtain ⟨⟨_, he⟩, _⟩ := st
    exact wpAny_pyIter_enum he h
def iEt (K : PySem.W.Frag) (ta : TA) : TI := fun σ H R => ta σ H fun vs H1 => ∃ a xs, vs = [.ref a] ∧ SqT K H1 a xs ∧ R (ItEt K a) H1
theorem pi_et {X : Cx} {e : Expr} {ta : TA} {p pos tpos : Pos} {elts : List Expr} {kk : Nat} (hg : Gl X "enumerate") (hm : X.mg "enumerate" = none) (ha : PA X [e] ta) (hs : starEach [e] X.env = [(false, eval e X.env)] := by rfl) :
    PI X (.Tuple elts kk tpos) (.Call (.Name "enumerate" p) [e] [] pos) (iEt X.K ta) := by
  refine ⟨fun pins s σ H R I h => ?_⟩
  have go := ha.run pos pins s σ H _ I h
  refine Call_ (ld_blt I hg hm boot_enumerate (PyProof.Rows.callWith_type1 (thn go fun us s1 z => ?_) hs rfl))
  obtain ⟨vs, H1, I1, r1, a, xs, rfl, hq, q⟩ := z
  obtain rfl := Vals.ref1 r1
  obtain ⟨its, rv, p2, hz⟩ := I1.tuple hq
  have la : a < s1.heap.objs.size := by
    obtain ⟨_, ho, _⟩ := p2
    exact Heap.lt_size ho
  refine en_call (begins_tuple a its.toArray) p2 fun h2 he hit hk => wpAny_pyIter_enum he ?_
  have I2 : Inv X pins σ H1 { s1 with heap := h2 } := I1.kept (t' := s1.toks) hk
  refine ⟨s1.heap.objs.size + 1, [s1.heap.objs.size + 1, s1.heap.objs.size], _, _, H1, rfl, I2, turn_et a (s1.heap.objs.size + 1) s1.heap.objs.size its.toArray (Nat.ne_of_gt (Nat.lt_succ_of_lt la)) (Nat.ne_of_lt la) (Nat.succ_ne_self _), ⟨⟨.none, he⟩, ⟨_, hit, rfl, rfl⟩⟩, fun b hb => ?_, q⟩
  have hle : s1.heap.objs.size ≤ b := by
    rcases List.mem_cons.mp hb with z | z
    · rw [z]
      exact Nat.le_succ _
    · rw [List.mem_singleton.mp z]
      exact Nat.le_refl _
  exact I1.fpOk hle (I1.hok.fresh hle)
section
variable {K : PySem.W.Frag} {a : Addr} {xs : List V}
theorem walk_et : Walk (ItEt K a) xs.length (fun H => SqT K H a xs) (YPair (fun i => some (.int (i : Nat))) (fun i => xs[i]?)) where
  goes := fun i _ hi q => ⟨xs, xs[i], q, by simp [hi]⟩
  stops := fun _ q => ⟨xs, q, rfl⟩
  yields := fun i H v H2 _ q y => by
    obtain ⟨T, x, h1, h2, h3, h4⟩ := y
    exact ⟨T, _, x, h1, h2, h3, rfl, h4 xs q⟩
end
/-- a dict made over what is walked: Pv by the turn and the heap (the new dict at D within) -/
theorem dc_it {J : It} {n : Nat} {G : Hp → Prop} {Y : Nat → Hp → V → Hp → Prop} (w : Walk J n G Y) {g : TG} {tt : TT} {tk tv : TE} {vs : List Nat} {σ : L2.St} {H1 : Hp} {D : Addr} {Qd : Hp → Prop} (Pv : Nat → Hp → Prop) (h0 : Pv 0 (upd H1 D (.dK []))) (hG : ∀ i H, i ≤ n → Pv i H → G H)
    (hs : ∀ i x H H2, i < n → Pv i H → Y i H x H2 → g x (wipe σ vs) H2 fun σ2 H3 => wipe σ2 vs = wipe σ vs ∧ tt σ2 H3 fun b H4 =>
      if b = true then tk σ2 H4 fun y H5 => tv σ2 H5 fun z H6 => ∃ kvs k, y = kV k ∧ H6 D = some (.dK kvs) ∧ kvs.length < sizeLine ∧ Pv (i + 1) (upd H6 D (.dK (putK kvs k z))) else Pv (i + 1) H4) (hd : ∀ H, Pv n H → Qd H) :
    ∃ W : Nat → Nat → Hp → Prop, (∃ m, W 0 m (upd H1 D (.dK []))) ∧ ∀ i m H, W i m H →
      (J.stop i H ∧ Qd H) ∨ (J.go i H ∧ ∃ Nx : Hp → Prop, (∀ H', Nx H' → ∃ m', m' < m ∧ W (i + 1) m' H') ∧ ∀ x H', J.yld i H x H' → g x (wipe σ vs) H' fun σ2 H2 => wipe σ2 vs = wipe σ vs ∧ tt σ2 H2 fun b H3 =>
        if b = true then tk σ2 H3 fun y H4 => tv σ2 H4 fun z H5 => ∃ kvs k, y = kV k ∧ H5 D = some (.dK kvs) ∧ kvs.length < sizeLine ∧ Nx (upd H5 D (.dK (putK kvs k z))) else Nx H3) := by
  refine ⟨fun i m H => m + i = n ∧ Pv i H, ⟨n, rfl, h0⟩, fun i m H p => ?_⟩
  obtain ⟨hm, p⟩ := p
  have q := hG i H (by omega) p
  rcases Nat.lt_or_ge i n with hlt | hge
  · exact .inr ⟨w.goes i H hlt q, Pv (i + 1), fun H2 p2 => ⟨m - 1, by omega, by omega, p2⟩, fun x H2 y => hs i x H H2 hlt p (w.yields i H x H2 hlt q y)⟩
  · have e : i = n := by omega
    subst e
    exact .inl ⟨w.stops H q, hd H p⟩
end Sb

/-! ## Q65 -/
/-! blocks_with_gates of the web of one tie. -/
namespace Sb
open PySem PySem.Spec PyProof.Rows L2
open LamX (ExtN Tabs TabS)
abbrev sBlocks : Stmt := top 30
section
variable {X : Cx}
/-- sorted(xs), xs of one item -/
def rSort1 (K : PySem.W.Frag) : List V → Hp → VK → Prop := fun vs H Q => ∃ a x, vs = [V.ref a] ∧ SqL K H a [x] ∧ New H (.lst [x]) Q
theorem swo_no : SrtO.Swo (fun _ _ : Value => false) := ⟨fun _ _ _ => rfl, fun _ _ _ _ h => h⟩
theorem cr_sort1 : CallR X (.builtin "sorted") (rSort1 X.K) := by
  intro pins s σ H vs us Q I r h
  obtain ⟨a, x, rfl, hs, q⟩ := h
  obtain ⟨its, rv, pl, _⟩ := I.list hs
  obtain rfl := Vals.ref1 r
  obtain ⟨u, rfl, ru⟩ := vals1 rv
  refine SrtO.sorted_ord swo_no pl.isList (by show 1 ≤ sizeLine; decide) (fun h2 => absurd h2 (Nat.lt_irrefl 1)) fun out _ hb => ?_
  have eo : out = [u] := List.perm_singleton.mp hb.perm
  subst eo
  obtain ⟨ep, at_⟩ := sortedAll_at s.heap [u] [u].toArray
  have I2 := I.laid (o := .lst [x]) (t' := s.toks) (fun _ _ => sortedAll_old) (Nat.le_succ _) ⟨by show 1 ≤ sizeLine; decide, [u], ep, rv, at_⟩
  exact ⟨.ref _, _, I2, rfl, q.go _ (I.hok.fresh (Nat.le_succ _))⟩
end
/-- blocks_with_gates of those rows -/
def spBlocks (T : List (Addr × Str)) : Sp := fun vs H Q _ => ∃ (l : Addr) (ps : List Addr), vs = [.ref l] ∧ RowsL H l ps rss2 ∧ Tabs T H ∧ ∀ (o p t : Addr) H', ExtN H H' → Tabs T H' → H' o = some (.lst [.ref p]) → H' p = some (.tup [.ref t, .int 0]) → H' t = some (.tup [.int 0, .int 1]) → Q (.ref o) H'
structure BlkTxt (mg : Str → Option Value) : Prop where
  len : mg "len" = none
  range : mg "range" = none
  set : mg "set" = none
  sorted : mg "sorted" = none
  tuple : mg "tuple" = none
  min : mg "min" = none
theorem in2 : RowsIn 2 rss2 := fun k => match k with
  | 0 => by decide
  | 1 => by decide
  | k + 2 => by
    show ∀ z ∈ ([] : List Int), _
    simp
/-- a list that is written is no table -/
theorem tabs_but {T : List (Addr × Str)} {H H' : Hp} {b : Addr} {xs : List V} (t : Tabs T H) (h : But b H H') (e : H b = some (.lst xs)) : Tabs T H' := fun z hz => by
  obtain ⟨ps, g1, g2, g3⟩ := t z hz
  have n : z.1 ≠ b := fun k => by
    rw [k, e] at g1
    cases g1
  refine ⟨ps, h _ _ n g1, g2, fun pos cv hc => ?_⟩
  obtain ⟨c, k1, k2⟩ := g3 pos cv hc
  refine ⟨c, k1, h _ _ (fun k => ?_) k2⟩
  rw [k, e] at k2
  cases k2
theorem only_one {ns : List Int} {x : Int} (h : ns.Pairwise (· < ·)) (m : ∀ k, k ∈ ns ↔ k = x) : ns = [x] := by
  match ns, h, m with
  | [], _, m => exact absurd ((m x).mpr rfl) (by simp)
  | a :: r, h, m =>
    have ea : a = x := (m a).mp List.mem_cons_self
    subst ea
    match r, h, m with
    | [], _, _ => rfl
    | b :: r, h, m =>
      have eb : b = a := (m b).mp (List.mem_cons_of_mem _ List.mem_cons_self)
      have lt := (List.pairwise_cons.mp h).1 b List.mem_cons_self
      omega
theorem two_only {ns : List Int} (h : ns.Perm [0, 1]) (p : ns.Pairwise (· ≤ ·)) : ns = [0, 1] := by
  match ns, h.length_eq, h, p with
  | [a, b], _, h, p =>
    have h1 : (0 : Int) ∈ [a, b] := h.mem_iff.mpr (by simp)
    have h2 : (1 : Int) ∈ [a, b] := h.mem_iff.mpr (by simp)
    have lt := (List.pairwise_cons.mp p).1 b List.mem_cons_self
    simp only [List.mem_cons, List.not_mem_nil, or_false] at h1 h2
    have ea : a = 0 := by omega
    have eb : b = 1 := by omega
    rw [ea, eb]
theorem st2 : stepsOf rss2 0 = [0, 1] := by decide +kernel
theorem ab2 : aboveOf rss2 [0, 1] = [0, 0] := by decide +kernel
section
variable {P : Program} {w : World} {K : PySem.W.Frag} {mg : Str → Option Value} {base : Heap} {C : Nat → Addr}
abbrev scBlocksN : List Str := ["rows", "away", "above", "groups", "found", "group", "held", "gate", "bay"]
abbrev scBlocksS : Scope := defScope sBlocks
theorem scBlocks : FnScope ["rows", "away", "above", "groups", "found", "group", "held", "gate", "bay"] ["rows"] (defScope sBlocks) := ⟨rfl, rfl, rfl, by decide +kernel, rfl, by decide +kernel, by decide +kernel⟩
theorem ok_blocks {f fS fA fG Pb cl : Addr} {fdS fdA fdG : FuncData} {oc : Value} {od : Option Addr} {dV kV doc pm ct : Value} {an : Option Addr} {osl : Array (Option Value)} {TT : List (Addr × Str)}
    (lk : K.lookup f = some ⟨oc, od, .func (PySem.W.fnOf "blocks_with_gates" "blocks_with_gates" (defArgs sBlocks) (defBody sBlocks) (defScope sBlocks) dV kV doc pm an (.ref cl) ct), osl⟩) (hcd : PySem.W.codeIn K (.ref cl) "blocks_with_gates" = true) (T : BlkTxt mg)
    (FS : FnP K "steps_from" sSteps fS fdS) (gS : mg "steps_from" = some (.ref fS)) (GS : FnOk P w K mg base CX0 1 fS fdS ["rows", "start"] spSteps)
    (FA : FnP K "bays_above" sAbove fA fdA) (gA : mg "bays_above" = some (.ref fA)) (GA : FnOk P w K mg base CX0 1 fA fdA ["rows", "away"] spAbove)
    (FG : FnP K "groups_held" sGroups fG fdG) (gG : mg "groups_held" = some (.ref fG)) (GG : FnOk P w K mg base CX0 2 fG fdG ["rows", "above", "away"] spGroups)
    (TB : LamX.TabB base mg cl Pb) (hm : (Pb, qOf "blocks_with_gates") ∈ TT) (hu : ∀ p ∈ TT, p.1 = Pb → p.2 = qOf "blocks_with_gates") :
    FnOk P w K mg base CX0 3 f (PySem.W.fnOf "blocks_with_gates" "blocks_with_gates" (defArgs sBlocks) (defBody sBlocks) (defScope sBlocks) dV kV doc pm an (.ref cl) ct) ["rows"] (spBlocks TT) := by
  have bS : Binds K fdS ["rows", "start"] [] := FS.bindsN fun _ _ _ _ _ _ us hl => match us, hl with | [_, _], _ => rfl
  have bA : Binds K fdA ["rows", "away"] [] := FA.bindsN fun _ _ _ _ _ _ us hl => match us, hl with | [_, _], _ => rfl
  have bG : Binds K fdG ["rows", "above", "away"] [] := FG.bindsN fun _ _ _ _ _ _ us hl => match us, hl with | [_, _, _], _ => rfl
  refine fn_of lk hcd scBlocks (fun vs H Q E h => ?_) (fun A outer s H vs Q E0 hr h => ?_)
  · obtain ⟨l, ps, rfl, _⟩ := h
    rfl
  · obtain ⟨l, ps, rfl, R, hT, q⟩ := h
    have hr1 : Room 1 _ := hr.mono (by decide)
    have hrL : Room (0 + 2) _ := hr
    refine ⟨_, PSs.nox (pss_cons (ps_set (i := 1) scBlocks.nd rfl (Or.inr rfl) (pe_call GS hr1 rfl gS FS.kp bS .nil pass0 (pa_cons (pv 0) (pa_cons pe_int pa_nil))))
    (pss_cons (ps_set (i := 2) scBlocks.nd rfl (Or.inl rfl) (pe_call GA hr1 rfl gA FA.kp bA .nil pass0 (pa_cons (pv 0) (pa_cons (pv 1) pa_nil))))
    (pss_cons (ps_set (i := 3) scBlocks.nd rfl (Or.inr rfl) (pe_call GG hr rfl gG FG.kp bG .nil pass0 (pa_cons (pv 0) (pa_cons (pv 2) (pa_cons (pv 1) pa_nil)))))
    (pss_cons (ps_set (i := 4) scBlocks.nd rfl (Or.inl rfl) (pe_lstL pa_nil))
    (pss_cons (ps_for PassesOwn.never rfl (pi_list (pe_callB (id := "sorted") (cr_sortedSet rfl) (by rfl) T.sorted (by decide +kernel) (pa_cons (pe_callTy (T := "set") (cr_setL rfl) (by rfl) T.set (by decide +kernel) (pa_cons (pe_slice sl_listL (pv 3) (po_some pe_int) po_none) pa_nil)) pa_nil))) (pg_name (i := 5) scBlocks.nd rfl (Or.inr rfl))
      (pss_cons (ps_setLc (i := 6) (own := [("bay", 8)]) (g := gName 8) (by rfl) scBlocks.nd rfl rfl (sw_true rfl rfl rfl (by decide +kernel)) (pi_range2 (by rfl) T.range (pa_cons pe_int (pa_cons (pe_callB (id := "len") call_len_seq (by rfl) T.len (by decide +kernel) (pa_cons (pv 0) pa_nil)) pa_nil))) (blkOk_by (own := [("bay", 8)]) (N := scBlocksN) (sc := scBlocksS) (by decide +kernel)) (fun _ _ _ _ _ => pg_name (i := 8) scBlocks.nd rfl (Or.inl rfl)) (fun _ _ _ _ _ => pts_one (pt_cmpR op_eq (pe_ix (ix_listK (K := K)) (pv 3) (pv 8) (fun _ _ => rfl)) (pv 5) (nomark _))) (fun _ _ _ _ _ => (pv 8)))
    (pss_cons (ps_set (i := 7) scBlocks.nd rfl (Or.inl rfl) (pe_ix ix_list (pv 2) (pe_minBy (T := TT) (k := 0) (i := 1) rfl rfl T.min (pv 6) TB rfl hm hu hrL rfl (.inl rfl) rfl rfl rfl rfl rfl (by decide +kernel) (by decide +kernel) rfl (fun _ _ _ _ _ _ => rfl)) (fun _ _ => rfl)))
    (pss_one (ps_expr (pe_bm PySem.F.plainAttrs_list PySem.F.slot_list_append PySem.F.type_list_append mt_appendL (pv 4) (pa_cons (pe_tupL (pa_cons (pe_callTy (T := "tuple") call_tuple_of (by rfl) T.tuple (by decide +kernel) (pa_cons (pe_callB (id := "sorted") cr_sorted (by rfl) T.sorted (by decide +kernel) (pa_cons (pe_op op_catL (pe_lstL (pa_cons (pv 7) pa_nil)) (pv 6)) pa_nil)) pa_nil)) (pa_cons (pv 7) pa_nil))) pa_nil)))))))
    (pss_one (ps_ret (pe_callB (id := "sorted") cr_sort1 (by rfl) T.sorted (by decide +kernel) (pa_cons (pv 4) pa_nil))))))))), ?_⟩
    -- away, above, groups
    refine ⟨_, rfl, l, ps, rss2, 0, rfl, R, in2, by decide, by decide, fun a H1 S1 n1 h1 _ => ?_⟩
    rw [st2] at h1
    have R1 := R.same S1
    refine ⟨_, rfl, _, rfl, l, ps, rss2, a, [0, 1], rfl, R1, h1, in2, rfl, by decide, by decide, (fun k => match k with | 0 => by decide | 1 => by decide | k + 2 => by show ([] : List Int).length ≤ 1000000; decide), (fun b b1 b2 => ?_), fun m H2 S2 n2 h2 => ?_⟩
    · have e : b = 1 := by
        have b3 : b < 2 := b2
        omega
      subst e
      decide +kernel
    rw [ab2] at h2
    have R2 := R1.same S2
    refine ⟨_, rfl, _, rfl, _, rfl, l, m, a, ps, rfl, R2, h2, S2 _ _ h1, fun g H3 S3 n3 h3 => ?_⟩
    have R3 := R2.same S3
    have T3 : Tabs TT H3 := ((hT.ext S1).ext S2).ext S3
    have ha3 := S3 _ _ (S2 _ _ h1)
    have hm3 := S3 _ _ h2
    have hg3 : H3 g = some (.lst ([0, 1].map V.int)) := h3
    have E3 : ExtN H H3 := extS ((S1.trans S2).trans S3)
    refine ⟨by show 0 ≤ sizeLine; decide, fun fd H4 n4 S4 h4 => ?_⟩
    have T4 := T3.ext S4
    -- sorted(set(groups[1:]))
    refine ⟨_, rfl, 1, rfl, g, _, rfl, SqL.of (S4 _ _ hg3), fun gs H5 n5 S5 h5 => ?_⟩
    have h5 : H5 gs = some (.lst ([1].map V.int)) := h5
    refine ⟨gs, [1], rfl, SqL.of h5, by decide, fun sp c H6 n6 S6 h6 hc => ?_⟩
    have S6 : Same H5 H6 := S6
    refine ⟨sp, _, c, rfl, h6, Nat.lt_of_le_of_lt hc (by decide), fun ns op hpw hmem hlen n7 => ?_⟩
    have ens : ns = [1] := only_one hpw fun k => by rw [hmem k, decide_eq_true_eq, List.mem_singleton]
    subst ens
    have S7 : Same H6 (upd H6 op (.lst ([1].map V.int))) := same_upd n7
    have h7 : (upd H6 op (.lst ([1].map V.int))) op = some (.lst ([1].map V.int)) := upd_same
    generalize upd H6 op (.lst ([1].map V.int)) = H7 at S7 h7
    have S47 : Same H4 H7 := (S5.trans S6).trans S7
    have E7 : ExtN H3 H7 := extS (S4.trans S47)
    refine ⟨op, rfl, ⟨_, SqL.of h7⟩, for_list (K := K) (a := op) (xs := [1].map V.int) (fun j σ H' => (∃ x y z, σ = [some (.ref l), some (.ref a), some (.ref m), some (.ref g), some (.ref fd), x, y, z, none]) ∧ ExtN H3 H' ∧ Tabs TT H' ∧ H' op = some (.lst ([1].map V.int)) ∧ H' fd ≠ none ∧
        (j = 0 → H' fd = some (.lst [])) ∧ (j = 1 → ∃ p t : Addr, H' fd = some (.lst [.ref p]) ∧ H' p = some (.tup [.ref t, .int 0]) ∧ H' t = some (.tup [.int 0, .int 1])))
      ⟨⟨_, _, _, rfl⟩, E7, T4.ext S47, h7, (by rw [S47 _ _ h4]; exact fun z => nomatch z), fun _ => S47 _ _ h4, fun z => nomatch z⟩ (fun j σ H' _ ⟨_, _, _, z, _⟩ => SqL.of z) ?_ ?_⟩
    · rintro j y σ H8 hj ⟨⟨x, y1, z1, rfl⟩, E8, T8, hop, _, h0, _⟩
      obtain ⟨k, hk, rfl⟩ := getMap hj
      have hj0 : j = 0 := by
        have := (List.getElem?_eq_some_iff.mp hk).1
        rw [List.length_singleton] at this
        omega
      subst hj0
      cases hk
      have hfd := h0 rfl
      have lenP : ps.length = 2 := R3.len
      have R8 : H8 l = some (.lst (ps.map V.ref)) := lst_ext E8 R3.at_
      have g8 := lst_ext E8 hg3
      -- held
      refine ⟨_, rfl, l, _, rfl, .inl (SqL.of R8), _, _, rfl, ⟨by omega, by omega, by rw [List.length_map, lenP]; decide, by rw [List.length_map, lenP]; decide⟩, fun D hD => ?_⟩
      rw [List.length_map, lenP]
      refine lc_range (lo := 1) (n := (((2 : Nat) : Int) - 1).toNat) (fun j H9 => Same H8 H9 ∧ H9 D = some (.lst (List.replicate j (V.int 1)))) ⟨same_upd hD, upd_same⟩ ?_ ?_
      · rintro j H9 hj ⟨S9, h9⟩
        have hj : j < 1 := hj
        have hj0 : j = 0 := by omega
        subst hj0
        refine ⟨rfl, _, rfl, _, rfl, g, _, _, _, rfl, rfl, SqL.of (S9 _ _ g8), at_of (j := 1) rfl rfl, _, rfl, rfl, _, rfl, ite2 (fun _ => ?_) (fun z => absurd rfl z)⟩
        exact ⟨_, rfl, _, h9, by decide, fun b o hb => by rw [upd_ne (ne_of_none hb hD)]; exact S9 _ _ hb, upd_same⟩
      rintro H9 ⟨S9, h9⟩
      have h9 : H9 D = some (.lst ([1].map V.int)) := h9
      have hm9 := S9 _ _ (lst_ext E8 hm3)
      have ha9 := S9 _ _ (lst_ext E8 ha3)
      -- gate
      refine ⟨_, rfl, _, rfl, D, a, [1], [0, 1], rfl, rfl, T8.ext S9, by decide, SqL.of h9, SqL.of ha9, by decide, by decide, fun H10 E10 T10 M hM _ => ?_⟩
      have eM : M = 1 := List.mem_singleton.mp hM
      subst eM
      have h10 := lst_ext E10 h9
      refine ⟨m, _, _, .int 0, rfl, rfl, SqL.of (lst_ext E10 hm9), at_of (j := 1) rfl rfl, ?_⟩
      have hfd10 := lst_ext E10 (S9 _ _ hfd)
      -- found.append
      refine ⟨_, rfl, .inl ⟨rfl, _, SqL.of hfd10⟩, _, rfl, by show 1 ≤ sizeLine; decide, fun lg H11 n11 S11 h11 => ⟨_, rfl, lg, D, _, _, rfl, rfl, h11, S11 _ _ h10, by show 1 + 1 ≤ sizeLine; decide, fun lc H12 n12 S12 h12 => ?_⟩⟩
      have h12 : H12 lc = some (.lst ([0, 1].map V.int)) := h12
      refine ⟨lc, [0, 1], rfl, SqL.of h12, by decide, fun ns sp2 hpm hpw n13 => ?_⟩
      have ens := two_only hpm hpw
      subst ens
      have S13 : Same H12 (upd H12 sp2 (.lst ([0, 1].map V.int))) := same_upd n13
      have h13 : (upd H12 sp2 (.lst ([0, 1].map V.int))) sp2 = some (.lst ([0, 1].map V.int)) := upd_same
      generalize upd H12 sp2 (.lst ([0, 1].map V.int)) = H13 at S13 h13
      refine ⟨sp2, _, rfl, .inl ⟨SqL.of h13, fun t n14 => ?_⟩⟩
      have S14 : Same H13 (upd H13 t (.tup ([0, 1].map V.int))) := same_upd n14
      have h14 : (upd H13 t (.tup ([0, 1].map V.int))) t = some (.tup ([0, 1].map V.int)) := upd_same
      generalize upd H13 t (.tup ([0, 1].map V.int)) = H14 at S14 h14
      refine ⟨_, rfl, by show 2 ≤ sizeLine; decide, fun p H15 n15 S15 h15 => ?_⟩
      have S1015 : Same H10 H15 := (((S11.trans S12).trans S13).trans S14).trans S15
      have hfd15 := S1015 _ _ hfd10
      refine ⟨fd, _, _, rfl, rfl, hfd15, by decide, fun H16 B16 h16 => ?_⟩
      have hfd13 := S13 _ _ (S12 _ _ (S11 _ _ hfd10))
      have nt : t ≠ fd := (ne_of_none hfd13 n14).symm
      have np : p ≠ fd := (ne_of_none (S14 _ _ hfd13) n15).symm
      have E15 : ExtN H3 H15 := ((E8.trans (extS S9)).trans E10).trans (extS S1015)
      have E16 : ExtN H3 H16 := fun b o e n => B16 b o (ne_of_none e n4) (E15 b o e n)
      have nop : op ≠ fd := fun z => by
        rw [z, hfd] at hop
        cases hop
      exact ⟨⟨_, _, _, rfl⟩, E16, tabs_but (T10.ext S1015) B16 hfd15, B16 _ _ nop (S1015 _ _ (lst_ext E10 (S9 _ _ hop))), (by rw [h16]; exact fun z => nomatch z), (fun z => nomatch z), fun _ => ⟨p, t, h16, B16 _ _ np h15, B16 _ _ nt (S15 _ _ h14)⟩⟩
    · rintro σ H8 ⟨⟨x, y1, z1, rfl⟩, E8, T8, hop, _, _, h1⟩
      obtain ⟨p, t, e1, e2, e3⟩ := h1 rfl
      exact ⟨_, rfl, fd, _, rfl, SqL.of e1, fun o H9 n9 S9 h9 => q o p t H9 ((E3.trans E8).trans (extS S9)) (T8.ext S9) h9 (S9 _ _ e2) (S9 _ _ e3)⟩
end
end Sb

/-! ## R65 -/
/-! rows_within, kind_of, round_of of the web of one tie. -/
namespace Sb
open PySem PySem.Spec PyProof.Rows L2
open LamX (ExtN Tabs TabS)
abbrev sWithin : Stmt := top 43
abbrev sKind : Stmt := top 42
/-- the names of the outer block -/
abbrev scOut : Scope := { kind := .function, names := [(".0", .local), ("bay", .local), ("places", .cell), ("rows", .cell)], isGenerator := false, isCoroutine := false }
def spWithin (K : PySem.W.Frag) : Sp := fun vs H Q _ => ∃ (l t : Addr) (ps : List Addr), vs = [.ref l, .ref t] ∧ RowsL H l ps rss2 ∧ SqT K H t ([0, 1].map V.int) ∧ ∀ p H', Same H H' → Q (.ref p) H'
def spKind (K : PySem.W.Frag) : Sp := fun vs H Q _ => ∃ (l t : Addr) (ps : List Addr), vs = [.ref l, .ref t] ∧ RowsL H l ps rss2 ∧ SqT K H t ([0, 1].map V.int) ∧ ∀ H', Same H H' → Q (.str "bridge") H'
abbrev kv2 : List (Key × V) := [(.inl 0, .int 0), (.inl 1, .int 1)]
section
variable {X : Cx}
theorem pi_listK {K : PySem.W.Frag} {tg e : Expr} {te : TE} (h : PE X e te) (hK : X.K = K := by rfl) : PI X tg e (iList K te) := by
  subst hK
  exact pi_list h
end
section
variable {P : Program} {w : World} {K : PySem.W.Frag} {mg : Str → Option Value} {base : Heap} {C : Nat → Addr}
abbrev scWithinN : List Str := ["rows", "block", "places", "place", "bay", "near"]
abbrev scWithinS : Scope := defScope sWithin
theorem scWithin : FnScope ["rows", "block", "places", "place", "bay", "near"] ["rows", "block"] (defScope sWithin) := ⟨rfl, rfl, rfl, by decide +kernel, rfl, by decide +kernel, by decide +kernel⟩
theorem ok_within {f : Addr} {fd : FuncData} (F : FnP K "rows_within" sWithin f fd) (he : mg "enumerate" = none) : FnOk P w K mg base CX0 1 f fd ["rows", "block"] (spWithin K) := by
  refine ok0 F scWithin (fun vs H Q E h => ?_) (fun cdv A outer s H vs Q E hr h => ?_)
  · obtain ⟨l, t, ps, rfl, _⟩ := h
    rfl
  · obtain ⟨l, t, ps, rfl, R, ht, q⟩ := h
    have hu := hu_of hr
    refine ⟨_, pss_cons (ps_set (i := 2) scWithin.nd rfl (Or.inr rfl) (pe_dc (own := [("place", 3), ("bay", 4)]) (g := gTup K 2 (gCons (gName 3) (gCons (gName 4) gNil))) (by rfl) scWithin.nd (pi_et (by rfl) he (pa_cons (pv 1) pa_nil)) (blkOk_by (own := [("place", 3), ("bay", 4)]) (N := scWithinN) (sc := scWithinS) (by decide +kernel))
        (fun _ _ _ _ _ => pg_tup (by rfl) (pgs_cons (pg_name (i := 3) scWithin.nd rfl (Or.inl rfl)) (pgs_cons (pg_name (i := 4) scWithin.nd rfl (Or.inl rfl)) pgs_nil))) (fun _ _ _ _ _ => pts_nil) (fun _ _ _ _ _ => pv 4) (fun _ _ _ _ _ => pv 3)))
      (pss_one (ps_ret (pe_lc (own := [("bay", 4)]) (g := gName 4) (by rfl) scWithin.nd (pi_tup (pv 1)) (blkOk_by (own := [("bay", 4)]) (N := scWithinN) (sc := scWithinS) (by decide +kernel)) (fun _ _ _ _ _ => pg_name (i := 4) scWithin.nd rfl (Or.inl rfl)) (fun _ _ _ _ _ => pts_nil)
        (fun _ _ _ _ _ => pe_lc (own := [("near", 5)]) (g := gName 5) (by rfl) scWithin.nd (pi_listK (K := K) (pe_ix (ix_listK (K := K)) (pv 0) (pv 4) (fun _ _ => rfl))) (blkOk_by (own := [("near", 5)]) (N := scWithinN) (sc := scOut) (by decide +kernel)) (fun _ _ _ _ _ => pg_name (i := 5) scWithin.nd rfl (Or.inl rfl))
          (fun _ _ _ _ _ => pts_one (pt_cmp (pc_din hu (pv 5) (pv 2)))) (fun _ _ _ _ _ => pe_dget hu (pv 2) (pv 5) (fun _ _ => rfl)))))), ?_⟩
    -- places
    refine ⟨_, rfl, t, _, rfl, ht, fun D hD => dc_it walk_et (fun i H' => Same H H' ∧ H' D = some (.dK (kv2.take i))) ⟨same_upd hD, upd_same⟩ (fun i H' _ ⟨S, _⟩ => sqT_same S ht) ?_ ?_⟩
    · rintro i x H1 H2 hi ⟨S, hd⟩ ⟨T, y1, y2, rfl, nT, rfl, hx, hy⟩
      cases hx
      have ST : Same H1 (upd H1 T (.tup [V.int (i : Nat), y2])) := same_upd nT
      have hT : (upd H1 T (.tup [V.int (i : Nat), y2])) T = some (.tup [V.int (i : Nat), y2]) := upd_same
      generalize upd H1 T (.tup [V.int (i : Nat), y2]) = H2 at ST hT
      have hd2 := ST _ _ hd
      have S2 : Same H H2 := S.trans ST
      have go : ∀ k : Int, y2 = .int k → kv2.take (i + 1) = putK (kv2.take i) (.inl k) (V.int (i : Nat)) → (kv2.take i).length < sizeLine → ∃ kvs kk, y2 = kV kk ∧ H2 D = some (.dK kvs) ∧ kvs.length < sizeLine ∧ Same H (upd H2 D (.dK (putK kvs kk (V.int (i : Nat))))) ∧ (upd H2 D (.dK (putK kvs kk (V.int (i : Nat))))) D = some (.dK (kv2.take (i + 1))) := fun k e1 e2 e3 => by
        refine ⟨_, .inl k, e1, hd2, e3, fun b o hb => ?_, by rw [upd_same, e2]⟩
        rw [upd_ne (ne_of_none hb hD)]
        exact S2 _ _ hb
      refine ⟨T, _, rfl, .inl (.inl hT), rfl, _, _, rfl, _, _, rfl, rfl, rfl, _, rfl, _, rfl, ?_⟩
      match i, hi, hy with
      | 0, _, hy =>
        cases hy
        exact go 0 rfl (by decide +kernel) (by decide)
      | 1, _, hy =>
        cases hy
        exact go 1 rfl (by decide +kernel) (by decide)
    rintro H1 ⟨S1, hd1⟩
    have hd1 : H1 D = some (.dK kv2) := hd1
    have lenP : ps.length = 2 := R.len
    -- the rows
    refine ⟨_, rfl, t, rfl, ⟨_, sqT_same S1 ht⟩, fun D2 hD2 => lc_tup (K := K) (a := t) (xs := [0, 1].map V.int) (fun i H' => Same H1 H' ∧ ∃ acc, H' D2 = some (.lst acc) ∧ acc.length = i) ⟨same_upd hD2, [], upd_same, rfl⟩ (fun i H' _ ⟨S, _⟩ => sqT_same (S1.trans S) ht) ?_ ?_⟩
    · rintro i y H2 hi ⟨S2, acc, ha, hl⟩
      obtain ⟨b, hb, rfl⟩ := getMap hi
      have b2 : b = 0 ∨ b = 1 := by simpa using List.mem_of_getElem? hb
      have hi2 : i < 2 := (List.getElem?_eq_some_iff.mp hb).1
      have S12 := S1.trans S2
      obtain ⟨p, gp, xp⟩ := R.get (i := b) (by omega) (by show b < ((2 : Nat) : Int); omega)
      have rp := R.row _ _ gp
      have hd2 := S2 _ _ hd1
      refine ⟨rfl, _, rfl, _, rfl, l, _, _, _, rfl, rfl, SqL.of (S12 _ _ R.at_), xp, p, rfl, ⟨_, SqL.of (S12 _ _ rp)⟩, fun D3 hD3 => lc_list (K := K) (a := p) (xs := (rss2.getD b.toNat []).map V.int) (fun j H' => Same H2 H' ∧ ∃ acc, H' D3 = some (.lst acc) ∧ acc.length = j) ⟨same_upd hD3, [], upd_same, rfl⟩ (fun j H' _ ⟨S, _⟩ => SqL.of (S _ _ (S12 _ _ rp))) ?_ ?_⟩
      · rintro j z H3 hj ⟨S3, acc3, ha3, hl3⟩
        obtain ⟨n, hn, rfl⟩ := getMap hj
        have n2 : n = 0 ∨ n = 1 := by
          have z := in2 b.toNat n (List.mem_of_getElem? hn)
          omega
        have hd3 := S3 _ _ hd2
        have jl : j < 1 := by
          have z := (List.getElem?_eq_some_iff.mp hn).1
          rcases b2 with rfl | rfl <;> exact z
        have fin : ∀ y : V, Same H2 (upd H3 D3 (.lst (acc3 ++ [y]))) ∧ ∃ acc, (upd H3 D3 (.lst (acc3 ++ [y]))) D3 = some (.lst acc) ∧ acc.length = j + 1 := fun y => by
          refine ⟨fun b o hb => ?_, _, upd_same, by rw [List.length_append, hl3]; rfl⟩
          rw [upd_ne (ne_of_none hb hD3)]
          exact S3 _ _ hb
        have sm : acc3.length < sizeLine := by
          rw [hl3]
          exact small1000 (by omega)
        rcases n2 with rfl | rfl
        · refine ⟨rfl, _, rfl, _, rfl, D, _, rfl, DGet.k (k := Sum.inl 0) hd3, _, rfl, ite2 (fun _ => ?_) (fun z => absurd rfl z)⟩
          exact ⟨_, rfl, _, rfl, D, .int 0, rfl, DGet.k (k := Sum.inl 0) hd3, acc3, ha3, sm, fin _⟩
        · refine ⟨rfl, _, rfl, _, rfl, D, _, rfl, DGet.k (k := Sum.inl 1) hd3, _, rfl, ite2 (fun _ => ?_) (fun z => absurd rfl z)⟩
          exact ⟨_, rfl, _, rfl, D, .int 1, rfl, DGet.k (k := Sum.inl 1) hd3, acc3, ha3, sm, fin _⟩
      rintro H3 ⟨S3, acc3, ha3, _⟩
      refine ⟨acc, S3 _ _ ha, by rw [hl]; exact small1000 (by omega), fun b o hb => ?_, _, upd_same, by rw [List.length_append, hl]; rfl⟩
      rw [upd_ne (ne_of_none hb hD2)]
      exact S3 _ _ (S2 _ _ hb)
    · rintro H2 ⟨S2, _⟩
      exact q D2 H2 (S1.trans S2)
theorem scKind : FnScope ["rows", "block", "inner"] ["rows", "block"] (defScope sKind) := ⟨rfl, rfl, rfl, by decide +kernel, rfl, by decide +kernel, by decide +kernel⟩
theorem ok_kind {f fI : Addr} {fd fdI : FuncData} (F : FnP K "kind_of" sKind f fd) (hl : mg "len" = none) (FI : FnP K "rows_within" sWithin fI fdI) (gI : mg "rows_within" = some (.ref fI)) (GI : FnOk P w K mg base CX0 1 fI fdI ["rows", "block"] (spWithin K)) : FnOk P w K mg base CX0 2 f fd ["rows", "block"] (spKind K) := by
  have bI : Binds K fdI ["rows", "block"] [] := FI.bindsN fun _ _ _ _ _ _ us hl => match us, hl with | [_, _], _ => rfl
  refine ok0 F scKind (fun vs H Q E h => ?_) (fun cdv A outer s H vs Q E hr h => ?_)
  · obtain ⟨l, t, ps, rfl, _⟩ := h
    rfl
  · obtain ⟨l, t, ps, rfl, R, ht, q⟩ := h
    refine ⟨_, (pss_cons (ps_set (i := 2) scKind.nd rfl (Or.inl rfl) (pe_call GI hr rfl gI FI.kp bI .nil pass0 (pa_cons (pv 0) (pa_cons (pv 1) pa_nil))))
    (pss_cons (ps_if (pt_cmpR op_eq (pe_callB (id := "len") call_len_seq (by rfl) hl (by decide +kernel) (pa_cons (pv 1) pa_nil)) pe_int (nomark _))
      (pss_one (ps_ret pe_str))
      pss_nil)
    (pss_cons ps_never
    (pss_cons ps_never
    (pss_cons ps_never
    (pss_one ps_never)))))), ?_⟩
    refine ⟨_, rfl, _, rfl, l, t, ps, rfl, R, ht, fun p H1 S1 => ?_⟩
    exact ⟨_, rfl, t, _, rfl, .inr (sqT_same S1 ht), rfl, _, rfl, ite2 (fun _ => q H1 S1) (fun z => absurd rfl z)⟩
theorem scRound : FnScope ["web", "k", "rows", "parts", "block", "gate"] ["web", "k"] (defScope sRound) := ⟨rfl, rfl, rfl, by decide +kernel, rfl, by decide +kernel, by decide +kernel⟩
theorem ro2 : rowsOf 2 [(0, 1)] = rss2 := by decide +kernel
theorem ok_round {f fN fR fB fW fK : Addr} {fd fdN fdR fdB fdW fdK : FuncData} {TT : List (Addr × Str)} (F : FnP K "round_of" sRound f fd) (E : ErrTxt K mg C) (hl : mg "len" = none) (FN : FnP K "need_web" sNeed fN fdN) (gN : mg "need_web" = some (.ref fN)) (GN : FnOk P w K mg base (L2.CX P w) 4 fN fdN ["web"] (spNeed K C))
    (FR : FnP K "rows_of" sRows fR fdR) (gR : mg "rows_of" = some (.ref fR)) (GR : FnOk P w K mg base CX0 1 fR fdR ["web"] (spRows K)) (FB : FnP K "blocks_with_gates" sBlocks fB fdB) (gB : mg "blocks_with_gates" = some (.ref fB)) (GB : FnOk P w K mg base CX0 3 fB fdB ["rows"] (spBlocks TT))
    (FW : FnP K "is_whole" sWhole fW fdW) (gW : mg "is_whole" = some (.ref fW)) (GW : FnOk P w K mg base CX0 1 fW fdW ["thing"] spWhole) (FK : FnP K "kind_of" sKind fK fdK) (gK : mg "kind_of" = some (.ref fK)) (GK : FnOk P w K mg base CX0 2 fK fdK ["rows", "block"] (spKind K)) :
    FnOk P w K mg base (L2.CX P w) 8 f fd ["web", "k"] (spRound K C TT) := by
  have bN : Binds K fdN ["web"] [] := FN.bindsN fun _ _ _ _ _ _ us hl => match us, hl with | [_], _ => rfl
  have bR : Binds K fdR ["web"] [] := FR.bindsN fun _ _ _ _ _ _ us hl => match us, hl with | [_], _ => rfl
  have bB : Binds K fdB ["rows"] [] := FB.bindsN fun _ _ _ _ _ _ us hl => match us, hl with | [_], _ => rfl
  have bW : Binds K fdW ["thing"] [] := FW.bindsN fun _ _ _ _ _ _ us hl => match us, hl with | [_], _ => rfl
  have bK : Binds K fdK ["rows", "block"] [] := FK.bindsN fun _ _ _ _ _ _ us hl => match us, hl with | [_, _], _ => rfl
  refine okX F scRound (fun vs H Q E h => ?_) (fun cdv A outer s H vs Q E0 hr h => ?_)
  · obtain ⟨v, rfl, _⟩ := h
    rfl
  · have hr1 : Room 1 _ := hr.mono (by decide)
    have hr2 : Room 2 _ := hr.mono (by decide)
    have hr3 : Room 3 _ := hr.mono (by decide)
    have hr4 : Room 4 _ := hr.mono (by decide)
    obtain ⟨v, rfl, hW, hT, q⟩ := h
    refine ⟨_, (pss_cons (ps_expr (pe_call GN hr4 rfl gN FN.kp bN .nil (passes_call (takes_of rfl rfl rfl rfl) (fun _ _ _ _ h => h)) (pa_cons (pv 0) pa_nil)))
    (pss_cons (ps_set (i := 2) scRound.nd rfl (Or.inl rfl) (pe_call GR hr1 rfl gR FR.kp bR .nil pass0 (pa_cons (pv 0) pa_nil)))
    (pss_cons (ps_set (i := 3) scRound.nd rfl (Or.inl rfl) (pe_call GB hr3 rfl gB FB.kp bB .nil pass0 (pa_cons (pv 2) pa_nil)))
    (pss_cons (ps_if (PW.pt (pw_or (pt_not (pt_val (pe_call GW hr1 rfl gW FW.kp bW .nil pass0 (pa_cons (pv 1) pa_nil)))) (pw_or1 (pt_not (pt_chain op_le op_lt pe_int (pv 1) (pe_callB (id := "len") call_len_seq (by rfl) hl (by decide +kernel) (pa_cons (pv 3) pa_nil)))))))
      (pss_one (ps_raise rfl (takes_of rfl rfl rfl rfl) (pmk_own PySem.F.excBase_ValueError (E.ex 2 (by decide)) (E.gs 2 (by decide)) (E.kp 2 (by decide)) (raises_own (E.su 2 (by decide)) (E.ty 2 (by decide))) rfl)))
      pss_nil)
    (pss_cons (ps_asg (pe_ix ix_list (pv 3) (pv 1) (fun _ _ => rfl)) (pg_tup (by rfl) (pgs_cons (pg_name (i := 4) scRound.nd rfl (Or.inl rfl)) (pgs_cons (pg_name (i := 5) scRound.nd rfl (Or.inl rfl)) pgs_nil))))
    (pss_cons (ps_if (pt_cmpR op_ne (pe_call GK hr2 rfl gK FK.kp bK .nil pass0 (pa_cons (pv 2) (pa_cons (pv 4) pa_nil))) pe_str (nomark _))
      (pss_one (ps_raise rfl (takes_of rfl rfl rfl rfl) (pmk_own PySem.F.excBase_ValueError (E.ex 2 (by decide)) (E.gs 2 (by decide)) (E.kp 2 (by decide)) (raises_own (E.su 2 (by decide)) (E.ty 2 (by decide))) rfl)))
      pss_nil)
    (pss_one ps_never))))))), ?_⟩
    have ok1 : webOK 2 [(0, 1)] = true := by decide +kernel
    refine ⟨_, rfl, .inr ⟨v, 2, [(0, 1)], rfl, hW, by decide, fun _ H1 S1 => ?_, fun h => absurd (ok1.symm.trans h) (by decide)⟩⟩
    have hin : ∀ t ∈ [((0 : Int), (1 : Int))], tieIn ((2 : Nat) : Int) t := fun t ht => by
      rw [List.mem_singleton.mp ht]
      exact ⟨by decide, by decide, by decide, by decide⟩
    refine ⟨_, rfl, v, 2, [(0, 1)], rfl, hW.same S1, by decide, by decide, hin, fun l ps H2 S2 _ _ R2 => ?_⟩
    rw [ro2] at R2
    refine ⟨_, rfl, l, ps, rfl, R2, hT.ext (S1.trans S2), fun o p t H3 E3 T3 ho hp ht => ?_⟩
    have R3 : RowsL H3 l ps rss2 := ⟨lst_ext E3 R2.at_, R2.len, R2.nd, R2.out, fun i p e => lst_ext E3 (R2.row i p e)⟩
    refine ⟨_, rfl, .inl ⟨0, rfl, _, rfl, iteC rfl ?_⟩⟩
    refine ⟨_, rfl, _, _, rfl, rfl, _, rfl, ite2 (fun _ => ?_) (fun z => absurd rfl z)⟩
    refine ⟨_, rfl, o, _, rfl, .inl (SqL.of ho), _, _, rfl, rfl, _, rfl, ite2 (fun z => Bool.noConfusion (show false = true from z)) (fun _ => ?_)⟩
    refine ⟨_, rfl, _, rfl, o, _, 0, .ref p, rfl, rfl, SqL.of ho, at_of (j := 0) rfl rfl, p, _, rfl, .inl (.inl hp), rfl, _, _, rfl, _, _, rfl, rfl, ?_⟩
    refine ⟨_, rfl, _, rfl, l, t, ps, rfl, R3, SqT.of ht, fun H4 S4 => ⟨rfl, _, rfl, ite2 (fun _ => ?_) (fun z => absurd (by decide +kernel) z)⟩⟩
    exact q H4 (((extS (S1.trans S2)).trans E3).trans (extS S4)) (T3.ext S4)
end
end Sb

/-! ## F65 -/
namespace Sb
open PySem PySem.Spec PyProof.Rows L2
def cOf (K : PySem.W.Frag) (i : Nat) : Addr := (clsAt K).getD i 0
theorem exOne_at {K : PySem.W.Frag} (h : exs K = true) {i : Nat} (hi : i < 21) : exOne K (clsAt K) i (cOf K i) = true := by
  unfold exs exAll at h
  obtain ⟨h1, _⟩ := He.ba h
  obtain ⟨_, h2⟩ := He.ba h1
  exact List.all_eq_true.mp h2 i (List.mem_range.mpr hi)
theorem err_of {K : PySem.W.Frag} {h : Heap} {mg : Str → Option Value} (X : K.In h) (G : h.Ns mainGlobals mg) (e : exs K = true) (f1 : mg "isinstance" = none) (f2 : mg "str" = none) (f3 : mg "ValueError" = none) (f4 : mg "LookupError" = none) : ErrTxt K mg (cOf K) := by
  have hd : PySem.W.specialIn K (.builtin "object.__class__") "__get__" = some (some (.builtin "getset_descriptor.__get__")) ∧ PySem.W.takesIn K (.builtin "object.__class__") = some true := by
    have e' := e
    unfold exs exAll at e'
    obtain ⟨h1, _⟩ := He.ba e'
    obtain ⟨h2, _⟩ := He.ba h1
    obtain ⟨h3, h4⟩ := He.ba h2
    exact ⟨He.eqO_ok h3, of_decide_eq_true h4⟩
  have one := fun (i : Nat) (hi : i < 21) => exOne_at e hi
  have parts : ∀ i, i < 21 → PySem.W.nsIn K mainGlobals (nm i) = some (some (.ref (cOf K i))) ∧ PySem.W.keepIn K (.ref (cOf K i)) = true ∧ PySem.W.excIn K (cOf K i) He.veBase "ValueError.__new__" = true ∧ L2.ExcC K (cOf K i) ∧
      PySem.W.findIn K (.ref (cOf K i)) "__str__" = some (some (.builtin "BaseException.__str__")) ∧ (∀ j, j < 20 → PySem.W.kitOne K (.ref (cOf K i)) (.ref (cOf K j)) = some (decide (i = j))) ∧ PySem.W.kitOne K (.ref (cOf K i)) (.ref (cOf K 20)) = some true ∧
      PySem.W.kitOne K (.ref (cOf K i)) (.type "ValueError") = some true ∧ PySem.W.kitOne K (.ref (cOf K i)) (.type "LookupError") = some false ∧ PySem.W.exmOne K (.ref (cOf K i)) (.ref (cOf K 20)) = some true ∧ PySem.W.typeIn K (.ref (cOf K i)) = some (.type "type") := fun i hi => by
    have h := one i hi
    unfold exOne at h
    obtain ⟨a1, h⟩ := He.ba h
    obtain ⟨a2, h⟩ := He.ba h
    obtain ⟨a3, h⟩ := He.ba h
    obtain ⟨a4, h⟩ := He.ba h
    obtain ⟨a5, h⟩ := He.ba h
    obtain ⟨a6, h⟩ := He.ba h
    obtain ⟨a7, h⟩ := He.ba h
    obtain ⟨a8, h⟩ := He.ba h
    obtain ⟨a9, h⟩ := He.ba h
    obtain ⟨b1, h⟩ := He.ba h
    obtain ⟨b2, h⟩ := He.ba h
    obtain ⟨b3, h⟩ := He.ba h
    obtain ⟨b4, h⟩ := He.ba h
    obtain ⟨b5, h⟩ := He.ba h
    obtain ⟨b6, b7⟩ := He.ba h
    exact ⟨He.eqO_ok a1, a2, a3, ⟨He.eqO_ok a4, He.eqO_ok a5, of_decide_eq_true a6, a7, He.eqO_ok a8, hd.1, hd.2, of_decide_eq_true a9⟩, He.eqO_ok b1, fun j hj => of_decide_eq_true (List.all_eq_true.mp b2 j (List.mem_range.mpr hj)), of_decide_eq_true b3, of_decide_eq_true b4, of_decide_eq_true b5, of_decide_eq_true b6, of_decide_eq_true b7⟩
  exact { gs := fun i hi => PySem.W.mg_of X G (parts i hi).1, kp := fun i hi => (parts i hi).2.1, ex := fun i hi => (parts i hi).2.2.1, G := fun i hi => (parts i hi).2.2.2.1, st := fun i hi => (parts i hi).2.2.2.2.1,
          su := fun i hi => (parts i hi).2.2.2.1.hs, kit := fun i j hi hj => (parts i hi).2.2.2.2.2.1 j hj, kitB := fun i hi => (parts i hi).2.2.2.2.2.2.1, kitV := fun i hi => (parts i hi).2.2.2.2.2.2.2.1, kitL := fun i hi => (parts i hi).2.2.2.2.2.2.2.2.1,
          exm := fun i hi => (parts i hi).2.2.2.2.2.2.2.2.2.1, ty := fun i hi => (parts i hi).2.2.2.2.2.2.2.2.2.2, isi := f1, str := f2, ve := f3, le := f4 }
theorem law_at {w : World} {K : PySem.W.Frag} {h : Heap} {mg : Str → Option Value} {fa : Addr} (X : K.In h) (G : h.Ns mainGlobals mg) (hfa : mg ("law" : Str) = some (.ref fa)) (c : He.SaysX fas fns [] tfs exs w h K) :
    LamX.LawAtS PySem.Challenge.rw_sparebay_k65_errors w K CX0 13 63 "script" mg fa h := by
  have d := He.SaysT.d c.t
  have glo : ∀ (i : Nat) (x : Str), fas[i]? = some (.glo x) → mg x = some (.ref (He.ga K x)) := fun i x hi => He.glo_ok X G (d.fact i (f := .glo x) hi)
  have free : ∀ (i : Nat) (x : Str), fas[i]? = some (.free x) → mg x = none := fun i x hi => He.free_ok X G (d.fact i (f := .free x) hi)
  obtain ⟨fdW, FW⟩ := d.def_ 0 (d := dDef "is_whole" 23) rfl
  obtain ⟨fdR, FR⟩ := d.def_ 1 (d := dDef "rows_of" 24) rfl
  obtain ⟨fdS, FS⟩ := d.def_ 2 (d := dDef "steps_from" 25) rfl
  obtain ⟨fdA, FA⟩ := d.def_ 3 (d := dDef "bays_above" 27) rfl
  obtain ⟨fdC, FC⟩ := d.def_ 4 (d := dDef "bays_climbed" 28) rfl
  obtain ⟨fdG, FG⟩ := d.def_ 5 (d := dDef "groups_held" 29) rfl
  obtain ⟨fdB, FB⟩ := d.def_ 6 (d := dDef "blocks_with_gates" 30) rfl
  obtain ⟨fdI, FI⟩ := d.def_ 7 (d := dDef "is_web" 34) rfl
  obtain ⟨fdT, FT⟩ := d.def_ 8 (d := dDef "is_tie" 35) rfl
  obtain ⟨fdN, FN⟩ := d.def_ 9 (d := dDef "need_web" 36) rfl
  obtain ⟨fdY, FY⟩ := d.def_ 10 (d := dDef "need_bay" 38) rfl
  obtain ⟨fdNb, FNb⟩ := d.def_ 11 (d := dDef "neighbours" 39) rfl
  obtain ⟨fdRo, FRo⟩ := d.def_ 12 (d := dDef "round_of" 41) rfl
  obtain ⟨fdK, FK⟩ := d.def_ 13 (d := dDef "kind_of" 42) rfl
  obtain ⟨fdWi, FWi⟩ := d.def_ 14 (d := dDef "rows_within" 43) rfl
  obtain ⟨fd1, F1⟩ := d.def_ 15 (d := dDef "_law_open" 49) rfl
  obtain ⟨fd2, F2⟩ := d.def_ 16 (d := dDef "_law_spread" 50) rfl
  obtain ⟨fd3, F3⟩ := d.def_ 17 (d := dDef "_law_take" 51) rfl
  obtain ⟨fd4, F4⟩ := d.def_ 18 (d := dDef "_law_one_of" 52) rfl
  obtain ⟨fd5, F5⟩ := d.def_ 19 (d := dDef "_law_table" 53) rfl
  obtain ⟨fd6, F6⟩ := d.def_ 20 (d := dDef "_law_kinds" 54) rfl
  obtain ⟨fd7, F7⟩ := d.def_ 21 (d := dDef "_law_caught" 55) rfl
  obtain ⟨fdQ, FQ⟩ := d.def_ 23 (d := dDef "is_bay" 37) rfl
  have gQ := glo 40 "is_bay" rfl
  obtain ⟨fd8, F8⟩ := d.def_ 22 (d := dDef "law" 56) rfl
  have T0 : PenTxt mg := ⟨free 23 "len" rfl, free 24 "int" rfl, free 25 "list" rfl, free 26 "enumerate" rfl⟩
  have T : WebTxt mg := ⟨free 23 "len" rfl, free 27 "range" rfl, free 28 "isinstance" rfl, free 24 "int" rfl, free 37 "bool" rfl, free 32 "tuple" rfl, free 33 "all" rfl, free 34 "min" rfl⟩
  have T2 : WebTxt2 mg := ⟨He.int_ok X G (d.fact 38 (f := .int "FEWEST_BAYS" 2) rfl), He.int_ok X G (d.fact 39 (f := .int "MOST_BAYS" 40) rfl)⟩
  have E : ErrTxt K mg (cOf K) := err_of X G c.more (free 28 "isinstance" rfl) (free 29 "str" rfl) (free 30 "ValueError" rfl) (free 31 "LookupError" rfl)
  have V0 : TabTxt mg := ⟨free 30 "ValueError" rfl, free 31 "LookupError" rfl⟩
  have e := hfa.symm.trans (glo 22 "law" rfl)
  cases e
  have bL := FunD.bindsA (ps := ["script"]) F8 fun _ _ _ _ _ _ us hl => match us, hl with | [_], _ => rfl
  have hPP : (He.cT K ("law", none)).2 ≠ (He.cT K ("blocks_with_gates", none)).2 := of_decide_eq_true (He.ba c.more).2
  refine ⟨fd8, tfs.map (He.cT K), spLaw K (He.cT K ("law", none)).2 (He.cT K ("blocks_with_gates", none)).2, fun p hp => ?_, fun p hp => ?_, fun p hp => ?_, fun s v => bL s [v] rfl, fun H a ns hl _ hT hS => ?_, fun base KB GB TB => ?_⟩
  · obtain ⟨q, hq, rfl⟩ := List.mem_map.mp hp
    exact c.empty q hq
  · obtain ⟨q, hq, rfl⟩ := List.mem_map.mp hp
    exact c.out q hq
  · obtain ⟨q, hq, rfl⟩ := List.mem_map.mp hp
    exact PySem.W.codeHd_of_K X (c.hd q hq)
  · exact ⟨a, ns, rfl, hS, hl, LamX.TabS.nil (hT _ (List.mem_cons_of_mem _ List.mem_cons_self)), LamX.TabS.nil (hT _ List.mem_cons_self), fun _ => rfl⟩
  · have G1 : FnOk PySem.Challenge.rw_sparebay_k65_errors.prog w K mg base CX0 1 _ fd1 ["script"] (spOpen K) := ok_open F1 T0
    have G3 : FnOk PySem.Challenge.rw_sparebay_k65_errors.prog w K mg base CX0 2 _ fd3 ["pen", "many"] spTake := ok_take F3 T0 F2 (glo 16 "_law_spread" rfl)
    have G4 : FnOk PySem.Challenge.rw_sparebay_k65_errors.prog w K mg base CX0 3 _ fd4 ["pen", "some"] (spOneOf K) := ok_oneOf F4 T0 F3 G3 (glo 17 "_law_take" rfl)
    have G6 : FnOk PySem.Challenge.rw_sparebay_k65_errors.prog w K mg base CX0 1 _ fd6 ["held"] (spKinds (cOf K)) := ok_kinds F6 E
    have G5 : FnOk PySem.Challenge.rw_sparebay_k65_errors.prog w K mg base CX0 4 _ fd5 ["pen"] spTable := ok_table F5 E V0 F3 G3 (glo 17 "_law_take" rfl) F4 G4 (glo 18 "_law_one_of" rfl) F6 G6 (glo 20 "_law_kinds" rfl)
    have GW : FnOk PySem.Challenge.rw_sparebay_k65_errors.prog w K mg base CX0 3 _ fdI ["thing"] (spWeb K) := ok_web FI T T2 FW (glo 0 "is_whole" rfl) FT (glo 8 "is_tie" rfl) FR (glo 1 "rows_of" rfl) FS (glo 2 "steps_from" rfl)
    have GN : FnOk PySem.Challenge.rw_sparebay_k65_errors.prog w K mg base (L2.CX _ w) 4 _ fdN ["web"] (spNeed K (cOf K)) := ok_need FN E FI (glo 7 "is_web" rfl) GW
    have GY : FnOk PySem.Challenge.rw_sparebay_k65_errors.prog w K mg base (L2.CX _ w) 3 _ fdY ["web", "bay"] (spBay K (cOf K)) := ok_bay FY E FQ gQ (ok_isBay FQ T FW (glo 0 "is_whole" rfl))
    have GR : FnOk PySem.Challenge.rw_sparebay_k65_errors.prog w K mg base CX0 1 _ fdR ["web"] (spRows K) := ok_rows FR T
    have GNb : FnOk PySem.Challenge.rw_sparebay_k65_errors.prog w K mg base (L2.CX _ w) 5 _ fdNb ["web", "bay"] (spNb K (cOf K)) := ok_nb FNb FN (glo 9 "need_web" rfl) GN FY (glo 10 "need_bay" rfl) GY FR (glo 1 "rows_of" rfl) GR
    have T3 : SetTxt mg := ⟨free 35 "set" rfl, free 36 "sorted" rfl, free 25 "list" rfl, free 26 "enumerate" rfl⟩
    have T4 : BlkTxt mg := ⟨T.len, T.range, T3.set, T3.sorted, T.tuple, T.min⟩
    have GS : FnOk PySem.Challenge.rw_sparebay_k65_errors.prog w K mg base CX0 1 _ fdS ["rows", "start"] spSteps := ok_steps FS T
    have GA : FnOk PySem.Challenge.rw_sparebay_k65_errors.prog w K mg base CX0 1 _ fdA ["rows", "away"] spAbove := ok_above FA T
    have GG : FnOk PySem.Challenge.rw_sparebay_k65_errors.prog w K mg base CX0 2 _ fdG ["rows", "above", "away"] spGroups := ok_groups FG T T3 FC (glo 4 "bays_climbed" rfl)
    have GI : FnOk PySem.Challenge.rw_sparebay_k65_errors.prog w K mg base CX0 1 _ fdWi ["rows", "block"] (spWithin K) := ok_within FWi T3.enumerate
    have GK : FnOk PySem.Challenge.rw_sparebay_k65_errors.prog w K mg base CX0 2 _ fdK ["rows", "block"] (spKind K) := ok_kind FK T.len FWi (glo 14 "rows_within" rfl) GI
    have GWh : FnOk PySem.Challenge.rw_sparebay_k65_errors.prog w K mg base CX0 1 _ fdW ["thing"] spWhole := ok_whole FW T
    obtain ⟨ocB, odB, dVB, kVB, docB, pmB, anB, cdB, ctB, oslB, rfl, lkB, hcB, _, _⟩ := FB.ex
    obtain ⟨clB, rfl⟩ := He.codeIn_ref hcB
    have eclB : (He.cT K ("blocks_with_gates", none)).1 = clB := He.codeOf_eq lkB rfl
    have TBb := TB _ (List.mem_cons_self : He.cT K ("blocks_with_gates", none) ∈ tfs.map (He.cT K))
    rw [eclB] at TBb
    have GB := ok_blocks (P := PySem.Challenge.rw_sparebay_k65_errors.prog) (w := w) (TT := TTof (He.cT K ("law", none)).2 (He.cT K ("blocks_with_gates", none)).2) lkB hcB T4 FS (glo 2 "steps_from" rfl) GS FA (glo 3 "bays_above" rfl) GA FG (glo 5 "groups_held" rfl) GG TBb (List.mem_cons_of_mem _ List.mem_cons_self) (fun p hp e => by
      rcases List.mem_cons.mp hp with z | z
      · rw [z] at e
        exact absurd e hPP
      · rw [List.mem_singleton.mp z])
    have GRo := ok_round (P := PySem.Challenge.rw_sparebay_k65_errors.prog) (w := w) FRo E T.len FN (glo 9 "need_web" rfl) GN FR (glo 1 "rows_of" rfl) GR FB (glo 6 "blocks_with_gates" rfl) GB FW (glo 0 "is_whole" rfl) GWh FK (glo 13 "kind_of" rfl) GK
    obtain ⟨oc, od, dV, kV, doc, pm, an, cdv, ct, osl, rfl, lk, hcd, _, _⟩ := F8.ex
    obtain ⟨cl, rfl⟩ := He.codeIn_ref hcd
    have ecl : (He.cT K ("law", none)).1 = cl := He.codeOf_eq lk rfl
    have TBl := TB _ (List.mem_cons_of_mem _ List.mem_cons_self : He.cT K ("law", none) ∈ tfs.map (He.cT K))
    rw [ecl] at TBl
    obtain ⟨fd, rfl, hF⟩ := ok_law lk hcd E T F1 (glo 15 "_law_open" rfl) G1 F5 (glo 19 "_law_table" rfl) G5 F7 (glo 21 "_law_caught" rfl) F6 (glo 20 "_law_kinds" rfl) FNb (glo 11 "neighbours" rfl) GNb FRo (glo 12 "round_of" rfl) GRo TBl hPP
    exact hF
end Sb

open PySem PySem.W PySem.Calls PyProof.Rows in
set_option maxRecDepth 100000 in
set_option maxHeartbeats 0 in
theorem PySem.Challenge.cw_sparebay_k65_errors_holds : PySem.Challenge.rw_sparebay_k65_errors.Holds := by
  w_on; o_law
  refine HandSHeadRun.head_any (r := OpenLaw.row PySem.Challenge.rw_sparebay_k65_errors) (q := view (OpenLaw.row PySem.Challenge.rw_sparebay_k65_errors).prog [56]) (H := Sb.hk) (ob := Sb.ob) (M := 6000) (loose := Sb.loose) (d := HandSHeadRun.topDef (OpenLaw.row PySem.Challenge.rw_sparebay_k65_errors).prog 56) (kwd := []) Sb.ob_eq
    (by kernel_rfl) (fun s => by kernel_rfl) Sb.run (by kernel_rfl) (by kernel_rfl) (by kernel_rfl) (by rfl) (by first | assumption | decide +kernel) (by decide +kernel) ⟨rfl, rfl, rfl, rfl, rfl, by decide +kernel⟩ ?hw ?hc
  case hw => w_witness2
  case hc =>
    refine LamX.walk_ofTsE (l := PySem.Challenge.rw_sparebay_k65_errors) (n := 63) (k := 13) (x := "script") (CX := fun _ => L2.CX0) rfl (by decide) (by kernel_rfl) ⟨rfl, by decide, by decide⟩ ?F (fun _ _ _ _ _ z => z)
    intro w mg fa h Y G hmg0
    obtain ⟨K, KX, c⟩ := Y
    have hmg : mg ("law" : PySem.Str) = some (.ref fa) := by
      have e : (HandSHeadRun.topDef (OpenLaw.row PySem.Challenge.rw_sparebay_k65_errors).prog 56).name = ("law" : PySem.Str) := by kernel_rfl
      rw [← e]
      exact hmg0
    exact ⟨K, KX, Sb.law_at KX G hmg c⟩
