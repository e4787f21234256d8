import PyProof.Rows.All
import Wide.All
import OpenK.AllK
import Wide.FinOn
import HandS.Base
import HandS.Call
import HandS.List
import HandS.Ends
import HandS.Words
import KE.LtData
import HandS.WordsList
import HandS.IsInst
import HandS.TupAny
import HandS.Zip
import PyProof.StrOps2
import HandS.Comp
import HandS.Codes
import PySem.Challenge.RW_trothbase_k04_order_of_keys
set_option Elab.async false
set_option maxRecDepth 100000
set_option maxHeartbeats 4000000
namespace Vk
open PySem L2
def top (i : Nat) : Stmt := PySem.Challenge.pw_trothbase_k04_order_of_keys.main.body.getD i (.Pass ⟨0, 0, 0, 0⟩)
abbrev sDraw : Stmt := top 3
/-! ### the draws -/
/-- the loop of a draw: i quotients -/
def cutBy : Nat → Int → Int
  | 0, c => c
  | n + 1, c => cutBy n c / 100003
def drawOf (ns : List Int) (k : Int) : Int :=
  if ns = [] then k * 5 % 7
  else
    let c := ns.getD (k % (ns.length : Int)).toNat 0
    if c ≥ 1000000000000000000 then cutBy (if (60 : Int) < k / (ns.length : Int) then (60 : Int) else k / (ns.length : Int)).toNat c % 100003
    else (c * 48271 + k * 69621 + 13) % 2147483647 * 16807 % 2147483629
theorem drawOf_nn (ns : List Int) (k : Int) : 0 ≤ drawOf ns k := by
  unfold drawOf
  split
  · omega
  · dsimp only
    split <;> omega
theorem drawOf_lt (ns : List Int) (k : Int) : drawOf ns k < 2147483629 := by
  unfold drawOf
  split
  · omega
  · dsimp only
    split <;> omega
def spDraw (K : PySem.W.Frag) : Sp := fun vs H Q _ => ∃ (a : Addr) (ns : List Int) (k : Int), vs = [.ref a, .int k] ∧ SqL K H a (ns.map V.int) ∧ ns.length ≤ 63 ∧ 0 ≤ k ∧ k ≤ 1000000 ∧ Q (.int (drawOf ns k)) H
structure TDraw (mg : Str → Option Value) : Prop where
  len : mg "len" = none
  int : mg "int" = none
  min : mg "min" = none
  range : mg "range" = none
section
variable {P : Program} {w : World} {K : PySem.W.Frag} {mg : Str → Option Value} {base : Heap}
theorem scDraw : FnScope ["script", "k", "cell", "turn", "step"] ["script", "k"] (defScope sDraw) := ⟨rfl, rfl, rfl, by decide +kernel, rfl, by decide +kernel, by decide +kernel⟩
theorem ok_draw {f : Addr} {fd : FuncData} (F : Fun K "_law_draw" "_law_draw" sDraw f fd) (T : TDraw mg) : FnOk P w K mg base CX0 1 f fd ["script", "k"] (spDraw K) := by
  refine F.ok scDraw (fun vs H Q E h => ?_) (fun cdv A outer s H vs Q E hr h => ?_)
  · obtain ⟨a, ns, k, rfl, _⟩ := h
    rfl
  · obtain ⟨a, ns, k, rfl, hS, hl, hk0, hk, q⟩ := h
    refine ⟨_, pss_cons (ps_if (pt_not (pt_truth (pv 0) (by intro _; rfl))) (pss_one (ps_ret (pe_op op_mod (pe_op op_mul (pv 1) pe_int) pe_int))) pss_nil)
      (pss_cons (ps_set (i := 2) scDraw.nd rfl (Or.inl rfl) (pe_callTy call_int1 (by rfl) T.int (by decide +kernel) (pa_cons (pe_ix ix_list (pv 0) (pe_op op_mod (pv 1) (pe_callB call_len_seq (by rfl) T.len PySem.boot_len (pa_cons (pv 0) pa_nil))) (fun _ _ => rfl)) pa_nil)))
      (pss_cons (ps_set (i := 3) scDraw.nd rfl (Or.inl rfl) (pe_op op_fdiv (pv 1) (pe_callB call_len_seq (by rfl) T.len PySem.boot_len (pa_cons (pv 0) pa_nil))))
      (pss_cons (ps_if (pt_cmpR op_ge (pv 2) pe_int (nomark _))
        (pss_cons (ps_for PassesOwn.never rfl (pi_range1 rfl T.range (pa_cons (pe_callB (call_min2 rfl) (by rfl) T.min (by decide +kernel) (pa_cons (pv 3) (pa_cons pe_int pa_nil))) pa_nil)) (pg_name (i := 4) scDraw.nd rfl (Or.inl rfl))
          (pss_one (ps_set (i := 2) scDraw.nd rfl (Or.inl rfl) (pe_op op_fdiv (pv 2) pe_int))))
        (pss_one (ps_ret (pe_op op_mod (pv 2) pe_int)))) pss_nil)
      (pss_one (ps_ret (pe_op op_mod (pe_op op_mul (pe_op op_mod (pe_op op_add (pe_op op_add (pe_op op_mul (pv 2) pe_int) (pe_op op_mul (pv 1) pe_int)) pe_int) pe_int) pe_int) pe_int)))))), ?_⟩
    refine ⟨_, rfl, _, .inl ⟨_, hS, rfl⟩, ?_⟩
    cases ns with
    | nil =>
      refine iteT ?_
      refine ⟨_, rfl, _, _, rfl, rfl, .inr ⟨by decide, by decide⟩, _, _, rfl, rfl, (by show (0 : Int) < 7; decide), ?_⟩
      have e : drawOf [] k = k * 5 % 7 := by unfold drawOf; rw [if_pos rfl]
      rw [e] at q
      exact q
    | cons n0 nr =>
      refine iteF ?_
      have hlen : ((List.map V.int (n0 :: nr)).length : Int) = (((n0 :: nr).length : Nat) : Int) := by rw [List.length_map]
      have hpos : (0 : Int) < (((n0 :: nr).length : Nat) : Int) := by simp only [List.length_cons]; omega
      have hl2 : (((n0 :: nr).length : Nat) : Int) ≤ 63 := by omega
      have hm0 : 0 ≤ k % (((n0 :: nr).length : Nat) : Int) := Int.emod_nonneg _ (by omega)
      have hm1 : k % (((n0 :: nr).length : Nat) : Int) < (((n0 :: nr).length : Nat) : Int) := Int.emod_lt_of_pos _ hpos
      generalize hns : (n0 :: nr) = ns at hS hl hlen hpos hl2 hm0 hm1 q ⊢
      have hne : ns ≠ [] := by rw [← hns]; exact List.cons_ne_nil _ _
      have hat : atI (ns.map V.int) (k % ((ns.map V.int).length : Int)) = some (.int (ns.getD (k % (ns.length : Int)).toNat 0)) := by
        rw [hlen]
        have e1 : (k % (ns.length : Int)) = (((k % (ns.length : Int)).toNat : Nat) : Int) := by omega
        rw [e1]
        refine atI_nat ?_
        have h2 : (k % (ns.length : Int)).toNat < ns.length := by omega
        rw [Int.toNat_natCast, List.getElem?_map, List.getD_eq_getElem?_getD, List.getElem?_eq_getElem h2]
        rfl
      refine ⟨_, rfl, _, rfl, _, rfl, _, _, rfl, .inl hS, _, _, rfl, rfl, (by rw [hlen]; exact hpos), _, _, _, _, rfl, rfl, hS, hat, .inl ⟨_, rfl, ?_⟩⟩
      refine ⟨_, rfl, _, rfl, _, _, rfl, .inl hS, _, _, rfl, rfl, (by rw [hlen]; exact ⟨hpos, by omega⟩), ?_⟩
      rw [hlen]
      refine ⟨_, rfl, _, _, rfl, rfl, _, rfl, ?_⟩
      have hturn0 : 0 ≤ k / (ns.length : Int) := Int.ediv_nonneg hk0 (by omega)
      have hturn1 : k / (ns.length : Int) ≤ k := Int.ediv_le_self _ hk0
      unfold drawOf at q
      rw [if_neg hne] at q
      dsimp only at q
      by_cases hb : (1000000000000000000 : Int) ≤ ns.getD (k % (ns.length : Int)).toNat 0
      · rw [if_pos hb] at q
        rw [decide_eq_true hb]
        refine iteT ?_
        have b1 : -(2 ^ 62) ≤ (if (60 : Int) < k / (ns.length : Int) then (60 : Int) else k / (ns.length : Int)) := by split <;> omega
        have b2 : (if (60 : Int) < k / (ns.length : Int) then (60 : Int) else k / (ns.length : Int)) < 2 ^ 62 := by split <;> omega
        refine ⟨_, rfl, _, _, rfl, _, rfl, b1, b2, ?_⟩
        refine for_range (fun i σ H' => H' = H ∧ ∃ v, σ = [some (.ref a), some (.int k), some (.int (cutBy i (ns.getD (k % (ns.length : Int)).toNat 0))), some (.int (k / (ns.length : Int))), v]) ⟨rfl, none, rfl⟩ ?_ ?_
        · rintro i σ H' hi ⟨rfl, v, rfl⟩
          exact ⟨_, rfl, _, _, rfl, rfl, ⟨by decide, by decide⟩, rfl, _, rfl⟩
        · rintro σ H' ⟨rfl, v, rfl⟩
          exact ⟨_, rfl, _, _, rfl, rfl, (by show (0 : Int) < 100003; decide), q⟩
      · rw [if_neg hb] at q
        rw [decide_eq_false hb]
        refine iteF ?_
        exact ⟨_, rfl, _, _, rfl, rfl, .inr ⟨by decide, by decide⟩, _, rfl, _, _, rfl, rfl, .inr ⟨by decide, by decide⟩, _, _, rfl, rfl, _, _, rfl, rfl, _, _, rfl, rfl, (by show (0 : Int) < 2147483647; decide), _, _, rfl, rfl, .inr ⟨by decide, by decide⟩, _, _, rfl, rfl, (by show (0 : Int) < 2147483629; decide), q⟩
end
end Vk
namespace Vk
open PySem PySem.SeqAt PySem.MeetsSeq PySem.MeetsSeq2 PySem.MeetsSeq3 PySem.SeqRoads2
open PySem.AutoSeq1 (wpAny_loadPart')
open PySem.W (firstLt_map)
/-- two tuples, ordered by the first place at which they differ; nothing is asked of the places behind it -/
theorem tup_lt_meets (a c : Addr) (xs ys : Array Value) (nx ny : Nat) (dx dy : Option Addr) (sx sy : Array (Option Value)) (eq lt : Nat → Bool) :
    Meets (Builtin.«tuple.__lt__» ⟨[.ref a, .ref c], []⟩)
      (fun A R s =>
        s.heap.get? a = some ⟨.type "tuple", dx, .seq xs nx, sx⟩ ∧
        s.heap.get? c = some ⟨.type "tuple", dy, .seq ys ny, sy⟩ ∧
        (∀ j (p : j < xs.size) (q : j < ys.size), (∀ i, i < j → eq i = true) → EqAt A.in1 s xs[j] ys[j] (eq j)) ∧
        (∀ j (p : j < xs.size) (q : j < ys.size), (∀ i, i < j → eq i = true) → eq j = false → RcLt A.in1 s xs[j] ys[j] (lt j)) ∧
        R (.ok (.ret (.bool (firstLt eq lt (decide (xs.size < ys.size)) (List.range (min xs.size ys.size)))))) s) :=
  .of_wp fun prog w A R s hyp => by
    obtain ⟨hh, gg, dd, tt, oo⟩ := s
    obtain ⟨ha, hc, hE, hL, hR0⟩ := hyp
    have sub2 := AutoSeq1.sub_tuple_tuple
    have zlen : (xs.toList.zip ys.toList).length = min xs.size ys.size := by simp
    wp_walk using wpAny_loadPart' ha, wpAny_loadPart' hc,
      wpAny_forIn_list _ (fun left st s' => st.1 = none ∧ s' = ⟨hh, gg, dd, tt, oo⟩ ∧
        ∃ i, left = (xs.toList.zip ys.toList).drop i ∧ (∀ m, m < i → eq m = true) ∧
          R (.ok (.ret (.bool (firstLt eq lt (decide (xs.size < ys.size)) ((List.range (min xs.size ys.size)).drop i))))) ⟨hh, gg, dd, tt, oo⟩) _
    case turn =>
      rintro ⟨u, v⟩ left st s' ⟨st0, rfl, i, hleft, hall, hR⟩
      have below : i < (xs.toList.zip ys.toList).length := by
        rcases Nat.lt_or_ge i (xs.toList.zip ys.toList).length with z | z
        · exact z
        · rw [List.drop_of_length_le z] at hleft
          cases hleft
      have bmin : i < min xs.size ys.size := by omega
      have bx : i < xs.size := by omega
      have bY : i < ys.size := by omega
      rw [List.drop_eq_getElem_cons below] at hleft
      injection hleft with huv hl2
      have eu : u = xs[i] := by simpa using congrArg Prod.fst huv
      have ev : v = ys[i] := by simpa using congrArg Prod.snd huv
      subst eu ev
      have rng : (List.range (min xs.size ys.size)).drop i = i :: (List.range (min xs.size ys.size)).drop (i + 1) := by
        simp [List.drop_eq_getElem_cons, bmin]
      rw [rng] at hR
      refine wpAny_bind (hE i bx bY hall prog w _ _ ?_)
      cases ei : eq i with
      | true =>
        rw [firstLt_yes ei] at hR
        wp_walk
        refine ⟨rfl, rfl, i + 1, hl2, fun m hm => ?_, hR⟩
        by_cases h : m = i
        · rw [h]; exact ei
        · exact hall m (by omega)
      | false =>
        rw [firstLt_no ei] at hR
        have hrc : ∀ (E : Value → Shared → Prop) (Q : Value → Shared → Prop), Q (.bool (lt i)) ⟨hh, gg, dd, tt, oo⟩ → wpAny (model prog w) A.in1 (richCompare .Lt xs[i] ys[i]) Q E ⟨hh, gg, dd, tt, oo⟩ := hL i bx bY hall ei prog w
        generalize richCompare .Lt xs[i] ys[i] = rc at hrc ⊢
        wp_walk
        refine hrc _ _ ?_
        wp_walk
        exact ⟨_, rfl, hR⟩
    case fin =>
      rintro ⟨s1, s2⟩ s' ⟨st0, rfl, i, hleft, hall, hR⟩
      simp only at st0
      subst st0
      have past : min xs.size ys.size ≤ i := by
        rcases Nat.lt_or_ge i (xs.toList.zip ys.toList).length with z | z
        · rw [List.drop_eq_getElem_cons z] at hleft
          cases hleft
        · omega
      rw [List.drop_of_length_le (by simpa using past)] at hR
      wp_walk
      exact ⟨_, rfl, by simpa [Builtin.Tuple.tupleCompareSizes, firstLt] using hR⟩
    case h =>
      exact ⟨rfl, rfl, 0, rfl, fun m hm => absurd hm (Nat.not_lt_zero m), by simpa using hR0⟩

section
variable {A : Around} {s : Shared}
theorem tup_lt_rc {a c : Addr} {xs ys : Array Value} {eq lt : Nat → Bool} (ha : s.heap.IsTuple a xs) (hc : s.heap.IsTuple c ys) (hu : A.units < cLine)
    (hE : ∀ j (p : j < xs.size) (q : j < ys.size), (∀ i, i < j → eq i = true) → EqAt A.in1 s xs[j] ys[j] (eq j))
    (hL : ∀ j (p : j < xs.size) (q : j < ys.size), (∀ i, i < j → eq i = true) → eq j = false → RcLt A.in1 s xs[j] ys[j] (lt j)) :
    RcLt A s (.ref a) (.ref c) (firstLt eq lt (decide (xs.size < ys.size)) (List.range (min xs.size ys.size))) := by
  intro prog w E Q q
  obtain ⟨⟨ca, da, va, sa⟩, oa, ka, na, wa⟩ := id ha
  obtain ⟨⟨cc, dc, vc, sc⟩, oc, kc, nc, wc⟩ := id hc
  simp only at ka wa kc wc
  subst ka wa kc wc
  have key := tup_lt_meets a c xs ys na nc da dc sa sc eq lt
  exact richCompare_meets_room (op := .Lt) ⟨_, oa, rfl⟩ ⟨_, oc, rfl⟩ F.slot_tuple_lt F.entry_tuple_lt (F.args_tuple_lt_2 _ _) key
    ⟨oa, oc, hE, hL, And.intro (fun z => nomatch z) q⟩ hu
end
/-! ### keys and what order makes of them, as data -/
def pairD : L2.Key → PyData
  | .inl i => .tuple [.int 0, .int i]
  | .inr x => .tuple [.int 1, .str x]
def keyD : L2.Key → PyData
  | .inl i => .int i
  | .inr x => .str x
/-- one part before another -/
def ltP : L2.Key → L2.Key → Bool
  | .inl i, .inl j => decide (i < j)
  | .inl _, .inr _ => true
  | .inr _, .inl _ => false
  | .inr x, .inr y => decide (x.cps.toList < y.cps.toList)
/-- one key before another -/
def ltK : List L2.Key → List L2.Key → Bool
  | [], [] => false
  | [], _ :: _ => true
  | _ :: _, [] => false
  | x :: xs, y :: ys => if x = y then ltK xs ys else ltP x y
def eqAtK (ks ms : List L2.Key) (j : Nat) : Bool := decide (ks[j]? = ms[j]?)
def ltAtK (ks ms : List L2.Key) (j : Nat) : Bool := match ks[j]?, ms[j]? with
  | some a, some b => ltP a b
  | _, _ => false
theorem ltK_first : ∀ ks ms : List L2.Key, firstLt (eqAtK ks ms) (ltAtK ks ms) (decide (ks.length < ms.length)) (List.range (min ks.length ms.length)) = ltK ks ms
  | [], [] => rfl
  | [], _ :: _ => by simp [firstLt, ltK]
  | _ :: _, [] => by simp [firstLt, ltK]
  | x :: xs, y :: ys => by
    have ih := ltK_first xs ys
    have hr : List.range (min (x :: xs).length (y :: ys).length) = 0 :: (List.range (min xs.length ys.length)).map (· + 1) := by
      have e : min (x :: xs).length (y :: ys).length = min xs.length ys.length + 1 := by simp only [List.length_cons]; omega
      rw [e, List.range_succ_eq_map]
    rw [hr]
    by_cases h : x = y
    · have e0 : eqAtK (x :: xs) (y :: ys) 0 = true := by simp [eqAtK, h]
      rw [firstLt_yes e0, firstLt_map]
      have e1 : ltK (x :: xs) (y :: ys) = ltK xs ys := by show (if x = y then ltK xs ys else ltP x y) = _; rw [if_pos h]
      rw [e1, ← ih]
      congr 1
      simp
    · have e0 : eqAtK (x :: xs) (y :: ys) 0 = false := by simp [eqAtK, h]
      rw [firstLt_no e0]
      show ltP x y = (if x = y then ltK xs ys else ltP x y)
      rw [if_neg h]
theorem key_eqv (k m : L2.Key) : PyData.eqv (keyD k) (keyD m) = decide (k = m) := by
  cases k with
  | inl i =>
    cases m with
    | inl j =>
      show (i == j) = _
      by_cases h : i = j <;> simp [h]
    | inr y => simp [keyD, PyData.eqv]
  | inr x =>
    cases m with
    | inl j => simp [keyD, PyData.eqv]
    | inr y =>
      show (x == y) = _
      by_cases h : x = y <;> simp [h]
theorem pair_eqv (k m : L2.Key) : PyData.eqv (pairD k) (pairD m) = decide (k = m) := by
  rw [← key_eqv]
  cases k <;> cases m <;> simp [pairD, keyD, PyData.eqv, PyData.eqvAll]
def okP : L2.Key → Bool
  | .inl _ => true
  | .inr x => PyData.strOk x
theorem pair_lay (k : L2.Key) (h : okP k = true) : (pairD k).canLay0 = true := by
  cases k with
  | inl i => rfl
  | inr x => simpa [pairD, PyData.canLay0, PyData.canLayAll0, okP] using h
theorem key_lay (k : L2.Key) (h : okP k = true) : (keyD k).canLay0 = true := by
  cases k with
  | inl i => rfl
  | inr x => exact h
theorem pair_depth (k : L2.Key) : (pairD k).depth ≤ 4 := by
  cases k <;> simp [pairD, PyData.depth, PyData.depthAll]
theorem all_eqv (f : L2.Key → PyData) (hf : ∀ k m, PyData.eqv (f k) (f m) = decide (k = m)) : ∀ ks ms : List L2.Key, PyData.eqvAll (ks.map f) (ms.map f) = decide (ks = ms)
  | [], [] => rfl
  | [], _ :: _ => by simp [PyData.eqvAll]
  | _ :: _, [] => by simp [PyData.eqvAll]
  | x :: xs, y :: ys => by
    have ih := all_eqv f hf xs ys
    simp only [List.map_cons, PyData.eqvAll, hf, ih]
    by_cases h1 : x = y <;> by_cases h2 : xs = ys <;> simp [h1, h2]
theorem all_lay (f : L2.Key → PyData) (hf : ∀ k, okP k = true → (f k).canLay0 = true) : ∀ ks : List L2.Key, (∀ k ∈ ks, okP k = true) → PyData.canLayAll0 (ks.map f) = true
  | [], _ => rfl
  | x :: xs, h => by
    have ih := all_lay f hf xs (fun k hk => h k (List.mem_cons_of_mem _ hk))
    simp only [List.map_cons, PyData.canLayAll0, ih, hf x (h x (List.mem_cons_self ..)), Bool.and_self]
theorem all_depth (f : L2.Key → PyData) (n : Nat) (hf : ∀ k, (f k).depth ≤ n) : ∀ ks : List L2.Key, PyData.depthAll (ks.map f) ≤ n
  | [] => Nat.zero_le _
  | x :: xs => by
    have ih := all_depth f n hf xs
    have h1 := hf x
    simp only [List.map_cons, PyData.depthAll]
    omega
/-! ### the items of a datum that is a tuple -/
theorem reads_at {h : Heap} : ∀ {vs : List Value} {ds : List PyData} {as : List Addr}, ReadsAll h vs ds as → ∀ (j : Nat) (p : j < vs.length), ∃ d bs, ds[j]? = some d ∧ Reads h vs[j] d bs
  | _, _, _, .nil, j, p => absurd p (Nat.not_lt_zero _)
  | _, _, _, .cons r _, 0, _ => ⟨_, _, rfl, r⟩
  | _, _, _, .cons _ t, j + 1, p => by
    obtain ⟨d, bs, e, r⟩ := reads_at t j (by simpa using p)
    exact ⟨d, bs, by simpa using e, by simpa using r⟩
theorem reads_len {h : Heap} : ∀ {vs : List Value} {ds : List PyData} {as : List Addr}, ReadsAll h vs ds as → vs.length = ds.length
  | _, _, _, .nil => rfl
  | _, _, _, .cons _ t => congrArg Nat.succ (reads_len t)
theorem reads_two {h : Heap} {v : Value} {d e : PyData} {as : List Addr} (r : Reads h v (.tuple [d, e]) as) : ∃ p x1 x2 as1 as2, v = .ref p ∧ h.IsTuple p #[x1, x2] ∧ Reads h x1 d as1 ∧ Reads h x2 e as2 := by
  cases r with
  | tuple ha hc hd rr =>
    rename_i p o vs n
    generalize hl : vs.toList = l at rr
    cases rr with
    | cons r1 rr =>
      cases rr with
      | cons r2 rr =>
        cases rr
        have e := congrArg List.toArray hl
        rw [Array.toArray_toList] at e
        exact ⟨p, _, _, _, _, rfl, ⟨o, ha, hc, n, e ▸ hd⟩, r1, r2⟩
section
variable {A : Around} {s : Shared}
/-- (0, i) or (1, text) before another such pair -/
theorem pair_lt {u v : Value} {k m : L2.Key} {as bs : List Addr} (ra : Reads s.heap u (pairD k) as) (rb : Reads s.heap v (pairD m) bs) (hk : okP k = true) (hm : okP m = true) (hu : A.units + 20 < cLine) (hne : k ≠ m) : RcLt A s u v (ltP k m) := by
  have tagD : ∀ q : L2.Key, ∃ n : Int, pairD q = .tuple [.int n, keyD q] ∧ ((n = 0 ∧ ∃ i, q = .inl i) ∨ (n = 1 ∧ ∃ x, q = .inr x)) := by
    intro q
    cases q with
    | inl i => exact ⟨0, rfl, .inl ⟨rfl, i, rfl⟩⟩
    | inr x => exact ⟨1, rfl, .inr ⟨rfl, x, rfl⟩⟩
  obtain ⟨tk, ek, ck⟩ := tagD k
  obtain ⟨tm, em, cm⟩ := tagD m
  rw [ek] at ra
  rw [em] at rb
  obtain ⟨pa, x1, x2, as1, as2, rfl, Ta, a1, a2⟩ := reads_two ra
  obtain ⟨pb, y1, y2, bs1, bs2, rfl, Tb, b1, b2⟩ := reads_two rb
  have hu1 : A.in1.units ≤ A.units + 1 := by show A.units + 1 ≤ _; omega
  have E1 : EqAt A.in1 s x1 y1 (decide (tk = tm)) := by
    have z := eqAt_reads _ _ A.in1 s _ _ _ _ a1 b1 rfl rfl (by simp [PyData.depth]; omega)
    have e : PyData.eqv (.int tk) (.int tm) = decide (tk = tm) := by
      show (tk == tm) = _
      by_cases h : tk = tm <;> simp [h]
    rw [e] at z
    exact z
  have E2 : EqAt A.in1 s x2 y2 (decide (k = m)) := by
    have z := eqAt_reads _ _ A.in1 s _ _ _ _ a2 b2 (key_lay k hk) (key_lay m hm) (by
      have d1 : (keyD k).depth = 0 := by cases k <;> rfl
      rw [d1]; omega)
    rw [key_eqv] at z
    exact z
  have L1 : RcLt A.in1 s x1 y1 (decide (tk < tm)) := by
    have z := W.rcLt_alike (.int tk) (.int tm) A.in1 s _ _ _ _ a1 b1 rfl (fun q => nomatch q) (by simp [PyData.depth]; omega)
    rw [W.dataLt_int] at z
    exact z
  have L2' : tk = tm → RcLt A.in1 s x2 y2 (ltP k m) := by
    intro et
    rcases ck with ⟨h1, i, rfl⟩ | ⟨h1, x, rfl⟩
    · rcases cm with ⟨h2, j, rfl⟩ | ⟨h2, y, rfl⟩
      · have z := W.rcLt_alike (.int i) (.int j) A.in1 s _ _ _ _ a2 b2 rfl (fun q => nomatch q) (by simp [PyData.depth]; omega)
        rw [W.dataLt_int] at z
        exact z
      · omega
    · rcases cm with ⟨h2, j, rfl⟩ | ⟨h2, y, rfl⟩
      · omega
      · have z := W.rcLt_alike (.str x) (.str y) A.in1 s _ _ _ _ a2 b2 rfl (fun q => nomatch q) (by simp [PyData.depth]; omega)
        rw [W.dataLt_str] at z
        exact z
  have key := tup_lt_rc (A := A) (eq := fun j => if j = 0 then decide (tk = tm) else decide (k = m)) (lt := fun j => if j = 0 then decide (tk < tm) else ltP k m) Ta Tb (by omega)
    (fun j p q _ => by
      match j, p, q with
      | 0, _, _ => exact E1
      | 1, _, _ => exact E2)
    (fun j p q hall hj => by
      match j, p, q with
      | 0, _, _ => exact L1
      | 1, _, _ => exact L2' (of_decide_eq_true (hall 0 (Nat.zero_lt_one))))
  have fin : firstLt (fun j => if j = 0 then decide (tk = tm) else decide (k = m)) (fun j => if j = 0 then decide (tk < tm) else ltP k m) (decide (#[x1, x2].size < #[y1, y2].size)) (List.range (min #[x1, x2].size #[y1, y2].size)) = ltP k m := by
    show (if decide (tk = tm) = true then (if decide (k = m) = true then false else ltP k m) else decide (tk < tm)) = ltP k m
    rw [decide_eq_false hne]
    by_cases et : tk = tm
    · rw [decide_eq_true et]; rfl
    · rw [decide_eq_false et]
      show decide (tk < tm) = ltP k m
      rcases ck with ⟨h1, i, rfl⟩ | ⟨h1, x, rfl⟩
      · rcases cm with ⟨h2, j, rfl⟩ | ⟨h2, y, rfl⟩
        · omega
        · subst h1 h2; rfl
      · rcases cm with ⟨h2, j, rfl⟩ | ⟨h2, y, rfl⟩
        · subst h1 h2; rfl
        · omega
  rw [fin] at key
  exact key
end
end Vk
namespace Vk
open PySem L2 PySem.SeqAt PyProof.Rows
/-! ### whole order tuples -/
def ordD (ks : List L2.Key) : PyData := .tuple (ks.map pairD)
def tupD (ks : List L2.Key) : PyData := .tuple (ks.map keyD)
def okK (ks : List L2.Key) : Prop := ∀ k ∈ ks, okP k = true
theorem key_depth (k : L2.Key) : (keyD k).depth ≤ 0 := by cases k <;> simp [keyD, PyData.depth]
theorem tup_shaped {ks : List L2.Key} (h : okK ks) : shaped (tupD ks) = true := by
  have h1 := all_lay keyD key_lay ks h
  have h2 := all_depth keyD 0 key_depth ks
  unfold shaped tupD
  have e1 : PyData.canLay0 (.tuple (ks.map keyD)) = true := by simpa [PyData.canLay0] using h1
  rw [e1, Bool.true_and]
  exact decide_eq_true (by simp only [PyData.depth]; omega)
theorem ord_shaped {ks : List L2.Key} (h : okK ks) : shaped (ordD ks) = true := by
  have h1 := all_lay pairD pair_lay ks h
  have h2 := all_depth pairD 4 pair_depth ks
  unfold shaped ordD
  have e1 : PyData.canLay0 (.tuple (ks.map pairD)) = true := by simpa [PyData.canLay0] using h1
  rw [e1, Bool.true_and]
  exact decide_eq_true (by simp only [PyData.depth]; omega)
theorem tup_eqv (ks ms : List L2.Key) : PyData.eqv (tupD ks) (tupD ms) = decide (ks = ms) := by
  unfold tupD
  rw [PyData.eqv]
  exact all_eqv keyD key_eqv ks ms
theorem ord_eqv (ks ms : List L2.Key) : PyData.eqv (ordD ks) (ordD ms) = decide (ks = ms) := by
  unfold ordD
  rw [PyData.eqv]
  exact all_eqv pairD pair_eqv ks ms
theorem ord_lt {A : Around} {s : Shared} {u v : Value} {ks ms : List L2.Key} {as bs : List Addr} (ra : Reads s.heap u (ordD ks) as) (rb : Reads s.heap v (ordD ms) bs) (hk : okK ks) (hm : okK ms) (hu : A.units + 30 < cLine) : RcLt A s u v (ltK ks ms) := by
  unfold ordD at ra rb
  cases ra with
  | tuple ha hca hda rra =>
  rename_i pa oa va na
  cases rb with
  | tuple hb hcb hdb rrb =>
  rename_i pb ob vb nb
  have la := reads_len rra
  have lb := reads_len rrb
  rw [List.length_map] at la lb
  have sa : va.size = ks.length := by rw [← la, Array.length_toList]
  have sb : vb.size = ms.length := by rw [← lb, Array.length_toList]
  have itA : ∀ j (p : j < va.size), ∃ k bs, ks[j]? = some k ∧ Reads s.heap va[j] (pairD k) bs := by
    intro j p
    obtain ⟨d, bs, e, r⟩ := reads_at rra j (by rw [Array.length_toList]; exact p)
    rw [List.getElem?_map] at e
    cases hk : ks[j]? with
    | none => rw [hk] at e; cases e
    | some k =>
      rw [hk] at e
      cases e
      exact ⟨k, bs, rfl, by simpa using r⟩
  have itB : ∀ j (p : j < vb.size), ∃ k bs, ms[j]? = some k ∧ Reads s.heap vb[j] (pairD k) bs := by
    intro j p
    obtain ⟨d, bs, e, r⟩ := reads_at rrb j (by rw [Array.length_toList]; exact p)
    rw [List.getElem?_map] at e
    cases hk : ms[j]? with
    | none => rw [hk] at e; cases e
    | some k =>
      rw [hk] at e
      cases e
      exact ⟨k, bs, rfl, by simpa using r⟩
  have key := tup_lt_rc (A := A) (eq := eqAtK ks ms) (lt := ltAtK ks ms) (⟨_, ha, hca, _, hda⟩ : s.heap.IsTuple pa va) (⟨_, hb, hcb, _, hdb⟩ : s.heap.IsTuple pb vb) (by omega)
    (fun j p q _ => by
      obtain ⟨k, bs1, e1, r1⟩ := itA j p
      obtain ⟨m, bs2, e2, r2⟩ := itB j q
      have o1 := hk k (List.mem_of_getElem? e1)
      have o2 := hm m (List.mem_of_getElem? e2)
      have d1 := pair_depth k
      have z := eqAt_reads _ _ A.in1 s _ _ _ _ r1 r2 (pair_lay k o1) (pair_lay m o2) (by
        have : A.in1.units ≤ A.units + 1 := by show A.units + 1 ≤ _; omega
        omega)
      rw [pair_eqv] at z
      have e : eqAtK ks ms j = decide (k = m) := by unfold eqAtK; rw [e1, e2]; simp
      rw [e]
      exact z)
    (fun j p q _ hj => by
      obtain ⟨k, bs1, e1, r1⟩ := itA j p
      obtain ⟨m, bs2, e2, r2⟩ := itB j q
      have o1 := hk k (List.mem_of_getElem? e1)
      have o2 := hm m (List.mem_of_getElem? e2)
      have ne : k ≠ m := by
        intro h
        subst h
        have e : eqAtK ks ms j = true := by unfold eqAtK; rw [e1, e2]; simp
        rw [e] at hj
        cases hj
      have e : ltAtK ks ms j = ltP k m := by unfold ltAtK; rw [e1, e2]
      rw [e]
      exact pair_lt r1 r2 o1 o2 (by
        have : A.in1.units ≤ A.units + 1 := by show A.units + 1 ≤ _; omega
        omega) ne)
  rw [sa, sb, ltK_first] at key
  exact key
/-! ### rules -/
section
variable {X : Cx}
def rLtO (K : PySem.W.Frag) : R2 := fun x y H Q => ∃ ks ms, Dp K H x (ordD ks) ∧ Dp K H y (ordD ms) ∧ okK ks ∧ okK ms ∧ Q (.bl (ltK ks ms)) H
theorem op_ltO (hu : X.A.units + 64 < cLine) : OpR X (compareOp .Lt) (rLtO X.K) := by
  intro pins s σ H x y v u Q I rx ry h
  obtain ⟨ks, ms, hx, hy, ok1, ok2, q⟩ := h
  obtain ⟨as, r1⟩ := Dp.reads I _ x v hx rx
  obtain ⟨bs, r2⟩ := Dp.reads I _ y u hy ry
  exact ord_lt r1 r2 ok1 ok2 (by omega) X.prog X.w _ _ ⟨.bl _, H, I, rfl, q⟩
/-- a text times a small number: some text, of no other signs, not too long -/
def rMulS : R2 := fun x y H Q => ∃ z n, x = .str z ∧ y = .int n ∧ 0 ≤ n ∧ n ≤ 1000 ∧ z.length ≤ 1000 ∧ ∀ r : Str, (PyData.strOk z = true → PyData.strOk r = true) → r.length ≤ z.length * n.toNat → Q (.str r) H
theorem fold_app (l : List (Array Nat)) : ∀ acc : Array Nat, l.foldl (· ++ ·) acc = acc ++ l.foldl (· ++ ·) #[] := by
  induction l with
  | nil => intro acc; simp
  | cons a r ih =>
    intro acc
    rw [List.foldl_cons, ih, List.foldl_cons, ih (#[] ++ a)]
    simp [Array.append_assoc]
theorem rep_size (z : Array Nat) : ∀ n, ((List.replicate n z).foldl (· ++ ·) #[]).size = n * z.size
  | 0 => by simp
  | n + 1 => by
    have ih := rep_size z n
    rw [List.replicate_succ, List.foldl_cons, fold_app]
    simp only [Array.size_append, ih]
    simp only [Array.size_empty]
    rw [Nat.succ_mul]
    omega
theorem rep_all (p : Nat → Bool) (z : Array Nat) (h : z.all p = true) : ∀ n, ((List.replicate n z).foldl (· ++ ·) #[]).all p = true
  | 0 => by simp
  | n + 1 => by
    have ih := rep_all p z h n
    rw [List.replicate_succ, List.foldl_cons, fold_app, Array.all_append, ih, Bool.and_true, Array.all_append, h]
    simp
theorem op_mulS : OpR X (binaryOp .Mult) rMulS := by
  intro pins s σ H x y v u Q I rx ry h
  obtain ⟨z, n, rfl, rfl, n0, n1, hz, q⟩ := h
  obtain ⟨t, rfl⟩ := rx
  obtain ⟨t', rfl⟩ := ry
  have hline : (sizeLine : Nat) = 16777216 := sizeLine_eq
  have hz2 : z.length * n.toNat ≤ 1000 * 1000 := Nat.mul_le_mul hz (by omega)
  refine PySem.P.mul_str ?_ ?_ ?_ ?_
  · have h1 : ¬ n < -(2 ^ 63 : Int) := by omega
    have h2 : ¬ n ≥ 2 ^ 63 := by omega
    rw [decide_eq_false h1, decide_eq_false h2]
    rfl
  · intro h1 _ h3
    have h4 : (z.length : Int) * n ≤ 2 ^ 63 - 1 := by
      have e : (z.length : Int) * n = ((z.length * n.toNat : Nat) : Int) := by
        rw [Int.natCast_mul, Int.toNat_of_nonneg n0]
      rw [e]
      omega
    have h5 := Int.le_ediv_of_mul_le (show 0 < n by omega) h4
    omega
  · intro _ _
    unfold Builtin.Str.tooLong
    exact decide_eq_false (by omega)
  · split
    · exact ⟨by decide, .str Str.empty, H, I.tok _, ⟨_, rfl⟩, q _ (fun _ => by decide +kernel) (Nat.zero_le _)⟩
    · split
      · rename_i c1 c2
        refine ⟨.str z, H, I, ⟨_, rfl⟩, q _ (fun h => h) ?_⟩
        rcases Bool.or_eq_true_iff.mp c2 with e | e
        · have e2 : n = 1 := by simpa using e
          subst e2
          exact Nat.le_of_eq (Nat.mul_one _).symm
        · have e2 : z.length = 0 := by simpa using e
          rw [e2]
          exact Nat.zero_le _
      · have sz : (⟨(List.replicate n.toNat z.cps).foldl (· ++ ·) #[]⟩ : Str).length = z.length * n.toNat := by
          show ((List.replicate n.toNat z.cps).foldl (· ++ ·) #[]).size = z.cps.size * n.toNat
          rw [rep_size, Nat.mul_comm]
        refine ⟨by rw [sz]; omega, .str _, H, I.tok _, ⟨_, rfl⟩, q _ (fun h => ?_) (Nat.le_of_eq sz)⟩
        exact rep_all _ _ h n.toNat
end
end Vk
namespace Vk
open PySem L2
/-! ### data of tuples alone: what keeps tuples keeps them -/
def KeepT (H H' : Hp) : Prop := ∀ a o, (∃ xs, o = .tup xs ∨ ∃ ob, o = .frz ob (.tup xs)) → H a = some o → H' a = some o
theorem keepT_of {H H' : Hp} (s : Same H H') : KeepT H H' := fun a o _ h => s a o h
theorem KeepT.seq {K : PySem.W.Frag} {H H' : Hp} {a : Addr} {xs : List V} (k : KeepT H H') (h : SqT K H a xs) : SqT K H' a xs := by
  rcases h with (h | ⟨o, h⟩) | h
  · exact .inl (.inl (k _ _ ⟨xs, .inl rfl⟩ h))
  · exact .inl (.inr ⟨o, k _ _ ⟨xs, .inr ⟨o, rfl⟩⟩ h⟩)
  · exact .inr h
theorem KeepT.refl (H : Hp) : KeepT H H := fun _ _ _ h => h
theorem KeepT.trans {H H1 H2 : Hp} (a : KeepT H H1) (b : KeepT H1 H2) : KeepT H H2 := fun c o t h => b c o t (a c o t h)
/-- a new object -/
theorem KeepT.new {H : Hp} {p : Addr} {o : HO} (h : H p = none) : KeepT H (upd H p o) := fun a u _ e => by
  rw [upd_ne (ne_of_none e h)]
  exact e
/-- a list is changed -/
theorem KeepT.lst {H : Hp} {p : Addr} {xs : List V} {o : HO} (h : H p = some (.lst xs)) : KeepT H (upd H p o) := fun a u t e => by
  have ne : a ≠ p := by
    intro z
    subst z
    rw [h] at e
    cases e
    obtain ⟨ys, t | ⟨ob, t⟩⟩ := t <;> cases t
  rw [upd_ne ne]
  exact e
mutual
def noLst : PyData → Bool
  | .list _ => false
  | .dict _ => false
  | .tuple xs => noLstAll xs
  | _ => true
def noLstAll : List PyData → Bool
  | [] => true
  | x :: xs => noLst x && noLstAll xs
end
mutual
theorem dp_keep {K : PySem.W.Frag} {H H' : Hp} (k : KeepT H H') : ∀ (d : PyData) (v : V), noLst d = true → Dp K H v d → Dp K H' v d
  | .none, _, _, h => by cases h; exact .non
  | .bool b, _, _, h => by cases h; exact .bl b
  | .int i, _, _, h => by cases h; exact .int i
  | .str x, _, _, h => by cases h; exact .str x
  | .list ds, _, n, _ => by simp [noLst] at n
  | .dict ds, _, n, _ => by simp [noLst] at n
  | .tuple ds, _, n, h => by
    cases h with
    | tup hs ha => exact .tup (k.seq hs) (dp_keepAll k ds _ (by simpa [noLst] using n) ha)
theorem dp_keepAll {K : PySem.W.Frag} {H H' : Hp} (k : KeepT H H') : ∀ (ds : List PyData) (vs : List V), noLstAll ds = true → DpAll K H vs ds → DpAll K H' vs ds
  | [], _, _, h => by cases h; exact .nil
  | d :: ds, _, n, h => by
    have n' : noLst d = true ∧ noLstAll ds = true := by simpa [noLstAll] using n
    cases h with
    | cons h1 h2 => exact .cons (dp_keep k d _ n'.1 h1) (dp_keepAll k ds _ n'.2 h2)
end
theorem dp_app {K : PySem.W.Frag} {H : Hp} : ∀ {xs ys : List V} {ds es : List PyData}, DpAll K H xs ds → DpAll K H ys es → DpAll K H (xs ++ ys) (ds ++ es)
  | _, _, _, _, .nil, h => h
  | _, _, _, _, .cons a b, h => .cons a (dp_app b h)
theorem dp_len {K : PySem.W.Frag} {H : Hp} : ∀ {xs : List V} {ds : List PyData}, DpAll K H xs ds → xs.length = ds.length
  | _, _, .nil => rfl
  | _, _, .cons _ b => congrArg Nat.succ (dp_len b)
theorem noLst_pairs : ∀ ks : List L2.Key, noLstAll (ks.map pairD) = true
  | [] => rfl
  | k :: ks => by
    have ih := noLst_pairs ks
    have h1 : noLst (pairD k) = true := by cases k <;> rfl
    simp only [List.map_cons, noLstAll, h1, ih, Bool.and_self]
theorem keys_dp {K : PySem.W.Frag} {H : Hp} : ∀ ks : List L2.Key, DpAll K H (ks.map kV) (ks.map keyD)
  | [] => .nil
  | k :: ks => .cons (by cases k <;> first | exact .int _ | exact .str _) (keys_dp ks)
theorem atI_some {α : Type} {xs : List α} {i : Int} (h0 : 0 ≤ i) (h1 : i < xs.length) : ∃ v, atI xs i = some v ∧ v ∈ xs := by
  have e : i = ((i.toNat : Nat) : Int) := by omega
  have hl : i.toNat < xs.length := by omega
  have z : atI xs ((i.toNat : Nat) : Int) = some xs[i.toNat] := atI_nat (List.getElem?_eq_getElem hl)
  rw [← e] at z
  exact ⟨_, z, List.getElem_mem hl⟩
theorem boot_isi : bootBuiltins "isinstance" = some (.builtin "isinstance") := by decide +kernel
theorem boot_zip : bootBuiltins "zip" = some (.type "zip") := by decide +kernel
theorem take_next {α : Type} {l : List α} {i : Nat} {x : α} (h : l[i]? = some x) : l.take (i + 1) = l.take i ++ [x] := by
  rw [List.take_add_one, h]
  rfl
/-! ### the facts of the top -/
abbrev sOrder : Stmt := top 1
abbrev sLess : Stmt := top 4
abbrev sPart : Stmt := top 5
abbrev sKey : Stmt := top 6
abbrev sLaw : Stmt := top 7
structure Txt (mg : Str → Option Value) : Prop where
  d : TDraw mg
  isi : mg "isinstance" = none
  tup : mg "tuple" = none
  str : mg "str" = none
  zip : mg "zip" = none
section
variable {P : Program} {w : World} {K : PySem.W.Frag} {mg : Str → Option Value} {base : Heap}
/-! ### order -/
def spOrder (K : PySem.W.Frag) : Sp := fun vs H Q _ => ∃ (a : Addr) (ks : List L2.Key), vs = [.ref a] ∧ SqT K H a (ks.map kV) ∧ ks.length ≤ 1000 ∧
  ∀ p H' xs, Same H H' → H' p = some (.tup xs) → DpAll K H' xs (ks.map pairD) → Q (.ref p) H'
theorem scOrder : FnScope ["key", "part"] ["key"] (defScope sOrder) := ⟨rfl, rfl, rfl, by decide +kernel, rfl, by decide +kernel, by decide +kernel⟩
theorem ok_order {f : Addr} {fd : FuncData} (F : Fun K "order" "order" sOrder f fd) (T : Txt mg) : FnOk P w K mg base CX0 1 f fd ["key"] (spOrder K) := by
  refine F.ok scOrder (fun vs H Q E h => ?_) (fun cdv A outer s H vs Q E hr h => ?_)
  · obtain ⟨a, ks, rfl, _⟩ := h
    rfl
  · obtain ⟨a, ks, rfl, hS, hl, q⟩ := h
    refine ⟨_, pss_one (ps_ret (pe_callTy call_tuple_of (by rfl) T.tup (by decide +kernel) (pa_cons
      (pe_lc (own := [("part", 1)]) (g := gName 1) (tt := tYes) rfl scOrder.nd (pi_tup (pv 0)) (blkOk_by (N := ["key", "part"]) (sc := defScope sOrder) (by decide +kernel))
        (fun _ _ _ _ _ => pg_name (i := 1) scOrder.nd rfl (Or.inl rfl)) (fun _ _ _ _ _ => pts_nil)
        (fun _ _ _ _ _ => pe_ifExp (pt_val (pe_callB (r := rIsi K) call_isi (by rfl) T.isi boot_isi (pa_cons (pv 1) (pa_cons (pe_bltn (v := .ty "int") (by rfl) T.d.int (by decide +kernel) rfl) pa_nil))))
          (pe_tup (pa_cons pe_int (pa_cons (pv 1) pa_nil))) (pe_tup (pa_cons pe_int (pa_cons (pv 1) pa_nil))))) pa_nil))), ?_⟩
    refine ⟨_, rfl, a, rfl, ⟨_, hS⟩, fun D hD => ?_⟩
    have s0 : Same H (upd H D (.lst [])) := fun b o e => by rw [upd_ne (ne_of_none e hD)]; exact e
    refine lc_tup (K := K) (a := a) (xs := ks.map kV) (fun i H2 => Same H H2 ∧ ∃ acc, H2 D = some (.lst acc) ∧ DpAll K H2 acc ((ks.take i).map pairD))
      ⟨s0, [], upd_same, .nil⟩ (fun i H2 _ ⟨s1, _⟩ => (keepT_of s1).seq hS) ?_ ?_
    · rintro i x H2 hi ⟨s1, acc, hD2, hA⟩
      have hil := (List.getElem?_eq_some_iff.mp hi).1
      rw [List.length_map] at hil
      rw [List.getElem?_map] at hi
      cases hk : ks[i]? with
      | none => rw [hk] at hi; cases hi
      | some k =>
        rw [hk] at hi
        cases hi
        have hal : acc.length < sizeLine := by
          have := dp_len hA
          rw [List.length_map, List.length_take] at this
          exact small1000 (by omega)
        have fin : ∀ (n : Int), pairD k = .tuple [.int n, keyD k] → ∀ T, H2 T = none → ∃ acc', (upd H2 T (.tup [.int n, kV k])) D = some (.lst acc') ∧ acc'.length < sizeLine ∧
            (Same H (upd (upd H2 T (.tup [.int n, kV k])) D (.lst (acc' ++ [.ref T]))) ∧ ∃ acc2, upd (upd H2 T (.tup [.int n, kV k])) D (.lst (acc' ++ [.ref T])) D = some (.lst acc2) ∧ DpAll K (upd (upd H2 T (.tup [.int n, kV k])) D (.lst (acc' ++ [.ref T]))) acc2 ((ks.take (i + 1)).map pairD)) := by
          intro n en T hT
          have neT : D ≠ T := ne_of_none hD2 hT
          have hD3 : (upd H2 T (.tup [.int n, kV k])) D = some (.lst acc) := by rw [upd_ne neT]; exact hD2
          refine ⟨acc, hD3, hal, fun b o e => ?_, acc ++ [.ref T], upd_same, ?_⟩
          · rw [upd_ne (ne_of_none e hD), upd_ne (ne_of_none (s1 b o e) hT)]
            exact s1 b o e
          · rw [take_next hk, List.map_append]
            refine dp_app (dp_keepAll ((KeepT.new hT).trans (KeepT.lst hD3)) _ _ (noLst_pairs _) hA) (.cons ?_ .nil)
            rw [en]
            refine .tup (SqT.of (xs := [.int n, kV k]) (by rw [upd_ne neT.symm]; exact upd_same)) (.cons (.int n) (.cons ?_ .nil))
            cases k <;> first | exact .int _ | exact .str _
        cases k with
        | inl z =>
          refine ⟨rfl, _, rfl, _, _, _, _, true, rfl, .ty "int", .base (.int z), kit_ty (by decide +kernel), _, rfl, iteT ?_⟩
          exact ⟨_, rfl, by show 2 ≤ sizeLine; decide, fun T hT => fin 0 rfl T hT⟩
        | inr z =>
          refine ⟨rfl, _, rfl, _, _, _, _, false, rfl, .ty "int", .base (.str z), kit_ty (by decide +kernel), _, rfl, iteF ?_⟩
          exact ⟨_, rfl, by show 2 ≤ sizeLine; decide, fun T hT => fin 1 rfl T hT⟩
    · rintro H2 ⟨s1, acc, hD2, hA⟩
      rw [List.length_map, List.take_length] at hA
      refine ⟨D, acc, rfl, .inl ⟨SqL.of hD2, fun p hp => ?_⟩⟩
      refine q p _ acc (fun b o e => by rw [upd_ne (ne_of_none (s1 b o e) hp)]; exact s1 b o e) upd_same ?_
      exact dp_keepAll (KeepT.new hp) _ _ (noLst_pairs _) hA
end
end Vk
namespace Vk
open PySem L2
theorem ifT {c : Bool} {A B : Prop} (h : c = true) (x : A) : if c = true then A else B := by
  rw [if_pos h]
  exact x
theorem neT {p : Prop} [Decidable p] (h : ¬ p) : (!decide p) = true := by rw [decide_eq_false h]; rfl
theorem ltK_cons (x y : L2.Key) (xs ys : List L2.Key) : ltK (x :: xs) (y :: ys) = if x = y then ltK xs ys else ltP x y := rfl
theorem drop_next {α : Type} {l : List α} {i : Nat} {x : α} (h : l[i]? = some x) : l.drop i = x :: l.drop (i + 1) := by
  obtain ⟨hl, e⟩ := List.getElem?_eq_some_iff.mp h
  rw [List.drop_eq_getElem_cons hl, e]
/-- a loop over zip of two tuples of any lengths -/
theorem for_zipM {K : PySem.W.Frag} {a b : Addr} {xs ys : List V} {g : TG} {tb : TS} {D : Ends} {σ : L2.St} {H : Hp} (Pv : Nat → L2.St → Hp → Prop) (h0 : Pv 0 σ H) (hq : ∀ i σ H, Pv i σ H → SqT K H a xs ∧ SqT K H b ys)
    (hs : ∀ (i : Nat) (x y : V) (T : Addr) (σ : L2.St) (H : Hp), xs[i]? = some x → ys[i]? = some y → Pv i σ H → H T = none → g (.ref T) σ (upd H T (.tup [x, y])) fun σ2 H2 => tb { D with nx := Pv (i + 1), ct := Pv (i + 1), bk := D.nx } σ2 H2)
    (hd : ∀ i σ H, (xs.length ≤ i ∨ ys.length ≤ i) → i ≤ xs.length → i ≤ ys.length → Pv i σ H → D.nx σ H) :
    ∃ W : Nat → Nat → L2.St → Hp → Prop, (∃ m, W 0 m σ H) ∧ ∀ i m σ H, W i m σ H →
      ((RZ.ItzT K a b).stop i H ∧ D.nx σ H) ∨ ((RZ.ItzT K a b).go i H ∧ ∃ N : L2.St → Hp → Prop, (∀ σ' H', N σ' H' → ∃ m', m' < m ∧ W (i + 1) m' σ' H') ∧ ∀ v H', (RZ.ItzT K a b).yld i H v H' → g v σ H' fun σ2 H2 => tb { D with nx := N, ct := N, bk := D.nx } σ2 H2) := by
  refine ⟨fun i m σ H => m = xs.length - i ∧ i ≤ xs.length ∧ i ≤ ys.length ∧ Pv i σ H, ⟨xs.length, rfl, Nat.zero_le _, Nat.zero_le _, h0⟩, ?_⟩
  rintro i m σ H ⟨rfl, hi, hj, p⟩
  have both := hq i σ H p
  by_cases c1 : i < xs.length
  · by_cases c2 : i < ys.length
    · have g1 := List.getElem?_eq_getElem c1
      have g2 := List.getElem?_eq_getElem c2
      refine .inr ⟨⟨xs, ys, _, _, both.1, both.2, g1, g2⟩, Pv (i + 1), fun σ' H' p' => ⟨xs.length - (i + 1), by omega, rfl, c1, c2, p'⟩, fun v H' yl => ?_⟩
      obtain ⟨T, x', y', rfl, hT, rfl, f1, f2⟩ := yl
      exact hs i x' y' T σ H (f1 xs both.1) (f2 ys both.2) p hT
    · exact .inl ⟨⟨xs, ys, both.1, both.2, .inr (by omega)⟩, hd i σ H (.inr (by omega)) hi hj p⟩
  · exact .inl ⟨⟨xs, ys, both.1, both.2, .inl (by omega)⟩, hd i σ H (.inl (by omega)) hi hj p⟩
section
variable {P : Program} {w : World} {K : PySem.W.Frag} {mg : Str → Option Value} {base : Heap}
def isStrK : L2.Key → Bool
  | .inl _ => false
  | .inr _ => true
theorem isi_is (H : Hp) (k : L2.Key) : ∃ t, TyX K H (kV k) t ∧ PySem.W.kitOne K t (.type "str") = some (isStrK k) := by
  cases k with
  | inl i => exact ⟨_, .base (.int i), kit_ty (r := false) (by decide +kernel)⟩
  | inr x => exact ⟨_, .base (.str x), kit_ty (r := true) (by decide +kernel)⟩
def spLess (K : PySem.W.Frag) : Sp := fun vs H Q _ => ∃ (a b : Addr) (ks ms : List L2.Key), vs = [.ref a, .ref b] ∧ SqT K H a (ks.map kV) ∧ SqT K H b (ms.map kV) ∧
  ∀ H', Same H H' → Q (.bl (ltK ks ms)) H'
theorem scLess : FnScope ["first", "second", "one", "other"] ["first", "second"] (defScope sLess) := ⟨rfl, rfl, rfl, by decide +kernel, rfl, by decide +kernel, by decide +kernel⟩
theorem ok_less {f : Addr} {fd : FuncData} (F : Fun K "_law_less" "_law_less" sLess f fd) (T : Txt mg) : FnOk P w K mg base CX0 1 f fd ["first", "second"] (spLess K) := by
  refine F.ok scLess (fun vs H Q E h => ?_) (fun cdv A outer s H vs Q E hr h => ?_)
  · obtain ⟨a, b, ks, ms, rfl, _⟩ := h
    rfl
  · obtain ⟨a, b, ks, ms, rfl, hA, hB, q⟩ := h
    refine ⟨_, pss_cons (ps_for PassesOwn.never rfl (RZ.pi_zipA (by rfl) T.zip (pa_cons (pv 0) (pa_cons (pv 1) pa_nil)))
        (pg_tup rfl (pgs_cons (pg_name (i := 2) scLess.nd rfl (Or.inl rfl)) (pgs_cons (pg_name (i := 3) scLess.nd rfl (Or.inl rfl)) pgs_nil)))
        (pss_cons (ps_if (PW.pt (pw_and (pt_val (pe_callB (r := rIsi K) call_isi (by rfl) T.isi boot_isi (pa_cons (pv 2) (pa_cons (pe_bltn (v := .ty "str") (by rfl) T.str (by decide +kernel) rfl) pa_nil))))
            (pw_and1 (pt_not (pt_val (pe_callB (r := rIsi K) call_isi (by rfl) T.isi boot_isi (pa_cons (pv 3) (pa_cons (pe_bltn (v := .ty "str") (by rfl) T.str (by decide +kernel) rfl) pa_nil)))))))) (pss_one (ps_ret pe_bl)) pss_nil)
        (pss_cons (ps_if (PW.pt (pw_and (pt_val (pe_callB (r := rIsi K) call_isi (by rfl) T.isi boot_isi (pa_cons (pv 3) (pa_cons (pe_bltn (v := .ty "str") (by rfl) T.str (by decide +kernel) rfl) pa_nil))))
            (pw_and1 (pt_not (pt_val (pe_callB (r := rIsi K) call_isi (by rfl) T.isi boot_isi (pa_cons (pv 2) (pa_cons (pe_bltn (v := .ty "str") (by rfl) T.str (by decide +kernel) rfl) pa_nil)))))))) (pss_one (ps_ret pe_bl)) pss_nil)
        (pss_one (ps_if (pt_cmpR op_ne (pv 2) (pv 3) (nomark _)) (pss_one (ps_ret (pe_cmpR (OpR.or op_lt op_lt_str) (pv 2) (pv 3) (nomark _)))) pss_nil)))))
      (pss_one (ps_ret (pe_cmpR op_lt (pe_callB call_len_seq (by rfl) T.d.len PySem.boot_len (pa_cons (pv 0) pa_nil)) (pe_callB call_len_seq (by rfl) T.d.len PySem.boot_len (pa_cons (pv 1) pa_nil)) (nomark _)))), ?_⟩
    refine ⟨_, rfl, _, rfl, a, b, _, _, rfl, .inr ⟨hA, hB, ?_⟩⟩
    refine for_zipM (K := K) (xs := ks.map kV) (ys := ms.map kV) (fun i σ H2 => ∃ v1 v2 : Option V, σ = [some (.ref a), some (.ref b), v1, v2] ∧ Same H H2 ∧ ltK ks ms = ltK (ks.drop i) (ms.drop i))
      ⟨none, none, rfl, Same.refl H, rfl⟩ (fun i σ H2 ⟨_, _, _, s1, _⟩ => ⟨(keepT_of s1).seq hA, (keepT_of s1).seq hB⟩) ?_ ?_
    · rintro i x y T σ H2 hx hy ⟨v1, v2, rfl, s1, e⟩ hT
      rw [List.getElem?_map] at hx hy
      cases hk : ks[i]? with
      | none => rw [hk] at hx; cases hx
      | some k =>
      cases hm : ms[i]? with
      | none => rw [hm] at hy; cases hy
      | some m =>
      rw [hk] at hx
      rw [hm] at hy
      cases hx
      cases hy
      have s2 : Same H (upd H2 T (.tup [kV k, kV m])) := fun c o z => by rw [upd_ne (ne_of_none (s1 c o z) hT)]; exact s1 c o z
      rw [drop_next hk, drop_next hm, ltK_cons] at e
      refine ⟨T, _, rfl, SqT.of upd_same, rfl, _, _, rfl, _, _, rfl, rfl, ?_⟩
      obtain ⟨tq, hq1, hq2⟩ := isi_is (K := K) _ k
      refine ⟨_, rfl, _, _, tq, _, _, rfl, .ty "str", hq1, hq2, _, rfl, ?_⟩
      cases k with
      | inl i1 =>
        refine iteF (iteF ?_)
        obtain ⟨tq, hq1, hq2⟩ := isi_is (K := K) _ m
        refine ⟨_, rfl, _, _, tq, _, _, rfl, .ty "str", hq1, hq2, _, rfl, ?_⟩
        cases m with
        | inl j1 =>
          refine iteF (iteF ?_)
          refine ⟨_, rfl, _, rfl, rfl, _, rfl, ?_⟩
          by_cases c : i1 = j1
          · have c2 : (V.int i1) = V.int j1 := by rw [c]
            rw [if_pos (by rw [c])] at e
            refine iteNS (c := V.int i1 = V.int j1) c2 ?_
            exact ⟨_, _, rfl, s2, e⟩
          · have c2 : ¬ (V.int i1) = V.int j1 := fun z => c (V.int.inj z)
            rw [if_neg (fun z => c (Sum.inl.inj z))] at e
            refine ifT (neT c2) ?_
            refine ⟨_, rfl, _, rfl, .inl ⟨_, _, rfl, rfl, ?_⟩⟩
            have z := q _ s2
            rw [e] at z
            exact z
        | inr y1 =>
          refine iteT ?_
          obtain ⟨tq, hq1, hq2⟩ := isi_is (K := K) _ (.inl i1)
          refine ⟨_, rfl, _, _, tq, _, _, rfl, .ty "str", hq1, hq2, _, rfl, ?_⟩
          refine iteT ?_
          have z := q _ s2
          rw [e, if_neg (fun z => nomatch z)] at z
          exact z
      | inr x1 =>
        refine iteT ?_
        obtain ⟨tq, hq1, hq2⟩ := isi_is (K := K) _ m
        refine ⟨_, rfl, _, _, tq, _, _, rfl, .ty "str", hq1, hq2, _, rfl, ?_⟩
        cases m with
        | inl j1 =>
          refine iteT ?_
          have z := q _ s2
          rw [e, if_neg (fun z => nomatch z)] at z
          exact z
        | inr y1 =>
          refine iteF ?_
          obtain ⟨tq, hq1, hq2⟩ := isi_is (K := K) _ (.inr y1)
          refine ⟨_, rfl, _, _, tq, _, _, rfl, .ty "str", hq1, hq2, _, rfl, ?_⟩
          refine iteT ?_
          obtain ⟨tq, hq1, hq2⟩ := isi_is (K := K) _ (.inr x1)
          refine ⟨_, rfl, _, _, tq, _, _, rfl, .ty "str", hq1, hq2, _, rfl, ?_⟩
          refine iteF ?_
          refine ⟨_, rfl, _, rfl, rfl, _, rfl, ?_⟩
          by_cases c : x1 = y1
          · have c2 : (V.str x1) = V.str y1 := by rw [c]
            rw [if_pos (by rw [c])] at e
            refine iteNS (c := V.str x1 = V.str y1) c2 ?_
            exact ⟨_, _, rfl, s2, e⟩
          · have c2 : ¬ (V.str x1) = V.str y1 := fun z => c (V.str.inj z)
            rw [if_neg (fun z => c (Sum.inr.inj z))] at e
            refine ifT (neT c2) ?_
            refine ⟨_, rfl, _, rfl, .inr ⟨_, _, rfl, rfl, ?_⟩⟩
            have z := q _ s2
            rw [e] at z
            exact z
    · rintro i σ H2 hi hi1 hi2 ⟨v1, v2, rfl, s1, e⟩
      rw [List.length_map] at hi hi1 hi2
      rw [List.length_map] at hi
      refine ⟨_, rfl, _, _, rfl, .inr ((keepT_of s1).seq hA), _, rfl, _, _, rfl, .inr ((keepT_of s1).seq hB), _, _, rfl, rfl, ?_⟩
      have z := q _ s1
      have e2 : ltK (ks.drop i) (ms.drop i) = decide (ks.length < ms.length) := by
        cases hk : ks.drop i with
        | nil =>
          have l1 : ks.length ≤ i := List.drop_eq_nil_iff.mp hk
          cases hm : ms.drop i with
          | nil =>
            have l2 : ms.length ≤ i := List.drop_eq_nil_iff.mp hm
            exact (decide_eq_false (by omega)).symm
          | cons m r =>
            have l2 : i < ms.length := by
              rcases Nat.lt_or_ge i ms.length with h | h
              · exact h
              · rw [List.drop_of_length_le h] at hm; cases hm
            exact (decide_eq_true (by omega)).symm
        | cons k r =>
          have l1 : i < ks.length := by
            rcases Nat.lt_or_ge i ks.length with h | h
            · exact h
            · rw [List.drop_of_length_le h] at hk; cases hk
          have l2 : ms.length ≤ i := by omega
          rw [List.drop_of_length_le l2]
          exact (decide_eq_false (by omega)).symm
      rw [e, e2] at z
      have e3 : decide (((ks.map kV).length : Int) < ((ms.map kV).length : Int)) = decide (ks.length < ms.length) := by
        rw [List.length_map, List.length_map]
        by_cases h : ks.length < ms.length
        · rw [decide_eq_true h, decide_eq_true (by omega)]
        · rw [decide_eq_false h, decide_eq_false (by omega)]
      show Q (.bl (decide (((ks.map kV).length : Int) < ((ms.map kV).length : Int)))) H2
      rw [e3]
      exact z
end
end Vk
namespace Vk
open PySem L2
theorem bo_len : bootBuiltins "len" = some (.builtin "len") := by decide +kernel
theorem bo_int : bootBuiltins "int" = some (.type "int") := by decide +kernel
theorem bo_tuple : bootBuiltins "tuple" = some (.type "tuple") := by decide +kernel
theorem bo_isinstance : bootBuiltins "isinstance" = some (.builtin "isinstance") := by decide +kernel
theorem hu64 {k : Nat} {A : Around} (hr : Room k A) : A.units + 64 < cLine := hr.units
/-- a def that is called: what it promises, where it stands -/
structure Cal (P : Program) (w : World) (K : PySem.W.Frag) (mg : Str → Option Value) (base : Heap) (x : Str) (k : Nat) (f : Addr) (fd : FuncData) (ps : List Str) (sp : Sp) : Prop where
  G : FnOk P w K mg base CX0 k f fd ps sp
  mg : mg x = some (.ref f)
  kp : PySem.W.keepIn K (.ref f) = true
  B : Binds K fd ps []
structure T2 (mg : Str → Option Value) : Prop where
  len : mg "len" = none
  int : mg "int" = none
  min : mg "min" = none
  range : mg "range" = none
  isinstance : mg "isinstance" = none
  tuple : mg "tuple" = none
  str : mg "str" = none
  zip : mg "zip" = none
section
variable {P : Program} {w : World} {K : PySem.W.Frag} {mg : Str → Option Value} {base : Heap}
/-! ### a part -/
def spPart : Sp := fun vs H Q _ => ∃ n : Int, vs = [.int n] ∧ 0 ≤ n ∧ n < 100003 ∧ ∀ k H', Same H H' → okP k = true → Q (kV k) H'
abbrev s_part : Stmt := top 5
theorem sc_part : FnScope ["number", "signs"] ["number"] (defScope s_part) := ⟨rfl, rfl, rfl, by decide +kernel, rfl, by decide +kernel, by decide +kernel⟩
theorem ok_part {f : Addr} {fd : FuncData} (F : Fun K "_law_part" "_law_part" s_part f fd) : FnOk P w K mg base CX0 1 f fd ["number"] spPart := by
  refine F.ok sc_part (fun vs H Q E h => ?_) (fun cdv A outer s H vs Q E hr h => ?_)
  · obtain ⟨n, rfl, _⟩ := h
    rfl
  · obtain ⟨n, rfl, n0, n1, q⟩ := h
    refine ⟨_, (pss_cons (ps_if (pt_cmpR op_eq (pe_op op_mod (pv 0) pe_int) pe_int (nomark _)) (pss_one (ps_ret (pe_ix ix_list (pe_lst (pa_cons (pe_op op_sub (pe_op op_mod (pe_op op_fdiv (pv 0) pe_int) pe_int) pe_int) (pa_cons (pe_op op_sub (pv 0) pe_int) (pa_cons (pe_op op_sub pe_int (pe_op op_pow (pv 0) pe_int)) (pa_cons (pe_op op_pow (pv 0) pe_int) pa_nil))))) (pe_op op_mod (pe_op op_fdiv (pv 0) pe_int) pe_int) (fun _ _ => rfl)))) pss_nil)
  (pss_cons (ps_set (i := 1) sc_part.nd rfl (Or.inl rfl) (pe_lst (pa_cons pe_str (pa_cons pe_str (pa_cons pe_str (pa_cons pe_str (pa_cons pe_str (pa_cons pe_str (pa_cons pe_str (pa_cons pe_str (pa_cons pe_str (pa_cons pe_str (pa_cons pe_str pa_nil)))))))))))))
  (pss_one (ps_ret (pe_op op_mulS (pe_ix ix_list (pv 1) (pe_op op_mod (pe_op op_fdiv (pv 0) pe_int) pe_int) (fun _ _ => rfl)) (pe_op op_add pe_int (pe_op op_mod (pe_op op_fdiv (pv 0) pe_int) pe_int))))))), ?_⟩
    have d2 : 0 ≤ n / 2 := by omega
    refine ⟨_, rfl, _, _, rfl, rfl, (by show (0 : Int) < 2; decide), rfl, _, rfl, ?_⟩
    refine ite2 (fun _ => ?_) (fun _ => ?_)
    · refine ⟨_, rfl, _, _, rfl, rfl, ⟨by decide, by decide⟩, _, _, rfl, rfl, (by show (0 : Int) < 7; decide), _, _, rfl, rfl, ?_⟩
      refine ⟨_, rfl, _, _, rfl, rfl, ?_⟩
      refine ⟨_, rfl, _, _, rfl, rfl, ⟨by decide, by decide, by omega⟩, _, _, rfl, rfl, ?_⟩
      refine ⟨_, rfl, _, _, rfl, rfl, ⟨by decide, by decide, by omega⟩, ?_⟩
      refine ⟨by show 4 ≤ sizeLine; decide, fun p hp => ?_⟩
      refine ⟨_, rfl, _, _, rfl, rfl, ⟨by decide, by decide⟩, _, _, rfl, rfl, (by show (0 : Int) < 4; decide), ?_⟩
      obtain ⟨v, hv, hm⟩ := atI_some (xs := [V.int (n / 2 % 7 - 3), .int (n - 50000), .int (0 - n ^ (4 : Int).toNat), .int (n ^ (5 : Int).toNat)]) (i := n / 14 % 4) (by omega) (by show n / 14 % 4 < 4; omega)
      have hk : ∃ z, v = .int z := by
        simp only [List.mem_cons, List.not_mem_nil, or_false] at hm
        rcases hm with h | h | h | h <;> exact ⟨_, h⟩
      obtain ⟨z, rfl⟩ := hk
      refine ⟨p, _, _, _, rfl, rfl, SqL.of upd_same, hv, ?_⟩
      exact q (.inl z) _ (fun b o e => by rw [upd_ne (ne_of_none e hp)]; exact e) rfl
    · refine ⟨by show 11 ≤ sizeLine; decide, fun p hp => ?_⟩
      refine ⟨_, rfl, _, rfl, _, _, rfl, rfl, ⟨by decide, by decide⟩, _, _, rfl, rfl, (by show (0 : Int) < 11; decide), ?_⟩
      obtain ⟨v, hv, hm⟩ := atI_some (xs := [V.str "", .str " ", .str "a", .str "A", .str "ab", .str "a ", .str "b", .str "~", .str "10", .str "9", .str "-1"]) (i := n / 2 % 11) (by omega) (by show n / 2 % 11 < 11; omega)
      have hk : ∃ z : Str, v = .str z ∧ PyData.strOk z = true ∧ z.length ≤ 1000 := by
        simp only [List.mem_cons, List.not_mem_nil, or_false] at hm
        rcases hm with h | h | h | h | h | h | h | h | h | h | h <;> exact ⟨_, h, by decide +kernel, by decide +kernel⟩
      obtain ⟨z, rfl, z1, z2⟩ := hk
      refine ⟨p, _, _, _, rfl, rfl, SqL.of upd_same, hv, ?_⟩
      refine ⟨_, rfl, _, _, rfl, rfl, ⟨by decide, by decide⟩, _, _, rfl, rfl, (by show (0 : Int) < 3; decide), _, _, rfl, rfl, ?_⟩
      refine ⟨z, _, rfl, rfl, by omega, by omega, z2, fun r hr1 _ => ?_⟩
      exact q (.inr r) _ (fun b o e => by rw [upd_ne (ne_of_none e hp)]; exact e) (hr1 z1)
/-! ### a key -/
def spKey (K : PySem.W.Frag) : Sp := fun vs H Q _ => ∃ (a : Addr) (ns : List Int) (st ct : Int), vs = [.ref a, .int st, .int ct] ∧ SqL K H a (ns.map V.int) ∧ ns.length ≤ 63 ∧ 0 ≤ st ∧ st ≤ 1000 ∧ 0 ≤ ct ∧ ct ≤ 100 ∧
  ∀ (ks : List L2.Key) (p : Addr) (H' : Hp), Same H H' → okK ks → ks.length = ct.toNat → H' p = some (.tup (ks.map kV)) → Q (.ref p) H'
abbrev s_key : Stmt := top 6
theorem sc_key : FnScope ["script", "start", "count", "parts", "k"] ["script", "start", "count"] (defScope s_key) := ⟨rfl, rfl, rfl, by decide +kernel, rfl, by decide +kernel, by decide +kernel⟩
theorem ok_key {f fp fr : Addr} {fd fdp fdr : FuncData} (F : Fun K "_law_key" "_law_key" s_key f fd) (T : T2 mg) (C_draw : Cal P w K mg base "_law_draw" 1 fr fdr ["script", "k"] (spDraw K)) (C_part : Cal P w K mg base "_law_part" 1 fp fdp ["number"] spPart) :
    FnOk P w K mg base CX0 2 f fd ["script", "start", "count"] (spKey K) := by
  refine F.ok sc_key (fun vs H Q E h => ?_) (fun cdv A outer s H vs Q E hr h => ?_)
  · obtain ⟨a, ns, st, ct, rfl, _⟩ := h
    rfl
  · obtain ⟨a, ns, st, ct, rfl, hS, hl, s0, s1, c0, c1, q⟩ := h
    refine ⟨_, (pss_cons (ps_set (i := 3) sc_key.nd rfl (Or.inl rfl) (pe_lst pa_nil))
  (pss_cons (ps_for PassesOwn.never rfl (pi_range1 rfl T.range (pa_cons (pv 2) pa_nil)) (pg_name (i := 4) sc_key.nd rfl (Or.inl rfl))
  (pss_one (ps_expr (pe_bm PySem.F.plainAttrs_list PySem.F.slot_list_append PySem.F.type_list_append mt_append (pv 3) (pa_cons (pe_call C_part.G (hr.mono (by decide)) rfl C_part.mg C_part.kp C_part.B .nil pass0 (pa_cons (pe_op op_mod (pe_call C_draw.G (hr.mono (by decide)) rfl C_draw.mg C_draw.kp C_draw.B .nil pass0 (pa_cons (pv 0) (pa_cons (pe_op op_add (pv 1) (pv 4)) pa_nil))) pe_int) pa_nil)) pa_nil)))))
  (pss_one (ps_ret (pe_callTy call_tuple_of (by rfl) T.tuple bo_tuple (pa_cons (pv 3) pa_nil)))))), ?_⟩
    refine ⟨Nat.zero_le _, fun D hD => ?_⟩
    have sm0 : Same H (upd H D (.lst [])) := fun b o e => by rw [upd_ne (ne_of_none e hD)]; exact e
    refine ⟨_, rfl, _, rfl, by omega, by omega, ?_⟩
    refine for_range (n := ct.toNat) (fun i σ H2 => ∃ (v : Option V) (ks : List L2.Key), σ = [some (.ref a), some (.int st), some (.int ct), some (.ref D), v] ∧ Same H H2 ∧ H2 D = some (.lst (ks.map kV)) ∧ okK ks ∧ ks.length = i)
      ⟨none, [], rfl, sm0, upd_same, fun k hk => absurd hk (List.not_mem_nil), rfl⟩ ?_ ?_
    · rintro i σ H2 hi ⟨v, ks, rfl, sm, hD2, ok, hkl⟩
      refine ⟨_, rfl, .inl ⟨rfl, _, SqL.of hD2⟩, ?_⟩
      refine ⟨_, rfl, _, rfl, _, rfl, _, _, rfl, rfl, a, ns, _, rfl, sm.seq hS, hl, by omega, by omega, ?_⟩
      refine ⟨_, _, rfl, rfl, (by show (0 : Int) < 100003; decide), ?_⟩
      refine ⟨_, rfl, by omega, by omega, fun k H3 sm3 okk => ?_⟩
      have hD3 : H3 D = some (.lst (ks.map kV)) := sm3 _ _ hD2
      refine ⟨D, _, _, rfl, rfl, hD3, small1000 (by rw [List.length_map]; omega), ?_⟩
      refine ⟨_, ks ++ [k], rfl, fun b o e => ?_, ?_, ?_, by rw [List.length_append, hkl]; rfl⟩
      · rw [upd_ne (ne_of_none e hD)]
        exact sm3 b o (sm b o e)
      · rw [upd_same, List.map_append]
        rfl
      · intro x hx
        rcases List.mem_append.mp hx with h | h
        · exact ok x h
        · rw [List.mem_singleton.mp h]
          exact okk
    · rintro σ H2 ⟨v, ks, rfl, sm, hD2, ok, hkl⟩
      refine ⟨_, rfl, D, _, rfl, .inl ⟨SqL.of hD2, fun p hp => ?_⟩⟩
      exact q ks p _ (fun b o e => by rw [upd_ne (ne_of_none (sm b o e) hp)]; exact sm b o e) ok hkl upd_same
end
end Vk
namespace Vk
open PySem L2
open C8 (pss_cut tCut)
/-- at p stands a key -/
def KeyAt (H : Hp) (p : Addr) (ks : List L2.Key) : Prop := H p = some (.tup (ks.map kV)) ∧ okK ks
theorem KeyAt.same {H H' : Hp} {p : Addr} {ks : List L2.Key} (h : KeyAt H p ks) (s : Same H H') : KeyAt H' p ks := ⟨s _ _ h.1, h.2⟩
theorem same_new {H : Hp} {p : Addr} {o : HO} (h : H p = none) : Same H (upd H p o) := fun b u e => by
  rw [upd_ne (ne_of_none e h)]
  exact e
theorem okK_app {ks ms : List L2.Key} (a : okK ks) (b : okK ms) : okK (ks ++ ms) := fun k h => by
  rcases List.mem_append.mp h with h | h
  · exact a k h
  · exact b k h
theorem cat_go {K : PySem.W.Frag} {H : Hp} {a b : Addr} {ks ms : List L2.Key} {Q : VK} (ha : KeyAt H a ks) (hb : KeyAt H b ms) (hl : ks.length + ms.length ≤ 1000)
    (q : ∀ p H', Same H H' → KeyAt H' p (ks ++ ms) → Q (.ref p) H') : rCatA K (.ref a) (.ref b) H Q := by
  refine ⟨a, b, _, _, rfl, rfl, SqT.of ha.1, SqT.of hb.1, ?_, fun e => ?_, fun _ e => ?_, fun _ _ p hp => ?_⟩
  · rw [List.length_map, List.length_map]
    exact Nat.le_of_lt (small1000 hl)
  · have e2 : ks = [] := List.map_eq_nil_iff.mp e
    subst e2
    exact q b H (Same.refl H) hb
  · have e2 : ms = [] := List.map_eq_nil_iff.mp e
    subst e2
    refine q a H (Same.refl H) ?_
    rw [List.append_nil]
    exact ha
  · refine q p _ (same_new hp) ⟨?_, okK_app ha.2 hb.2⟩
    rw [upd_same, List.map_append]
theorem cut_go {K : PySem.W.Frag} {H : Hp} {a : Addr} {ks : List L2.Key} {Q : VK} (ha : KeyAt H a ks)
    (q : ∀ p H' ms, Same H H' → KeyAt H' p ms → ms.length ≤ ks.length → Q (.ref p) H') : rSlA K (.ref a) none (some 7) H Q := by
  refine ⟨a, _, rfl, SqT.of ha.1, fun _ => ?_, fun _ p hp => ?_⟩
  · exact q a H ks (Same.refl H) ha (Nat.le_refl _)
  · have e : cutV (ks.map kV) none (some 7) = (ks.take (min 7 ks.length)).map kV := by
      have e7 : HT.sIx (ks.map kV).length (ks.map kV).length (some 7) = min 7 (ks.map kV).length := HT.sIx_nat _ _ 7
      unfold cutV
      rw [HT.sIx_none, e7, List.length_map, List.drop_zero, Nat.sub_zero, List.map_take]
    rw [e]
    refine q p _ _ (same_new hp) ⟨upd_same, fun k hk => ha.2 k (List.mem_of_mem_take hk)⟩ ?_
    rw [List.length_take]
    omega
section
variable {P : Program} {w : World} {K : PySem.W.Frag} {mg : Str → Option Value} {base : Heap}
def spLaw (K : PySem.W.Frag) : Sp := fun vs H Q _ => ∃ (a : Addr) (ns : List Int), vs = [.ref a] ∧ SqL K H a (ns.map V.int) ∧ ns.length ≤ 63 ∧ ∀ H', Q (.bl true) H'
/-- a pair of keys in the last list -/
def PairAt (H : Hp) (x : V) : Prop := ∃ T p1 p2 k1 k2, x = .ref T ∧ H T = some (.tup [.ref p1, .ref p2]) ∧ KeyAt H p1 k1 ∧ KeyAt H p2 k2 ∧ k1.length ≤ 1000 ∧ k2.length ≤ 1000
theorem PairAt.same {H H' : Hp} {x : V} (h : PairAt H x) (s : Same H H') : PairAt H' x := by
  obtain ⟨T, p1, p2, k1, k2, e, hT, h1, h2, l⟩ := h
  exact ⟨T, p1, p2, k1, k2, e, s _ _ hT, h1.same s, h2.same s, l⟩
abbrev s_law : Stmt := top 7
theorem sc_law : FnScope ["script", "shared", "first", "second", "stem", "one", "other", "left", "right"] ["script"] (defScope s_law) := ⟨rfl, rfl, rfl, by decide +kernel, rfl, by decide +kernel, by decide +kernel⟩
theorem ok_law {f fd1 fo fk fl : Addr} {fd fdd fdo fdk fdl : FuncData} (F : Fun K "law" "law" s_law f fd) (T : T2 mg)
    (C_draw : Cal P w K mg base "_law_draw" 1 fd1 fdd ["script", "k"] (spDraw K)) (C_order : Cal P w K mg base "order" 1 fo fdo ["key"] (spOrder K))
    (C_key : Cal P w K mg base "_law_key" 2 fk fdk ["script", "start", "count"] (spKey K)) (C_less : Cal P w K mg base "_law_less" 1 fl fdl ["first", "second"] (spLess K)) :
    FnOk P w K mg base CX0 3 f fd ["script"] (spLaw K) := by
  refine F.ok sc_law (fun vs H Q E h => ?_) (fun cdv A outer s H vs Q E hr h => ?_)
  · obtain ⟨a, ns, rfl, _⟩ := h
    rfl
  · obtain ⟨a, ns, rfl, hS, hl, q⟩ := h
    refine ⟨_, (pss_cut (ps_set (i := 1) sc_law.nd rfl (Or.inl rfl) (pe_call C_key.G (hr.mono (by decide)) rfl C_key.mg C_key.kp C_key.B .nil pass0 (pa_cons (pv 0) (pa_cons pe_int (pa_cons (pe_op op_mod (pe_call C_draw.G (hr.mono (by decide)) rfl C_draw.mg C_draw.kp C_draw.B .nil pass0 (pa_cons (pv 0) (pa_cons pe_int pa_nil))) pe_int) pa_nil)))))
  (pss_cut (ps_if (pt_cmpR op_eq (pe_op op_mod (pe_op op_fdiv (pe_call C_draw.G (hr.mono (by decide)) rfl C_draw.mg C_draw.kp C_draw.B .nil pass0 (pa_cons (pv 0) (pa_cons pe_int pa_nil))) pe_int) pe_int) pe_int (nomark _)) (pss_one (ps_set (i := 1) sc_law.nd rfl (Or.inl rfl) (pe_tup pa_nil))) pss_nil)
  (pss_cut (ps_set (i := 2) sc_law.nd rfl (Or.inl rfl) (pe_op op_catA (pv 1) (pe_call C_key.G (hr.mono (by decide)) rfl C_key.mg C_key.kp C_key.B .nil pass0 (pa_cons (pv 0) (pa_cons pe_int (pa_cons (pe_op op_mod (pe_call C_draw.G (hr.mono (by decide)) rfl C_draw.mg C_draw.kp C_draw.B .nil pass0 (pa_cons (pv 0) (pa_cons pe_int pa_nil))) pe_int) pa_nil))))))
  (pss_cut (ps_set (i := 3) sc_law.nd rfl (Or.inl rfl) (pe_op op_catA (pv 1) (pe_call C_key.G (hr.mono (by decide)) rfl C_key.mg C_key.kp C_key.B .nil pass0 (pa_cons (pv 0) (pa_cons pe_int (pa_cons (pe_op op_mod (pe_call C_draw.G (hr.mono (by decide)) rfl C_draw.mg C_draw.kp C_draw.B .nil pass0 (pa_cons (pv 0) (pa_cons pe_int pa_nil))) pe_int) pa_nil))))))
  (pss_cut (ps_if (pt_cmpR op_eq (pe_op op_mod (pe_call C_draw.G (hr.mono (by decide)) rfl C_draw.mg C_draw.kp C_draw.B .nil pass0 (pa_cons (pv 0) (pa_cons pe_int pa_nil))) pe_int) pe_int (nomark _)) (pss_cons (ps_set (i := 4) sc_law.nd rfl (Or.inl rfl) (pe_op op_mulS (pe_ix ix_list (pe_lst (pa_cons pe_str (pa_cons pe_str (pa_cons pe_str pa_nil)))) (pe_op op_mod (pe_call C_draw.G (hr.mono (by decide)) rfl C_draw.mg C_draw.kp C_draw.B .nil pass0 (pa_cons (pv 0) (pa_cons pe_int pa_nil))) pe_int) (fun _ _ => rfl)) (pe_op op_mod (pe_op op_fdiv (pe_call C_draw.G (hr.mono (by decide)) rfl C_draw.mg C_draw.kp C_draw.B .nil pass0 (pa_cons (pv 0) (pa_cons pe_int pa_nil))) pe_int) pe_int)))
  (pss_cons (ps_set (i := 2) sc_law.nd rfl (Or.inl rfl) (pe_op op_catA (pv 1) (pe_tup (pa_cons (pe_op op_add_str (pv 4) (pe_ix ix_list (pe_lst (pa_cons pe_str (pa_cons pe_str (pa_cons pe_str (pa_cons pe_str (pa_cons pe_str pa_nil)))))) (pe_op op_mod (pe_call C_draw.G (hr.mono (by decide)) rfl C_draw.mg C_draw.kp C_draw.B .nil pass0 (pa_cons (pv 0) (pa_cons pe_int pa_nil))) pe_int) (fun _ _ => rfl))) pa_nil))))
  (pss_one (ps_set (i := 3) sc_law.nd rfl (Or.inl rfl) (pe_op op_catA (pv 1) (pe_tup (pa_cons (pe_op op_add_str (pv 4) (pe_ix ix_list (pe_lst (pa_cons pe_str (pa_cons pe_str (pa_cons pe_str (pa_cons pe_str (pa_cons pe_str pa_nil)))))) (pe_op op_mod (pe_call C_draw.G (hr.mono (by decide)) rfl C_draw.mg C_draw.kp C_draw.B .nil pass0 (pa_cons (pv 0) (pa_cons pe_int pa_nil))) pe_int) (fun _ _ => rfl))) pa_nil))))))) pss_nil)
  (pss_cut (ps_set (i := 2) sc_law.nd rfl (Or.inl rfl) (pe_slice sl_tupA (pv 2) po_none (po_some pe_int)))
  (pss_cut (ps_set (i := 3) sc_law.nd rfl (Or.inl rfl) (pe_slice sl_tupA (pv 3) po_none (po_some pe_int)))
  (pss_cons (ps_for PassesOwn.never rfl (pi_list (pe_lst (pa_cons (pe_tup (pa_cons (pv 2) (pa_cons (pv 3) pa_nil))) (pa_cons (pe_tup (pa_cons (pv 3) (pa_cons (pv 2) pa_nil))) (pa_cons (pe_tup (pa_cons (pv 2) (pa_cons (pv 2) pa_nil))) (pa_cons (pe_tup (pa_cons (pv 1) (pa_cons (pv 3) pa_nil))) (pa_cons (pe_tup (pa_cons (pv 2) (pa_cons (pv 1) pa_nil))) pa_nil))))))) (pg_tup rfl (pgs_cons (pg_name (i := 5) sc_law.nd rfl (Or.inl rfl)) (pgs_cons (pg_name (i := 6) sc_law.nd rfl (Or.inl rfl)) pgs_nil)))
  (pss_cons (ps_set (i := 7) sc_law.nd rfl (Or.inl rfl) (pe_call C_order.G (hr.mono (by decide)) rfl C_order.mg C_order.kp C_order.B .nil pass0 (pa_cons (pv 5) pa_nil)))
  (pss_cons (ps_set (i := 8) sc_law.nd rfl (Or.inl rfl) (pe_call C_order.G (hr.mono (by decide)) rfl C_order.mg C_order.kp C_order.B .nil pass0 (pa_cons (pv 6) pa_nil)))
  (pss_cons (ps_if (PW.pt (pw_or (pt_not (pt_val (pe_callB (r := rIsi K) call_isi (by rfl) T.isinstance bo_isinstance (pa_cons (pv 7) (pa_cons (pe_bltn (v := .ty "tuple") (by rfl) T.tuple (by decide +kernel) rfl) pa_nil))))) (pw_or1 (pt_not (pt_val (pe_callB (r := rIsi K) call_isi (by rfl) T.isinstance bo_isinstance (pa_cons (pv 8) (pa_cons (pe_bltn (v := .ty "tuple") (by rfl) T.tuple (by decide +kernel) rfl) pa_nil)))))))) (pss_one (ps_ret pe_bl)) pss_nil)
  (pss_one (ps_if (PW.pt (pw_or (pt_cmpR op_ne (pe_cmpR (op_ltO (hu64 hr)) (pv 7) (pv 8) (nomark _)) (pe_call C_less.G (hr.mono (by decide)) rfl C_less.mg C_less.kp C_less.B .nil pass0 (pa_cons (pv 5) (pa_cons (pv 6) pa_nil))) (nomark _)) (pw_or1 (pt_cmpR op_ne (pe_cmpR (op_eqD (hu64 hr)) (pv 7) (pv 8) (nomark _)) (pe_cmpR (op_eqD (hu64 hr)) (pv 5) (pv 6) (nomark _)) (nomark _))))) (pss_one (ps_ret pe_bl)) pss_nil))))))
  (pss_one (ps_ret pe_bl)))))))))), ?_⟩
    -- shared = ..
    refine ⟨fun σ H2 => Same H H2 ∧ ∃ p ks, σ = [some (.ref a), some (.ref p), none, none, none, none, none, none, none] ∧ KeyAt H2 p ks ∧ ks.length ≤ 6, ?_, ?_⟩
    · refine ⟨_, rfl, _, rfl, a, ns, _, rfl, hS, hl, by omega, by omega, ?_⟩
      refine ⟨_, _, rfl, rfl, (by show (0 : Int) < 7; decide), ?_⟩
      refine ⟨a, ns, _, _, rfl, hS, hl, by omega, by omega, by omega, by omega, fun ks p H1 sm ok l hp => ?_⟩
      exact ⟨sm, p, ks, rfl, ⟨hp, ok⟩, by omega⟩
    rintro σ H2 ⟨s2, p, ks, rfl, hk, hkl⟩
    -- if .. shared = ()
    refine ⟨fun σ H2 => Same H H2 ∧ ∃ p ks, σ = [some (.ref a), some (.ref p), none, none, none, none, none, none, none] ∧ KeyAt H2 p ks ∧ ks.length ≤ 6, ?_, ?_⟩
    · refine ⟨_, rfl, a, ns, _, rfl, s2.seq hS, hl, by omega, by omega, ?_⟩
      refine ⟨_, _, rfl, rfl, ⟨by decide, by decide⟩, _, _, rfl, rfl, (by show (0 : Int) < 3; decide), rfl, _, rfl, ?_⟩
      refine ite2 (fun _ => ?_) (fun _ => ?_)
      · refine ⟨Nat.zero_le _, fun p2 hp2 => ⟨s2.trans (same_new hp2), p2, [], rfl, ⟨upd_same, fun k h => absurd h List.not_mem_nil⟩, Nat.zero_le _⟩⟩
      · exact ⟨s2, p, ks, rfl, hk, hkl⟩
    clear hk hkl s2
    rintro σ H3 ⟨s3, p, ks, rfl, hk, hkl⟩
    -- first = shared + ..
    refine ⟨fun σ H2 => Same H3 H2 ∧ ∃ p2 k2, σ = [some (.ref a), some (.ref p), some (.ref p2), none, none, none, none, none, none] ∧ KeyAt H2 p2 k2 ∧ k2.length ≤ 20, ?_, ?_⟩
    · refine ⟨_, rfl, _, rfl, _, rfl, a, ns, _, rfl, s3.seq hS, hl, by omega, by omega, ?_⟩
      refine ⟨_, _, rfl, rfl, (by show (0 : Int) < 3; decide), ?_⟩
      refine ⟨a, ns, _, _, rfl, s3.seq hS, hl, by omega, by omega, by omega, by omega, fun k2 p2 H4 sm ok l hp2 => ?_⟩
      refine cat_go (hk.same sm) ⟨hp2, ok⟩ (by omega) (fun p5 H5 s5 h5 => ?_)
      exact ⟨sm.trans s5, p5, _, rfl, h5, by rw [List.length_append]; omega⟩
    rintro σ H4 ⟨s4, pf, kf, rfl, hf, hfl⟩
    -- second = shared + ..
    refine ⟨fun σ H2 => Same H4 H2 ∧ ∃ p2 k2, σ = [some (.ref a), some (.ref p), some (.ref pf), some (.ref p2), none, none, none, none, none] ∧ KeyAt H2 p2 k2 ∧ k2.length ≤ 20, ?_, ?_⟩
    · have s34 := s3.trans s4
      refine ⟨_, rfl, _, rfl, _, rfl, a, ns, _, rfl, s34.seq hS, hl, by omega, by omega, ?_⟩
      refine ⟨_, _, rfl, rfl, (by show (0 : Int) < 3; decide), ?_⟩
      refine ⟨a, ns, _, _, rfl, s34.seq hS, hl, by omega, by omega, by omega, by omega, fun k2 p2 H5 sm ok l hp2 => ?_⟩
      refine cat_go ((hk.same s4).same sm) ⟨hp2, ok⟩ (by omega) (fun p5 H6 s5 h5 => ?_)
      exact ⟨sm.trans s5, p5, _, rfl, h5, by rw [List.length_append]; omega⟩
    rintro σ H5 ⟨s5, ps, ks2, rfl, hs, hsl⟩
    -- the strings with a beginning in common
    have hS5 : SqL K H5 a (ns.map V.int) := ((s3.trans s4).trans s5).seq hS
    refine ⟨fun σ H2 => Same H5 H2 ∧ ∃ p1 k1 p2 k2 v, σ = [some (.ref a), some (.ref p), some (.ref p1), some (.ref p2), v, none, none, none, none] ∧ KeyAt H2 p1 k1 ∧ k1.length ≤ 20 ∧ KeyAt H2 p2 k2 ∧ k2.length ≤ 20, ?_, ?_⟩
    · refine ⟨_, rfl, a, ns, _, rfl, hS5, hl, by omega, by omega, ?_⟩
      refine ⟨_, _, rfl, rfl, (by show (0 : Int) < 3; decide), rfl, _, rfl, ?_⟩
      refine ite2 (fun _ => ?_) (fun _ => ?_)
      · refine ⟨by show 3 ≤ sizeLine; decide, fun L hL => ?_⟩
        have sL : Same H5 (upd H5 L (.lst [.str "a", .str " ", .str "~"])) := same_new hL
        refine ⟨_, rfl, a, ns, _, rfl, sL.seq hS5, hl, by omega, by omega, ?_⟩
        obtain ⟨v, hv, hm⟩ := atI_some (xs := [V.str "a", .str " ", .str "~"]) (i := drawOf ns 14 % 3) (by omega) (by show drawOf ns 14 % 3 < 3; omega)
        have hz : ∃ z : Str, v = .str z ∧ PyData.strOk z = true ∧ z.length ≤ 1 := by
          simp only [List.mem_cons, List.not_mem_nil, or_false] at hm
          rcases hm with h | h | h <;> exact ⟨_, h, by decide +kernel, by decide +kernel⟩
        obtain ⟨z, rfl, z1, z2⟩ := hz
        refine ⟨_, _, rfl, rfl, (by show (0 : Int) < 3; decide), L, _, _, _, rfl, rfl, SqL.of upd_same, hv, ?_⟩
        refine ⟨_, rfl, a, ns, _, rfl, sL.seq hS5, hl, by omega, by omega, ?_⟩
        have d0 := drawOf_nn ns 14
        have d1 : 0 ≤ drawOf ns 14 / 3 := by omega
        refine ⟨_, _, rfl, rfl, ⟨by decide, by decide⟩, _, _, rfl, rfl, (by show (0 : Int) < 39; decide), ?_⟩
        refine ⟨z, _, rfl, rfl, by omega, by omega, by omega, fun r hr1 hr2 => ?_⟩
        have hrl : r.length ≤ 40 := by
          have m1 : z.length * (drawOf ns 14 / 3 % 39).toNat ≤ 1 * 40 := Nat.mul_le_mul z2 (by omega)
          omega
        have end5 : ∀ {H6 : Hp} (i : Int), 0 ≤ i → i < 5 → ∃ v, atI [V.str "", .str "a", .str "b", .str "~", .str " "] i = some v ∧ ∃ y : Str, v = .str y ∧ PyData.strOk y = true ∧ y.length ≤ 1 := by
          intro H6 i i0 i1
          obtain ⟨v, hv, hm⟩ := atI_some (xs := [V.str "", .str "a", .str "b", .str "~", .str " "]) i0 (by show i < 5; omega)
          refine ⟨v, hv, ?_⟩
          simp only [List.mem_cons, List.not_mem_nil, or_false] at hm
          rcases hm with h | h | h | h | h <;> exact ⟨_, h, by decide +kernel, by decide +kernel⟩
        have okS : ∀ y : Str, PyData.strOk y = true → PyData.strOk (r ++ y) = true := by
          intro y hy
          have e : PyData.strOk (r ++ y) = (PyData.strOk r && PyData.strOk y) := by
            unfold PyData.strOk
            exact Array.all_append
          rw [e, hr1 z1, hy]
          rfl
        have hline : (sizeLine : Nat) = 16777216 := by decide +kernel
        have hkL : ∀ {H6 : Hp}, Same (upd H5 L (.lst [.str "a", .str " ", .str "~"])) H6 → KeyAt H6 p ks := fun s6 => (((hk.same s4).same s5).same sL).same s6
        generalize upd H5 L (.lst [.str "a", .str " ", .str "~"]) = H6 at sL hkL
        -- first
        refine ⟨_, rfl, _, rfl, by show 5 ≤ sizeLine; decide, fun L2 hL2 => ?_⟩
        refine ⟨_, rfl, a, ns, _, rfl, (same_new hL2).seq (sL.seq hS5), hl, by omega, by omega, ?_⟩
        obtain ⟨v, hv, y, rfl, y1, y2⟩ := end5 (H6 := H6) (drawOf ns 15 % 5) (by omega) (by omega)
        refine ⟨_, _, rfl, rfl, (by show (0 : Int) < 5; decide), L2, _, _, _, rfl, rfl, SqL.of upd_same, hv, ?_⟩
        refine ⟨_, _, rfl, rfl, by omega, by show 1 ≤ sizeLine; decide, fun T1 hT1 => ?_⟩
        have s7 : Same H6 _ := (same_new (o := .lst [V.str "", .str "a", .str "b", .str "~", .str " "]) hL2).trans (same_new (o := .tup [V.str (r ++ y)]) hT1)
        refine cat_go (ks := ks) (ms := [.inr (r ++ y)]) (hkL s7) ⟨upd_same, fun k hk => by rw [List.mem_singleton.mp hk]; exact okS y y1⟩ (by show ks.length + 1 ≤ 1000; omega) (fun p7 H7 s8 h7 => ?_)
        have s9 := s7.trans s8
        -- second
        refine ⟨_, rfl, _, rfl, by show 5 ≤ sizeLine; decide, fun L3 hL3 => ?_⟩
        refine ⟨_, rfl, a, ns, _, rfl, (same_new hL3).seq (s9.seq (sL.seq hS5)), hl, by omega, by omega, ?_⟩
        obtain ⟨v', hv', y', rfl, y1', y2'⟩ := end5 (H6 := H6) (drawOf ns 16 % 5) (by omega) (by omega)
        refine ⟨_, _, rfl, rfl, (by show (0 : Int) < 5; decide), L3, _, _, _, rfl, rfl, SqL.of upd_same, hv', ?_⟩
        refine ⟨_, _, rfl, rfl, by omega, by show 1 ≤ sizeLine; decide, fun T2 hT2 => ?_⟩
        have s10 : Same H7 _ := (same_new (o := .lst [V.str "", .str "a", .str "b", .str "~", .str " "]) hL3).trans (same_new (o := .tup [V.str (r ++ y')]) hT2)
        refine cat_go (ks := ks) (ms := [.inr (r ++ y')]) (hkL (s9.trans s10)) ⟨upd_same, fun k hk => by rw [List.mem_singleton.mp hk]; exact okS y' y1'⟩ (by show ks.length + 1 ≤ 1000; omega) (fun p8 H8 s11 h8 => ?_)
        exact ⟨((sL.trans s9).trans s10).trans s11, p7, _, p8, _, _, rfl, (h7.same s10).same s11, by rw [List.length_append]; show ks.length + 1 ≤ 20; omega, h8, by rw [List.length_append]; show ks.length + 1 ≤ 20; omega⟩
      · exact ⟨Same.refl _, pf, kf, ps, ks2, none, rfl, hf.same s5, hfl, hs, hsl⟩
    have s35 : Same H3 H5 := s4.trans s5
    clear hf hfl hs hsl
    rintro σ H6 ⟨s6, p1, k1, p2, k2, v, rfl, h1, l1, h2, l2⟩
    have hk6 : KeyAt H6 p ks := (hk.same s35).same s6
    -- first = first[:7]
    refine ⟨fun σ H2 => Same H6 H2 ∧ ∃ q1 m1, σ = [some (.ref a), some (.ref p), some (.ref q1), some (.ref p2), v, none, none, none, none] ∧ KeyAt H2 q1 m1 ∧ m1.length ≤ 20, ?_, ?_⟩
    · refine ⟨_, rfl, _, rfl, ?_⟩
      exact cut_go h1 (fun q1 H7 m1 s7 h7 l7 => ⟨s7, q1, m1, rfl, h7, by omega⟩)
    rintro σ H7 ⟨s7, q1, m1, rfl, g1, n1⟩
    refine ⟨fun σ H2 => Same H7 H2 ∧ ∃ q2 m2, σ = [some (.ref a), some (.ref p), some (.ref q1), some (.ref q2), v, none, none, none, none] ∧ KeyAt H2 q2 m2 ∧ m2.length ≤ 20, ?_, ?_⟩
    · refine ⟨_, rfl, _, rfl, ?_⟩
      exact cut_go (h2.same s7) (fun q2 H8 m2 s8 h8 l8 => ⟨s8, q2, m2, rfl, h8, by omega⟩)
    rintro σ H8 ⟨s8, q2, m2, rfl, g2, n2⟩
    have g1' := g1.same s8
    have gk := (hk6.same s7).same s8
    -- the pairs
    refine ⟨_, rfl, _, rfl, by show 2 ≤ sizeLine; decide, fun t1 ht1 => ?_⟩
    refine ⟨_, rfl, _, rfl, by show 2 ≤ sizeLine; decide, fun t2 ht2 => ?_⟩
    refine ⟨_, rfl, _, rfl, by show 2 ≤ sizeLine; decide, fun t3 ht3 => ?_⟩
    refine ⟨_, rfl, _, rfl, by show 2 ≤ sizeLine; decide, fun t4 ht4 => ?_⟩
    refine ⟨_, rfl, _, rfl, by show 2 ≤ sizeLine; decide, fun t5 ht5 => ?_⟩
    refine ⟨by show 5 ≤ sizeLine; decide, fun L hL => ?_⟩
    have u1 := same_new (o := .tup [V.ref q1, .ref q2]) ht1
    have u2 := same_new (o := .tup [V.ref q2, .ref q1]) ht2
    have u3 := same_new (o := .tup [V.ref q1, .ref q1]) ht3
    have u4 := same_new (o := .tup [V.ref p, .ref q2]) ht4
    have u5 := same_new (o := .tup [V.ref q1, .ref p]) ht5
    have u6 := same_new (o := .lst [V.ref t1, .ref t2, .ref t3, .ref t4, .ref t5]) hL
    have w5 := u5.trans u6
    have w4 := u4.trans w5
    have w3 := u3.trans w4
    have w2 := u2.trans w3
    have w1 := u1.trans w2
    have hall : ∀ x ∈ [V.ref t1, .ref t2, .ref t3, .ref t4, .ref t5], PairAt (upd (upd (upd (upd (upd (upd H8 t1 (.tup [.ref q1, .ref q2])) t2 (.tup [.ref q2, .ref q1])) t3 (.tup [.ref q1, .ref q1])) t4 (.tup [.ref p, .ref q2])) t5 (.tup [.ref q1, .ref p])) L (.lst [V.ref t1, .ref t2, .ref t3, .ref t4, .ref t5])) x := by
      intro x hx
      simp only [List.mem_cons, List.not_mem_nil, or_false] at hx
      rcases hx with h | h | h | h | h
      · exact ⟨t1, q1, q2, m1, m2, h, w2 _ _ upd_same, g1'.same w1, g2.same w1, by omega, by omega⟩
      · exact ⟨t2, q2, q1, m2, m1, h, w3 _ _ upd_same, g2.same w1, g1'.same w1, by omega, by omega⟩
      · exact ⟨t3, q1, q1, m1, m1, h, w4 _ _ upd_same, g1'.same w1, g1'.same w1, by omega, by omega⟩
      · exact ⟨t4, p, q2, ks, m2, h, w5 _ _ upd_same, gk.same w1, g2.same w1, by omega, by omega⟩
      · exact ⟨t5, q1, p, m1, ks, h, u6 _ _ upd_same, g1'.same w1, gk.same w1, by omega, by omega⟩
    have hLst : (upd (upd (upd (upd (upd (upd H8 t1 (.tup [.ref q1, .ref q2])) t2 (.tup [.ref q2, .ref q1])) t3 (.tup [.ref q1, .ref q1])) t4 (.tup [.ref p, .ref q2])) t5 (.tup [.ref q1, .ref p])) L (.lst [V.ref t1, .ref t2, .ref t3, .ref t4, .ref t5])) L = some (.lst [V.ref t1, .ref t2, .ref t3, .ref t4, .ref t5]) := upd_same
    generalize hB : (upd (upd (upd (upd (upd (upd H8 t1 (.tup [.ref q1, .ref q2])) t2 (.tup [.ref q2, .ref q1])) t3 (.tup [.ref q1, .ref q1])) t4 (.tup [.ref p, .ref q2])) t5 (.tup [.ref q1, .ref p])) L (.lst [V.ref t1, .ref t2, .ref t3, .ref t4, .ref t5])) = HB at hall hLst
    refine ⟨L, rfl, ⟨_, SqL.of hLst⟩, ?_⟩
    refine for_list (K := K) (a := L) (xs := [V.ref t1, .ref t2, .ref t3, .ref t4, .ref t5]) (fun i σ H2 => Same HB H2 ∧ ∃ x1 x2 x3 x4, σ = [some (.ref a), some (.ref p), some (.ref q1), some (.ref q2), v, x1, x2, x3, x4])
      ⟨Same.refl _, none, none, none, none, rfl⟩ (fun i σ H2 _ ⟨sm, _⟩ => SqL.of (sm _ _ hLst)) ?_ ?_
    · rintro i x σ H2 hi ⟨sm, x1, x2, x3, x4, rfl⟩
      obtain ⟨T', pa, pb, ka, kb, rfl, hT, hka, hkb, la, lb⟩ := (hall x (List.mem_of_getElem? hi)).same sm
      refine ⟨T', _, rfl, SqT.of hT, rfl, _, _, rfl, _, _, rfl, rfl, ?_⟩
      -- left, right
      refine ⟨_, rfl, pa, ka, rfl, SqT.of hka.1, la, fun pl H3 xl sm3 hl3 dl => ?_⟩
      refine ⟨_, rfl, pb, kb, rfl, SqT.of (sm3 _ _ hkb.1), lb, fun pr H4 xr sm4 hr4 dr => ?_⟩
      have hl4 := sm4 _ _ hl3
      have dl4 := dp_keepAll (keepT_of sm4) _ _ (noLst_pairs ka) dl
      refine ⟨_, rfl, _, _, _, _, true, rfl, .ty "tuple", .base (.tup hl4), kit_ty (by decide +kernel), _, rfl, ?_⟩
      refine iteF ?_
      refine ⟨_, rfl, _, _, _, _, true, rfl, .ty "tuple", .base (.tup hr4), kit_ty (by decide +kernel), _, rfl, ?_⟩
      refine iteF ?_
      have Dl : Dp K H4 (.ref pl) (ordD ka) := .tup (SqT.of hl4) dl4
      have Dr : Dp K H4 (.ref pr) (ordD kb) := .tup (SqT.of hr4) dr
      have g1a := (hka.same sm3).same sm4
      have g2a := (hkb.same sm3).same sm4
      refine ⟨_, rfl, _, rfl, ka, kb, Dl, Dr, hka.2, hkb.2, ?_⟩
      refine ⟨_, rfl, _, rfl, pa, pb, ka, kb, rfl, SqT.of g1a.1, SqT.of g2a.1, fun H5 sm5 => ?_⟩
      refine ⟨rfl, _, rfl, ?_⟩
      refine iteNS rfl ?_
      have Dl5 := dp_keep (keepT_of sm5) _ _ (show noLst (ordD ka) = true by simpa [ordD, noLst] using noLst_pairs ka) Dl
      have Dr5 := dp_keep (keepT_of sm5) _ _ (show noLst (ordD kb) = true by simpa [ordD, noLst] using noLst_pairs kb) Dr
      refine ⟨_, rfl, _, rfl, _, _, Dl5, Dr5, ord_shaped hka.2, ord_shaped hkb.2, ?_⟩
      refine ⟨_, rfl, _, rfl, tupD ka, tupD kb, .tup (SqT.of (g1a.same sm5).1) (keys_dp ka), .tup (SqT.of (g2a.same sm5).1) (keys_dp kb), tup_shaped hka.2, tup_shaped hkb.2, ?_⟩
      refine ⟨rfl, _, rfl, ?_⟩
      refine iteNS (by rw [ord_eqv, tup_eqv]) ?_
      exact ⟨((sm.trans sm3).trans sm4).trans sm5, _, _, _, _, rfl⟩
    · rintro σ H2 ⟨sm, x1, x2, x3, x4, rfl⟩
      exact q H2
end
end Vk
namespace Vk
open PySem L2
theorem all_mk {l : PySem.W.OpenLaw} {w : World} {K : PySem.W.Frag} {h : Heap} {mg : Str → Option Value} {fa fo fd fs fp fy fw : Addr} (X : K.In h) (G : h.Ns mainGlobals mg) (hfa : mg "law" = some (.ref fa))
    {odo ano odd and ods ans odp anp ody any odw anw : Option Addr} {slo sld sls slp sly slw : Array (Option Value)}
    {oco kVo dco pmo cdo cto ocd kVd dcd pmd cdd ctd ocs kVs dcs pms cds cts ocp kVp dcp pmp cdp ctp ocy kVy dcy pmy cdy cty ocw kVw dcw pmw cdw ctw : Value}
    (ao : PySem.W.nsIn K mainGlobals "order" = some (some (.ref fo)))
    (lo : K.lookup fo = some ⟨oco, odo, .func (PySem.W.fnOf "order" "order" (defArgs sOrder) (defBody sOrder) (defScope sOrder) .none kVo dco pmo ano cdo cto), slo⟩)
    (co : PySem.W.codeIn K cdo "order" = true) (ko : PySem.W.keepIn K (.ref fo) = true)
    (ad : PySem.W.nsIn K mainGlobals "_law_draw" = some (some (.ref fd)))
    (ld : K.lookup fd = some ⟨ocd, odd, .func (PySem.W.fnOf "_law_draw" "_law_draw" (defArgs sDraw) (defBody sDraw) (defScope sDraw) .none kVd dcd pmd and cdd ctd), sld⟩)
    (cd : PySem.W.codeIn K cdd "_law_draw" = true) (kd : PySem.W.keepIn K (.ref fd) = true)
    (as : PySem.W.nsIn K mainGlobals "_law_less" = some (some (.ref fs)))
    (ls : K.lookup fs = some ⟨ocs, ods, .func (PySem.W.fnOf "_law_less" "_law_less" (defArgs sLess) (defBody sLess) (defScope sLess) .none kVs dcs pms ans cds cts), sls⟩)
    (cs : PySem.W.codeIn K cds "_law_less" = true) (ks : PySem.W.keepIn K (.ref fs) = true)
    (ap : PySem.W.nsIn K mainGlobals "_law_part" = some (some (.ref fp)))
    (lp : K.lookup fp = some ⟨ocp, odp, .func (PySem.W.fnOf "_law_part" "_law_part" (defArgs s_part) (defBody s_part) (defScope s_part) .none kVp dcp pmp anp cdp ctp), slp⟩)
    (cp : PySem.W.codeIn K cdp "_law_part" = true) (kp : PySem.W.keepIn K (.ref fp) = true)
    (ay : PySem.W.nsIn K mainGlobals "_law_key" = some (some (.ref fy)))
    (ly : K.lookup fy = some ⟨ocy, ody, .func (PySem.W.fnOf "_law_key" "_law_key" (defArgs s_key) (defBody s_key) (defScope s_key) .none kVy dcy pmy any cdy cty), sly⟩)
    (cy : PySem.W.codeIn K cdy "_law_key" = true) (ky : PySem.W.keepIn K (.ref fy) = true)
    (aw : PySem.W.nsIn K mainGlobals "law" = some (some (.ref fw)))
    (lw : K.lookup fw = some ⟨ocw, odw, .func (PySem.W.fnOf "law" "law" (defArgs s_law) (defBody s_law) (defScope s_law) .none kVw dcw pmw anw cdw ctw), slw⟩)
    (cw : PySem.W.codeIn K cdw "law" = true) (kw : PySem.W.keepIn K (.ref fw) = true)
    (z_len : PySem.W.nsIn K mainGlobals "len" = some none)
    (z_int : PySem.W.nsIn K mainGlobals "int" = some none)
    (z_min : PySem.W.nsIn K mainGlobals "min" = some none)
    (z_range : PySem.W.nsIn K mainGlobals "range" = some none)
    (z_isinstance : PySem.W.nsIn K mainGlobals "isinstance" = some none)
    (z_tuple : PySem.W.nsIn K mainGlobals "tuple" = some none)
    (z_str : PySem.W.nsIn K mainGlobals "str" = some none)
    (z_zip : PySem.W.nsIn K mainGlobals "zip" = some none)
    : ∃ fd : FuncData, (∀ (s : Shared) (v : Value), BindsTo s fd ⟨[v], []⟩ [("script", v)]) ∧ ∀ base : Heap, K.In base → base.Ns mainGlobals mg → FnOk l.prog w K mg base CX0 3 fa fd ["script"] (spLaw K) := by
  have e := hfa.symm.trans (PySem.W.mg_of X G aw)
  cases e
  have Fo := fun_mk (st := sOrder) lo co ko
  have bo := Fo.binds (ps := ["key"]) fun _ _ _ _ _ _ us hl => match us, hl with | [_], _ => rfl
  have Fd := fun_mk (st := sDraw) ld cd kd
  have bd := Fd.binds (ps := ["script", "k"]) fun _ _ _ _ _ _ us hl => match us, hl with | [_, _], _ => rfl
  have Fs := fun_mk (st := sLess) ls cs ks
  have bs := Fs.binds (ps := ["first", "second"]) fun _ _ _ _ _ _ us hl => match us, hl with | [_, _], _ => rfl
  have Fp := fun_mk (st := s_part) lp cp kp
  have bp := Fp.binds (ps := ["number"]) fun _ _ _ _ _ _ us hl => match us, hl with | [_], _ => rfl
  have Fy := fun_mk (st := s_key) ly cy ky
  have by_ := Fy.binds (ps := ["script", "start", "count"]) fun _ _ _ _ _ _ us hl => match us, hl with | [_, _, _], _ => rfl
  have Fw := fun_mk (st := s_law) lw cw kw
  refine ⟨PySem.W.fnOf "law" "law" (defArgs s_law) (defBody s_law) (defScope s_law) .none kVw dcw pmw anw cdw ctw, fun s v => .of_eq rfl, fun base _ _ => ?_⟩
  have T : T2 mg := ⟨PySem.W.mg_none_of X G z_len, PySem.W.mg_none_of X G z_int, PySem.W.mg_none_of X G z_min, PySem.W.mg_none_of X G z_range, PySem.W.mg_none_of X G z_isinstance, PySem.W.mg_none_of X G z_tuple, PySem.W.mg_none_of X G z_str, PySem.W.mg_none_of X G z_zip⟩
  have Td : TDraw mg := ⟨T.len, T.int, T.min, T.range⟩
  have T1 : Txt mg := ⟨Td, T.isinstance, T.tuple, T.str, T.zip⟩
  have Cd : Cal l.prog w K mg base "_law_draw" 1 fd _ ["script", "k"] (spDraw K) := ⟨ok_draw Fd Td, PySem.W.mg_of X G ad, kd, bd⟩
  have Co : Cal l.prog w K mg base "order" 1 fo _ ["key"] (spOrder K) := ⟨ok_order Fo T1, PySem.W.mg_of X G ao, ko, bo⟩
  have Cs : Cal l.prog w K mg base "_law_less" 1 fs _ ["first", "second"] (spLess K) := ⟨ok_less Fs T1, PySem.W.mg_of X G as, ks, bs⟩
  have Cp : Cal l.prog w K mg base "_law_part" 1 fp _ ["number"] spPart := ⟨ok_part Fp, PySem.W.mg_of X G ap, kp, bp⟩
  have Cy : Cal l.prog w K mg base "_law_key" 2 fy _ ["script", "start", "count"] (spKey K) := ⟨ok_key Fy T Cd Cp, PySem.W.mg_of X G ay, ky, by_⟩
  exact ok_law Fw T Cd Co Cy Cs
theorem walk {l : PySem.W.OpenLaw} {q : Program} {loose : List Str} {XP : (Str → Option Value) → Heap → Prop} {YP : World → Heap → Prop} {d : DefRec} {K : Params → PySem.W.Frag} (hn : l.most = some 63) (hdf : d.params.defaults = [])
    (hY : ∀ (w : World) (h : Heap), YP w h → (K w.params).In h)
    (F : ∀ (w : World) (mg : Str → Option Value) (fa : Addr) (h : Heap), (K w.params).In h → h.Ns mainGlobals mg → mg d.name = some (.ref fa) →
      ∃ fd : FuncData, (∀ (s : Shared) (u : Value), BindsTo s fd ⟨[u], []⟩ [("script", u)]) ∧ ∀ base : Heap, (K w.params).In base → base.Ns mainGlobals mg → FnOk l.prog w (K w.params) mg base CX0 3 fa fd ["script"] (spLaw (K w.params))) :
    PySem.W.WalkO q loose XP YP l.row.toRowW d [] (fun f vs => PySem.call f vs) :=
  L2.walk_of (n := 63) (k := 3) (x := "script") (CX := fun _ => CX0) (sp := fun w => spLaw (K w.params)) hn (by decide) hdf ⟨rfl, by decide, by decide⟩ hY F (fun _ _ a ns hl _ hS => ⟨a, ns, rfl, hS, hl, fun _ => rfl⟩) fun _ _ _ _ _ z => z
end Vk
open PySem PySem.W PyProof.Rows
set_option maxRecDepth 100000 in
set_option maxHeartbeats 0 in
theorem PySem.Challenge.cw_trothbase_k04_order_of_keys_holds : PySem.Challenge.rw_trothbase_k04_order_of_keys.Holds := by
  w_on; o_law; k_head; (case hw => w_witness2)
  k_fill
  refine Vk.walk (l := PySem.Challenge.rw_trothbase_k04_order_of_keys) rfl rfl (fun w h Y => PySem.W.kIn_of Y) ?F
  case F =>
    intro w mg fa h KX G hmg
    refine' Vk.all_mk KX G hmg ?ao ?lo ?co ?ko ?ad ?ld ?cd ?kd ?as ?ls ?cs ?ks ?ap ?lp ?cp ?kp ?ay ?ly ?cy ?ky ?aw ?lw ?cw ?kw ?z_len ?z_int ?z_min ?z_range ?z_isinstance ?z_tuple ?z_str ?z_zip
    (case ao => k_is)
    (case lo => k_is)
    (case co => k_is)
    (case ko => k_is)
    (case ad => k_is)
    (case ld => k_is)
    (case cd => k_is)
    (case kd => k_is)
    (case as => k_is)
    (case ls => k_is)
    (case cs => k_is)
    (case ks => k_is)
    (case ap => k_is)
    (case lp => k_is)
    (case cp => k_is)
    (case kp => k_is)
    (case ay => k_is)
    (case ly => k_is)
    (case cy => k_is)
    (case ky => k_is)
    (case aw => k_is)
    (case lw => k_is)
    (case cw => k_is)
    (case kw => k_is)
    (case z_len => k_is)
    (case z_int => k_is)
    (case z_min => k_is)
    (case z_range => k_is)
    (case z_isinstance => k_is)
    (case z_tuple => k_is)
    (case z_str => k_is)
    (case z_zip => k_is)
#print axioms PySem.Challenge.cw_trothbase_k04_order_of_keys_holds
